import Derived.Test.YtipdnhgdaiimlaaRo
namespace Go.Proofs.Ytipdnhgdaiimlaa
open Go.RowKit
def cmpV (a b : Int) : Int := if a < b then -1 else if b < a then 1 else 0
theorem cmpV_neg (a b : Int) : decide (cmpV a b < 0) = decide (a < b) := by
  unfold cmpV
  by_cases h : a < b
  · rw [if_pos h]; simp [h]
  · rw [if_neg h]
    by_cases h2 : b < a
    · rw [if_pos h2]; simp [h]
    · rw [if_neg h2]; simp [h]
set_option maxRecDepth 100000 in
set_option maxHeartbeats 8000000 in
theorem isNaNI_any (a : Int) (w : World) : Calls Try.prog 92 #[.int .i64 a] w fun e w' => e = .returned (.bool false) ∧ w' = w := by
  go_enter Try.func92, Try.ntmps92
  go_wp2
  go_ret
  exact ⟨ret_bool (by simp), rfl⟩
set_option maxRecDepth 100000 in
set_option maxHeartbeats 8000000 in
theorem cmpI_any (a b : Int) (w : World) : Calls Try.prog 82 #[.int .i64 a, .int .i64 b] w fun e w' => e = .returned (.int .i64 (cmpV a b)) ∧ w' = w := by
  by_cases h : a < b
  · have HE := hid (show cmpV a b = -1 by simp [cmpV, h])
    go_enter Try.func82, Try.ntmps82
    go_wp2_with (first | (go_at_call 92; refine (isNaNI_any _ _).mono ?_; rintro e w0 ⟨rfl, hq⟩; replace hq := hq.symm; subst hq))
    go_ret
    exact ⟨ret_int HE.out.symm, rfl⟩
  · by_cases h2 : b < a
    · have HE := hid (show cmpV a b = 1 by simp [cmpV, h, h2])
      go_enter Try.func82, Try.ntmps82
      go_wp2_with (first | (go_at_call 92; refine (isNaNI_any _ _).mono ?_; rintro e w0 ⟨rfl, hq⟩; replace hq := hq.symm; subst hq))
      go_ret
      exact ⟨ret_int HE.out.symm, rfl⟩
    · have HE := hid (show cmpV a b = 0 by simp [cmpV, h, h2])
      go_enter Try.func82, Try.ntmps82
      go_wp2_with (first | (go_at_call 92; refine (isNaNI_any _ _).mono ?_; rintro e w0 ⟨rfl, hq⟩; replace hq := hq.symm; subst hq))
      go_ret
      exact ⟨ret_int HE.out.symm, rfl⟩
set_option maxRecDepth 100000 in
set_option maxHeartbeats 8000000 in
theorem cmpBal_any (x y : Sl) (w : World) : Calls Try.prog 44 #[slV x, slV y] w fun e w' => e = .returned (.int .i64 (cmpV x.bal y.bal)) ∧ Below w.heap.size w w' := by
  go_enter Try.func44, Try.ntmps44
  go_wp2_with fail
  refine (cmpI_any _ _ _).mono ?_
  rintro e w1 ⟨rfl, hq⟩
  replace hq := hq.symm
  subst hq
  go_wp2
  go_ret
  exact ⟨rfl, (below_alloc _ _).alloc (by simp) _⟩
/-- the slot of the greater ballot -/
def mgS (na : Nat) (x : Nat → Sl) (nb : Nat) (y : Nat → Sl) (i : Nat) : Sl := if i < na then (if i < nb then (if (x i).bal < (y i).bal then y i else x i) else x i) else y i
theorem mgS_ne {na : Nat} {x : Nat → Sl} {k : Nat} {y : Nat → Sl} {i : Nat} (h : ¬ i = k) : mgS na x (k + 1) y i = mgS na x k y i := by
  unfold mgS
  have e : (i < k + 1) = (i < k) := propext ⟨fun _ => by omega, fun _ => by omega⟩
  simp only [e]
theorem RowF.fill {w : World} {g m l : Nat} {c : Nat → Value} (h : RowF w g m c) (d : Nat → Value) (hl : l ≤ m) : RowF (w.setCells g 0 (rowCells l d)) g m (fun j => if j < l then d j else c j) := by
  refine ⟨by rw [size_setCells]; exact h.lt, fun j => by rw [World.frozen?_setCells]; exact h.free j, fun j hj => ?_⟩
  by_cases e : j < l
  · have := World.cell?_setCells_in g (rowCells l d) 0 w (fun i hi => by
      rw [rowCells_len] at hi
      rw [Nat.zero_add, h.cell i (by omega)]; rfl) j (by rw [rowCells_len]; exact e)
    rw [Nat.zero_add, rowCells_at] at this
    rw [this, if_pos e]
  · rw [if_neg e, World.cell?_setCells_out g (rowCells l d) 0 w ⟨g, j, none⟩ (fun _ _ => Or.inr (by rw [rowCells_len]; show 0 + l ≤ j; omega))]
    exact h.cell j hj
set_option maxRecDepth 100000 in
set_option maxHeartbeats 8000000 in
theorem mergeInto_any (na nb : Nat) (x y : Nat → Sl) (ba oa ca bb ob cb R : Nat) (c0 : Nat → Value) (w : World) (lo hi : Nat) (ha : na ≤ 60) (hb : nb ≤ 60) (hR : hi ≤ R) (hr : RowF w R 120 c0) (hx : SlsIn w lo hi (some ⟨ba, oa, none⟩) na x) (hy : SlsIn w lo hi (some ⟨bb, ob, none⟩) nb y) :
    Calls Try.prog 43 #[.slice (some ⟨R, 0, none⟩) 60 60, .slice (some ⟨ba, oa, none⟩) na ca, .slice (some ⟨bb, ob, none⟩) nb cb, .func (.func 44) #[] #[]] w fun e w' => (∃ cap, e = .returned (.slice (some ⟨R, 0, none⟩) (max na nb) cap)) ∧ (∃ c, RowF w' R 120 c ∧ ∀ i, i < max na nb → atSl c i (mgS na x nb y i)) ∧ FrP (fun q => q = R) w w' := by
  have hzR : R < w.heap.size := hr.lt
  obtain ⟨i0, hi0, hz0, hz1, hz2⟩ := info_parts Try.info69
  have hsz : (Try.prog.info? 69).map (·.size) = some 2 := by rw [hi0]; simp [hz1]
  have hmin : Nat.min na 60 = na := Nat.min_eq_left ha
  have hrun := run_copy_many (P := Try.prog) w 27 27 3 69 R 0 60 60 ⟨ba, oa, none⟩ na ca 2 (rowCells (na * 2) (rowOf 2 (slR x))) Try.underlying27 hsz (by rw [rowCells_len, hmin]) (by
    intro j u hj
    obtain ⟨h1, rfl⟩ := rowCells_get hj
    obtain ⟨b', off', e', _, e3, e4⟩ := hx.src.at_ j h1
    cases e'
    rw [show ((⟨ba, oa, none⟩ : Addr).add j) = ⟨ba, oa + j, none⟩ by unfold Addr.add; split <;> simp_all]
    exact e4) (by intro j hj; rw [rowCells_len] at hj; rw [Nat.zero_add, hr.cell j (by omega)]; rfl) (by intro j _; exact hr.free _) (by intro v hv; obtain ⟨i, hi, rfl⟩ := List.mem_map.1 hv; exact hx.src.one i (by simpa using hi))
  have R1 := hid (hr.fill (rowOf 2 (slR x)) (l := na * 2) (by omega))
  have F1 := hid (FrP.of_fr (P := fun q => q = R) (fr_setCells R (rowCells (na * 2) (rowOf 2 (slR x))) 0 w) (fun k h1 h2 => by omega))
  have AT1 : Hid (∀ i, i < max na 0 → atSl (fun j => if j < na * 2 then rowOf 2 (slR x) j else c0 j) i (mgS na x 0 y i)) := fun i hi => by
    have h9 : i < na := by omega
    obtain ⟨q0, q1⟩ := slR_at x i
    rw [show mgS na x 0 y i = x i by simp [mgS, h9]]
    exact ⟨(if_pos (by omega)).trans q0, (if_pos (by omega)).trans q1⟩
  have HX := hid hx
  have HY := hid hy
  clear hx hy hr hmin
  go_enter Try.func43, Try.ntmps43
  go_wp2
  clear hrun
  generalize w.setCells R 0 (rowCells (na * 2) (rowOf 2 (slR x))) = W at *
  go_loopw [16] (fun i wr => ∃ (k : Nat) (c : Nat → Value), k ≤ nb ∧ i = .int .i64 k ∧ FrP (fun q => q = R) w wr ∧ RowF wr R 120 c ∧ Hid (∀ i, i < max na k → atSl c i (mgS na x k y i))) (fun i _ => nb - (intOf i).toNat)
  case atStart => exact ⟨0, _, Nat.zero_le _, rfl, F1.out, R1.out, AT1.out⟩
  case round =>
    obtain ⟨k, c, hk, rfl, fr, rr, AT⟩ := hrel
    by_cases hkn : k < nb
    · obtain ⟨b', off', e', hlo, hbh, hcy⟩ := HY.out k hkn
      cases e'
      have hzw := fr.size
      have hbl : Below hi w wr := fr.below (B := hi) (fun q hq e => by omega) (by omega)
      obtain ⟨e0, e1⟩ := hcy.below hbl hbh
      by_cases hge : (na : Int) ≤ k
      · go_wp2
        have hbX := below_alloc wr (.cells #[.int .i64 (y k).bal, .string (y k).text] 69)
        have g0 : (wr.alloc (.cells #[.int .i64 (y k).bal, .string (y k).text] 69)).cell? ⟨wr.heap.size, 0, none⟩ = some (.int .i64 (y k).bal) := holds_new wr _ 69 0
        have g1 : (wr.alloc (.cells #[.int .i64 (y k).bal, .string (y k).text] 69)).cell? ⟨wr.heap.size, 1, none⟩ = some (.string (y k).text) := holds_new wr _ 69 1
        have hzX : (wr.alloc (.cells #[.int .i64 (y k).bal, .string (y k).text] 69)).heap.size = wr.heap.size + 1 := World.size_alloc _ _
        generalize wr.alloc (.cells #[.int .i64 (y k).bal, .string (y k).text] 69) = X at *
        have hne : Nonempty (GW X) := ⟨⟨X, Below.refl _ _⟩⟩
        have s0 := subcell g0 (by show wr.heap.size < _; omega)
        have s1 := subcell g1 (by show wr.heap.size < _; omega)
        refine wp_region_grow (by kernel_rfl) (by kernel_rfl) ?_
        repeat (first | (go_big_quiet_step ((go_at_call 44; go_must (exact grow_of (cmpBal_any (x k) (y k) _))))) | (refine wpQuiet_step (fun K hK => ?_); go_simp; refine hK _ ?_; clear hK K))
        refine wpQuiet_nil ?_
        rintro w5 ⟨u, hu⟩
        have hw5 : Below X.heap.size X w5 := hu ▸ u.prop
        have hr5 : Below wr.heap.size wr w5 := hbX.trans (hw5.mono (by omega))
        have RW := hid (rr.below hr5 rr.lt)
        have FR := hid (fr.trans (FrP.of_below hr5))
        have q0 := (hw5.cell (p := ⟨wr.heap.size, 0, none⟩) (by show wr.heap.size < _; omega)).trans g0
        have q1 := (hw5.cell (p := ⟨wr.heap.size, 1, none⟩) (by show wr.heap.size < _; omega)).trans g1
        have t0 := RW.out.cell (k * 2) (by omega)
        have t1 := RW.out.cell (k * 2 + 1) (by omega)
        have tf := RW.out.free
        have AT2 : Hid (∀ i, i < max na (k + 1) → atSl (setF (setF c (k * 2) (.int .i64 (y k).bal)) (k * 2 + 1) (.string (y k).text)) i (mgS na x (k + 1) y i)) := fun i hi9 => by
          by_cases e : i = k
          · subst e
            rw [show mgS na x (i + 1) y i = y i by simp [mgS, show ¬ i < na by omega]]
            exact ⟨(if_neg (by omega)).trans (if_pos rfl), if_pos rfl⟩
          · rw [mgS_ne e]
            exact atSl_set (atSl_set (AT.out i (by omega)) e (k := k) (by omega) (by omega) _) e (k := k) (by omega) (by omega) _
        clear hu u hne s0 s1 g0 g1 hbX hw5
        go_wp2
        go_roundw
        case rel => exact ⟨k + 1, _, by omega, by go_num, (FR.out.setCell (p := ⟨R, k * 2, none⟩) rfl _).setCell (p := ⟨R, k * 2 + 1, none⟩) rfl _, (RW.out.set (o := k * 2) (by omega) _).set (o := k * 2 + 1) (by omega) _, AT2.out⟩
        case measure => simp [intOf]; omega
      · have hka : k < na := by omega
        have hnk : ¬ na ≤ k := by omega
        obtain ⟨b', off', e', hlo2, hbh2, hcx⟩ := HX.out k hka
        cases e'
        obtain ⟨d0, d1⟩ := hcx.below hbl hbh2
        by_cases hcm : (x k).bal < (y k).bal
        · have hcv : cmpV (x k).bal (y k).bal < 0 := by have := cmpV_neg (x k).bal (y k).bal; simpa [hcm] using this
          have HCM := hid hcm
          clear hcm
          go_wp2
          have hbX := below_alloc wr (.cells #[.int .i64 (y k).bal, .string (y k).text] 69)
          have g0 : (wr.alloc (.cells #[.int .i64 (y k).bal, .string (y k).text] 69)).cell? ⟨wr.heap.size, 0, none⟩ = some (.int .i64 (y k).bal) := holds_new wr _ 69 0
          have g1 : (wr.alloc (.cells #[.int .i64 (y k).bal, .string (y k).text] 69)).cell? ⟨wr.heap.size, 1, none⟩ = some (.string (y k).text) := holds_new wr _ 69 1
          have hzX : (wr.alloc (.cells #[.int .i64 (y k).bal, .string (y k).text] 69)).heap.size = wr.heap.size + 1 := World.size_alloc _ _
          have d2 := (hbX.cell (p := ⟨ba, oa + k * 2, none⟩) (by show ba < _; omega)).trans d0
          have d3 := (hbX.cell (p := ⟨ba, oa + k * 2 + 1, none⟩) (by show ba < _; omega)).trans d1
          generalize wr.alloc (.cells #[.int .i64 (y k).bal, .string (y k).text] 69) = X at *
          have hne : Nonempty (GW X) := ⟨⟨X, Below.refl _ _⟩⟩
          have s0 := subcell g0 (by show wr.heap.size < _; omega)
          have s1 := subcell g1 (by show wr.heap.size < _; omega)
          have s2 := subcell d2 (by show ba < _; omega)
          have s3 := subcell d3 (by show ba < _; omega)
          refine wp_region_grow (by kernel_rfl) (by kernel_rfl) ?_
          repeat (first | (go_big_quiet_step ((go_at_call 44; go_must (exact grow_of (cmpBal_any (x k) (y k) _))))) | (refine wpQuiet_step (fun K hK => ?_); go_simp; refine hK _ ?_; clear hK K))
          refine wpQuiet_nil ?_
          rintro w5 ⟨u, hu⟩
          have hw5 : Below X.heap.size X w5 := hu ▸ u.prop
          have hr5 : Below wr.heap.size wr w5 := hbX.trans (hw5.mono (by omega))
          have RW := hid (rr.below hr5 rr.lt)
          have FR := hid (fr.trans (FrP.of_below hr5))
          have q0 := (hw5.cell (p := ⟨wr.heap.size, 0, none⟩) (by show wr.heap.size < _; omega)).trans g0
          have q1 := (hw5.cell (p := ⟨wr.heap.size, 1, none⟩) (by show wr.heap.size < _; omega)).trans g1
          have t0 := RW.out.cell (k * 2) (by omega)
          have t1 := RW.out.cell (k * 2 + 1) (by omega)
          have tf := RW.out.free
          have AT2 : Hid (∀ i, i < max na (k + 1) → atSl (setF (setF c (k * 2) (.int .i64 (y k).bal)) (k * 2 + 1) (.string (y k).text)) i (mgS na x (k + 1) y i)) := fun i hi9 => by
            by_cases e : i = k
            · subst e
              rw [show mgS na x (i + 1) y i = y i by simp [mgS, hka, HCM.out]]
              exact ⟨(if_neg (by omega)).trans (if_pos rfl), if_pos rfl⟩
            · rw [mgS_ne e]
              exact atSl_set (atSl_set (AT.out i (by omega)) e (k := k) (by omega) (by omega) _) e (k := k) (by omega) (by omega) _
          clear hu u hne s0 s1 g0 g1 hbX hw5 s2 s3 d2 d3
          go_wp2
          go_roundw
          case rel => exact ⟨k + 1, _, by omega, by go_num, (FR.out.setCell (p := ⟨R, k * 2, none⟩) rfl _).setCell (p := ⟨R, k * 2 + 1, none⟩) rfl _, (RW.out.set (o := k * 2) (by omega) _).set (o := k * 2 + 1) (by omega) _, AT2.out⟩
          case measure => simp [intOf]; omega
        · have hcv : ¬ cmpV (x k).bal (y k).bal < 0 := by have := cmpV_neg (x k).bal (y k).bal; simpa [hcm] using this
          have HCM := hid hcm
          clear hcm
          go_wp2
          have hbX := below_alloc wr (.cells #[.int .i64 (y k).bal, .string (y k).text] 69)
          have g0 : (wr.alloc (.cells #[.int .i64 (y k).bal, .string (y k).text] 69)).cell? ⟨wr.heap.size, 0, none⟩ = some (.int .i64 (y k).bal) := holds_new wr _ 69 0
          have g1 : (wr.alloc (.cells #[.int .i64 (y k).bal, .string (y k).text] 69)).cell? ⟨wr.heap.size, 1, none⟩ = some (.string (y k).text) := holds_new wr _ 69 1
          have hzX : (wr.alloc (.cells #[.int .i64 (y k).bal, .string (y k).text] 69)).heap.size = wr.heap.size + 1 := World.size_alloc _ _
          have d2 := (hbX.cell (p := ⟨ba, oa + k * 2, none⟩) (by show ba < _; omega)).trans d0
          have d3 := (hbX.cell (p := ⟨ba, oa + k * 2 + 1, none⟩) (by show ba < _; omega)).trans d1
          generalize wr.alloc (.cells #[.int .i64 (y k).bal, .string (y k).text] 69) = X at *
          have hne : Nonempty (GW X) := ⟨⟨X, Below.refl _ _⟩⟩
          have s0 := subcell g0 (by show wr.heap.size < _; omega)
          have s1 := subcell g1 (by show wr.heap.size < _; omega)
          have s2 := subcell d2 (by show ba < _; omega)
          have s3 := subcell d3 (by show ba < _; omega)
          refine wp_region_grow (by kernel_rfl) (by kernel_rfl) ?_
          repeat (first | (go_big_quiet_step ((go_at_call 44; go_must (exact grow_of (cmpBal_any (x k) (y k) _))))) | (refine wpQuiet_step (fun K hK => ?_); go_simp; refine hK _ ?_; clear hK K))
          refine wpQuiet_nil ?_
          rintro w5 ⟨u, hu⟩
          have hw5 : Below X.heap.size X w5 := hu ▸ u.prop
          have hr5 : Below wr.heap.size wr w5 := hbX.trans (hw5.mono (by omega))
          have RW := hid (rr.below hr5 rr.lt)
          have FR := hid (fr.trans (FrP.of_below hr5))
          have AT2 : Hid (∀ i, i < max na (k + 1) → atSl c i (mgS na x (k + 1) y i)) := fun i hi9 => by
            by_cases e : i = k
            · subst e
              rw [show mgS na x (i + 1) y i = mgS na x i y i by (simp [mgS, hka]; exact fun h => absurd h (by have := HCM.out; omega))]
              exact AT.out i (by omega)
            · rw [mgS_ne e]
              exact AT.out i (by omega)
          clear hu u hne s0 s1 g0 g1 hbX hw5 s2 s3 d2 d3
          go_wp2
          go_roundw
          case rel => exact ⟨k + 1, _, by omega, by go_num, FR.out, RW.out, AT2.out⟩
          case measure => simp [intOf]; omega
    · have hke : k = nb := by omega
      subst hke
      have FRH := hid fr
      have RRH := hid rr
      clear fr rr
      rcases Nat.lt_trichotomy k na with hmx | hmx | hmx
      · have hmi : (k : Int) < na := by omega
        have HMX : Hid (max na k = na) := Nat.max_eq_left (by omega)
        go_wp2
        go_ret
        exact ⟨⟨60, by first | rfl | (rw [HMX.out]; rfl) | (rw [HMX.out]; simp)⟩, ⟨c, RRH.out, fun i hi9 => AT.out i (by omega)⟩, FRH.out⟩
      · subst hmx
        have HMX : Hid (max k k = k) := Nat.max_self k
        go_wp2
        go_ret
        exact ⟨⟨60, by first | rfl | (rw [HMX.out]; rfl) | (rw [HMX.out]; simp)⟩, ⟨c, RRH.out, fun i hi9 => AT.out i (by omega)⟩, FRH.out⟩
      · have hmi : (na : Int) < k := by omega
        have HMX : Hid (max na k = k) := Nat.max_eq_right (by omega)
        go_wp2
        go_ret
        exact ⟨⟨60, by first | rfl | (rw [HMX.out]; rfl) | (rw [HMX.out]; simp)⟩, ⟨c, RRH.out, fun i hi9 => AT.out i (by omega)⟩, FRH.out⟩
end Go.Proofs.Ytipdnhgdaiimlaa
