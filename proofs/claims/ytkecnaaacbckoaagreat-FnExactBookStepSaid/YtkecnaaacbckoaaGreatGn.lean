import Derived.Test.YtkecnaaacbckoaaGreatGj
import Derived.Test.YtkecnaaacbckoaaGreatQ
import Derived.Deep.Cut
import Derived.Deep.CutRange
namespace Go.Proofs.YtkecnaaacbckoaaGreat
open Go.RowKit
/-- a list on the way: how many, which, and whether the new one has come -/
structure PS where
  m : Nat
  y : Nat → Ob
  done : Bool
def putStep (o xi : Ob) (s : PS) : PS :=
  if s.done then (if keyI xi o = 0 then s else ⟨s.m + 1, updF s.y s.m xi, true⟩)
  else if keyI xi o < 0 then ⟨s.m + 1, updF s.y s.m xi, false⟩
  else if keyI xi o = 0 then ⟨s.m + 1, updF s.y s.m o, true⟩
  else ⟨s.m + 1 + 1, updF (updF s.y s.m o) (s.m + 1) xi, true⟩
def putTo (x : Nat → Ob) (o : Ob) (gone : Bool) : Nat → PS
  | 0 => ⟨0, fun _ => o, gone⟩
  | i + 1 => putStep o (x i) (putTo x o gone i)
def putEnd (o : Ob) (s : PS) : PS := if s.done then s else ⟨s.m + 1, updF s.y s.m o, true⟩
def putAll (n : Nat) (x : Nat → Ob) (o : Ob) (gone : Bool) : PS := putEnd o (putTo x o gone n)
theorem putTo_le (x : Nat → Ob) (o : Ob) (gone : Bool) : ∀ k, (putTo x o gone k).m + (if (putTo x o gone k).done then 0 else 1) ≤ k + 1
  | 0 => by
    show 0 + (if gone then 0 else 1) ≤ 1
    split <;> omega
  | k + 1 => by
    have ih := putTo_le x o gone k
    show (putStep o (x k) (putTo x o gone k)).m + (if (putStep o (x k) (putTo x o gone k)).done then 0 else 1) ≤ k + 1 + 1
    unfold putStep
    cases hd : (putTo x o gone k).done with
    | true =>
      rw [hd] at ih
      simp only [if_true] at ih ⊢
      split
      · omega
      · simp; omega
    | false =>
      rw [hd] at ih
      simp only [Bool.false_eq_true, if_false] at ih ⊢
      split
      · simp; omega
      · split
        · simp; omega
        · simp; omega
theorem StrsIn.frP {w w' : World} {lo hi : Nat} {ad : Option Addr} {n : Nat} {s : Nat → ByteArray} {P : Nat → Prop} (h : StrsIn w lo hi ad n s) (hf : FrP P w w') (hh : hi ≤ w.heap.size) (hp : ∀ q, q < hi → ¬ P q) : StrsIn w' lo hi ad n s := fun i hi' => by
  obtain ⟨b, off, e1, e2, e3, e4⟩ := h i hi'
  exact ⟨b, off, e1, e2, e3, (hf.cell (p := ⟨b, off + i, none⟩) (Nat.lt_of_lt_of_le e3 hh) (hp b e3)).trans e4⟩
/-- a list that is being built by appends, of objects whose holds lie elsewhere -/
structure BdR (w : World) (base lo hi : Nat) (v : Value) (m : Nat) (y : Nat → Ob) (A : Nat → Option Addr) (C : Nat → Nat) : Prop where
  row : ∃ c, w.ownsRow base 73 7 v m (rowCells (m * 7) c) ∧ ∀ i, i < m → atOb c i (y i) (A i) (C i)
  hold : ∀ i, i < m → StrsIn w lo hi (A i) (y i).hn (y i).hs
theorem BdR.grow {w w' : World} {base lo hi : Nat} {v : Value} {m : Nat} {y : Nat → Ob} {A : Nat → Option Addr} {C : Nat → Nat} (h : BdR w base lo hi v m y A C) (hh : hi ≤ w.heap.size) (hf : Below w.heap.size w w') : BdR w' base lo hi v m y A C :=
  ⟨by obtain ⟨c, r, e⟩ := h.row; exact ⟨c, ownsRow_fr r (FrP.of_below (P := fun _ => False) hf) (fun _ _ h => h), e⟩, fun i hi' => (h.hold i hi').frP (FrP.of_below (P := fun _ => False) hf) hh (fun _ _ h => h)⟩
theorem BdR.app {w w' : World} {base lo hi : Nat} {v v' : Value} {m : Nat} {y : Nat → Ob} {A : Nat → Option Addr} {C : Nat → Nat} {c : Nat → Value} {o : Ob} {ad' : Option Addr} {cap' : Nat} (h : BdR w base lo hi v m y A C) (hat : ∀ i, i < m → atOb c i (y i) (A i) (C i))
    (ho : w'.ownsRow base 73 7 v' (m + 1) (rowCells (m * 7) c ++ [.string o.kind, .string o.name, .int .i64 o.ver, .int .i64 o.born, .string o.text, .bool o.ending, .slice ad' o.hn cap'])) (hg : w.grownBy w' v.ownBlock) (hv : ∀ q, v.ownBlock = some q → base ≤ q) (hs : StrsIn w lo hi ad' o.hn o.hs) (hhb : hi ≤ base) (hhw : hi ≤ w.heap.size) :
    BdR w' base lo hi v' (m + 1) (updF y m o) (updF A m ad') (updF C m cap') := by
  have F := FrP.of_grown hg
  have np : ∀ q, q < hi → ¬ v.ownBlock = some q := fun q hq e => by have := hv q e; omega
  refine ⟨⟨appF c (m * 7) [.string o.kind, .string o.name, .int .i64 o.ver, .int .i64 o.born, .string o.text, .bool o.ending, .slice ad' o.hn cap'], ?_, fun i hi' => ?_⟩, fun i hi' => ?_⟩
  · rw [rowCells_append] at ho
    have e : m * 7 + ([.string o.kind, .string o.name, .int .i64 o.ver, .int .i64 o.born, .string o.text, .bool o.ending, .slice ad' o.hn cap'] : List Value).length = (m + 1) * 7 := by show m * 7 + 7 = _; omega
    rw [e] at ho
    exact ho
  · by_cases e : i = m
    · subst e
      rw [updF_same, updF_same, updF_same]
      exact ⟨appF_zero _ _ _, appF_at _ _ _ 1, appF_at _ _ _ 2, appF_at _ _ _ 3, appF_at _ _ _ 4, appF_at _ _ _ 5, appF_at _ _ _ 6⟩
    · rw [updF_ne _ _ e, updF_ne _ _ e, updF_ne _ _ e]
      obtain ⟨a0, a1, a2, a3, a4, a5, a6⟩ := hat i (by omega)
      exact ⟨(if_pos (by omega)).trans a0, (if_pos (by omega)).trans a1, (if_pos (by omega)).trans a2, (if_pos (by omega)).trans a3, (if_pos (by omega)).trans a4, (if_pos (by omega)).trans a5, (if_pos (by omega)).trans a6⟩
  · by_cases e : i = m
    · subst e
      rw [updF_same, updF_same]
      exact hs.frP F hhw np
    · rw [updF_ne _ _ e, updF_ne _ _ e]
      exact (h.hold i (by omega)).frP F hhw np
set_option maxRecDepth 100000 in
set_option maxHeartbeats 4000000 in
theorem l2Put_any (n : Nat) (x : Nat → Ob) (ad : Option Addr) (cap : Nat) (c : Ch) (adc : Option Addr) (capc : Nat) (w : World) (lo hi : Nat) (hhi : hi ≤ w.heap.size) (hl : (n : Int) ≤ 1048576) (hc : ObjsIn w lo hi ad n x) (hcs : StrsIn w lo hi adc c.ob.hn c.ob.hs) :
    Calls Tryz.prog 56 #[.slice ad n cap, .agg #[.int .i64 c.ver, .bool c.gone, .string c.ob.kind, .string c.ob.name, .int .i64 c.ob.ver, .int .i64 c.ob.born, .string c.ob.text, .bool c.ob.ending, .slice adc c.ob.hn capc]] w fun e w' => ∃ v A C, e = .returned v ∧ BdR w' (w.heap.size + 1) lo hi v (putAll n x c.ob c.gone).m (putAll n x c.ob c.gone).y A C ∧ Below w.heap.size w w' := by
  obtain ⟨i0, hi0, hz0, hz1, hz2⟩ := info_parts Tryz.info73
  have HC := hid hc
  have HCS := hid hcs
  clear hc hcs
  go_enter Tryz.func56, Tryz.ntmps56
  go_wp2
  have bd0 : BdR ((w.alloc (.cells #[.int .i64 c.ver, .bool c.gone, .string c.ob.kind, .string c.ob.name, .int .i64 c.ob.ver, .int .i64 c.ob.born, .string c.ob.text, .bool c.ob.ending, .slice adc c.ob.hn capc] 75)).alloc (.cells #[] 73)) (w.heap.size + 1) lo hi (.slice (some ⟨w.heap.size + 1, 0, none⟩) 0 0) 0 (fun _ => c.ob) (fun _ => none) (fun _ => 0) :=
    ⟨⟨fun _ => .int .i64 0, by simpa [rowCells] using World.ownsRow_made (base := w.heap.size + 1) (e := 73) (size := 7) (w.alloc (.cells #[.int .i64 c.ver, .bool c.gone, .string c.ob.kind, .string c.ob.name, .int .i64 c.ob.ver, .int .i64 c.ob.born, .string c.ob.text, .bool c.ob.ending, .slice adc c.ob.hn capc] 75)) #[] 0 (by simp) (Nat.zero_le _) rfl, fun i hi => absurd hi (Nat.not_lt_zero _)⟩, fun i hi => absurd hi (Nat.not_lt_zero _)⟩
  go_loopw [5, 6, 7] (fun o d i wr => ∃ (k : Nat) (A : Nat → Option Addr) (C : Nat → Nat), k ≤ n ∧ i = .int .i64 k ∧ d = .bool (putTo x c.ob c.gone k).done ∧ Below (w.heap.size + 1) (w.alloc (.cells #[.int .i64 c.ver, .bool c.gone, .string c.ob.kind, .string c.ob.name, .int .i64 c.ob.ver, .int .i64 c.ob.born, .string c.ob.text, .bool c.ob.ending, .slice adc c.ob.hn capc] 75)) wr ∧ BdR wr (w.heap.size + 1) lo hi o (putTo x c.ob c.gone k).m (putTo x c.ob c.gone k).y A C) (fun _ _ i _ => n - (intOf i).toNat)
  case atStart => exact ⟨0, _, _, Nat.zero_le _, rfl, rfl, by simpa using below_alloc (w.alloc (.cells #[.int .i64 c.ver, .bool c.gone, .string c.ob.kind, .string c.ob.name, .int .i64 c.ob.ver, .int .i64 c.ob.born, .string c.ob.text, .bool c.ob.ending, .slice adc c.ob.hn capc] 75)) (.cells #[] 73), bd0⟩
  case round =>
    clear bd0
    obtain ⟨k, A, C, hk, rfl, rfl, b0, bd⟩ := hrel
    have hBw : Below w.heap.size w wr := (below_alloc _ _).trans (b0.mono (by omega))
    have hsz : w.heap.size + 1 ≤ wr.heap.size := by have := b0.size; simpa using this
    have hle := putTo_le x c.ob c.gone k
    have LE := hid hle
    have o2 := box_cell (by simpa using b0) 2
    have o3 := box_cell (by simpa using b0) 3
    have o4 := box_cell (by simpa using b0) 4
    have o5 := box_cell (by simpa using b0) 5
    have o6 := box_cell (by simpa using b0) 6
    have o7 := box_cell (by simpa using b0) 7
    have o8 := box_cell (by simpa using b0) 8
    simp only [List.getElem?_toArray, List.getElem?_cons_succ, List.getElem?_cons_zero] at o2 o3 o4 o5 o6 o7 o8
    obtain ⟨S, hS⟩ : ∃ S, putTo x c.ob c.gone k = S := ⟨_, rfl⟩
    rw [hS] at bd LE ⊢
    have HS := hid hS
    clear hS hle
    have BD := hid bd
    clear bd
    by_cases hkn : k < n
    · obtain ⟨b, off, ah, ch, rfl, hlo, hbh, hcx, hsx⟩ := HC.out k hkn
      obtain ⟨d0, d1, d2, d3, d4, d5, d6⟩ := hcx.below hBw (by omega)
      have HX := hid hcx
      have HSX := hid hsx
      clear hcx hsx
      have x0 := subcell d0 (by show b < _; omega)
      have x1 := subcell d1 (by show b < _; omega)
      have x2 := subcell d2 (by show b < _; omega)
      have x3 := subcell d3 (by show b < _; omega)
      have x4 := subcell d4 (by show b < _; omega)
      have x5 := subcell d5 (by show b < _; omega)
      have x6 := subcell d6 (by show b < _; omega)
      have y2 := subcell o2 (by show w.heap.size < _; omega)
      have y3 := subcell o3 (by show w.heap.size < _; omega)
      have y4 := subcell o4 (by show w.heap.size < _; omega)
      have y5 := subcell o5 (by show w.heap.size < _; omega)
      have y6 := subcell o6 (by show w.heap.size < _; omega)
      have y7 := subcell o7 (by show w.heap.size < _; omega)
      have y8 := subcell o8 (by show w.heap.size < _; omega)
      have hne : Nonempty (GW wr) := ⟨⟨_, Below.refl _ _⟩⟩
      go_wp2
      refine wp_region_grow (by kernel_rfl) (by kernel_rfl) ?_
      repeat (go_big_quiet_step ((go_at_call 107; go_must (exact grow_of (key_any (x k) c.ob _ _ _ _ _)))))
      refine wpQuiet_nil ?_
      rintro w1 ⟨u, hu⟩
      have hw1 : Below wr.heap.size wr w1 := hu ▸ u.prop
      clear hu u hne x0 x1 x2 x3 x4 x5 x6 y2 y3 y4 y5 y6 y7 y8
      have z1 := hw1.size
      have b1 := b0.trans (hw1.mono (by omega))
      have hBw1 : Below w.heap.size w w1 := (below_alloc _ _).trans (b1.mono (by omega))
      have BD1 := hid (BD.out.grow (by omega) hw1)
      have HSX1 := hid (HSX.out.below hBw1 hhi)
      have HCS1 := hid (HCS.out.below hBw1 hhi)
      obtain ⟨e0, e1, e2, e3, e4, e5, e6⟩ := HX.out.below hBw1 (by omega)
      have p2 := (hw1.cell (p := ⟨w.heap.size, 2, none⟩) (by show w.heap.size < _; omega)).trans o2
      have p3 := (hw1.cell (p := ⟨w.heap.size, 3, none⟩) (by show w.heap.size < _; omega)).trans o3
      have p4 := (hw1.cell (p := ⟨w.heap.size, 4, none⟩) (by show w.heap.size < _; omega)).trans o4
      have p5 := (hw1.cell (p := ⟨w.heap.size, 5, none⟩) (by show w.heap.size < _; omega)).trans o5
      have p6 := (hw1.cell (p := ⟨w.heap.size, 6, none⟩) (by show w.heap.size < _; omega)).trans o6
      have p7 := (hw1.cell (p := ⟨w.heap.size, 7, none⟩) (by show w.heap.size < _; omega)).trans o7
      have p8 := (hw1.cell (p := ⟨w.heap.size, 8, none⟩) (by show w.heap.size < _; omega)).trans o8
      have STEP := hid (show putTo x c.ob c.gone (k + 1) = putStep c.ob (x k) S by show putStep c.ob (x k) (putTo x c.ob c.gone k) = _; rw [HS.out])
      clear d0 d1 d2 d3 d4 d5 d6 o2 o3 o4 o5 o6 o7 o8 hw1 BD
      obtain ⟨kk, hkk⟩ : ∃ kk, keyI (x k) c.ob = kk := ⟨_, rfl⟩
      rw [hkk]
      have HKK := hid hkk
      clear hkk
      obtain ⟨m, y, dn⟩ := S
      dsimp only at BD1 LE STEP ⊢
      cases dn with
      | true =>
        have hm : m ≤ k + 1 := by have := LE.out; simp at this; omega
        by_cases h0 : kk = 0
        · subst h0
          have E := hid (show putStep c.ob (x k) ⟨m, y, true⟩ = ⟨m, y, true⟩ by unfold putStep; simp [HKK.out])
          go_wp2
          go_roundw
          case rel => exact ⟨k + 1, _, _, by omega, by go_num, by rw [STEP.out, E.out], b1, by rw [STEP.out, E.out]; exact BD1.out⟩
          case measure => simp [intOf]; omega
        · have E := hid (show putStep c.ob (x k) ⟨m, y, true⟩ = ⟨m + 1, updF y m (x k), true⟩ by unfold putStep; simp [HKK.out, h0])
          have BW2 := hid (BD1.out.grow (by omega) (below_alloc w1 (.cells #[.string (x k).kind, .string (x k).name, .int .i64 (x k).ver, .int .i64 (x k).born, .string (x k).text, .bool (x k).ending, .slice ah (x k).hn ch] 73)))
          obtain ⟨cc2, hown2, hat2⟩ := BW2.out.row
          have HAT2 := hid hat2
          clear hat2
          go_wp2_with (at_builtin; go_must (refine wpList_append_own_at _ rfl _ _ 28 rfl (w.heap.size + 1) 73 i0 _ 7 96 Tryz.underlying28 hi0 hz0 hz1 hz2 rfl (by decide) _ (m) (rowCells ((m) * 7) cc2) rfl hown2 ⟨w1.heap.size, 0, none⟩ 1 1 [.string (x k).kind, .string (x k).name, .int .i64 (x k).ver, .int .i64 (x k).born, .string (x k).text, .bool (x k).ending, .slice ah (x k).hn ch] rfl rfl (alloc_news w1 _ 73) (by simp [Value.oneCell']) (by unfold maxLen; omega) (by omega) (by simp; omega) ?_; intro v2 u2 hown2' hgrow2 hnil2 hwh2; clear hnil2 hwh2))
          have zu2 := hgrow2.size
          simp only [World.size_alloc] at zu2
          have BD2' := hid (BW2.out.app (cap' := ch) HAT2.out hown2' hgrow2 (fun q hq => (hown2.lt q hq).1) ((HSX1.out).alloc (by omega) _) (by omega) (by simp; omega))
          have B2' : Below (w.heap.size + 1) (w.alloc (.cells #[.int .i64 c.ver, .bool c.gone, .string c.ob.kind, .string c.ob.name, .int .i64 c.ob.ver, .int .i64 c.ob.born, .string c.ob.text, .bool c.ob.ending, .slice adc c.ob.hn capc] 75)) u2 := (b1.alloc (by omega) _).trans ((FrP.of_grown hgrow2).below (fun q hq e => by have := (hown2.lt q e).1; omega) (by simp; omega))
          clear hown2 hown2' hgrow2
          go_roundw
          case rel => exact ⟨k + 1, _, _, by omega, by go_num, by rw [STEP.out, E.out], B2', by rw [STEP.out, E.out]; exact BD2'.out⟩
          case measure => simp [intOf]; omega
      | false =>
        have hm : m ≤ k := by have := LE.out; simp at this; omega
        by_cases hneg : kk < 0
        · have E := hid (show putStep c.ob (x k) ⟨m, y, false⟩ = ⟨m + 1, updF y m (x k), false⟩ by unfold putStep; simp [HKK.out, hneg])
          have hnz : ¬ kk = 0 := by omega
          have BW2 := hid (BD1.out.grow (by omega) (below_alloc w1 (.cells #[.string (x k).kind, .string (x k).name, .int .i64 (x k).ver, .int .i64 (x k).born, .string (x k).text, .bool (x k).ending, .slice ah (x k).hn ch] 73)))
          obtain ⟨cc2, hown2, hat2⟩ := BW2.out.row
          have HAT2 := hid hat2
          clear hat2
          go_wp2_with (at_builtin; go_must (refine wpList_append_own_at _ rfl _ _ 28 rfl (w.heap.size + 1) 73 i0 _ 7 96 Tryz.underlying28 hi0 hz0 hz1 hz2 rfl (by decide) _ (m) (rowCells ((m) * 7) cc2) rfl hown2 ⟨w1.heap.size, 0, none⟩ 1 1 [.string (x k).kind, .string (x k).name, .int .i64 (x k).ver, .int .i64 (x k).born, .string (x k).text, .bool (x k).ending, .slice ah (x k).hn ch] rfl rfl (alloc_news w1 _ 73) (by simp [Value.oneCell']) (by unfold maxLen; omega) (by omega) (by simp; omega) ?_; intro v2 u2 hown2' hgrow2 hnil2 hwh2; clear hnil2 hwh2))
          have zu2 := hgrow2.size
          simp only [World.size_alloc] at zu2
          have BD2' := hid (BW2.out.app (cap' := ch) HAT2.out hown2' hgrow2 (fun q hq => (hown2.lt q hq).1) ((HSX1.out).alloc (by omega) _) (by omega) (by simp; omega))
          have B2' : Below (w.heap.size + 1) (w.alloc (.cells #[.int .i64 c.ver, .bool c.gone, .string c.ob.kind, .string c.ob.name, .int .i64 c.ob.ver, .int .i64 c.ob.born, .string c.ob.text, .bool c.ob.ending, .slice adc c.ob.hn capc] 75)) u2 := (b1.alloc (by omega) _).trans ((FrP.of_grown hgrow2).below (fun q hq e => by have := (hown2.lt q e).1; omega) (by simp; omega))
          clear hown2 hown2' hgrow2
          go_roundw
          case rel => exact ⟨k + 1, _, _, by omega, by go_num, by rw [STEP.out, E.out], B2', by rw [STEP.out, E.out]; exact BD2'.out⟩
          case measure => simp [intOf]; omega
        · by_cases h0 : kk = 0
          · subst h0
            have E := hid (show putStep c.ob (x k) ⟨m, y, false⟩ = ⟨m + 1, updF y m c.ob, true⟩ by unfold putStep; simp [HKK.out])
            have BW2 := hid (BD1.out.grow (by omega) (below_alloc w1 (.cells #[.string c.ob.kind, .string c.ob.name, .int .i64 c.ob.ver, .int .i64 c.ob.born, .string c.ob.text, .bool c.ob.ending, .slice adc c.ob.hn capc] 73)))
            obtain ⟨cc2, hown2, hat2⟩ := BW2.out.row
            have HAT2 := hid hat2
            clear hat2
            go_wp2_with (at_builtin; go_must (refine wpList_append_own_at _ rfl _ _ 28 rfl (w.heap.size + 1) 73 i0 _ 7 96 Tryz.underlying28 hi0 hz0 hz1 hz2 rfl (by decide) _ (m) (rowCells ((m) * 7) cc2) rfl hown2 ⟨w1.heap.size, 0, none⟩ 1 1 [.string c.ob.kind, .string c.ob.name, .int .i64 c.ob.ver, .int .i64 c.ob.born, .string c.ob.text, .bool c.ob.ending, .slice adc c.ob.hn capc] rfl rfl (alloc_news w1 _ 73) (by simp [Value.oneCell']) (by unfold maxLen; omega) (by omega) (by simp; omega) ?_; intro v2 u2 hown2' hgrow2 hnil2 hwh2; clear hnil2 hwh2))
            have zu2 := hgrow2.size
            simp only [World.size_alloc] at zu2
            have BD2' := hid (BW2.out.app (cap' := capc) HAT2.out hown2' hgrow2 (fun q hq => (hown2.lt q hq).1) ((HCS1.out).alloc (by omega) _) (by omega) (by simp; omega))
            have B2' : Below (w.heap.size + 1) (w.alloc (.cells #[.int .i64 c.ver, .bool c.gone, .string c.ob.kind, .string c.ob.name, .int .i64 c.ob.ver, .int .i64 c.ob.born, .string c.ob.text, .bool c.ob.ending, .slice adc c.ob.hn capc] 75)) u2 := (b1.alloc (by omega) _).trans ((FrP.of_grown hgrow2).below (fun q hq e => by have := (hown2.lt q e).1; omega) (by simp; omega))
            clear hown2 hown2' hgrow2
            go_roundw
            case rel => exact ⟨k + 1, _, _, by omega, by go_num, by rw [STEP.out, E.out], B2', by rw [STEP.out, E.out]; exact BD2'.out⟩
            case measure => simp [intOf]; omega
          · have E := hid (show putStep c.ob (x k) ⟨m, y, false⟩ = ⟨m + 1 + 1, updF (updF y m c.ob) (m + 1) (x k), true⟩ by unfold putStep; simp [HKK.out, hneg, h0])
            have BW2 := hid (BD1.out.grow (by omega) (below_alloc w1 (.cells #[.string c.ob.kind, .string c.ob.name, .int .i64 c.ob.ver, .int .i64 c.ob.born, .string c.ob.text, .bool c.ob.ending, .slice adc c.ob.hn capc] 73)))
            obtain ⟨cc2, hown2, hat2⟩ := BW2.out.row
            have HAT2 := hid hat2
            clear hat2
            go_upto_region 10 with (at_builtin; go_must (refine wpList_append_own_at _ rfl _ _ 28 rfl (w.heap.size + 1) 73 i0 _ 7 96 Tryz.underlying28 hi0 hz0 hz1 hz2 rfl (by decide) _ (m) (rowCells ((m) * 7) cc2) rfl hown2 ⟨w1.heap.size, 0, none⟩ 1 1 [.string c.ob.kind, .string c.ob.name, .int .i64 c.ob.ver, .int .i64 c.ob.born, .string c.ob.text, .bool c.ob.ending, .slice adc c.ob.hn capc] rfl rfl (alloc_news w1 _ 73) (by simp [Value.oneCell']) (by unfold maxLen; omega) (by omega) (by simp; omega) ?_; intro v2 u2 hown2' hgrow2 hnil2 hwh2; clear hnil2 hwh2))
            have zu2 := hgrow2.size
            simp only [World.size_alloc] at zu2
            have BD2' := hid (BW2.out.app (cap' := capc) HAT2.out hown2' hgrow2 (fun q hq => (hown2.lt q hq).1) ((HCS1.out).alloc (by omega) _) (by omega) (by simp; omega))
            have B2' : Below (w.heap.size + 1) (w.alloc (.cells #[.int .i64 c.ver, .bool c.gone, .string c.ob.kind, .string c.ob.name, .int .i64 c.ob.ver, .int .i64 c.ob.born, .string c.ob.text, .bool c.ob.ending, .slice adc c.ob.hn capc] 75)) u2 := (b1.alloc (by omega) _).trans ((FrP.of_grown hgrow2).below (fun q hq e => by have := (hown2.lt q e).1; omega) (by simp; omega))
            clear hown2 hown2' hgrow2
            clear e0 e1 e2 e3 e4 e5 e6 p2 p3 p4 p5 p6 p7 p8
            have hBw2 : Below w.heap.size w u2 := (below_alloc _ _).trans (B2'.mono (by omega))
            obtain ⟨e0, e1, e2, e3, e4, e5, e6⟩ := HX.out.below hBw2 (by omega)
            have HSX2 := hid (HSX.out.below hBw2 hhi)
            have BW3 := hid (BD2'.out.grow (by omega) (below_alloc u2 (.cells #[.string (x k).kind, .string (x k).name, .int .i64 (x k).ver, .int .i64 (x k).born, .string (x k).text, .bool (x k).ending, .slice ah (x k).hn ch] 73)))
            obtain ⟨cc3, hown3, hat3⟩ := BW3.out.row
            have HAT3 := hid hat3
            clear hat3
            go_wp2_with (at_builtin; go_must (refine wpList_append_own_at _ rfl _ _ 28 rfl (w.heap.size + 1) 73 i0 _ 7 96 Tryz.underlying28 hi0 hz0 hz1 hz2 rfl (by decide) _ (m + 1) (rowCells ((m + 1) * 7) cc3) rfl hown3 ⟨u2.heap.size, 0, none⟩ 1 1 [.string (x k).kind, .string (x k).name, .int .i64 (x k).ver, .int .i64 (x k).born, .string (x k).text, .bool (x k).ending, .slice ah (x k).hn ch] rfl rfl (alloc_news u2 _ 73) (by simp [Value.oneCell']) (by unfold maxLen; omega) (by omega) (by simp; omega) ?_; intro v3 u3 hown3' hgrow3 hnil3 hwh3; clear hnil3 hwh3))
            have zu3 := hgrow3.size
            simp only [World.size_alloc] at zu3
            have BD3' := hid (BW3.out.app (cap' := ch) HAT3.out hown3' hgrow3 (fun q hq => (hown3.lt q hq).1) ((HSX2.out).alloc (by omega) _) (by omega) (by simp; omega))
            have B3' : Below (w.heap.size + 1) (w.alloc (.cells #[.int .i64 c.ver, .bool c.gone, .string c.ob.kind, .string c.ob.name, .int .i64 c.ob.ver, .int .i64 c.ob.born, .string c.ob.text, .bool c.ob.ending, .slice adc c.ob.hn capc] 75)) u3 := (B2'.alloc (by omega) _).trans ((FrP.of_grown hgrow3).below (fun q hq e => by have := (hown3.lt q e).1; omega) (by simp; omega))
            clear hown3 hown3' hgrow3
            go_roundw
            case rel => exact ⟨k + 1, _, _, by omega, by go_num, by rw [STEP.out, E.out], B3', by rw [STEP.out, E.out]; exact BD3'.out⟩
            case measure => simp [intOf]; omega
    · have hke : k = n := by omega
      subst hke
      obtain ⟨m, y, dn⟩ := S
      dsimp only at BD LE ⊢
      have hBw : Below w.heap.size w wr := (below_alloc _ _).trans (b0.mono (by omega))
      have HCSr := hid (HCS.out.below hBw hhi)
      have HSE := hid (show putAll k x c.ob c.gone = putEnd c.ob ⟨m, y, dn⟩ by unfold putAll; rw [HS.out])
      cases dn with
      | true =>
        have E := hid (show putEnd c.ob ⟨m, y, true⟩ = ⟨m, y, true⟩ from rfl)
        go_wp2
        go_ret
        exact ⟨_, rfl, ⟨A, C, by rw [HSE.out, E.out]; exact BD.out⟩, hBw⟩
      | false =>
        have hm : m ≤ k := by have := LE.out; simp at this; omega
        have E := hid (show putEnd c.ob ⟨m, y, false⟩ = ⟨m + 1, updF y m c.ob, true⟩ from rfl)
        have BW2 := hid (BD.out.grow (by omega) (below_alloc wr (.cells #[.string c.ob.kind, .string c.ob.name, .int .i64 c.ob.ver, .int .i64 c.ob.born, .string c.ob.text, .bool c.ob.ending, .slice adc c.ob.hn capc] 73)))
        obtain ⟨cc2, hown2, hat2⟩ := BW2.out.row
        have HAT2 := hid hat2
        clear hat2
        go_wp2_with (at_builtin; go_must (refine wpList_append_own_at _ rfl _ _ 28 rfl (w.heap.size + 1) 73 i0 _ 7 96 Tryz.underlying28 hi0 hz0 hz1 hz2 rfl (by decide) _ (m) (rowCells ((m) * 7) cc2) rfl hown2 ⟨wr.heap.size, 0, none⟩ 1 1 [.string c.ob.kind, .string c.ob.name, .int .i64 c.ob.ver, .int .i64 c.ob.born, .string c.ob.text, .bool c.ob.ending, .slice adc c.ob.hn capc] rfl rfl (alloc_news wr _ 73) (by simp [Value.oneCell']) (by unfold maxLen; omega) (by omega) (by simp; omega) ?_; intro v2 u2 hown2' hgrow2 hnil2 hwh2; clear hnil2 hwh2))
        have zu2 := hgrow2.size
        simp only [World.size_alloc] at zu2
        have BD2' := hid (BW2.out.app (cap' := capc) HAT2.out hown2' hgrow2 (fun q hq => (hown2.lt q hq).1) ((HCSr.out).alloc (by omega) _) (by omega) (by simp; omega))
        have B2' : Below (w.heap.size + 1) (w.alloc (.cells #[.int .i64 c.ver, .bool c.gone, .string c.ob.kind, .string c.ob.name, .int .i64 c.ob.ver, .int .i64 c.ob.born, .string c.ob.text, .bool c.ob.ending, .slice adc c.ob.hn capc] 75)) u2 := (b0.alloc (by omega) _).trans ((FrP.of_grown hgrow2).below (fun q hq e => by have := (hown2.lt q e).1; omega) (by simp; omega))
        clear hown2 hown2' hgrow2
        go_ret
        exact ⟨_, _, _, rfl, by rw [HSE.out, E.out]; exact BD2'.out, (below_alloc _ _).trans (B2'.mono (by omega))⟩
end Go.Proofs.YtkecnaaacbckoaaGreat
