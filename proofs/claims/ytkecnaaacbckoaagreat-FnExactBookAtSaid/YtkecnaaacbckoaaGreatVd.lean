import Derived.Test.YtkecnaaacbckoaaGreatGj
import Derived.Test.YtkecnaaacbckoaaGreatQ
import Derived.Deep.Cut
import Derived.Deep.CutRange
import Derived.Test.YtkecnaaacbckoaaGreatVa
import Derived.Test.YtkecnaaacbckoaaGreatZj
namespace Go.Proofs.YtkecnaaacbckoaaGreat
open Go.RowKit
/-- a list on the way: how many, which, and whether the new one has come -/
structure PS where
  m : Nat
  y : Nat → Ob
  done : Bool
def putStep (o xi : Ob) (s : PS) : PS :=
  if s.done then (if keyI xi o = 0 then s else ⟨s.m + 1, updF s.y s.m xi, true⟩)
  else if keyI xi o < 0 then ⟨s.m + 1, updF s.y s.m xi, false⟩
  else if keyI xi o = 0 then ⟨s.m + 1, updF s.y s.m o, true⟩
  else ⟨s.m + 1 + 1, updF (updF s.y s.m o) (s.m + 1) xi, true⟩
def putTo (x : Nat → Ob) (o : Ob) (gone : Bool) : Nat → PS
  | 0 => ⟨0, fun _ => o, gone⟩
  | i + 1 => putStep o (x i) (putTo x o gone i)
def putEnd (o : Ob) (s : PS) : PS := if s.done then s else ⟨s.m + 1, updF s.y s.m o, true⟩
def putAll (n : Nat) (x : Nat → Ob) (o : Ob) (gone : Bool) : PS := putEnd o (putTo x o gone n)
theorem putTo_le (x : Nat → Ob) (o : Ob) (gone : Bool) : ∀ k, (putTo x o gone k).m + (if (putTo x o gone k).done then 0 else 1) ≤ k + 1
  | 0 => by
    show 0 + (if gone then 0 else 1) ≤ 1
    split <;> omega
  | k + 1 => by
    have ih := putTo_le x o gone k
    show (putStep o (x k) (putTo x o gone k)).m + (if (putStep o (x k) (putTo x o gone k)).done then 0 else 1) ≤ k + 1 + 1
    unfold putStep
    cases hd : (putTo x o gone k).done with
    | true =>
      rw [hd] at ih
      simp only [if_true] at ih ⊢
      split
      · omega
      · simp; omega
    | false =>
      rw [hd] at ih
      simp only [Bool.false_eq_true, if_false] at ih ⊢
      split
      · simp; omega
      · split
        · simp; omega
        · simp; omega
theorem StrsIn.frP {w w' : World} {lo hi : Nat} {ad : Option Addr} {n : Nat} {s : Nat → ByteArray} {P : Nat → Prop} (h : StrsIn w lo hi ad n s) (hf : FrP P w w') (hh : hi ≤ w.heap.size) (hp : ∀ q, q < hi → ¬ P q) : StrsIn w' lo hi ad n s := fun i hi' => by
  obtain ⟨b, off, e1, e2, e3, e4⟩ := h i hi'
  exact ⟨b, off, e1, e2, e3, (hf.cell (p := ⟨b, off + i, none⟩) (Nat.lt_of_lt_of_le e3 hh) (hp b e3)).trans e4⟩
/-- a list that is being built by appends, of objects whose holds lie elsewhere -/
structure BdR (w : World) (base lo hi : Nat) (v : Value) (m : Nat) (y : Nat → Ob) (A : Nat → Option Addr) (C : Nat → Nat) : Prop where
  row : ∃ c, w.ownsRow base 73 7 v m (rowCells (m * 7) c) ∧ ∀ i, i < m → atOb c i (y i) (A i) (C i)
  hold : ∀ i, i < m → StrsIn w lo hi (A i) (y i).hn (y i).hs
theorem BdR.grow {w w' : World} {base lo hi : Nat} {v : Value} {m : Nat} {y : Nat → Ob} {A : Nat → Option Addr} {C : Nat → Nat} (h : BdR w base lo hi v m y A C) (hh : hi ≤ w.heap.size) (hf : Below w.heap.size w w') : BdR w' base lo hi v m y A C :=
  ⟨by obtain ⟨c, r, e⟩ := h.row; exact ⟨c, ownsRow_fr r (FrP.of_below (P := fun _ => False) hf) (fun _ _ h => h), e⟩, fun i hi' => (h.hold i hi').frP (FrP.of_below (P := fun _ => False) hf) hh (fun _ _ h => h)⟩
theorem BdR.app {w w' : World} {base lo hi : Nat} {v v' : Value} {m : Nat} {y : Nat → Ob} {A : Nat → Option Addr} {C : Nat → Nat} {c : Nat → Value} {o : Ob} {ad' : Option Addr} {cap' : Nat} (h : BdR w base lo hi v m y A C) (hat : ∀ i, i < m → atOb c i (y i) (A i) (C i))
    (ho : w'.ownsRow base 73 7 v' (m + 1) (rowCells (m * 7) c ++ [.string o.kind, .string o.name, .int .i64 o.ver, .int .i64 o.born, .string o.text, .bool o.ending, .slice ad' o.hn cap'])) (hg : w.grownBy w' v.ownBlock) (hv : ∀ q, v.ownBlock = some q → base ≤ q) (hs : StrsIn w lo hi ad' o.hn o.hs) (hhb : hi ≤ base) (hhw : hi ≤ w.heap.size) :
    BdR w' base lo hi v' (m + 1) (updF y m o) (updF A m ad') (updF C m cap') := by
  have F := FrP.of_grown hg
  have np : ∀ q, q < hi → ¬ v.ownBlock = some q := fun q hq e => by have := hv q e; omega
  refine ⟨⟨appF c (m * 7) [.string o.kind, .string o.name, .int .i64 o.ver, .int .i64 o.born, .string o.text, .bool o.ending, .slice ad' o.hn cap'], ?_, fun i hi' => ?_⟩, fun i hi' => ?_⟩
  · rw [rowCells_append] at ho
    have e : m * 7 + ([.string o.kind, .string o.name, .int .i64 o.ver, .int .i64 o.born, .string o.text, .bool o.ending, .slice ad' o.hn cap'] : List Value).length = (m + 1) * 7 := by show m * 7 + 7 = _; omega
    rw [e] at ho
    exact ho
  · by_cases e : i = m
    · subst e
      rw [updF_same, updF_same, updF_same]
      exact ⟨appF_zero _ _ _, appF_at _ _ _ 1, appF_at _ _ _ 2, appF_at _ _ _ 3, appF_at _ _ _ 4, appF_at _ _ _ 5, appF_at _ _ _ 6⟩
    · rw [updF_ne _ _ e, updF_ne _ _ e, updF_ne _ _ e]
      obtain ⟨a0, a1, a2, a3, a4, a5, a6⟩ := hat i (by omega)
      exact ⟨(if_pos (by omega)).trans a0, (if_pos (by omega)).trans a1, (if_pos (by omega)).trans a2, (if_pos (by omega)).trans a3, (if_pos (by omega)).trans a4, (if_pos (by omega)).trans a5, (if_pos (by omega)).trans a6⟩
  · by_cases e : i = m
    · subst e
      rw [updF_same, updF_same]
      exact hs.frP F hhw np
    · rw [updF_ne _ _ e, updF_ne _ _ e]
      exact (h.hold i (by omega)).frP F hhw np
set_option maxRecDepth 100000 in
set_option maxHeartbeats 4000000 in
theorem l2Put_any (n : Nat) (x : Nat → Ob) (ad : Option Addr) (cap : Nat) (c : Ch) (adc : Option Addr) (capc : Nat) (w : World) (lo hi : Nat) (hhi : hi ≤ w.heap.size) (hl : (n : Int) ≤ 1048576) (hc : ObjsIn w lo hi ad n x) (hcs : StrsIn w lo hi adc c.ob.hn c.ob.hs) :
    Calls Tryz.prog 56 #[.slice ad n cap, .agg #[.int .i64 c.ver, .bool c.gone, .string c.ob.kind, .string c.ob.name, .int .i64 c.ob.ver, .int .i64 c.ob.born, .string c.ob.text, .bool c.ob.ending, .slice adc c.ob.hn capc]] w fun e w' => ∃ v A C, e = .returned v ∧ BdR w' (w.heap.size + 1) lo hi v (putAll n x c.ob c.gone).m (putAll n x c.ob c.gone).y A C ∧ Below w.heap.size w w' := by
  obtain ⟨i0, hi0, hz0, hz1, hz2⟩ := info_parts Tryz.info73
  have HC := hid hc
  have HCS := hid hcs
  clear hc hcs
  go_enter Tryz.func56, Tryz.ntmps56
  go_wp2
  have bd0 : BdR ((w.alloc (.cells #[.int .i64 c.ver, .bool c.gone, .string c.ob.kind, .string c.ob.name, .int .i64 c.ob.ver, .int .i64 c.ob.born, .string c.ob.text, .bool c.ob.ending, .slice adc c.ob.hn capc] 75)).alloc (.cells #[] 73)) (w.heap.size + 1) lo hi (.slice (some ⟨w.heap.size + 1, 0, none⟩) 0 0) 0 (fun _ => c.ob) (fun _ => none) (fun _ => 0) :=
    ⟨⟨fun _ => .int .i64 0, by simpa [rowCells] using World.ownsRow_made (base := w.heap.size + 1) (e := 73) (size := 7) (w.alloc (.cells #[.int .i64 c.ver, .bool c.gone, .string c.ob.kind, .string c.ob.name, .int .i64 c.ob.ver, .int .i64 c.ob.born, .string c.ob.text, .bool c.ob.ending, .slice adc c.ob.hn capc] 75)) #[] 0 (by simp) (Nat.zero_le _) rfl, fun i hi => absurd hi (Nat.not_lt_zero _)⟩, fun i hi => absurd hi (Nat.not_lt_zero _)⟩
  go_loopw [5, 6, 7] (fun o d i wr => ∃ (k : Nat) (A : Nat → Option Addr) (C : Nat → Nat), k ≤ n ∧ i = .int .i64 k ∧ d = .bool (putTo x c.ob c.gone k).done ∧ Below (w.heap.size + 1) (w.alloc (.cells #[.int .i64 c.ver, .bool c.gone, .string c.ob.kind, .string c.ob.name, .int .i64 c.ob.ver, .int .i64 c.ob.born, .string c.ob.text, .bool c.ob.ending, .slice adc c.ob.hn capc] 75)) wr ∧ BdR wr (w.heap.size + 1) lo hi o (putTo x c.ob c.gone k).m (putTo x c.ob c.gone k).y A C) (fun _ _ i _ => n - (intOf i).toNat)
  case atStart => exact ⟨0, _, _, Nat.zero_le _, rfl, rfl, by simpa using below_alloc (w.alloc (.cells #[.int .i64 c.ver, .bool c.gone, .string c.ob.kind, .string c.ob.name, .int .i64 c.ob.ver, .int .i64 c.ob.born, .string c.ob.text, .bool c.ob.ending, .slice adc c.ob.hn capc] 75)) (.cells #[] 73), bd0⟩
  case round =>
    clear bd0
    obtain ⟨k, A, C, hk, rfl, rfl, b0, bd⟩ := hrel
    have hBw : Below w.heap.size w wr := (below_alloc _ _).trans (b0.mono (by omega))
    have hsz : w.heap.size + 1 ≤ wr.heap.size := by have := b0.size; simpa using this
    have hle := putTo_le x c.ob c.gone k
    have LE := hid hle
    have o2 := box_cell (by simpa using b0) 2
    have o3 := box_cell (by simpa using b0) 3
    have o4 := box_cell (by simpa using b0) 4
    have o5 := box_cell (by simpa using b0) 5
    have o6 := box_cell (by simpa using b0) 6
    have o7 := box_cell (by simpa using b0) 7
    have o8 := box_cell (by simpa using b0) 8
    simp only [List.getElem?_toArray, List.getElem?_cons_succ, List.getElem?_cons_zero] at o2 o3 o4 o5 o6 o7 o8
    obtain ⟨S, hS⟩ : ∃ S, putTo x c.ob c.gone k = S := ⟨_, rfl⟩
    rw [hS] at bd LE ⊢
    have HS := hid hS
    clear hS hle
    have BD := hid bd
    clear bd
    by_cases hkn : k < n
    · obtain ⟨b, off, ah, ch, rfl, hlo, hbh, hcx, hsx⟩ := HC.out k hkn
      obtain ⟨d0, d1, d2, d3, d4, d5, d6⟩ := hcx.below hBw (by omega)
      have HX := hid hcx
      have HSX := hid hsx
      clear hcx hsx
      have x0 := subcell d0 (by show b < _; omega)
      have x1 := subcell d1 (by show b < _; omega)
      have x2 := subcell d2 (by show b < _; omega)
      have x3 := subcell d3 (by show b < _; omega)
      have x4 := subcell d4 (by show b < _; omega)
      have x5 := subcell d5 (by show b < _; omega)
      have x6 := subcell d6 (by show b < _; omega)
      have y2 := subcell o2 (by show w.heap.size < _; omega)
      have y3 := subcell o3 (by show w.heap.size < _; omega)
      have y4 := subcell o4 (by show w.heap.size < _; omega)
      have y5 := subcell o5 (by show w.heap.size < _; omega)
      have y6 := subcell o6 (by show w.heap.size < _; omega)
      have y7 := subcell o7 (by show w.heap.size < _; omega)
      have y8 := subcell o8 (by show w.heap.size < _; omega)
      have hne : Nonempty (GW wr) := ⟨⟨_, Below.refl _ _⟩⟩
      go_wp2
      refine wp_region_grow (by kernel_rfl) (by kernel_rfl) ?_
      repeat (go_big_quiet_step ((go_at_call 107; go_must (exact grow_of (key_any (x k) c.ob _ _ _ _ _)))))
      refine wpQuiet_nil ?_
      rintro w1 ⟨u, hu⟩
      have hw1 : Below wr.heap.size wr w1 := hu ▸ u.prop
      clear hu u hne x0 x1 x2 x3 x4 x5 x6 y2 y3 y4 y5 y6 y7 y8
      have z1 := hw1.size
      have b1 := b0.trans (hw1.mono (by omega))
      have hBw1 : Below w.heap.size w w1 := (below_alloc _ _).trans (b1.mono (by omega))
      have BD1 := hid (BD.out.grow (by omega) hw1)
      have HSX1 := hid (HSX.out.below hBw1 hhi)
      have HCS1 := hid (HCS.out.below hBw1 hhi)
      obtain ⟨e0, e1, e2, e3, e4, e5, e6⟩ := HX.out.below hBw1 (by omega)
      have p2 := (hw1.cell (p := ⟨w.heap.size, 2, none⟩) (by show w.heap.size < _; omega)).trans o2
      have p3 := (hw1.cell (p := ⟨w.heap.size, 3, none⟩) (by show w.heap.size < _; omega)).trans o3
      have p4 := (hw1.cell (p := ⟨w.heap.size, 4, none⟩) (by show w.heap.size < _; omega)).trans o4
      have p5 := (hw1.cell (p := ⟨w.heap.size, 5, none⟩) (by show w.heap.size < _; omega)).trans o5
      have p6 := (hw1.cell (p := ⟨w.heap.size, 6, none⟩) (by show w.heap.size < _; omega)).trans o6
      have p7 := (hw1.cell (p := ⟨w.heap.size, 7, none⟩) (by show w.heap.size < _; omega)).trans o7
      have p8 := (hw1.cell (p := ⟨w.heap.size, 8, none⟩) (by show w.heap.size < _; omega)).trans o8
      have STEP := hid (show putTo x c.ob c.gone (k + 1) = putStep c.ob (x k) S by show putStep c.ob (x k) (putTo x c.ob c.gone k) = _; rw [HS.out])
      clear d0 d1 d2 d3 d4 d5 d6 o2 o3 o4 o5 o6 o7 o8 hw1 BD
      obtain ⟨kk, hkk⟩ : ∃ kk, keyI (x k) c.ob = kk := ⟨_, rfl⟩
      rw [hkk]
      have HKK := hid hkk
      clear hkk
      obtain ⟨m, y, dn⟩ := S
      dsimp only at BD1 LE STEP ⊢
      cases dn with
      | true =>
        have hm : m ≤ k + 1 := by have := LE.out; simp at this; omega
        by_cases h0 : kk = 0
        · subst h0
          have E := hid (show putStep c.ob (x k) ⟨m, y, true⟩ = ⟨m, y, true⟩ by unfold putStep; simp [HKK.out])
          go_wp2
          go_roundw
          case rel => exact ⟨k + 1, _, _, by omega, by go_num, by rw [STEP.out, E.out], b1, by rw [STEP.out, E.out]; exact BD1.out⟩
          case measure => simp [intOf]; omega
        · have E := hid (show putStep c.ob (x k) ⟨m, y, true⟩ = ⟨m + 1, updF y m (x k), true⟩ by unfold putStep; simp [HKK.out, h0])
          have BW2 := hid (BD1.out.grow (by omega) (below_alloc w1 (.cells #[.string (x k).kind, .string (x k).name, .int .i64 (x k).ver, .int .i64 (x k).born, .string (x k).text, .bool (x k).ending, .slice ah (x k).hn ch] 73)))
          obtain ⟨cc2, hown2, hat2⟩ := BW2.out.row
          have HAT2 := hid hat2
          clear hat2
          go_wp2_with (at_builtin; go_must (refine wpList_append_own_at _ rfl _ _ 28 rfl (w.heap.size + 1) 73 i0 _ 7 96 Tryz.underlying28 hi0 hz0 hz1 hz2 rfl (by decide) _ (m) (rowCells ((m) * 7) cc2) rfl hown2 ⟨w1.heap.size, 0, none⟩ 1 1 [.string (x k).kind, .string (x k).name, .int .i64 (x k).ver, .int .i64 (x k).born, .string (x k).text, .bool (x k).ending, .slice ah (x k).hn ch] rfl rfl (alloc_news w1 _ 73) (by simp [Value.oneCell']) (by unfold maxLen; omega) (by omega) (by simp; omega) ?_; intro v2 u2 hown2' hgrow2 hnil2 hwh2; clear hnil2 hwh2))
          have zu2 := hgrow2.size
          simp only [World.size_alloc] at zu2
          have BD2' := hid (BW2.out.app (cap' := ch) HAT2.out hown2' hgrow2 (fun q hq => (hown2.lt q hq).1) ((HSX1.out).alloc (by omega) _) (by omega) (by simp; omega))
          have B2' : Below (w.heap.size + 1) (w.alloc (.cells #[.int .i64 c.ver, .bool c.gone, .string c.ob.kind, .string c.ob.name, .int .i64 c.ob.ver, .int .i64 c.ob.born, .string c.ob.text, .bool c.ob.ending, .slice adc c.ob.hn capc] 75)) u2 := (b1.alloc (by omega) _).trans ((FrP.of_grown hgrow2).below (fun q hq e => by have := (hown2.lt q e).1; omega) (by simp; omega))
          clear hown2 hown2' hgrow2
          go_roundw
          case rel => exact ⟨k + 1, _, _, by omega, by go_num, by rw [STEP.out, E.out], B2', by rw [STEP.out, E.out]; exact BD2'.out⟩
          case measure => simp [intOf]; omega
      | false =>
        have hm : m ≤ k := by have := LE.out; simp at this; omega
        by_cases hneg : kk < 0
        · have E := hid (show putStep c.ob (x k) ⟨m, y, false⟩ = ⟨m + 1, updF y m (x k), false⟩ by unfold putStep; simp [HKK.out, hneg])
          have hnz : ¬ kk = 0 := by omega
          have BW2 := hid (BD1.out.grow (by omega) (below_alloc w1 (.cells #[.string (x k).kind, .string (x k).name, .int .i64 (x k).ver, .int .i64 (x k).born, .string (x k).text, .bool (x k).ending, .slice ah (x k).hn ch] 73)))
          obtain ⟨cc2, hown2, hat2⟩ := BW2.out.row
          have HAT2 := hid hat2
          clear hat2
          go_wp2_with (at_builtin; go_must (refine wpList_append_own_at _ rfl _ _ 28 rfl (w.heap.size + 1) 73 i0 _ 7 96 Tryz.underlying28 hi0 hz0 hz1 hz2 rfl (by decide) _ (m) (rowCells ((m) * 7) cc2) rfl hown2 ⟨w1.heap.size, 0, none⟩ 1 1 [.string (x k).kind, .string (x k).name, .int .i64 (x k).ver, .int .i64 (x k).born, .string (x k).text, .bool (x k).ending, .slice ah (x k).hn ch] rfl rfl (alloc_news w1 _ 73) (by simp [Value.oneCell']) (by unfold maxLen; omega) (by omega) (by simp; omega) ?_; intro v2 u2 hown2' hgrow2 hnil2 hwh2; clear hnil2 hwh2))
          have zu2 := hgrow2.size
          simp only [World.size_alloc] at zu2
          have BD2' := hid (BW2.out.app (cap' := ch) HAT2.out hown2' hgrow2 (fun q hq => (hown2.lt q hq).1) ((HSX1.out).alloc (by omega) _) (by omega) (by simp; omega))
          have B2' : Below (w.heap.size + 1) (w.alloc (.cells #[.int .i64 c.ver, .bool c.gone, .string c.ob.kind, .string c.ob.name, .int .i64 c.ob.ver, .int .i64 c.ob.born, .string c.ob.text, .bool c.ob.ending, .slice adc c.ob.hn capc] 75)) u2 := (b1.alloc (by omega) _).trans ((FrP.of_grown hgrow2).below (fun q hq e => by have := (hown2.lt q e).1; omega) (by simp; omega))
          clear hown2 hown2' hgrow2
          go_roundw
          case rel => exact ⟨k + 1, _, _, by omega, by go_num, by rw [STEP.out, E.out], B2', by rw [STEP.out, E.out]; exact BD2'.out⟩
          case measure => simp [intOf]; omega
        · by_cases h0 : kk = 0
          · subst h0
            have E := hid (show putStep c.ob (x k) ⟨m, y, false⟩ = ⟨m + 1, updF y m c.ob, true⟩ by unfold putStep; simp [HKK.out])
            have BW2 := hid (BD1.out.grow (by omega) (below_alloc w1 (.cells #[.string c.ob.kind, .string c.ob.name, .int .i64 c.ob.ver, .int .i64 c.ob.born, .string c.ob.text, .bool c.ob.ending, .slice adc c.ob.hn capc] 73)))
            obtain ⟨cc2, hown2, hat2⟩ := BW2.out.row
            have HAT2 := hid hat2
            clear hat2
            go_wp2_with (at_builtin; go_must (refine wpList_append_own_at _ rfl _ _ 28 rfl (w.heap.size + 1) 73 i0 _ 7 96 Tryz.underlying28 hi0 hz0 hz1 hz2 rfl (by decide) _ (m) (rowCells ((m) * 7) cc2) rfl hown2 ⟨w1.heap.size, 0, none⟩ 1 1 [.string c.ob.kind, .string c.ob.name, .int .i64 c.ob.ver, .int .i64 c.ob.born, .string c.ob.text, .bool c.ob.ending, .slice adc c.ob.hn capc] rfl rfl (alloc_news w1 _ 73) (by simp [Value.oneCell']) (by unfold maxLen; omega) (by omega) (by simp; omega) ?_; intro v2 u2 hown2' hgrow2 hnil2 hwh2; clear hnil2 hwh2))
            have zu2 := hgrow2.size
            simp only [World.size_alloc] at zu2
            have BD2' := hid (BW2.out.app (cap' := capc) HAT2.out hown2' hgrow2 (fun q hq => (hown2.lt q hq).1) ((HCS1.out).alloc (by omega) _) (by omega) (by simp; omega))
            have B2' : Below (w.heap.size + 1) (w.alloc (.cells #[.int .i64 c.ver, .bool c.gone, .string c.ob.kind, .string c.ob.name, .int .i64 c.ob.ver, .int .i64 c.ob.born, .string c.ob.text, .bool c.ob.ending, .slice adc c.ob.hn capc] 75)) u2 := (b1.alloc (by omega) _).trans ((FrP.of_grown hgrow2).below (fun q hq e => by have := (hown2.lt q e).1; omega) (by simp; omega))
            clear hown2 hown2' hgrow2
            go_roundw
            case rel => exact ⟨k + 1, _, _, by omega, by go_num, by rw [STEP.out, E.out], B2', by rw [STEP.out, E.out]; exact BD2'.out⟩
            case measure => simp [intOf]; omega
          · have E := hid (show putStep c.ob (x k) ⟨m, y, false⟩ = ⟨m + 1 + 1, updF (updF y m c.ob) (m + 1) (x k), true⟩ by unfold putStep; simp [HKK.out, hneg, h0])
            have BW2 := hid (BD1.out.grow (by omega) (below_alloc w1 (.cells #[.string c.ob.kind, .string c.ob.name, .int .i64 c.ob.ver, .int .i64 c.ob.born, .string c.ob.text, .bool c.ob.ending, .slice adc c.ob.hn capc] 73)))
            obtain ⟨cc2, hown2, hat2⟩ := BW2.out.row
            have HAT2 := hid hat2
            clear hat2
            go_upto_region 10 with (at_builtin; go_must (refine wpList_append_own_at _ rfl _ _ 28 rfl (w.heap.size + 1) 73 i0 _ 7 96 Tryz.underlying28 hi0 hz0 hz1 hz2 rfl (by decide) _ (m) (rowCells ((m) * 7) cc2) rfl hown2 ⟨w1.heap.size, 0, none⟩ 1 1 [.string c.ob.kind, .string c.ob.name, .int .i64 c.ob.ver, .int .i64 c.ob.born, .string c.ob.text, .bool c.ob.ending, .slice adc c.ob.hn capc] rfl rfl (alloc_news w1 _ 73) (by simp [Value.oneCell']) (by unfold maxLen; omega) (by omega) (by simp; omega) ?_; intro v2 u2 hown2' hgrow2 hnil2 hwh2; clear hnil2 hwh2))
            have zu2 := hgrow2.size
            simp only [World.size_alloc] at zu2
            have BD2' := hid (BW2.out.app (cap' := capc) HAT2.out hown2' hgrow2 (fun q hq => (hown2.lt q hq).1) ((HCS1.out).alloc (by omega) _) (by omega) (by simp; omega))
            have B2' : Below (w.heap.size + 1) (w.alloc (.cells #[.int .i64 c.ver, .bool c.gone, .string c.ob.kind, .string c.ob.name, .int .i64 c.ob.ver, .int .i64 c.ob.born, .string c.ob.text, .bool c.ob.ending, .slice adc c.ob.hn capc] 75)) u2 := (b1.alloc (by omega) _).trans ((FrP.of_grown hgrow2).below (fun q hq e => by have := (hown2.lt q e).1; omega) (by simp; omega))
            clear hown2 hown2' hgrow2
            clear e0 e1 e2 e3 e4 e5 e6 p2 p3 p4 p5 p6 p7 p8
            have hBw2 : Below w.heap.size w u2 := (below_alloc _ _).trans (B2'.mono (by omega))
            obtain ⟨e0, e1, e2, e3, e4, e5, e6⟩ := HX.out.below hBw2 (by omega)
            have HSX2 := hid (HSX.out.below hBw2 hhi)
            have BW3 := hid (BD2'.out.grow (by omega) (below_alloc u2 (.cells #[.string (x k).kind, .string (x k).name, .int .i64 (x k).ver, .int .i64 (x k).born, .string (x k).text, .bool (x k).ending, .slice ah (x k).hn ch] 73)))
            obtain ⟨cc3, hown3, hat3⟩ := BW3.out.row
            have HAT3 := hid hat3
            clear hat3
            go_wp2_with (at_builtin; go_must (refine wpList_append_own_at _ rfl _ _ 28 rfl (w.heap.size + 1) 73 i0 _ 7 96 Tryz.underlying28 hi0 hz0 hz1 hz2 rfl (by decide) _ (m + 1) (rowCells ((m + 1) * 7) cc3) rfl hown3 ⟨u2.heap.size, 0, none⟩ 1 1 [.string (x k).kind, .string (x k).name, .int .i64 (x k).ver, .int .i64 (x k).born, .string (x k).text, .bool (x k).ending, .slice ah (x k).hn ch] rfl rfl (alloc_news u2 _ 73) (by simp [Value.oneCell']) (by unfold maxLen; omega) (by omega) (by simp; omega) ?_; intro v3 u3 hown3' hgrow3 hnil3 hwh3; clear hnil3 hwh3))
            have zu3 := hgrow3.size
            simp only [World.size_alloc] at zu3
            have BD3' := hid (BW3.out.app (cap' := ch) HAT3.out hown3' hgrow3 (fun q hq => (hown3.lt q hq).1) ((HSX2.out).alloc (by omega) _) (by omega) (by simp; omega))
            have B3' : Below (w.heap.size + 1) (w.alloc (.cells #[.int .i64 c.ver, .bool c.gone, .string c.ob.kind, .string c.ob.name, .int .i64 c.ob.ver, .int .i64 c.ob.born, .string c.ob.text, .bool c.ob.ending, .slice adc c.ob.hn capc] 75)) u3 := (B2'.alloc (by omega) _).trans ((FrP.of_grown hgrow3).below (fun q hq e => by have := (hown3.lt q e).1; omega) (by simp; omega))
            clear hown3 hown3' hgrow3
            go_roundw
            case rel => exact ⟨k + 1, _, _, by omega, by go_num, by rw [STEP.out, E.out], B3', by rw [STEP.out, E.out]; exact BD3'.out⟩
            case measure => simp [intOf]; omega
    · have hke : k = n := by omega
      subst hke
      obtain ⟨m, y, dn⟩ := S
      dsimp only at BD LE ⊢
      have hBw : Below w.heap.size w wr := (below_alloc _ _).trans (b0.mono (by omega))
      have HCSr := hid (HCS.out.below hBw hhi)
      have HSE := hid (show putAll k x c.ob c.gone = putEnd c.ob ⟨m, y, dn⟩ by unfold putAll; rw [HS.out])
      cases dn with
      | true =>
        have E := hid (show putEnd c.ob ⟨m, y, true⟩ = ⟨m, y, true⟩ from rfl)
        go_wp2
        go_ret
        exact ⟨_, rfl, ⟨A, C, by rw [HSE.out, E.out]; exact BD.out⟩, hBw⟩
      | false =>
        have hm : m ≤ k := by have := LE.out; simp at this; omega
        have E := hid (show putEnd c.ob ⟨m, y, false⟩ = ⟨m + 1, updF y m c.ob, true⟩ from rfl)
        have BW2 := hid (BD.out.grow (by omega) (below_alloc wr (.cells #[.string c.ob.kind, .string c.ob.name, .int .i64 c.ob.ver, .int .i64 c.ob.born, .string c.ob.text, .bool c.ob.ending, .slice adc c.ob.hn capc] 73)))
        obtain ⟨cc2, hown2, hat2⟩ := BW2.out.row
        have HAT2 := hid hat2
        clear hat2
        go_wp2_with (at_builtin; go_must (refine wpList_append_own_at _ rfl _ _ 28 rfl (w.heap.size + 1) 73 i0 _ 7 96 Tryz.underlying28 hi0 hz0 hz1 hz2 rfl (by decide) _ (m) (rowCells ((m) * 7) cc2) rfl hown2 ⟨wr.heap.size, 0, none⟩ 1 1 [.string c.ob.kind, .string c.ob.name, .int .i64 c.ob.ver, .int .i64 c.ob.born, .string c.ob.text, .bool c.ob.ending, .slice adc c.ob.hn capc] rfl rfl (alloc_news wr _ 73) (by simp [Value.oneCell']) (by unfold maxLen; omega) (by omega) (by simp; omega) ?_; intro v2 u2 hown2' hgrow2 hnil2 hwh2; clear hnil2 hwh2))
        have zu2 := hgrow2.size
        simp only [World.size_alloc] at zu2
        have BD2' := hid (BW2.out.app (cap' := capc) HAT2.out hown2' hgrow2 (fun q hq => (hown2.lt q hq).1) ((HCSr.out).alloc (by omega) _) (by omega) (by simp; omega))
        have B2' : Below (w.heap.size + 1) (w.alloc (.cells #[.int .i64 c.ver, .bool c.gone, .string c.ob.kind, .string c.ob.name, .int .i64 c.ob.ver, .int .i64 c.ob.born, .string c.ob.text, .bool c.ob.ending, .slice adc c.ob.hn capc] 75)) u2 := (b0.alloc (by omega) _).trans ((FrP.of_grown hgrow2).below (fun q hq e => by have := (hown2.lt q e).1; omega) (by simp; omega))
        clear hown2 hown2' hgrow2
        go_ret
        exact ⟨_, _, _, rfl, by rw [HSE.out, E.out]; exact BD2'.out, (below_alloc _ _).trans (B2'.mono (by omega))⟩
end Go.Proofs.YtkecnaaacbckoaaGreat
namespace Go.Proofs.YtkecnaaacbckoaaGreat
open Go.RowKit
set_option maxRecDepth 100000 in
set_option maxHeartbeats 2000000 in
theorem specObs_any (n : Nat) (x : Nat → Ob) (ad : Option Addr) (cap : Nat) (w : World) (lo hi : Nat) (hhi : hi ≤ w.heap.size) (hl : (n : Int) ≤ 1048576) (hf : ∀ i, i < n → ObFit (x i)) (hc : ObjsIn w lo hi ad n x) :
    Calls Tryz.prog 59 #[.slice ad n cap] w fun e w' => ∃ ad' cap' g A C hb, e = .returned (.slice ad' n cap') ∧ ObsAt w' ad' g n x A C hb ∧ (∀ q, blkH g n (fun i => (x i).hn) hb q → w.heap.size ≤ q) ∧ Below w.heap.size w w' := by
  obtain ⟨i0, hi0, hz0, hz1, hz2⟩ := info_parts Tryz.info73
  have HC := hid hc
  have HF := hid hf
  clear hc hf
  go_enter Tryz.func59, Tryz.ntmps59
  go_wp2
  have bd0 : BdOb (w.alloc (.cells #[] 73)) w.heap.size (.slice (some ⟨w.heap.size, 0, none⟩) 0 0) 0 x (fun _ => none) (fun _ => 0) (fun _ => 0) :=
    ⟨⟨fun _ => .int .i64 0, by simpa [rowCells] using World.ownsRow_made (base := w.heap.size) (e := 73) (size := 7) w #[] 0 (Nat.le_refl _) (Nat.zero_le _) rfl, fun i hi => absurd hi (Nat.not_lt_zero _)⟩, fun i hi => absurd hi (Nat.not_lt_zero _), fun i hi => absurd hi (Nat.not_lt_zero _), fun i hi => absurd hi (Nat.not_lt_zero _), fun i j hi => absurd hi (Nat.not_lt_zero _)⟩
  go_loopw [3, 4] (fun o i wr => ∃ (k : Nat) (A : Nat → Option Addr) (C hb : Nat → Nat), k ≤ n ∧ i = .int .i64 k ∧ Below w.heap.size w wr ∧ BdOb wr w.heap.size o k x A C hb) (fun _ i _ => n - (intOf i).toNat)
  case atStart => exact ⟨0, _, _, _, Nat.zero_le _, rfl, below_alloc _ _, bd0⟩
  case round =>
    clear bd0
    obtain ⟨k, A, C, hb, hk, rfl, b0, bd⟩ := hrel
    by_cases hkn : k < n
    · obtain ⟨b, off, ah, ch, rfl, hlo, hbh, hcx, hsx⟩ := HC.out k hkn
      have hfk := (HF.out k hkn).h
      obtain ⟨e0, e1, e2, e3, e4, e5, e6⟩ := hcx.below b0 (by omega)
      have HSX := hid (hsx.below b0 hhi)
      have zr := b0.size
      have BD := hid bd
      clear hcx hsx bd
      go_wp2_with fail
      refine (specOb_any (x k) ah ch _ lo hi (by omega) hfk HSX.out).mono ?_
      rintro e w1 ⟨ad', cap', rfl, hs1, hb1⟩
      obtain ⟨b', ho1, hl1⟩ := hs1.one
      have z1 := hb1.size
      have HO1 := hid ho1
      have HL1 := hid hl1
      have BD1 := hid ((BD.out.grow hb1).grow (below_alloc w1 (.cells #[.string (x k).kind, .string (x k).name, .int .i64 (x k).ver, .int .i64 (x k).born, .string (x k).text, .bool (x k).ending, .slice ad' (x k).hn cap'] 73)))
      obtain ⟨c, hown, hat⟩ := BD1.out.row
      have HAT := hid hat
      clear hs1 ho1 hl1 e0 e1 e2 e3 e4 e5 e6 hat
      go_wp2_with (at_builtin; go_must (refine wpList_append_own_at _ rfl _ _ 28 rfl w.heap.size 73 i0 _ 7 96 Tryz.underlying28 hi0 hz0 hz1 hz2 rfl (by decide) _ k (rowCells (k * 7) c) rfl hown ⟨w1.heap.size, 0, none⟩ 1 1 [.string (x k).kind, .string (x k).name, .int .i64 (x k).ver, .int .i64 (x k).born, .string (x k).text, .bool (x k).ending, .slice ad' (x k).hn cap'] rfl rfl (alloc_news w1 _ 73) (by simp [Value.oneCell']) (by unfold maxLen; omega) (by omega) (by simp; omega) ?_; intro v' w2 hown2 hgrow2 hnil2 hat2; clear hnil2))
      have hg2 := hgrow2.size
      have FB : ∀ o, FrP (fun _ => False) w1 (w1.alloc o) := fun o => FrP.of_below (below_alloc w1 o)
      have BD2 := hid (BD1.out.app (cap' := cap') HAT.out hown2 hgrow2 hat2 (HO1.out.frP (FB _) (fun h0 => ⟨fun h => h, (HL1.out h0).2⟩)) (fun h0 => ⟨by have := (HL1.out h0).1; omega, by have := (HL1.out h0).2; simp; omega⟩)
        (fun h0 e => by
          obtain ⟨c0, r0, _⟩ := BD.out.row
          have h1 := (r0.lt _ e).2
          have h2 := (HL1.out h0).1
          omega)
        (fun i hi h0 h1 e => by
          have h2 := (BD.out.hlt i hi h0).2
          have h3 := (HL1.out h1).1
          omega))
      have B2 : Below w.heap.size w w2 := by
        obtain ⟨c0, r0, _⟩ := BD.out.row
        exact ((b0.trans (hb1.mono zr)).alloc (by omega) _).trans ((FrP.of_grown hgrow2).below (fun q hq e => by have := (r0.lt q e).1; omega) (by simp; omega))
      clear hown hown2 hgrow2 hat2 FB
      go_wp2
      go_roundw
      case rel => exact ⟨k + 1, _, _, _, by omega, by go_num, B2, BD2.out⟩
      case measure => simp [intOf]; omega
    · have hke : k = n := by omega
      subst hke
      obtain ⟨ad', cap', g, e, at', hq⟩ := bd.done
      subst e
      have AT' := hid at'
      clear at' bd
      go_wp2
      go_ret
      exact ⟨ad', cap', g, A, C, hb, rfl, AT'.out, hq, b0⟩
end Go.Proofs.YtkecnaaacbckoaaGreat
namespace Go.Proofs.YtkecnaaacbckoaaGreat
open Go.RowKit
def obz : Ob := ⟨ByteArray.empty, ByteArray.empty, 0, 0, ByteArray.empty, false, 0, fun _ => ByteArray.empty⟩
/-- what stands when the first k objects are put, those that no change tells of -/
def objL (os : Nat → Ob) (fl : Int) : Nat → Nat × (Nat → Ob)
  | 0 => (0, fun _ => obz)
  | k + 1 => if (os k).ver ≤ fl then ((putAll (objL os fl k).1 (objL os fl k).2 (os k) false).m, (putAll (objL os fl k).1 (objL os fl k).2 (os k) false).y) else objL os fl k
/-- .. and the first k changes, those up to a version -/
def hisL (s : Nat × (Nat → Ob)) (hs : Nat → Ch) (ver : Int) : Nat → Nat × (Nat → Ob)
  | 0 => s
  | k + 1 => if (hs k).ver ≤ ver then ((putAll (hisL s hs ver k).1 (hisL s hs ver k).2 (hs k).ob (hs k).gone).m, (putAll (hisL s hs ver k).1 (hisL s hs ver k).2 (hs k).ob (hs k).gone).y) else hisL s hs ver k
/-- no change above the version is the first of an object that was there -/
def allK (hs : Nat → Ch) (ver : Int) : Nat → Bool
  | 0 => true
  | k + 1 => allK hs ver k && (decide ((hs k).ver ≤ ver) || !(decide (lastI hs (hs k).ob k < 0) && !creB (hs k)))
theorem putAll_le (n : Nat) (x : Nat → Ob) (o : Ob) (gone : Bool) : (putAll n x o gone).m ≤ n + 1 := by
  have h := putTo_le x o gone n
  unfold putAll putEnd
  split
  · next hd => rw [hd] at h; simpa using h
  · next hd =>
    have hd' : (putTo x o gone n).done = false := by simpa using hd
    rw [hd'] at h
    show (putTo x o gone n).m + 1 ≤ n + 1
    simpa using h
theorem objL_le (os : Nat → Ob) (fl : Int) : ∀ k, (objL os fl k).1 ≤ k
  | 0 => Nat.le_refl _
  | k + 1 => by
    have ih := objL_le os fl k
    unfold objL
    split
    · have := putAll_le (objL os fl k).1 (objL os fl k).2 (os k) false
      show (putAll _ _ _ _).m ≤ k + 1
      omega
    · omega
theorem hisL_le (s : Nat × (Nat → Ob)) (hs : Nat → Ch) (ver : Int) : ∀ k, (hisL s hs ver k).1 ≤ s.1 + k
  | 0 => Nat.le_refl _
  | k + 1 => by
    have ih := hisL_le s hs ver k
    unfold hisL
    split
    · have := putAll_le (hisL s hs ver k).1 (hisL s hs ver k).2 (hs k).ob (hs k).gone
      show (putAll _ _ _ _).m ≤ s.1 + (k + 1)
      omega
    · omega
theorem BdR.objs {w : World} {base lo hi : Nat} {v : Value} {m : Nat} {y : Nat → Ob} {A : Nat → Option Addr} {C : Nat → Nat} (h : BdR w base lo hi v m y A C) (hhi : hi ≤ w.heap.size) : ∃ ad cap, v = .slice ad m cap ∧ ObjsIn w 0 w.heap.size ad m y := by
  obtain ⟨c, r, hat⟩ := h.row
  rcases r.2 with ⟨rfl, rfl⟩ | ⟨g, cap, cur, rfl, _⟩
  · exact ⟨none, 0, rfl, fun i hi' => absurd hi' (Nat.not_lt_zero _)⟩
  · have rw := row_of_own r
    refine ⟨_, cap, rfl, fun i hi' => ?_⟩
    obtain ⟨a0, a1, a2, a3, a4, a5, a6⟩ := hat i hi'
    refine ⟨g, 0, A i, C i, rfl, Nat.zero_le _, rw.lt, ?_, fun j hj => ?_⟩
    · rw [Nat.zero_add]
      exact ⟨(rw.cell _ (by omega)).trans (congrArg some a0), (rw.cell _ (by omega)).trans (congrArg some a1), (rw.cell _ (by omega)).trans (congrArg some a2), (rw.cell _ (by omega)).trans (congrArg some a3), (rw.cell _ (by omega)).trans (congrArg some a4), (rw.cell _ (by omega)).trans (congrArg some a5), (rw.cell _ (by omega)).trans (congrArg some a6)⟩
    · obtain ⟨b, off, e1, e2, e3, e4⟩ := h.hold i hi' j hj
      exact ⟨b, off, e1, Nat.zero_le _, by omega, e4⟩
theorem putTo_all {P : Ob → Prop} {x : Nat → Ob} {o : Ob} {gone : Bool} (ho : P o) : ∀ n, (∀ i, i < n → P (x i)) → ∀ i, i < (putTo x o gone n).m → P ((putTo x o gone n).y i)
  | 0, _, i, hi => absurd hi (Nat.not_lt_zero _)
  | n + 1, hx, i, hi => by
    have ih := putTo_all (gone := gone) ho n (fun i hi => hx i (by omega))
    have hn := hx n (by omega)
    have up : ∀ (y : Nat → Ob) (m : Nat) (z : Ob), P z → (∀ j, j < m → P (y j)) → ∀ j, j < m + 1 → P (updF y m z j) := fun y m z hz hy j hj => by
      by_cases e : j = m
      · subst e; rw [updF_same]; exact hz
      · rw [updF_ne _ _ e]; exact hy j (by omega)
    revert hi
    show i < (putStep o (x n) (putTo x o gone n)).m → P ((putStep o (x n) (putTo x o gone n)).y i)
    unfold putStep
    split
    · split
      · exact ih i
      · exact up _ _ _ hn ih i
    · split
      · exact up _ _ _ hn ih i
      · split
        · exact up _ _ _ ho ih i
        · exact up _ _ _ hn (up _ _ _ ho ih) i
theorem putAll_all {P : Ob → Prop} {n : Nat} {x : Nat → Ob} {o : Ob} {gone : Bool} (ho : P o) (hx : ∀ i, i < n → P (x i)) : ∀ i, i < (putAll n x o gone).m → P ((putAll n x o gone).y i) := fun i hi => by
  have ih := putTo_all (gone := gone) ho n hx
  revert hi
  unfold putAll putEnd
  split
  · exact ih i
  · intro hi
    by_cases e : i = (putTo x o gone n).m
    · subst e
      show P (updF _ _ _ _)
      rw [updF_same]; exact ho
    · show P (updF _ _ _ _)
      rw [updF_ne _ _ e]
      have hi' : i < (putTo x o gone n).m + 1 := hi
      exact ih i (by omega)
theorem objL_all {P : Ob → Prop} {os : Nat → Ob} {fl : Int} : ∀ k, (∀ i, i < k → P (os i)) → ∀ i, i < (objL os fl k).1 → P ((objL os fl k).2 i)
  | 0, _, i, hi => absurd hi (Nat.not_lt_zero _)
  | k + 1, hx, i, hi => by
    have ih := objL_all (fl := fl) k (fun i hi => hx i (by omega))
    revert hi
    unfold objL
    split
    · exact putAll_all (hx k (by omega)) ih i
    · exact ih i
theorem hisL_all {P : Ob → Prop} {s : Nat × (Nat → Ob)} {hs : Nat → Ch} {ver : Int} (h0 : ∀ i, i < s.1 → P (s.2 i)) : ∀ k, (∀ i, i < k → P (hs i).ob) → ∀ i, i < (hisL s hs ver k).1 → P ((hisL s hs ver k).2 i)
  | 0, _, i, hi => h0 i hi
  | k + 1, hx, i, hi => by
    have ih := hisL_all (ver := ver) h0 k (fun i hi => hx i (by omega))
    revert hi
    unfold hisL
    split
    · exact putAll_all (hx k (by omega)) ih i
    · exact ih i
/-- the first loop's state -/
def AtI1 (x : Bk) (w1 : World) (o i : Value) (wr : World) : Prop := ∃ (k : Nat) (ad : Option Addr) (cap : Nat), k ≤ x.on ∧ i = .int .i64 (k : Nat) ∧ o = .slice ad (objL x.os x.floor k).1 cap ∧ Below w1.heap.size w1 wr ∧ ObjsIn wr 0 wr.heap.size ad (objL x.os x.floor k).1 (objL x.os x.floor k).2
/-- the second loop's state -/
def AtI2 (x : Bk) (ver : Int) (w1 : World) (o al i : Value) (wr : World) : Prop := ∃ (k : Nat) (ad : Option Addr) (cap : Nat), k ≤ x.hn ∧ i = .int .i64 (k : Nat) ∧ al = .bool (allK x.hs ver k) ∧ o = .slice ad (hisL (objL x.os x.floor x.on) x.hs ver k).1 cap ∧ Below w1.heap.size w1 wr ∧ ObjsIn wr 0 wr.heap.size ad (hisL (objL x.os x.floor x.on) x.hs ver k).1 (hisL (objL x.os x.floor x.on) x.hs ver k).2
theorem StrsIn.up {w : World} {lo hi : Nat} {ad : Option Addr} {n : Nat} {s : Nat → ByteArray} (h : StrsIn w lo hi ad n s) (h2 : hi ≤ w.heap.size) : StrsIn w 0 w.heap.size ad n s := fun i hi' => by
  obtain ⟨b, off, e1, e2, e3, e4⟩ := h i hi'
  exact ⟨b, off, e1, Nat.zero_le _, by omega, e4⟩
theorem ObjsIn.up {w w' : World} {ad : Option Addr} {n : Nat} {x : Nat → Ob} (h : ObjsIn w 0 w.heap.size ad n x) (hb : Below w.heap.size w w') : ObjsIn w' 0 w'.heap.size ad n x := fun i hi' => by
  obtain ⟨b, off, ah, ch, e1, e2, e3, e4, e5⟩ := h.below hb (Nat.le_refl _) i hi'
  have := hb.size
  exact ⟨b, off, ah, ch, e1, e2, by omega, e4, fun j hj => by obtain ⟨b', o', f1, f2, f3, f4⟩ := e5 j hj; exact ⟨b', o', f1, f2, by omega, f4⟩⟩
set_option maxRecDepth 100000 in
set_option maxHeartbeats 4000000 in
theorem specAtYes_any (x : Bk) (a1 a2 a3 : Option Addr) (c1 c2 c3 : Nat) (ver : Int) (w : World) (lo hi : Nat) (hhi : hi ≤ w.heap.size) (l1 : (x.on : Int) ≤ 1048576) (hf : BkFit x) (hc : BkIn w lo hi x a1 a2 a3) (hv : allTo (chk x) 7 = true) (h100 : x.on ≤ 100) (h200 : x.hn ≤ 200) (hin : inB ver x.floor x.now = true) :
    Calls Tryz.prog 15 #[.agg #[.int .i64 x.now, .int .i64 x.floor, .slice a1 x.on c1, .slice a2 x.hn c2, .slice a3 x.tn c3], .int .i64 ver] w fun e w' => ∃ ad' cap' g A C hb, e = .returned (.tuple #[.slice ad' (hisL (objL x.os x.floor x.on) x.hs ver x.hn).1 cap', .bool (allK x.hs ver x.hn)]) ∧ ObsAt w' ad' g (hisL (objL x.os x.floor x.on) x.hs ver x.hn).1 (hisL (objL x.os x.floor x.on) x.hs ver x.hn).2 A C hb ∧ (∀ q, blkH g (hisL (objL x.os x.floor x.on) x.hs ver x.hn).1 (fun i => ((hisL (objL x.os x.floor x.on) x.hs ver x.hn).2 i).hn) hb q → w.heap.size ≤ q) ∧ Below w.heap.size w w' := by
  have HC := hid hc
  have HF := hid hf
  go_enter Tryz.func15, Tryz.ntmps15
  go_wp2_with (first
    | (go_at_call 39; go_must (refine (specValid_any x a1 a2 a3 c1 c2 c3 _ lo hi (by simp; omega) hf (HC.out.below ((below_alloc _ _).alloc (by simp) _) hhi)).mono ?_; rw [hv]; rintro e w1 ⟨rfl, hb1⟩; have hB1 : Below w.heap.size w w1 := ((below_alloc _ _).alloc (by simp) _).trans (hb1.mono (by simp; omega)); have H1 : Holds w1 w.heap.size (bkCells x a1 a2 a3 c1 c2 c3) := ((holds_new w _ 32).below (below_alloc _ _) (by simp)).below hb1 (by simp; omega); obtain ⟨p0, p1, p2, p3, p4⟩ := holds_bk H1))
    | (go_at_call 55; go_must (refine (in_any ver x.floor x.now _).mono ?_; rw [hin]; rintro e w2 ⟨rfl, hw2⟩; replace hw2 := hw2.symm; subst hw2)))
  have zw1 : w.heap.size + 1 < w1.heap.size := by have := hb1.size; simp at this; omega
  have H0 : ObjsIn w1 0 w1.heap.size (some ⟨w.heap.size + 1, 0, none⟩) (objL x.os x.floor 0).1 (objL x.os x.floor 0).2 := fun i hi' => absurd hi' (Nat.not_lt_zero _)
  clear p0 p1 p2 p3 p4 hb1
  go_loopw [6, 8] (fun o i wr => AtI1 x w1 o i wr) (fun _ i _ => x.on - (intOf i).toNat)
  case atStart => exact ⟨0, _, 0, Nat.zero_le _, rfl, rfl, Below.refl _ _, H0⟩
  case round =>
    obtain ⟨k, ad, cap, hk, rfl, rfl, hb, ho⟩ := hrel
    clear H0
    obtain ⟨p0, p1, p2, p3, p4⟩ := holds_bk (H1.below hb (by omega))
    have zr := hb.size
    have HO := hid ho
    clear ho
    by_cases hkn : k < x.on
    · obtain ⟨b, off, ah, ch, rfl, hlo, hbh, hcx, hsx⟩ := HC.out.o k hkn
      obtain ⟨e0, e1, e2, e3, e4, e5, e6⟩ := (hcx.below hB1 (by omega)).below hb (by omega)
      have HSX := hid (((hsx.below hB1 hhi).below hb (by omega)).up (by omega))
      have hle := objL_le x.os x.floor k
      obtain ⟨m, hm⟩ : ∃ m, (objL x.os x.floor k).1 = m := ⟨_, rfl⟩
      obtain ⟨y, hy⟩ : ∃ y, (objL x.os x.floor k).2 = y := ⟨_, rfl⟩
      rw [hm] at hle
      by_cases hver : (x.os k).ver ≤ x.floor
      · have HN1 := hid (show (objL x.os x.floor (k + 1)).1 = (putAll m y (x.os k) false).m by rw [objL, if_pos hver, hm, hy])
        have HN2 := hid (show (objL x.os x.floor (k + 1)).2 = (putAll m y (x.os k) false).y by rw [objL, if_pos hver, hm, hy])
        have HO2 := hid (show ObjsIn wr 0 wr.heap.size ad m y from hm ▸ hy ▸ HO.out)
        rw [hm]
        clear hm hy HO
        go_wp2
        go_region
        all_goals go_wp2_with (go_at_call 56; go_must (refine (l2Put_any m y ad cap ⟨0, false, x.os k⟩ ah ch _ 0 wr.heap.size (by simp) (by omega) (by exact HO2.out.below ((Below.refl _ _).drew) (Nat.le_refl _)) (by exact HSX.out.below ((Below.refl _ _).drew) (Nat.le_refl _))).mono ?_; rintro e w3 ⟨v3, A3, C3, rfl, hr3, hb3⟩; have HR3 := hid hr3; clear hr3))
        all_goals
          have z3 := hb3.size
          simp only [World.size_drew] at z3
          obtain ⟨ad3, cap3, hv3, ho3⟩ := HR3.out.objs z3
          subst hv3
          exact ⟨⟨k + 1, ad3, cap3, by omega, by simp, by rw [HN1.out], hb.trans ((((Below.refl _ _).drew).trans hb3).mono zr), by rw [HN1.out, HN2.out]; exact ho3⟩, by simp [intOf]; omega⟩
      · have HN1 := hid (show objL x.os x.floor (k + 1) = objL x.os x.floor k by rw [objL, if_neg hver])
        have HO2 := hid (show ObjsIn wr 0 wr.heap.size ad m y from hm ▸ hy ▸ HO.out)
        have HM := hid hm
        have HYY := hid hy
        rw [hm]
        clear hm hy HO
        go_wp2
        go_region
        all_goals go_wp2
        all_goals exact ⟨⟨k + 1, ad, cap, by omega, by simp, by rw [HN1.out, HM.out], hb.trans ((Below.refl _ _).drew), by rw [HN1.out, HM.out, HYY.out]; exact HO2.out.up ((Below.refl _ _).drew)⟩, by simp [intOf]; omega⟩
    · have hke : k = x.on := by omega
      subst hke
      obtain ⟨W0, hW0⟩ : ∃ W0, W0 = wr := ⟨_, rfl⟩
      subst hW0
      go_wp2
      go_loopw [6, 7, 9] (fun o al i wr => AtI2 x ver w1 o al i wr) (fun _ _ i _ => x.hn - (intOf i).toNat)
      case atStart => exact ⟨0, ad, cap, Nat.zero_le _, rfl, rfl, rfl, hb, HO.out⟩
      case round =>
        obtain ⟨k, ad, cap, hk, rfl, rfl, rfl, hb, ho⟩ := hrel
        clear HO p0 p1 p2 p3 p4 zr
        obtain ⟨p0, p1, p2, p3, p4⟩ := holds_bk (H1.below hb (by omega))
        have zr := hb.size
        have HO := hid ho
        clear ho
        by_cases hkn : k < x.hn
        · obtain ⟨b, off, ah, ch, ha2, hlo, hbh, hcx, hsx⟩ := HC.out.h k hkn
          obtain ⟨e0, e1, e2, e3, e4, e5, e6, e7, e8⟩ := (hcx.below hB1 (by omega)).below hb (by omega)
          have HSX := hid (((hsx.below hB1 hhi).below hb (by omega)).up (by omega))
          have HCI := hid ((HC.out.h.below hB1 hhi).below hb (by omega))
          have hle := hisL_le (objL x.os x.floor x.on) x.hs ver k
          have hle0 := objL_le x.os x.floor x.on
          obtain ⟨m, hm⟩ : ∃ m, (hisL (objL x.os x.floor x.on) x.hs ver k).1 = m := ⟨_, rfl⟩
          obtain ⟨y, hy⟩ : ∃ y, (hisL (objL x.os x.floor x.on) x.hs ver k).2 = y := ⟨_, rfl⟩
          rw [hm] at hle
          have HO2 := hid (show ObjsIn wr 0 wr.heap.size ad m y from hm ▸ hy ▸ HO.out)
          have hB := (holds_new wr #[.int .i64 (x.hs k).ver, .bool (x.hs k).gone, .string (x.hs k).ob.kind, .string (x.hs k).ob.name, .int .i64 (x.hs k).ob.ver, .int .i64 (x.hs k).ob.born, .string (x.hs k).ob.text, .bool (x.hs k).ob.ending, .slice ah (x.hs k).ob.hn ch] 75)
          have g0 := hB 0; have g1 := hB 1; have g2 := hB 2; have g3 := hB 3; have g4 := hB 4; have g5 := hB 5; have g6 := hB 6; have g7 := hB 7; have g8 := hB 8
          simp only [List.getElem?_toArray, List.getElem?_cons_succ, List.getElem?_cons_zero] at g0 g1 g2 g3 g4 g5 g6 g7 g8
          have q3 : ∀ o, (wr.alloc o).cell? ⟨w.heap.size, 3, none⟩ = some (.slice a2 x.hn c2) := fun o => (World.cell?_alloc_past _ _ _ (by omega)).trans p3
          clear hB
          by_cases hver : (x.hs k).ver ≤ ver
          · have HN1 := hid (show (hisL (objL x.os x.floor x.on) x.hs ver (k + 1)).1 = (putAll m y (x.hs k).ob (x.hs k).gone).m by rw [hisL, if_pos hver, hm, hy])
            have HN2 := hid (show (hisL (objL x.os x.floor x.on) x.hs ver (k + 1)).2 = (putAll m y (x.hs k).ob (x.hs k).gone).y by rw [hisL, if_pos hver, hm, hy])
            have HA := hid (show allK x.hs ver (k + 1) = allK x.hs ver k by rw [allK, decide_eq_true hver]; simp)
            rw [hm]
            clear hm hy HO
            generalize hal : allK x.hs ver k = al
            subst ha2
            go_wp2_with (go_at_call 56; go_must (refine (l2Put_any m y ad cap (x.hs k) ah ch _ 0 wr.heap.size (by simp) (by omega) (by exact HO2.out.below (below_alloc _ _) (Nat.le_refl _)) (by exact HSX.out.below (below_alloc _ _) (Nat.le_refl _))).mono ?_; rintro e w3 ⟨v3, A3, C3, rfl, hr3, hb3⟩; have HR3 := hid hr3; clear hr3))
            have z3 := hb3.size
            simp only [World.size_alloc] at z3
            obtain ⟨ad3, cap3, hv3, ho3⟩ := HR3.out.objs (by omega)
            subst hv3
            exact ⟨⟨k + 1, ad3, cap3, by omega, by simp, by rw [HA.out, hal], by rw [HN1.out], hb.trans (((below_alloc _ _).trans (hb3.mono (by simp))).mono zr), by rw [HN1.out, HN2.out]; exact ho3⟩, by simp [intOf]; omega⟩
          · have HN1 := hid (show hisL (objL x.os x.floor x.on) x.hs ver (k + 1) = hisL (objL x.os x.floor x.on) x.hs ver k by rw [hisL, if_neg hver])
            have HA := hid (show allK x.hs ver (k + 1) = (allK x.hs ver k && !(decide (lastI x.hs (x.hs k).ob k < 0) && !creB (x.hs k))) by rw [allK, decide_eq_false hver]; simp)
            have HM := hid hm
            have HYY := hid hy
            rw [hm]
            clear hm hy HO
            generalize hal : allK x.hs ver k = al
            have HAL := hid hal
            clear hal
            subst ha2
            have zn : k ≤ x.hn := by omega
            have hl0 : ∀ r, lastI x.hs (x.hs k).ob k = r → lastI x.hs (x.hs k).ob k = r := fun _ h => h
            clear hl0
            obtain ⟨r, hrr⟩ : ∃ r, lastI x.hs (x.hs k).ob k = r := ⟨_, rfl⟩
            have HRR := hid hrr
            by_cases hl : r < 0
            · have hl2 : lastI x.hs (x.hs k).ob k < 0 := by rw [hrr]; exact hl
              cases hcr : creB (x.hs k) with
              | true =>
                go_wp2_with (first | (go_at_call 57; go_must (refine (l1Last_any x.hn k x.hs (x.hs k).ob _ ah c2 ch _ lo hi (by simp; omega) (by omega) zn (by exact HCI.out.below (below_alloc _ _) (by omega))).mono ?_; rw [HRR.out]; rintro e w3 ⟨rfl, hb3⟩; have r0 := (hb3.cell (p := ⟨wr.heap.size, 0, none⟩) (by simp)).trans g0; have r1 := (hb3.cell (p := ⟨wr.heap.size, 1, none⟩) (by simp)).trans g1; have r2 := (hb3.cell (p := ⟨wr.heap.size, 2, none⟩) (by simp)).trans g2; have r3 := (hb3.cell (p := ⟨wr.heap.size, 3, none⟩) (by simp)).trans g3; have r4 := (hb3.cell (p := ⟨wr.heap.size, 4, none⟩) (by simp)).trans g4; have r5 := (hb3.cell (p := ⟨wr.heap.size, 5, none⟩) (by simp)).trans g5; have r6 := (hb3.cell (p := ⟨wr.heap.size, 6, none⟩) (by simp)).trans g6; have r7 := (hb3.cell (p := ⟨wr.heap.size, 7, none⟩) (by simp)).trans g7; have r8 := (hb3.cell (p := ⟨wr.heap.size, 8, none⟩) (by simp)).trans g8)) | (go_at_call 58; go_must (refine (specCre_any (x.hs k) ah ch _).mono ?_; rw [hcr]; rintro e w4 ⟨rfl, hb4⟩)))
                exact ⟨⟨k + 1, ad, cap, by omega, by simp, by rw [HA.out, HAL.out]; simp [hl2, hcr], by rw [HN1.out, HM.out], hb.trans ((((below_alloc _ _).trans (hb3.mono (by simp))).trans (hb4.mono (by have := hb3.size; simp at this; omega))).mono zr), by rw [HN1.out, HM.out, HYY.out]; exact HO2.out.up ((((below_alloc _ _).trans (hb3.mono (by simp))).trans (hb4.mono (by have := hb3.size; simp at this; omega))))⟩, by simp [intOf]; omega⟩
              | false =>
                go_wp2_with (first | (go_at_call 57; go_must (refine (l1Last_any x.hn k x.hs (x.hs k).ob _ ah c2 ch _ lo hi (by simp; omega) (by omega) zn (by exact HCI.out.below (below_alloc _ _) (by omega))).mono ?_; rw [HRR.out]; rintro e w3 ⟨rfl, hb3⟩; have r0 := (hb3.cell (p := ⟨wr.heap.size, 0, none⟩) (by simp)).trans g0; have r1 := (hb3.cell (p := ⟨wr.heap.size, 1, none⟩) (by simp)).trans g1; have r2 := (hb3.cell (p := ⟨wr.heap.size, 2, none⟩) (by simp)).trans g2; have r3 := (hb3.cell (p := ⟨wr.heap.size, 3, none⟩) (by simp)).trans g3; have r4 := (hb3.cell (p := ⟨wr.heap.size, 4, none⟩) (by simp)).trans g4; have r5 := (hb3.cell (p := ⟨wr.heap.size, 5, none⟩) (by simp)).trans g5; have r6 := (hb3.cell (p := ⟨wr.heap.size, 6, none⟩) (by simp)).trans g6; have r7 := (hb3.cell (p := ⟨wr.heap.size, 7, none⟩) (by simp)).trans g7; have r8 := (hb3.cell (p := ⟨wr.heap.size, 8, none⟩) (by simp)).trans g8)) | (go_at_call 58; go_must (refine (specCre_any (x.hs k) ah ch _).mono ?_; rw [hcr]; rintro e w4 ⟨rfl, hb4⟩)))
                exact ⟨⟨k + 1, ad, cap, by omega, by simp, by rw [HA.out, HAL.out]; simp [hl2, hcr], by rw [HN1.out, HM.out], hb.trans ((((below_alloc _ _).trans (hb3.mono (by simp))).trans (hb4.mono (by have := hb3.size; simp at this; omega))).mono zr), by rw [HN1.out, HM.out, HYY.out]; exact HO2.out.up ((((below_alloc _ _).trans (hb3.mono (by simp))).trans (hb4.mono (by have := hb3.size; simp at this; omega))))⟩, by simp [intOf]; omega⟩
            · have hl2 : ¬ lastI x.hs (x.hs k).ob k < 0 := by rw [hrr]; exact hl
              go_wp2_with (go_at_call 57; go_must (refine (l1Last_any x.hn k x.hs (x.hs k).ob _ ah c2 ch _ lo hi (by simp; omega) (by omega) zn (by exact HCI.out.below (below_alloc _ _) (by omega))).mono ?_; rw [HRR.out]; rintro e w3 ⟨rfl, hb3⟩; have r0 := (hb3.cell (p := ⟨wr.heap.size, 0, none⟩) (by simp)).trans g0; have r1 := (hb3.cell (p := ⟨wr.heap.size, 1, none⟩) (by simp)).trans g1; have r2 := (hb3.cell (p := ⟨wr.heap.size, 2, none⟩) (by simp)).trans g2; have r3 := (hb3.cell (p := ⟨wr.heap.size, 3, none⟩) (by simp)).trans g3; have r4 := (hb3.cell (p := ⟨wr.heap.size, 4, none⟩) (by simp)).trans g4; have r5 := (hb3.cell (p := ⟨wr.heap.size, 5, none⟩) (by simp)).trans g5; have r6 := (hb3.cell (p := ⟨wr.heap.size, 6, none⟩) (by simp)).trans g6; have r7 := (hb3.cell (p := ⟨wr.heap.size, 7, none⟩) (by simp)).trans g7; have r8 := (hb3.cell (p := ⟨wr.heap.size, 8, none⟩) (by simp)).trans g8))
              exact ⟨⟨k + 1, ad, cap, by omega, by simp, by rw [HA.out, HAL.out]; simp [hl2], by rw [HN1.out, HM.out], hb.trans (((below_alloc _ _).trans (hb3.mono (by simp))).mono zr), by rw [HN1.out, HM.out, HYY.out]; exact HO2.out.up (((below_alloc _ _).trans (hb3.mono (by simp))))⟩, by simp [intOf]; omega⟩
        · have hke : k = x.hn := by omega
          subst hke
          have HFT := hid (hisL_all (ver := ver) (P := ObFit) (objL_all (fl := x.floor) x.on HF.out.os) x.hn HF.out.hs)
          have hle := hisL_le (objL x.os x.floor x.on) x.hs ver x.hn
          have hle0 := objL_le x.os x.floor x.on
          obtain ⟨m, hm⟩ : ∃ m, (hisL (objL x.os x.floor x.on) x.hs ver x.hn).1 = m := ⟨_, rfl⟩
          obtain ⟨y, hy⟩ : ∃ y, (hisL (objL x.os x.floor x.on) x.hs ver x.hn).2 = y := ⟨_, rfl⟩
          rw [hm] at hle
          have HO2 := hid (show ObjsIn wr 0 wr.heap.size ad m y from hm ▸ hy ▸ HO.out)
          have HFT2 := hid (show ∀ i, i < m → ObFit (y i) from fun i hi' => by rw [← hy]; exact HFT.out i (by rw [hm]; exact hi'))
          generalize hal : allK x.hs ver x.hn = al
          have HAL := hid hal
          have HM := hid hm
          have HYY := hid hy
          rw [hm]
          clear hm hy HO HFT hal
          go_wp2_with (go_at_call 59; go_must (refine (specObs_any m y ad cap _ 0 wr.heap.size (Nat.le_refl _) (by omega) HFT2.out HO2.out).mono ?_; rintro e w3 ⟨ad', cap', g, A, C, hb', rfl, hat, hq, hb3⟩; have HAT := hid hat; have HQ := hid hq; clear hat hq))
          refine bodyPost_ret (v := .tuple #[.slice ad' m cap', .bool al]) (by simp [results, Tryz.results15, go_sem]) rfl ?_
          rw [HM.out, HYY.out, HAL.out]
          exact ⟨ad', cap', g, A, C, hb', rfl, HAT.out, fun q hq => Nat.le_trans (by omega) (HQ.out q hq), (hB1.trans (hb.mono (by omega))).trans (hb3.mono (by omega))⟩
end Go.Proofs.YtkecnaaacbckoaaGreat
