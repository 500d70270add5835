import Derived.Test.YtkecnaaacbckoaaGreatOb
import Derived.Test.YtkecnaaacbckoaaGreatGj
namespace Go.Proofs.YtkecnaaacbckoaaGreat
open Go.RowKit
def pfB (s p : ByteArray) : Bool := decide (p.size ≤ s.size) && ((s.extract 0 p.size).toList == p.toList)
set_option maxRecDepth 100000 in
theorem hasPrefix0_any (s p : ByteArray) (w : World) (_hs : (s.size : Int) ≤ 140737488355328) (_hp : (p.size : Int) ≤ 140737488355328) : Calls Tryz.prog 156 #[.string s, .string p] w fun e w' => e = .returned (.bool (pfB s p)) ∧ w' = w := by
  by_cases h : (p.size : Int) ≤ s.size
  · go_enter Tryz.func156, Tryz.ntmps156
    go_wp2
    go_ret
    exact ⟨ret_bool (by unfold pfB; rw [decide_eq_true (by omega)]; rfl), rfl⟩
  · go_enter Tryz.func156, Tryz.ntmps156
    go_wp2
    go_ret
    exact ⟨ret_bool (by unfold pfB; rw [decide_eq_false (by omega)]; rfl), rfl⟩
set_option maxRecDepth 100000 in
theorem hasPrefix_any (s p : ByteArray) (w : World) (hs : (s.size : Int) ≤ 140737488355328) (hp : (p.size : Int) ≤ 140737488355328) : Calls Tryz.prog 117 #[.string s, .string p] w fun e w' => e = .returned (.bool (pfB s p)) ∧ w' = w := by
  go_enter Tryz.func117, Tryz.ntmps117
  go_wp2_with (go_at_call 156; refine (hasPrefix0_any _ _ _ hs hp).mono ?_; rintro e w1 ⟨rfl, rfl⟩)
  go_ret
  exact ⟨rfl, rfl⟩
def lkB (o : Ob) (ki pr : ByteArray) : Bool := (ki.toList == [] || o.kind.toList == ki.toList) && pfB o.name pr
set_option maxRecDepth 100000 in
set_option maxHeartbeats 400000 in
theorem isOf_any (o : Ob) (ad : Option Addr) (cap : Nat) (ki pr : ByteArray) (w : World) (hs : (o.name.size : Int) ≤ 140737488355328) (hp : (pr.size : Int) ≤ 140737488355328) :
    Calls Tryz.prog 74 #[.agg #[.string o.kind, .string o.name, .int .i64 o.ver, .int .i64 o.born, .string o.text, .bool o.ending, .slice ad o.hn cap], .string ki, .string pr] w fun e w' => e = .returned (.bool (lkB o ki pr)) ∧ Below w.heap.size w w' := by
  cases h1 : (ki.toList == []) with
  | true =>
    have HE := hid (show lkB o ki pr = pfB o.name pr by unfold lkB; rw [h1]; rfl)
    go_enter Tryz.func74, Tryz.ntmps74
    go_wp2_with (go_at_call 117; refine (hasPrefix_any _ _ _ hs hp).mono ?_; rintro e w1 ⟨rfl, rfl⟩)
    go_ret
    exact ⟨ret_bool HE.out.symm, below_alloc' _ _⟩
  | false =>
    cases h2 : (o.kind.toList == ki.toList) with
    | true =>
      have HE := hid (show lkB o ki pr = pfB o.name pr by unfold lkB; rw [h1, h2]; rfl)
      go_enter Tryz.func74, Tryz.ntmps74
      go_wp2_with (go_at_call 117; refine (hasPrefix_any _ _ _ hs hp).mono ?_; rintro e w1 ⟨rfl, rfl⟩)
      go_ret
      exact ⟨ret_bool HE.out.symm, below_alloc' _ _⟩
    | false =>
      have HE := hid (show lkB o ki pr = false by unfold lkB; rw [h1, h2]; rfl)
      go_enter Tryz.func74, Tryz.ntmps74
      go_wp2
      go_ret
      exact ⟨ret_bool HE.out.symm, below_alloc' _ _⟩
set_option maxRecDepth 100000 in
set_option maxHeartbeats 400000 in
theorem looks_any (o : Ob) (ad : Option Addr) (cap : Nat) (ki pr : ByteArray) (w : World) (_hs : (o.name.size : Int) ≤ 140737488355328) (_hp : (pr.size : Int) ≤ 140737488355328) :
    Calls Tryz.prog 116 #[.agg #[.string o.kind, .string o.name, .int .i64 o.ver, .int .i64 o.born, .string o.text, .bool o.ending, .slice ad o.hn cap], .string ki, .string pr] w fun e w' => e = .returned (.bool (lkB o ki pr)) ∧ Below w.heap.size w w' := by
  cases hk : (ki.toList == [] || o.kind.toList == ki.toList) with
  | false =>
    have HE := hid (show lkB o ki pr = false by unfold lkB; rw [hk]; rfl)
    have h1 : (ki.toList == []) = false := by cases h : (ki.toList == []) <;> simp_all
    have h2 : (o.kind.toList == ki.toList) = false := by cases h : (o.kind.toList == ki.toList) <;> simp_all
    clear hk
    go_enter Tryz.func116, Tryz.ntmps116
    go_wp2
    go_ret
    exact ⟨ret_bool HE.out.symm, below_alloc' _ _⟩
  | true =>
    have HE := hid (show lkB o ki pr = pfB o.name pr by unfold lkB; rw [hk]; rfl)
    by_cases h3 : (pr.size : Int) ≤ o.name.size
    · have HF := hid (show pfB o.name pr = ((o.name.extract 0 pr.size).toList == pr.toList) by unfold pfB; rw [decide_eq_true (by omega)]; rfl)
      cases h1 : (ki.toList == []) with
      | true =>
        clear hk
        go_enter Tryz.func116, Tryz.ntmps116
        go_wp2
        go_ret
        exact ⟨ret_bool (HE.out.trans HF.out).symm, below_alloc' _ _⟩
      | false =>
        have h2 : (o.kind.toList == ki.toList) = true := by rw [h1] at hk; simpa using hk
        clear hk
        go_enter Tryz.func116, Tryz.ntmps116
        go_wp2
        go_ret
        exact ⟨ret_bool (HE.out.trans HF.out).symm, below_alloc' _ _⟩
    · have HF := hid (show pfB o.name pr = false by unfold pfB; rw [decide_eq_false (by omega)]; rfl)
      cases h1 : (ki.toList == []) with
      | true =>
        clear hk
        go_enter Tryz.func116, Tryz.ntmps116
        go_wp2
        go_ret
        exact ⟨ret_bool (HE.out.trans HF.out).symm, below_alloc' _ _⟩
      | false =>
        have h2 : (o.kind.toList == ki.toList) = true := by rw [h1] at hk; simpa using hk
        clear hk
        go_enter Tryz.func116, Tryz.ntmps116
        go_wp2
        go_ret
        exact ⟨ret_bool (HE.out.trans HF.out).symm, below_alloc' _ _⟩
/-- which of the first k are picked -/
def flt (p : Nat → Bool) : Nat → List Nat
  | 0 => []
  | k + 1 => if p k then flt p k ++ [k] else flt p k
theorem flt_yes {p : Nat → Bool} {k : Nat} (h : p k = true) : flt p (k + 1) = flt p k ++ [k] := by rw [flt, if_pos h]
theorem flt_no {p : Nat → Bool} {k : Nat} (h : p k = false) : flt p (k + 1) = flt p k := by
  rw [flt, if_neg (by rw [h]; decide)]
theorem flt_len (p : Nat → Bool) : ∀ k, (flt p k).length ≤ k
  | 0 => Nat.le_refl _
  | k + 1 => by
    have := flt_len p k
    unfold flt
    split <;> simp <;> omega
theorem flt_lt {p : Nat → Bool} : ∀ {k i : Nat}, i ∈ flt p k → i < k
  | 0, _, h => by cases h
  | k + 1, i, h => by
    unfold flt at h
    split at h
    · rw [List.mem_append] at h
      rcases h with h | h
      · have := flt_lt h; omega
      · have : i = k := by simpa using h
        omega
    · have := flt_lt h; omega
def pick {α : Type} (x : Nat → α) (l : List Nat) : Nat → α := fun j => x (l.getD j 0)
theorem pick_old {α : Type} {x : Nat → α} {l : List Nat} {k i : Nat} (h : i < l.length) : pick x (l ++ [k]) i = pick x l i := by
  unfold pick
  rw [List.getD_eq_getElem?_getD, List.getD_eq_getElem?_getD, List.getElem?_append_left h]
theorem pick_new {α : Type} {x : Nat → α} {l : List Nat} {k : Nat} : pick x (l ++ [k]) l.length = x k := by
  unfold pick
  simp
theorem pick_mem {α : Type} {x : Nat → α} {p : Nat → Bool} {n i : Nat} (h : i < (flt p n).length) : ∃ k, k < n ∧ pick x (flt p n) i = x k := by
  refine ⟨(flt p n).getD i 0, ?_, rfl⟩
  rw [List.getD_eq_getElem?_getD, List.getElem?_eq_getElem h]
  exact flt_lt (List.getElem_mem h)
theorem BdOb.congr {w : World} {base : Nat} {v : Value} {k : Nat} {x y : Nat → Ob} {A : Nat → Option Addr} {C hb : Nat → Nat} (h : BdOb w base v k x A C hb) (e : ∀ i, i < k → x i = y i) : BdOb w base v k y A C hb :=
  ⟨by obtain ⟨c, r, q⟩ := h.row; exact ⟨c, r, fun i hi => e i hi ▸ q i hi⟩, fun i hi => e i hi ▸ h.hold i hi, fun i hi h0 => h.hlt i hi (by rw [e i hi]; exact h0), fun i hi h0 => h.ne i hi (by rw [e i hi]; exact h0), fun i j hi hj h0 h1 => h.inj i j hi hj (by rw [e i hi]; exact h0) (by rw [e j hj]; exact h1)⟩
theorem BdOb.push {w : World} {base : Nat} {v : Value} {l : List Nat} {k : Nat} {x : Nat → Ob} {A : Nat → Option Addr} {C hb : Nat → Nat} {w' : World} {v' : Value} {c : Nat → Value} {ad' : Option Addr} {cap' b' : Nat} (h : BdOb w base v l.length (pick x l) A C hb) (hat : ∀ i, i < l.length → atOb c i (pick x l i) (A i) (C i))
    (ho : w'.ownsRow base 73 7 v' (l.length + 1) (rowCells (l.length * 7) c ++ [.string (x k).kind, .string (x k).name, .int .i64 (x k).ver, .int .i64 (x k).born, .string (x k).text, .bool (x k).ending, .slice ad' (x k).hn cap'])) (hg : w.grownBy w' v.ownBlock) (hw : v'.ownBlock = v.ownBlock ∨ v'.ownBlock = some w.heap.size)
    (hs : StrsOwn w b' (b' + 1) ad' (x k).hn (x k).hs) (hl : (x k).hn ≠ 0 → base ≤ b' ∧ b' < w.heap.size) (hv : (x k).hn ≠ 0 → v.ownBlock ≠ some b') (hd : ∀ i, i < l.length → (pick x l i).hn ≠ 0 → (x k).hn ≠ 0 → hb i ≠ b') :
    BdOb w' base v' (l ++ [k]).length (pick x (l ++ [k])) (updF A l.length ad') (updF C l.length cap') (updF hb l.length b') := by
  have e : (l ++ [k]).length = l.length + 1 := by simp
  rw [e]
  have hp : pick x (l ++ [k]) l.length = x k := pick_new
  refine BdOb.app (x := pick x (l ++ [k])) (h.congr (fun i hi => (pick_old hi).symm)) (c := c) (fun i hi => by rw [pick_old hi]; exact hat i hi) (by rw [hp]; exact ho) hg hw (by rw [hp]; exact hs) (by rw [hp]; exact hl) (by rw [hp]; exact hv) (fun i hi => by rw [hp, pick_old hi]; exact hd i hi)
set_option maxRecDepth 100000 in
set_option maxHeartbeats 2000000 in
theorem specList_any (n : Nat) (x : Nat → Ob) (ad : Option Addr) (cap : Nat) (ki pr : ByteArray) (w : World) (lo hi : Nat) (hhi : hi ≤ w.heap.size) (hl : (n : Int) ≤ 1048576) (hpr : (pr.size : Int) ≤ 140737488355328) (hf : ∀ i, i < n → ObFit (x i)) (hc : ObjsIn w lo hi ad n x) :
    Calls Tryz.prog 119 #[.slice ad n cap, .string ki, .string pr] w fun e w' => ∃ ad' cap' g A C hb, e = .returned (.slice ad' (flt (fun i => lkB (x i) ki pr) n).length cap') ∧ ObsAt w' ad' g (flt (fun i => lkB (x i) ki pr) n).length (pick x (flt (fun i => lkB (x i) ki pr) n)) A C hb ∧ (∀ q, blkH g (flt (fun i => lkB (x i) ki pr) n).length (fun i => (pick x (flt (fun i => lkB (x i) ki pr) n) i).hn) hb q → w.heap.size ≤ q) ∧ Below w.heap.size w w' := by
  obtain ⟨i0, hi0, hz0, hz1, hz2⟩ := info_parts Tryz.info73
  have HC := hid hc
  have HF := hid hf
  clear hc hf
  go_enter Tryz.func119, Tryz.ntmps119
  go_wp2
  have bd0 : BdOb (w.alloc (.cells #[] 73)) w.heap.size (.slice (some ⟨w.heap.size, 0, none⟩) 0 0) (flt (fun i => lkB (x i) ki pr) 0).length (pick x (flt (fun i => lkB (x i) ki pr) 0)) (fun _ => none) (fun _ => 0) (fun _ => 0) :=
    ⟨⟨fun _ => .int .i64 0, by simpa [rowCells, flt] using World.ownsRow_made (base := w.heap.size) (e := 73) (size := 7) w #[] 0 (Nat.le_refl _) (Nat.zero_le _) rfl, fun i hi => absurd hi (Nat.not_lt_zero _)⟩, fun i hi => absurd hi (Nat.not_lt_zero _), fun i hi => absurd hi (Nat.not_lt_zero _), fun i hi => absurd hi (Nat.not_lt_zero _), fun i j hi => absurd hi (Nat.not_lt_zero _)⟩
  go_loopw [7, 8] (fun o i wr => ∃ (k : Nat) (A : Nat → Option Addr) (C hb : Nat → Nat), k ≤ n ∧ i = .int .i64 k ∧ Below w.heap.size w wr ∧ BdOb wr w.heap.size o (flt (fun i => lkB (x i) ki pr) k).length (pick x (flt (fun i => lkB (x i) ki pr) k)) A C hb) (fun _ i _ => n - (intOf i).toNat)
  case atStart => exact ⟨0, _, _, _, Nat.zero_le _, rfl, below_alloc _ _, bd0⟩
  case round =>
    clear bd0
    obtain ⟨k, A, C, hb, hk, rfl, b0, bd⟩ := hrel
    by_cases hkn : k < n
    · obtain ⟨b, off, ah, ch, rfl, hlo, hbh, hcx, hsx⟩ := HC.out k hkn
      have hfk := (HF.out k hkn).h
      have hfn := (HF.out k hkn).n
      obtain ⟨e0, e1, e2, e3, e4, e5, e6⟩ := hcx.below b0 (by omega)
      have HSX := hid (hsx.below b0 hhi)
      have zr := b0.size
      have BD := hid bd
      have HCX := hid (hcx.below b0 (by omega))
      clear hcx hsx bd
      go_wp2_with fail
      refine (looks_any (x k) ah ch ki pr _ (by omega) hpr).mono ?_
      rintro e wq ⟨rfl, hbq⟩
      have zq := hbq.size
      cases hlk : lkB (x k) ki pr with
      | false =>
        have HN := hid (show flt (fun i => lkB (x i) ki pr) (k + 1) = flt (fun i => lkB (x i) ki pr) k from flt_no hlk)
        clear e0 e1 e2 e3 e4 e5 e6
        go_wp2
        go_roundw
        case rel => exact ⟨k + 1, A, C, hb, by omega, by go_num, b0.trans (hbq.mono zr), by rw [HN.out]; exact BD.out.grow hbq⟩
        case measure => simp [intOf]; omega
      | true =>
        have HN := hid (show flt (fun i => lkB (x i) ki pr) (k + 1) = flt (fun i => lkB (x i) ki pr) k ++ [k] from flt_yes hlk)
        clear e0 e1 e2 e3 e4 e5 e6
        obtain ⟨e0, e1, e2, e3, e4, e5, e6⟩ := HCX.out.below hbq (by omega)
        have hln := flt_len (fun i => lkB (x i) ki pr) k
        obtain ⟨L, hL⟩ : ∃ L, flt (fun i => lkB (x i) ki pr) k = L := ⟨_, rfl⟩
        rw [hL] at BD HN hln
        clear hL
        go_wp2_with fail
        refine (specOb_any (x k) ah ch _ lo hi (by omega) hfk (HSX.out.below hbq (by omega))).mono ?_
        rintro e w1 ⟨ad', cap', rfl, hs1, hb1⟩
        obtain ⟨b', ho1, hl1⟩ := hs1.one
        have z1 := hb1.size
        have HO1 := hid ho1
        have HL1 := hid hl1
        have BD0 := hid (BD.out.grow hbq)
        have BD1 := hid ((BD0.out.grow hb1).grow (below_alloc w1 (.cells #[.string (x k).kind, .string (x k).name, .int .i64 (x k).ver, .int .i64 (x k).born, .string (x k).text, .bool (x k).ending, .slice ad' (x k).hn cap'] 73)))
        obtain ⟨c, hown, hat⟩ := BD1.out.row
        have HAT := hid hat
        clear hs1 ho1 hl1 e0 e1 e2 e3 e4 e5 e6 hat
        go_wp2_with (at_builtin; go_must (refine wpList_append_own_at _ rfl _ _ 28 rfl w.heap.size 73 i0 _ 7 96 Tryz.underlying28 hi0 hz0 hz1 hz2 rfl (by decide) _ L.length (rowCells (L.length * 7) c) rfl hown ⟨w1.heap.size, 0, none⟩ 1 1 [.string (x k).kind, .string (x k).name, .int .i64 (x k).ver, .int .i64 (x k).born, .string (x k).text, .bool (x k).ending, .slice ad' (x k).hn cap'] rfl rfl (alloc_news w1 _ 73) (by simp [Value.oneCell']) (by unfold maxLen; omega) (by omega) (by simp; omega) ?_; intro v' w2 hown2 hgrow2 hnil2 hat2; clear hnil2))
        have hg2 := hgrow2.size
        have FB : ∀ o, FrP (fun _ => False) w1 (w1.alloc o) := fun o => FrP.of_below (below_alloc w1 o)
        have BD2 := hid (BD1.out.push (cap' := cap') HAT.out hown2 hgrow2 hat2 (HO1.out.frP (FB _) (fun h0 => ⟨fun h => h, (HL1.out h0).2⟩)) (fun h0 => ⟨by have := (HL1.out h0).1; omega, by have := (HL1.out h0).2; simp; omega⟩)
          (fun h0 e => by
            obtain ⟨c0, r0, _⟩ := BD0.out.row
            have h1 := (r0.lt _ e).2
            have h2 := (HL1.out h0).1
            omega)
          (fun i hi h0 h1 e => by
            have h2 := (BD0.out.hlt i hi h0).2
            have h3 := (HL1.out h1).1
            omega))
        have B2 : Below w.heap.size w w2 := by
          obtain ⟨c0, r0, _⟩ := BD0.out.row
          exact (((b0.trans (hbq.mono zr)).trans (hb1.mono (by omega))).alloc (by omega) _).trans ((FrP.of_grown hgrow2).below (fun q hq e => by have := (r0.lt q e).1; omega) (by simp; omega))
        clear hown hown2 hgrow2 hat2 FB
        go_wp2
        go_roundw
        case rel => exact ⟨k + 1, _, _, _, by omega, by go_num, B2, by rw [HN.out]; exact BD2.out⟩
        case measure => simp [intOf]; omega
    · have hke : k = n := by omega
      subst hke
      obtain ⟨ad', cap', g, e, at', hq⟩ := bd.done
      subst e
      have AT' := hid at'
      have HQ := hid hq
      clear at' bd hq
      go_wp2
      go_ret
      exact ⟨ad', cap', g, A, C, hb, rfl, AT'.out, HQ.out, b0⟩
def Holds (W : World) (B : Nat) (c : Array Value) : Prop := ∀ i, W.cell? ⟨B, i, none⟩ = c[i]?
theorem Holds.fr {W W' : World} {B lo hi : Nat} {c : Array Value} (h : Holds W B c) (hb : Fr lo hi W W') (hB : B < W.heap.size) (ho : B < lo ∨ hi ≤ B) : Holds W' B c := fun i => (hb.cell (p := ⟨B, i, none⟩) hB ho).trans (h i)
theorem Holds.below {W W' : World} {B n : Nat} {c : Array Value} (h : Holds W B c) (hb : Below n W W') (hB : B < n) : Holds W' B c := fun i => (hb.cell (p := ⟨B, i, none⟩) hB).trans (h i)
theorem holds_new (w : World) (c : Array Value) (t : TypeId) : Holds (w.alloc (.cells c t)) w.heap.size c := fun i => World.cell?_alloc_new w c t i
def bkCells (x : Bk) (a1 a2 a3 : Option Addr) (c1 c2 c3 : Nat) : Array Value := #[.int .i64 x.now, .int .i64 x.floor, .slice a1 x.on c1, .slice a2 x.hn c2, .slice a3 x.tn c3]
def obCells (y : Ob) (ad : Option Addr) (c : Nat) : Array Value := #[.string y.kind, .string y.name, .int .i64 y.ver, .int .i64 y.born, .string y.text, .bool y.ending, .slice ad y.hn c]
theorem holds_bk {W : World} {B : Nat} {x : Bk} {a1 a2 a3 : Option Addr} {c1 c2 c3 : Nat} (h : Holds W B (bkCells x a1 a2 a3 c1 c2 c3)) :
    W.cell? ⟨B, 0, none⟩ = some (.int .i64 x.now) ∧ W.cell? ⟨B, 1, none⟩ = some (.int .i64 x.floor) ∧ W.cell? ⟨B, 2, none⟩ = some (.slice a1 x.on c1) ∧ W.cell? ⟨B, 3, none⟩ = some (.slice a2 x.hn c2) ∧ W.cell? ⟨B, 4, none⟩ = some (.slice a3 x.tn c3) := ⟨h 0, h 1, h 2, h 3, h 4⟩
theorem holds_ob {W : World} {B : Nat} {y : Ob} {ad : Option Addr} {c : Nat} (h : Holds W B (obCells y ad c)) :
    W.cell? ⟨B, 0, none⟩ = some (.string y.kind) ∧ W.cell? ⟨B, 1, none⟩ = some (.string y.name) ∧ W.cell? ⟨B, 2, none⟩ = some (.int .i64 y.ver) ∧ W.cell? ⟨B, 3, none⟩ = some (.int .i64 y.born) ∧ W.cell? ⟨B, 4, none⟩ = some (.string y.text) ∧ W.cell? ⟨B, 5, none⟩ = some (.bool y.ending) ∧ W.cell? ⟨B, 6, none⟩ = some (.slice ad y.hn c) := ⟨h 0, h 1, h 2, h 3, h 4, h 5, h 6⟩
end Go.Proofs.YtkecnaaacbckoaaGreat
