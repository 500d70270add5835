import Derived.Test.YtkecnaaacbckoaaGreatOb
import Derived.Test.YtkecnaaacbckoaaGreatGj
import Derived.RangeFuncNested
import Derived.RangeFuncBound
import Derived.RangeFuncCalls
import Derived.RangeFuncLeaves
import Derived.Shelf.Abstract
import Derived.Shelf.RegionOpen
import Derived.WalkKit
import Derived.OwnWalkIn
import Derived.TacticsInMore
import Derived.LoopNIn
import Derived.LoopIn
import Derived.OrdersIn
import Derived.Maps.OwnIn
import Derived.Maps.AppendAt
import Derived.Test.YtkecnaaacbckoaaGreatI
import Derived.Test.YtkecnaaacbckoaaGreatE
import Derived.Laws.Tables
import Derived.Deep.RegionWith
namespace Go.Proofs.YtkecnaaacbckoaaGreat
open Go.RowKit
def pfB (s p : ByteArray) : Bool := decide (p.size ≤ s.size) && ((s.extract 0 p.size).toList == p.toList)
set_option maxRecDepth 100000 in
theorem hasPrefix0_any (s p : ByteArray) (w : World) (_hs : (s.size : Int) ≤ 140737488355328) (_hp : (p.size : Int) ≤ 140737488355328) : Calls Tryz.prog 156 #[.string s, .string p] w fun e w' => e = .returned (.bool (pfB s p)) ∧ w' = w := by
  by_cases h : (p.size : Int) ≤ s.size
  · go_enter Tryz.func156, Tryz.ntmps156
    go_wp2
    go_ret
    exact ⟨ret_bool (by unfold pfB; rw [decide_eq_true (by omega)]; rfl), rfl⟩
  · go_enter Tryz.func156, Tryz.ntmps156
    go_wp2
    go_ret
    exact ⟨ret_bool (by unfold pfB; rw [decide_eq_false (by omega)]; rfl), rfl⟩
set_option maxRecDepth 100000 in
theorem hasPrefix_any (s p : ByteArray) (w : World) (hs : (s.size : Int) ≤ 140737488355328) (hp : (p.size : Int) ≤ 140737488355328) : Calls Tryz.prog 117 #[.string s, .string p] w fun e w' => e = .returned (.bool (pfB s p)) ∧ w' = w := by
  go_enter Tryz.func117, Tryz.ntmps117
  go_wp2_with (go_at_call 156; refine (hasPrefix0_any _ _ _ hs hp).mono ?_; rintro e w1 ⟨rfl, rfl⟩)
  go_ret
  exact ⟨rfl, rfl⟩
def lkB (o : Ob) (ki pr : ByteArray) : Bool := (ki.toList == [] || o.kind.toList == ki.toList) && pfB o.name pr
set_option maxRecDepth 100000 in
set_option maxHeartbeats 400000 in
theorem isOf_any (o : Ob) (ad : Option Addr) (cap : Nat) (ki pr : ByteArray) (w : World) (hs : (o.name.size : Int) ≤ 140737488355328) (hp : (pr.size : Int) ≤ 140737488355328) :
    Calls Tryz.prog 74 #[.agg #[.string o.kind, .string o.name, .int .i64 o.ver, .int .i64 o.born, .string o.text, .bool o.ending, .slice ad o.hn cap], .string ki, .string pr] w fun e w' => e = .returned (.bool (lkB o ki pr)) ∧ Below w.heap.size w w' := by
  cases h1 : (ki.toList == []) with
  | true =>
    have HE := hid (show lkB o ki pr = pfB o.name pr by unfold lkB; rw [h1]; rfl)
    go_enter Tryz.func74, Tryz.ntmps74
    go_wp2_with (go_at_call 117; refine (hasPrefix_any _ _ _ hs hp).mono ?_; rintro e w1 ⟨rfl, rfl⟩)
    go_ret
    exact ⟨ret_bool HE.out.symm, below_alloc' _ _⟩
  | false =>
    cases h2 : (o.kind.toList == ki.toList) with
    | true =>
      have HE := hid (show lkB o ki pr = pfB o.name pr by unfold lkB; rw [h1, h2]; rfl)
      go_enter Tryz.func74, Tryz.ntmps74
      go_wp2_with (go_at_call 117; refine (hasPrefix_any _ _ _ hs hp).mono ?_; rintro e w1 ⟨rfl, rfl⟩)
      go_ret
      exact ⟨ret_bool HE.out.symm, below_alloc' _ _⟩
    | false =>
      have HE := hid (show lkB o ki pr = false by unfold lkB; rw [h1, h2]; rfl)
      go_enter Tryz.func74, Tryz.ntmps74
      go_wp2
      go_ret
      exact ⟨ret_bool HE.out.symm, below_alloc' _ _⟩
set_option maxRecDepth 100000 in
set_option maxHeartbeats 400000 in
theorem looks_any (o : Ob) (ad : Option Addr) (cap : Nat) (ki pr : ByteArray) (w : World) (_hs : (o.name.size : Int) ≤ 140737488355328) (_hp : (pr.size : Int) ≤ 140737488355328) :
    Calls Tryz.prog 116 #[.agg #[.string o.kind, .string o.name, .int .i64 o.ver, .int .i64 o.born, .string o.text, .bool o.ending, .slice ad o.hn cap], .string ki, .string pr] w fun e w' => e = .returned (.bool (lkB o ki pr)) ∧ Below w.heap.size w w' := by
  cases hk : (ki.toList == [] || o.kind.toList == ki.toList) with
  | false =>
    have HE := hid (show lkB o ki pr = false by unfold lkB; rw [hk]; rfl)
    have h1 : (ki.toList == []) = false := by cases h : (ki.toList == []) <;> simp_all
    have h2 : (o.kind.toList == ki.toList) = false := by cases h : (o.kind.toList == ki.toList) <;> simp_all
    clear hk
    go_enter Tryz.func116, Tryz.ntmps116
    go_wp2
    go_ret
    exact ⟨ret_bool HE.out.symm, below_alloc' _ _⟩
  | true =>
    have HE := hid (show lkB o ki pr = pfB o.name pr by unfold lkB; rw [hk]; rfl)
    by_cases h3 : (pr.size : Int) ≤ o.name.size
    · have HF := hid (show pfB o.name pr = ((o.name.extract 0 pr.size).toList == pr.toList) by unfold pfB; rw [decide_eq_true (by omega)]; rfl)
      cases h1 : (ki.toList == []) with
      | true =>
        clear hk
        go_enter Tryz.func116, Tryz.ntmps116
        go_wp2
        go_ret
        exact ⟨ret_bool (HE.out.trans HF.out).symm, below_alloc' _ _⟩
      | false =>
        have h2 : (o.kind.toList == ki.toList) = true := by rw [h1] at hk; simpa using hk
        clear hk
        go_enter Tryz.func116, Tryz.ntmps116
        go_wp2
        go_ret
        exact ⟨ret_bool (HE.out.trans HF.out).symm, below_alloc' _ _⟩
    · have HF := hid (show pfB o.name pr = false by unfold pfB; rw [decide_eq_false (by omega)]; rfl)
      cases h1 : (ki.toList == []) with
      | true =>
        clear hk
        go_enter Tryz.func116, Tryz.ntmps116
        go_wp2
        go_ret
        exact ⟨ret_bool (HE.out.trans HF.out).symm, below_alloc' _ _⟩
      | false =>
        have h2 : (o.kind.toList == ki.toList) = true := by rw [h1] at hk; simpa using hk
        clear hk
        go_enter Tryz.func116, Tryz.ntmps116
        go_wp2
        go_ret
        exact ⟨ret_bool (HE.out.trans HF.out).symm, below_alloc' _ _⟩
/-- which of the first k are picked -/
def flt (p : Nat → Bool) : Nat → List Nat
  | 0 => []
  | k + 1 => if p k then flt p k ++ [k] else flt p k
theorem flt_yes {p : Nat → Bool} {k : Nat} (h : p k = true) : flt p (k + 1) = flt p k ++ [k] := by rw [flt, if_pos h]
theorem flt_no {p : Nat → Bool} {k : Nat} (h : p k = false) : flt p (k + 1) = flt p k := by
  rw [flt, if_neg (by rw [h]; decide)]
theorem flt_len (p : Nat → Bool) : ∀ k, (flt p k).length ≤ k
  | 0 => Nat.le_refl _
  | k + 1 => by
    have := flt_len p k
    unfold flt
    split <;> simp <;> omega
theorem flt_lt {p : Nat → Bool} : ∀ {k i : Nat}, i ∈ flt p k → i < k
  | 0, _, h => by cases h
  | k + 1, i, h => by
    unfold flt at h
    split at h
    · rw [List.mem_append] at h
      rcases h with h | h
      · have := flt_lt h; omega
      · have : i = k := by simpa using h
        omega
    · have := flt_lt h; omega
def pick {α : Type} (x : Nat → α) (l : List Nat) : Nat → α := fun j => x (l.getD j 0)
theorem pick_old {α : Type} {x : Nat → α} {l : List Nat} {k i : Nat} (h : i < l.length) : pick x (l ++ [k]) i = pick x l i := by
  unfold pick
  rw [List.getD_eq_getElem?_getD, List.getD_eq_getElem?_getD, List.getElem?_append_left h]
theorem pick_new {α : Type} {x : Nat → α} {l : List Nat} {k : Nat} : pick x (l ++ [k]) l.length = x k := by
  unfold pick
  simp
theorem pick_mem {α : Type} {x : Nat → α} {p : Nat → Bool} {n i : Nat} (h : i < (flt p n).length) : ∃ k, k < n ∧ pick x (flt p n) i = x k := by
  refine ⟨(flt p n).getD i 0, ?_, rfl⟩
  rw [List.getD_eq_getElem?_getD, List.getElem?_eq_getElem h]
  exact flt_lt (List.getElem_mem h)
theorem BdOb.congr {w : World} {base : Nat} {v : Value} {k : Nat} {x y : Nat → Ob} {A : Nat → Option Addr} {C hb : Nat → Nat} (h : BdOb w base v k x A C hb) (e : ∀ i, i < k → x i = y i) : BdOb w base v k y A C hb :=
  ⟨by obtain ⟨c, r, q⟩ := h.row; exact ⟨c, r, fun i hi => e i hi ▸ q i hi⟩, fun i hi => e i hi ▸ h.hold i hi, fun i hi h0 => h.hlt i hi (by rw [e i hi]; exact h0), fun i hi h0 => h.ne i hi (by rw [e i hi]; exact h0), fun i j hi hj h0 h1 => h.inj i j hi hj (by rw [e i hi]; exact h0) (by rw [e j hj]; exact h1)⟩
theorem BdOb.push {w : World} {base : Nat} {v : Value} {l : List Nat} {k : Nat} {x : Nat → Ob} {A : Nat → Option Addr} {C hb : Nat → Nat} {w' : World} {v' : Value} {c : Nat → Value} {ad' : Option Addr} {cap' b' : Nat} (h : BdOb w base v l.length (pick x l) A C hb) (hat : ∀ i, i < l.length → atOb c i (pick x l i) (A i) (C i))
    (ho : w'.ownsRow base 73 7 v' (l.length + 1) (rowCells (l.length * 7) c ++ [.string (x k).kind, .string (x k).name, .int .i64 (x k).ver, .int .i64 (x k).born, .string (x k).text, .bool (x k).ending, .slice ad' (x k).hn cap'])) (hg : w.grownBy w' v.ownBlock) (hw : v'.ownBlock = v.ownBlock ∨ v'.ownBlock = some w.heap.size)
    (hs : StrsOwn w b' (b' + 1) ad' (x k).hn (x k).hs) (hl : (x k).hn ≠ 0 → base ≤ b' ∧ b' < w.heap.size) (hv : (x k).hn ≠ 0 → v.ownBlock ≠ some b') (hd : ∀ i, i < l.length → (pick x l i).hn ≠ 0 → (x k).hn ≠ 0 → hb i ≠ b') :
    BdOb w' base v' (l ++ [k]).length (pick x (l ++ [k])) (updF A l.length ad') (updF C l.length cap') (updF hb l.length b') := by
  have e : (l ++ [k]).length = l.length + 1 := by simp
  rw [e]
  have hp : pick x (l ++ [k]) l.length = x k := pick_new
  refine BdOb.app (x := pick x (l ++ [k])) (h.congr (fun i hi => (pick_old hi).symm)) (c := c) (fun i hi => by rw [pick_old hi]; exact hat i hi) (by rw [hp]; exact ho) hg hw (by rw [hp]; exact hs) (by rw [hp]; exact hl) (by rw [hp]; exact hv) (fun i hi => by rw [hp, pick_old hi]; exact hd i hi)
set_option maxRecDepth 100000 in
set_option maxHeartbeats 2000000 in
theorem specList_any (n : Nat) (x : Nat → Ob) (ad : Option Addr) (cap : Nat) (ki pr : ByteArray) (w : World) (lo hi : Nat) (hhi : hi ≤ w.heap.size) (hl : (n : Int) ≤ 1048576) (hpr : (pr.size : Int) ≤ 140737488355328) (hf : ∀ i, i < n → ObFit (x i)) (hc : ObjsIn w lo hi ad n x) :
    Calls Tryz.prog 119 #[.slice ad n cap, .string ki, .string pr] w fun e w' => ∃ ad' cap' g A C hb, e = .returned (.slice ad' (flt (fun i => lkB (x i) ki pr) n).length cap') ∧ ObsAt w' ad' g (flt (fun i => lkB (x i) ki pr) n).length (pick x (flt (fun i => lkB (x i) ki pr) n)) A C hb ∧ (∀ q, blkH g (flt (fun i => lkB (x i) ki pr) n).length (fun i => (pick x (flt (fun i => lkB (x i) ki pr) n) i).hn) hb q → w.heap.size ≤ q) ∧ Below w.heap.size w w' := by
  obtain ⟨i0, hi0, hz0, hz1, hz2⟩ := info_parts Tryz.info73
  have HC := hid hc
  have HF := hid hf
  clear hc hf
  go_enter Tryz.func119, Tryz.ntmps119
  go_wp2
  have bd0 : BdOb (w.alloc (.cells #[] 73)) w.heap.size (.slice (some ⟨w.heap.size, 0, none⟩) 0 0) (flt (fun i => lkB (x i) ki pr) 0).length (pick x (flt (fun i => lkB (x i) ki pr) 0)) (fun _ => none) (fun _ => 0) (fun _ => 0) :=
    ⟨⟨fun _ => .int .i64 0, by simpa [rowCells, flt] using World.ownsRow_made (base := w.heap.size) (e := 73) (size := 7) w #[] 0 (Nat.le_refl _) (Nat.zero_le _) rfl, fun i hi => absurd hi (Nat.not_lt_zero _)⟩, fun i hi => absurd hi (Nat.not_lt_zero _), fun i hi => absurd hi (Nat.not_lt_zero _), fun i hi => absurd hi (Nat.not_lt_zero _), fun i j hi => absurd hi (Nat.not_lt_zero _)⟩
  go_loopw [7, 8] (fun o i wr => ∃ (k : Nat) (A : Nat → Option Addr) (C hb : Nat → Nat), k ≤ n ∧ i = .int .i64 k ∧ Below w.heap.size w wr ∧ BdOb wr w.heap.size o (flt (fun i => lkB (x i) ki pr) k).length (pick x (flt (fun i => lkB (x i) ki pr) k)) A C hb) (fun _ i _ => n - (intOf i).toNat)
  case atStart => exact ⟨0, _, _, _, Nat.zero_le _, rfl, below_alloc _ _, bd0⟩
  case round =>
    clear bd0
    obtain ⟨k, A, C, hb, hk, rfl, b0, bd⟩ := hrel
    by_cases hkn : k < n
    · obtain ⟨b, off, ah, ch, rfl, hlo, hbh, hcx, hsx⟩ := HC.out k hkn
      have hfk := (HF.out k hkn).h
      have hfn := (HF.out k hkn).n
      obtain ⟨e0, e1, e2, e3, e4, e5, e6⟩ := hcx.below b0 (by omega)
      have HSX := hid (hsx.below b0 hhi)
      have zr := b0.size
      have BD := hid bd
      have HCX := hid (hcx.below b0 (by omega))
      clear hcx hsx bd
      go_wp2_with fail
      refine (looks_any (x k) ah ch ki pr _ (by omega) hpr).mono ?_
      rintro e wq ⟨rfl, hbq⟩
      have zq := hbq.size
      cases hlk : lkB (x k) ki pr with
      | false =>
        have HN := hid (show flt (fun i => lkB (x i) ki pr) (k + 1) = flt (fun i => lkB (x i) ki pr) k from flt_no hlk)
        clear e0 e1 e2 e3 e4 e5 e6
        go_wp2
        go_roundw
        case rel => exact ⟨k + 1, A, C, hb, by omega, by go_num, b0.trans (hbq.mono zr), by rw [HN.out]; exact BD.out.grow hbq⟩
        case measure => simp [intOf]; omega
      | true =>
        have HN := hid (show flt (fun i => lkB (x i) ki pr) (k + 1) = flt (fun i => lkB (x i) ki pr) k ++ [k] from flt_yes hlk)
        clear e0 e1 e2 e3 e4 e5 e6
        obtain ⟨e0, e1, e2, e3, e4, e5, e6⟩ := HCX.out.below hbq (by omega)
        have hln := flt_len (fun i => lkB (x i) ki pr) k
        obtain ⟨L, hL⟩ : ∃ L, flt (fun i => lkB (x i) ki pr) k = L := ⟨_, rfl⟩
        rw [hL] at BD HN hln
        clear hL
        go_wp2_with fail
        refine (specOb_any (x k) ah ch _ lo hi (by omega) hfk (HSX.out.below hbq (by omega))).mono ?_
        rintro e w1 ⟨ad', cap', rfl, hs1, hb1⟩
        obtain ⟨b', ho1, hl1⟩ := hs1.one
        have z1 := hb1.size
        have HO1 := hid ho1
        have HL1 := hid hl1
        have BD0 := hid (BD.out.grow hbq)
        have BD1 := hid ((BD0.out.grow hb1).grow (below_alloc w1 (.cells #[.string (x k).kind, .string (x k).name, .int .i64 (x k).ver, .int .i64 (x k).born, .string (x k).text, .bool (x k).ending, .slice ad' (x k).hn cap'] 73)))
        obtain ⟨c, hown, hat⟩ := BD1.out.row
        have HAT := hid hat
        clear hs1 ho1 hl1 e0 e1 e2 e3 e4 e5 e6 hat
        go_wp2_with (at_builtin; go_must (refine wpList_append_own_at _ rfl _ _ 28 rfl w.heap.size 73 i0 _ 7 96 Tryz.underlying28 hi0 hz0 hz1 hz2 rfl (by decide) _ L.length (rowCells (L.length * 7) c) rfl hown ⟨w1.heap.size, 0, none⟩ 1 1 [.string (x k).kind, .string (x k).name, .int .i64 (x k).ver, .int .i64 (x k).born, .string (x k).text, .bool (x k).ending, .slice ad' (x k).hn cap'] rfl rfl (alloc_news w1 _ 73) (by simp [Value.oneCell']) (by unfold maxLen; omega) (by omega) (by simp; omega) ?_; intro v' w2 hown2 hgrow2 hnil2 hat2; clear hnil2))
        have hg2 := hgrow2.size
        have FB : ∀ o, FrP (fun _ => False) w1 (w1.alloc o) := fun o => FrP.of_below (below_alloc w1 o)
        have BD2 := hid (BD1.out.push (cap' := cap') HAT.out hown2 hgrow2 hat2 (HO1.out.frP (FB _) (fun h0 => ⟨fun h => h, (HL1.out h0).2⟩)) (fun h0 => ⟨by have := (HL1.out h0).1; omega, by have := (HL1.out h0).2; simp; omega⟩)
          (fun h0 e => by
            obtain ⟨c0, r0, _⟩ := BD0.out.row
            have h1 := (r0.lt _ e).2
            have h2 := (HL1.out h0).1
            omega)
          (fun i hi h0 h1 e => by
            have h2 := (BD0.out.hlt i hi h0).2
            have h3 := (HL1.out h1).1
            omega))
        have B2 : Below w.heap.size w w2 := by
          obtain ⟨c0, r0, _⟩ := BD0.out.row
          exact (((b0.trans (hbq.mono zr)).trans (hb1.mono (by omega))).alloc (by omega) _).trans ((FrP.of_grown hgrow2).below (fun q hq e => by have := (r0.lt q e).1; omega) (by simp; omega))
        clear hown hown2 hgrow2 hat2 FB
        go_wp2
        go_roundw
        case rel => exact ⟨k + 1, _, _, _, by omega, by go_num, B2, by rw [HN.out]; exact BD2.out⟩
        case measure => simp [intOf]; omega
    · have hke : k = n := by omega
      subst hke
      obtain ⟨ad', cap', g, e, at', hq⟩ := bd.done
      subst e
      have AT' := hid at'
      have HQ := hid hq
      clear at' bd hq
      go_wp2
      go_ret
      exact ⟨ad', cap', g, A, C, hb, rfl, AT'.out, HQ.out, b0⟩
def Holds (W : World) (B : Nat) (c : Array Value) : Prop := ∀ i, W.cell? ⟨B, i, none⟩ = c[i]?
theorem Holds.fr {W W' : World} {B lo hi : Nat} {c : Array Value} (h : Holds W B c) (hb : Fr lo hi W W') (hB : B < W.heap.size) (ho : B < lo ∨ hi ≤ B) : Holds W' B c := fun i => (hb.cell (p := ⟨B, i, none⟩) hB ho).trans (h i)
theorem Holds.below {W W' : World} {B n : Nat} {c : Array Value} (h : Holds W B c) (hb : Below n W W') (hB : B < n) : Holds W' B c := fun i => (hb.cell (p := ⟨B, i, none⟩) hB).trans (h i)
theorem holds_new (w : World) (c : Array Value) (t : TypeId) : Holds (w.alloc (.cells c t)) w.heap.size c := fun i => World.cell?_alloc_new w c t i
def bkCells (x : Bk) (a1 a2 a3 : Option Addr) (c1 c2 c3 : Nat) : Array Value := #[.int .i64 x.now, .int .i64 x.floor, .slice a1 x.on c1, .slice a2 x.hn c2, .slice a3 x.tn c3]
def obCells (y : Ob) (ad : Option Addr) (c : Nat) : Array Value := #[.string y.kind, .string y.name, .int .i64 y.ver, .int .i64 y.born, .string y.text, .bool y.ending, .slice ad y.hn c]
theorem holds_bk {W : World} {B : Nat} {x : Bk} {a1 a2 a3 : Option Addr} {c1 c2 c3 : Nat} (h : Holds W B (bkCells x a1 a2 a3 c1 c2 c3)) :
    W.cell? ⟨B, 0, none⟩ = some (.int .i64 x.now) ∧ W.cell? ⟨B, 1, none⟩ = some (.int .i64 x.floor) ∧ W.cell? ⟨B, 2, none⟩ = some (.slice a1 x.on c1) ∧ W.cell? ⟨B, 3, none⟩ = some (.slice a2 x.hn c2) ∧ W.cell? ⟨B, 4, none⟩ = some (.slice a3 x.tn c3) := ⟨h 0, h 1, h 2, h 3, h 4⟩
theorem holds_ob {W : World} {B : Nat} {y : Ob} {ad : Option Addr} {c : Nat} (h : Holds W B (obCells y ad c)) :
    W.cell? ⟨B, 0, none⟩ = some (.string y.kind) ∧ W.cell? ⟨B, 1, none⟩ = some (.string y.name) ∧ W.cell? ⟨B, 2, none⟩ = some (.int .i64 y.ver) ∧ W.cell? ⟨B, 3, none⟩ = some (.int .i64 y.born) ∧ W.cell? ⟨B, 4, none⟩ = some (.string y.text) ∧ W.cell? ⟨B, 5, none⟩ = some (.bool y.ending) ∧ W.cell? ⟨B, 6, none⟩ = some (.slice ad y.hn c) := ⟨h 0, h 1, h 2, h 3, h 4, h 5, h 6⟩
end Go.Proofs.YtkecnaaacbckoaaGreat
namespace Go.Proofs.YtkecnaaacbckoaaGreat
open Go.RowKit Go.Shelf
attribute [local go_sem] Oper.semAt_some
theorem grown_of_below {w w' : World} (h : Below w.heap.size w w') : w.grownBy w' none := ⟨h.os, h.tape, h.output, h.size, fun k hk _ => h.block k hk⟩
/-- the objects of a list, with the slices of their holds told -/
structure ObSrc (w : World) (hi : Nat) (ad : Option Addr) (n : Nat) (x : Nat → Ob) (A : Nat → Option Addr) (C : Nat → Nat) : Prop where
  cells : ∀ i, i < n → ∃ b off, ad = some ⟨b, off, none⟩ ∧ b < hi ∧ ObCells w b (off + i * 7) (x i) (A i) (C i)
  holds : ∀ i, i < n → StrsIn w 0 hi (A i) (x i).hn (x i).hs
theorem ObjsIn.choose {w : World} {lo hi : Nat} {ad : Option Addr} {n : Nat} {x : Nat → Ob} (h : ObjsIn w lo hi ad n x) : ∃ A C, ObSrc w hi ad n x A C := by
  have h1 : ∀ i, ∃ q : Option Addr × Nat, i < n → ∃ b off, ad = some ⟨b, off, none⟩ ∧ b < hi ∧ ObCells w b (off + i * 7) (x i) q.1 q.2 ∧ StrsIn w 0 hi q.1 (x i).hn (x i).hs := fun i => by
    by_cases hi' : i < n
    · obtain ⟨b, off, ah, ch, e1, _, e3, e4, e5⟩ := h i hi'
      exact ⟨(ah, ch), fun _ => ⟨b, off, e1, e3, e4, fun j hj => by obtain ⟨b2, o2, f1, _, f3, f4⟩ := e5 j hj; exact ⟨b2, o2, f1, Nat.zero_le _, f3, f4⟩⟩⟩
    · exact ⟨(none, 0), fun h => absurd h hi'⟩
  obtain ⟨q, hq⟩ := Classical.skolem.1 h1
  exact ⟨fun i => (q i).1, fun i => (q i).2, ⟨fun i hi' => by obtain ⟨b, off, e1, e2, e3, _⟩ := hq i hi'; exact ⟨b, off, e1, e2, e3⟩, fun i hi' => by obtain ⟨b, off, _, _, _, e⟩ := hq i hi'; exact e⟩⟩
theorem ObSrc.frP {w w' : World} {hi : Nat} {ad : Option Addr} {n : Nat} {x : Nat → Ob} {A : Nat → Option Addr} {C : Nat → Nat} {P : Nat → Prop} (h : ObSrc w hi ad n x A C) (hf : FrP P w w') (hp : ∀ q, q < hi → ¬ P q) (hhi : hi ≤ w.heap.size) : ObSrc w' hi ad n x A C := by
  have hb : Below hi w w' := hf.below hp hhi
  exact ⟨fun i hi' => by obtain ⟨b, off, e1, e2, e3⟩ := h.cells i hi'; exact ⟨b, off, e1, e2, e3.below hb e2⟩, fun i hi' => (h.holds i hi').below hb (Nat.le_refl _)⟩
/-- an index of a list -/
abbrev Ix (n : Nat) := { k : Nat // k < n }
def obV (x : Ob) (a : Option Addr) (c : Nat) : Value := .agg #[.string x.kind, .string x.name, .int .i64 x.ver, .int .i64 x.born, .string x.text, .bool x.ending, .slice a x.hn c]
def ixs {n : Nat} (l : List (Ix n)) : List Nat := l.map (·.1)
theorem ixs_snoc {n : Nat} (l : List (Ix n)) (k : Ix n) : ixs (l ++ [k]) = ixs l ++ [k.1] := by simp [ixs]
theorem ixs_len {n : Nat} (l : List (Ix n)) : (ixs l).length = l.length := by simp [ixs]
set_option maxRecDepth 100000 in
set_option maxHeartbeats 2000000 in
theorem walk1_in (F : Fence) (m : Nat) (h51 : F.fn 143) (h52 : F.fn 74) (hro : F.round = none) (hm : 1 ≤ m) (l Bo Bk Bp hi : Nat) (Pk : Nat → Prop) (n : Nat) (x : Nat → Ob) (ad : Option Addr) (cap : Nat) (A : Nat → Option Addr) (C : Nat → Nat) (ki pr : ByteArray) (hl : (n : Int) ≤ 1048576) (J Jx : List (Ix n) → World → Prop)
    (hIs : ∀ (i : Nat) (w : World), i < n → CallsIn F (m - 1) Tryz.prog 74 #[obV (x i) (A i) (C i), .string ki, .string pr] w fun e w' => e = .returned (.bool (lkB (x i) ki pr)) ∧ Below w.heap.size w w')
    (W : World) (hJ : AbidesFrom W.heap.size J)
    (hY : ∀ pre x' W1, J pre W1 → pre.length < n → YieldAt F (m - 1) Tryz.prog l #[obV (x x'.1) (A x'.1) (C x'.1)] W1 fun e W' =>
      (e = .returned (.bool true) ∧ J (pre ++ [x']) W' ∧ FrP Pk W1 W') ∨ (e = .returned (.bool false) ∧ Jx (pre ++ [x']) W'))
    (hBo : W.cell? ⟨Bo, 0, none⟩ = some (.slice ad n cap)) (hBk : W.cell? ⟨Bk, 0, none⟩ = some (.string ki)) (hBp : W.cell? ⟨Bp, 0, none⟩ = some (.string pr))
    (hk : Bk < W.heap.size ∧ ¬ Pk Bk) (hp : Bp < W.heap.size ∧ ¬ Pk Bp) (hhi : hi ≤ W.heap.size) (hPk : ∀ q, q < hi → ¬ Pk q) (hs : ObSrc W hi ad n x A C) (h0 : J [] W) :
    CallsIn F m Tryz.prog 143 #[.func (.yield l) #[] #[], .pointer (some ⟨Bo, 0, none⟩), .pointer (some ⟨Bk, 0, none⟩), .pointer (some ⟨Bp, 0, none⟩)] W fun e W' => (∃ v, e = .returned v) ∧
      ((∃ ys, ixs ys = flt (fun i => lkB (x i) ki pr) n ∧ J ys W') ∨ (∃ pre, True ∧ Jx pre W')) := by
  refine callsIn_of_wp Tryz.func143 rfl h51 ?_ hro
  simp only [Tryz.ntmps143, List.size_toArray, List.length_cons, List.length_nil, Nat.reduceAdd, Nat.reduceSub, Array.replicate_succ, Array.replicate_zero, List.push_toArray, List.append_toArray, List.nil_append, List.cons_append]
  have HS := hid hs
  clear hs
  gi_wp2
  gi_loopw [9] (fun i wr => ∃ (k : Nat) (pre : List (Ix n)), k ≤ n ∧ i = .int .i64 k ∧ ixs pre = flt (fun i => lkB (x i) ki pr) k ∧ J pre wr ∧ FrP Pk W wr)
    (fun i _ => n - (intOf i).toNat)
  case atStart => exact ⟨0, [], Nat.zero_le _, rfl, rfl, h0, FrP.refl _ _⟩
  case round =>
    obtain ⟨k, pre, hkn, rfl, hpre, hJs, hf⟩ := hrel
    have hck : wr.cell? ⟨Bk, 0, none⟩ = some (.string ki) := (hf.cell (p := ⟨Bk, 0, none⟩) hk.1 hk.2).trans hBk
    have hcp : wr.cell? ⟨Bp, 0, none⟩ = some (.string pr) := (hf.cell (p := ⟨Bp, 0, none⟩) hp.1 hp.2).trans hBp
    by_cases hlt : k < n
    · obtain ⟨b, off, rfl, hbh, hcx⟩ := HS.out.cells k hlt
      have hbw : Below hi W wr := hf.below hPk hhi
      obtain ⟨e0, e1, e2, e3, e4, e5, e6⟩ := hcx.below hbw hbh
      have hI := hIs k
      unfold obV at hI
      have zr := hf.size
      have hck' : ∀ o, (wr.alloc o).cell? ⟨Bk, 0, none⟩ = some (.string ki) := fun o => (World.cell?_alloc_past _ _ _ (by have := hk.1; simp; omega)).trans hck
      have hcp' : ∀ o, (wr.alloc o).cell? ⟨Bp, 0, none⟩ = some (.string pr) := fun o => (World.cell?_alloc_past _ _ _ (by have := hp.1; simp; omega)).trans hcp
      have HY := hid hY
      clear hY hIs
      have hpl : pre.length < n := by
        have h1 := ixs_len pre
        rw [hpre] at h1
        have h2 := flt_len (fun i => lkB (x i) ki pr) k
        omega
      cases hlk : lkB (x k) ki pr with
      | false =>
        simp only [hlk] at hI
        have HN := hid (show ixs pre = flt (fun i => lkB (x i) ki pr) (k + 1) from hpre.trans (flt_no hlk).symm)
        clear HY
        gi_wp2_with (gi_at_call 74; go_must (refine (hI _ hlt).mono ?_; rintro e w1 ⟨rfl, hb1⟩; have hbw1 : Below wr.heap.size wr w1 := (below_alloc wr _).trans (hb1.mono (by simp)); clear e0 e1 e2 e3 e4 e5 e6))
        refine ⟨fun _ h => (by cases h), ?_⟩
        gi_wp2
        go_roundw
        case rel => exact ⟨k + 1, pre, by omega, by go_num, HN.out, hJ pre wr w1 none hJs (grown_of_below hbw1) (fun r e => by cases e), hf.trans (FrP.of_below hbw1)⟩
        case measure => simp [intOf]; omega
      | true =>
        simp only [hlk] at hI
        have HN := hid (show ixs (pre ++ [⟨k, hlt⟩]) = flt (fun i => lkB (x i) ki pr) (k + 1) from (ixs_snoc _ _).trans ((congrArg (· ++ [k]) hpre).trans (flt_yes hlk).symm))
        gi_wp2_with (gi_at_call 74; go_must (refine (hI _ hlt).mono ?_; rintro e w1 ⟨rfl, hb1⟩; have hbw1 : Below wr.heap.size wr w1 := (below_alloc wr _).trans (hb1.mono (by simp)); clear e0 e1 e2 e3 e4 e5 e6; obtain ⟨q0, q1, q2, q3, q4, q5, q6⟩ := holds_ob ((holds_new wr (obCells (x k) (A k) (C k)) 73).below hb1 (by simp)); obtain ⟨fn, tmps, assign, body, hy, hR⟩ := HY.out pre ⟨k, hlt⟩ w1 (hJ pre wr w1 none hJs (grown_of_below hbw1) (fun r e => by cases e)) hpl; unfold obV at hy; dsimp only at hy))
        refine hR.mono ?_
        rintro e W3 (⟨rfl, hJ3, hk3⟩ | ⟨rfl, hJx3⟩)
        · gi_wp2
          go_roundw
          case rel => exact ⟨k + 1, pre ++ [⟨k, hlt⟩], by omega, by go_num, HN.out, hJ3, (hf.trans (FrP.of_below hbw1)).trans hk3⟩
          case measure => simp [intOf]; omega
        · gi_wp2
          refine bodyPost_ret (results_none rfl _ _ _) rfl ?_
          exact ⟨⟨_, rfl⟩, .inr ⟨pre ++ [⟨k, hlt⟩], trivial, hJx3⟩⟩
    · obtain rfl : k = n := by omega
      gi_wp2
      go_end0
      exact ⟨⟨_, rfl⟩, .inl ⟨_, hpre, hJs⟩⟩
end Go.Proofs.YtkecnaaacbckoaaGreat
namespace Go.Proofs.YtkecnaaacbckoaaGreat
open Go.RowKit Go.Shelf
theorem wpOpIn_mono {F : Fence} {n : Nat} {P : Program} {ops : Array Oper} {Q : Exit → Act → World → Prop} {i : Nat} {K K' : Act → World → Prop} {a : Act} {w : World} (h : ∀ a w, K a w → K' a w) (hh : wpOpIn F n P ops Q i K a w) : wpOpIn F n P ops Q i K' a w := by
  unfold wpOpIn at *
  split at hh
  · exact h _ _ hh
  · split at hh
    · next hw =>
      rw [if_pos hw]
      exact Oper.wpIn_mono h hh
    · next hw =>
      rw [if_neg hw]
      exact ⟨hh.1, h _ _ hh.2⟩
/-- A REGION THAT DRAWS ITS ORDER, WITHIN A FENCE, BY AN INVARIANT OVER WHAT HAS RUN -/
theorem wpAnyIn_inv {F : Fence} {n : Nat} {P : Program} {md : Region.Mode} {ops : Array Oper} {Q : Exit → Act → World → Prop} (Inv : Array Bool → Act → World → Prop)
    (hsz : ∀ l a w, Inv l a w → l.size = ops.size)
    (hdone : ∀ l a w, Inv l a w → Region.ready md ops l = [] → Q .normal a w)
    (hstep : ∀ l a w i, Inv l a w → i ∈ Region.ready md ops l → wpOpIn F n P ops Q i (Inv (l.setIfInBounds i true)) a w) :
    ∀ fuel l a w, Inv l a w → cnt l ops.size ≤ fuel → wpAnyIn F n P md ops Q fuel l a w
  | 0, l, a, w, hI, hc => by
    have hr : Region.ready md ops l = [] := by
      rw [List.eq_nil_iff_forall_not_mem]
      intro i hi
      have h1 := (List.mem_filter.1 hi)
      have h2 : i < ops.size := by simpa using h1.1
      have h3 := h1.2
      rw [cnt_zero (by omega) i h2] at h3
      simp at h3
    exact ⟨hr, hdone l a w hI hr⟩
  | fuel + 1, l, a, w, hI, hc => by
    refine ⟨fun hr => hdone l a w hI hr, fun i hi => ?_⟩
    have h1 := (List.mem_filter.1 hi)
    have h2 : i < ops.size := by simpa using h1.1
    have h3 : l.getD i true = false := by
      have h4 := h1.2
      simp only [Bool.and_eq_true] at h4
      simpa using h4.1
    have hs := hsz l a w hI
    have h5 := cnt_lt (l := l) (i := i) (by omega) h3 ops.size h2
    exact wpOpIn_mono (fun a' w' hI' => wpAnyIn_inv Inv hsz hdone hstep fuel _ a' w' hI' (by omega)) (hstep l a w i hI hi)
theorem wpIn_region_inv {F : Fence} {n : Nat} {P : Program} {id : Nat} {ops : Array Oper} {Q : Exit → Act → World → Prop} {a : Act} {w : World} (hm : P.follows .mixedOrders = true) (Inv : Array Bool → Act → World → Prop)
    (h0 : Inv (Array.replicate ops.size false) a w.drew)
    (hsz : ∀ l a w, Inv l a w → l.size = ops.size)
    (hdone : ∀ l a w, Inv l a w → Region.ready .any ops l = [] → Q .normal a w)
    (hstep : ∀ l a w i, Inv l a w → i ∈ Region.ready .any ops l → wpOpIn F n P ops Q i (Inv (l.setIfInBounds i true)) a w) : (Code.region id ops true).wpIn F n P Q a w :=
  wpIn_region_any hm (wpAnyIn_inv Inv hsz hdone hstep _ _ _ _ h0 (cnt_le _ _))
theorem wpOpIn_of {F : Fence} {n : Nat} {P : Program} {ops : Array Oper} {Q : Exit → Act → World → Prop} {i : Nat} {K : Act → World → Prop} {a : Act} {w : World} {o : Oper} (ho : ops[i]? = some o) (hg : o.guard = none) (h : o.wpIn F n P a w K Q) : wpOpIn F n P ops Q i K a w := by
  unfold wpOpIn
  rw [ho]
  simp only [Region.wanted, hg, if_true]
  exact h
theorem operIn_append_own {F : Fence} {nF : Nat} {P : Program} {o : Oper} {a : Act} {w : World} {K : Act → World → Prop} {Q : Exit → Act → World → Prop}
    (s x : Operand) (t : TypeId) (ho : o.op = Op.call { callee := Callee.builtin Builtin.append, args := #[s, x], argTypes := #[t, t] })
    (base : Nat) (e : TypeId) (i : TypeInfo) (z : Value) (size bytes : Nat) (ht : P.underlying t = some (.slice e)) (hi : P.info? e = some i) (hz : i.zero = some z)
    (hsize : i.size = size) (hby : i.bytes = bytes) (hzs : z.cells.size = size) (hsz : 0 < size)
    (v : Value) (n : Nat) (xs : List Value) (hs : a.eval s = v) (hown : w.ownsRow base e size v n xs)
    (ad : Addr) (m c : Nat) (news : List Value) (hx : a.eval x = .slice (some ad) m c) (hl : news.length = m * size) (hnews : ∀ j u, news[j]? = some u → w.cell? (ad.add j) = some u) (h1 : ∀ u ∈ news, u.oneCell' = true)
    (h63 : n + m ≤ maxLen) (hbytes : (n + m) * bytes ≤ 140737488355328) (hbase : base ≤ w.heap.size)
    (hK : ∀ v' w', w'.ownsRow base e size v' (n + m) (xs ++ news) → w.grownBy w' v.ownBlock → (v'.ownBlock = v.ownBlock ∨ v'.ownBlock = some w.heap.size) → K (a.put o.dst v') w') : o.wpIn F nF P a w K Q := by
  obtain ⟨v', w', hr, h2, h3, h4, h5⟩ := run_append_own_at (P := P) w base t o.type e i z size bytes ht hi hz hsize hby hzs hsz v n xs hown ad m c news hl hnews h1 h63 hbytes hbase
  unfold Oper.wpIn
  refine ⟨by simp [Oper.about, ho, resolve, Target.leads, Sem.run_pure], ?_⟩
  rw [Oper.semAt_plain F _ _ (by rw [ho]; intro c hc'; cases hc')]
  simp [execOp, ho, resolve, invoke, builtin, hs, hx, hr, Result.andThen]
  exact hK v' w' h2 h3 h5
/-- what is no cells lies as it lay -/
theorem keepsO_of_below {w w' : World} (h : Below w.heap.size w w') : KeepsOthers w w' := ⟨h.size, fun k _o hk _ => (h.block k (Array.getElem?_eq_some_iff.1 hk).1).trans hk⟩
theorem not_cells {w : World} {b off : Nat} {v : Value} (h : w.cell? ⟨b, off, none⟩ = some v) {o : Obj} (ho : w.heap[b]? = some o) : o.isCells = true := by
  unfold World.cell? at h
  simp only [ho] at h
  cases o <;> first | rfl | (simp at h)
/-- a list that is built lies on where blocks that are no cells turn -/
theorem BdOb.turn {w : World} {base : Nat} {v : Value} {k : Nat} {x : Nat → Ob} {A : Nat → Option Addr} {C hb : Nat → Nat} {w' : World} {row : Option Nat} (h : BdOb w base v k x A C hb) (hg : w.grownBy w' row) (hr : ∀ r, row = some r → ∃ o : Obj, w.heap[r]? = some o ∧ o.isCells = false) : BdOb w' base v k x A C hb := by
  have F : FrP (fun q => row = some q) w w' := FrP.of_grown hg
  have hn : ∀ (q : Nat), (∃ off u, w.cell? ⟨q, off, none⟩ = some u) → ¬ row = some q := fun q hq e => by
    obtain ⟨off, u, hu⟩ := hq
    obtain ⟨o, ho, hc⟩ := hr q e
    rw [not_cells hu ho] at hc
    cases hc
  refine ⟨?_, fun i hi => (h.hold i hi).frP F (fun h0 => ⟨hn _ ?_, (h.hlt i hi h0).2⟩), fun i hi h0 => ⟨(h.hlt i hi h0).1, Nat.lt_of_lt_of_le (h.hlt i hi h0).2 hg.size⟩, h.ne, h.inj⟩
  · obtain ⟨c, r, e⟩ := h.row
    refine ⟨c, ownsRow_fr r F (fun g hgb e2 => ?_), e⟩
    rcases r.2 with ⟨h1, _⟩ | ⟨g', cap, cur, h1, h2, h3, h4⟩
    · rw [h1] at hgb; cases hgb
    · rw [h1] at hgb
      cases hgb
      obtain ⟨o, ho, hc⟩ := hr _ e2
      rw [h3] at ho
      cases ho
      cases hc
  · obtain ⟨b, off, e1, e2, e3, e4, _⟩ := h.hold i hi 0 (by omega)
    have : b = hb i := by omega
    subst this
    exact ⟨_, _, e4⟩
end Go.Proofs.YtkecnaaacbckoaaGreat
namespace Go.Proofs.YtkecnaaacbckoaaGreat
open Go.RowKit
set_option maxRecDepth 100000 in
theorem place_any (R : Nat) (v : Int) (w : World) (h0 : 0 ≤ v) (h1 : v ≤ 1000000) : Calls Tryz.prog 102 #[.pointer (some ⟨R, 0, none⟩), .int .i64 v] w fun e w' => e = .returned (.pointer (some ⟨R, (v % 200).toNat * 9, none⟩)) ∧ w' = w := by
  go_enter Tryz.func102, Tryz.ntmps102
  go_wp2
  go_ret
  exact ⟨rfl, rfl⟩
theorem ring_size : Tryz.zeroCells131.size = 1800 := by kernel_rfl
/-- a ring that has the first n changes, each at its version's place -/
structure RingAt (w : World) (R n f : Nat) (x : Nat → Ch) (A : Nat → Option Addr) (C : Nat → Nat) : Prop where
  room : Room w R 1800
  at_ : ∀ i, i < n → ChCells w R ((f + 1 + i) % 200 * 9) (x i) (A i) (C i)
theorem RingAt.below {w w' : World} {R n f : Nat} {x : Nat → Ch} {A : Nat → Option Addr} {C : Nat → Nat} {B : Nat} (h : RingAt w R n f x A C) (hb : Below B w w') (hB : R < B) (_hs : B ≤ w.heap.size) : RingAt w' R n f x A C :=
  ⟨⟨fun j hj => by obtain ⟨u, hu⟩ := h.room.has j hj; exact ⟨u, (hb.cell (p := ⟨R, j, none⟩) hB).trans hu⟩, fun j => (hb.frozen (p := ⟨R, j, none⟩) hB).trans (h.room.free j), Nat.lt_of_lt_of_le h.room.lt hb.size⟩, fun i hi => (h.at_ i hi).below hb hB⟩
theorem RingAt.step {wr w1 : World} {R k f : Nat} {x : Nat → Ch} {A : Nat → Option Addr} {C : Nat → Nat} (h : RingAt wr R k f x A C) (hk : k < 200) (hb : Below wr.heap.size wr w1) :
    RingAt (w1.setCells R ((f + 1 + k) % 200 * 9) [.int .i64 (x k).ver, .bool (x k).gone, .string (x k).ob.kind, .string (x k).ob.name, .int .i64 (x k).ob.ver, .int .i64 (x k).ob.born, .string (x k).ob.text, .bool (x k).ob.ending, .slice (A k) (x k).ob.hn (C k)]).drew R (k + 1) f x A C := by
  have hg := h.room.lt
  have hR := h.room.below hb hg
  generalize hvs : ([.int .i64 (x k).ver, .bool (x k).gone, .string (x k).ob.kind, .string (x k).ob.name, .int .i64 (x k).ob.ver, .int .i64 (x k).ob.born, .string (x k).ob.text, .bool (x k).ob.ending, .slice (A k) (x k).ob.hn (C k)] : List Value) = vs
  have hlen : vs.length = 9 := by rw [← hvs]; rfl
  have hin := World.cell?_setCells_in R vs ((f + 1 + k) % 200 * 9) w1 (fun j hj => by
    obtain ⟨u, hu⟩ := hR.has ((f + 1 + k) % 200 * 9 + j) (by omega)
    rw [hu]; rfl)
  have hr2 := hR.setCells (o := (f + 1 + k) % 200 * 9) vs (by omega)
  refine ⟨⟨hr2.has, hr2.free, hr2.lt⟩, fun i hi => ?_⟩
  by_cases e : i < k
  · have c := (h.at_ i e).below hb hg
    have c2 : ChCells (w1.setCells R ((f + 1 + k) % 200 * 9) vs) R ((f + 1 + i) % 200 * 9) (x i) (A i) (C i) := c.fr (fun j hj => by
      refine World.cell?_setCells_out R vs ((f + 1 + k) % 200 * 9) w1 _ (fun _ _ => ?_)
      have hne : (f + 1 + i) % 200 ≠ (f + 1 + k) % 200 := by omega
      rcases Nat.lt_or_gt_of_ne hne with h1 | h1
      · exact Or.inl (by show (f + 1 + i) % 200 * 9 + j < (f + 1 + k) % 200 * 9; omega)
      · exact Or.inr (by show (f + 1 + k) % 200 * 9 + vs.length ≤ (f + 1 + i) % 200 * 9 + j; omega))
    exact ⟨c2.c0, c2.c1, c2.c2, c2.c3, c2.c4, c2.c5, c2.c6, c2.c7, c2.c8⟩
  · have : i = k := by omega
    subst this
    have f' := fun j (hj : j < 9) => hin j (by omega)
    have f0 := f' 0 (by omega); have f1 := f' 1 (by omega); have f2 := f' 2 (by omega); have f3 := f' 3 (by omega); have f4 := f' 4 (by omega); have f5 := f' 5 (by omega); have f6 := f' 6 (by omega); have f7 := f' 7 (by omega); have f8 := f' 8 (by omega)
    have c2 : ChCells (w1.setCells R ((f + 1 + i) % 200 * 9) vs) R ((f + 1 + i) % 200 * 9) (x i) (A i) (C i) := by
      subst hvs
      exact ⟨f0, f1, f2, f3, f4, f5, f6, f7, f8⟩
    exact ⟨c2.c0, c2.c1, c2.c2, c2.c3, c2.c4, c2.c5, c2.c6, c2.c7, c2.c8⟩
set_option maxRecDepth 100000 in
set_option maxHeartbeats 2000000 in
theorem ringOf_any (n : Nat) (x : Nat → Ch) (ad : Option Addr) (g cap : Nat) (A : Nat → Option Addr) (C : Nat → Nat) (f : Nat) (w : World) (hn : n ≤ 200) (hf : f + n ≤ 1000000) (hv : ∀ i, i < n → (x i).ver = (f : Int) + 1 + i) (had : 0 < n → ad = some ⟨g, 0, none⟩) (hg : 0 < n → g < w.heap.size) (hc : ∀ i, i < n → ChCells w g (i * 9) (x i) (A i) (C i)) :
    Calls Tryz.prog 46 #[.slice ad n cap] w fun e w' => e = .returned (.pointer (some ⟨w.heap.size, 0, none⟩)) ∧ RingAt w' w.heap.size n f x A C ∧ Below w.heap.size w w' := by
  have hs := ring_size
  go_enter Tryz.func46, Tryz.ntmps46
  go_wp2
  have R0 : RingAt (w.alloc (.cells Tryz.zeroCells131 131)) w.heap.size 0 f x A C := ⟨⟨fun j hj => ⟨Tryz.zeroCells131[j]'(by omega), by rw [World.cell?_alloc_new]; simp [hs, hj]⟩, fun j => by simp, by simp⟩, fun i hi => absurd hi (Nat.not_lt_zero _)⟩
  clear hs
  go_loopw [10] (fun i wr => ∃ k : Nat, k ≤ n ∧ i = .int .i64 k ∧ Below w.heap.size w wr ∧ w.heap.size < wr.heap.size ∧ RingAt wr w.heap.size k f x A C) (fun i _ => n - (intOf i).toNat)
  case atStart => exact ⟨0, Nat.zero_le _, rfl, below_alloc _ _, by simp, R0⟩
  case round =>
    clear R0
    obtain ⟨k, hk, rfl, hb, hz, hr⟩ := hrel
    by_cases hkn : k < n
    · obtain rfl := had (by omega)
      have hgw := hg (by omega)
      obtain ⟨d0, d1, d2, d3, d4, d5, d6, d7, d8⟩ := (hc k hkn).below hb hgw
      have hvk := hv k hkn
      have hver : ((x k).ver % 200).toNat = (f + 1 + k) % 200 := by rw [hvk]; omega
      obtain ⟨P, hP⟩ : ∃ P, (f + 1 + k) % 200 = P := ⟨_, rfl⟩
      have hP2 : P < 200 := by omega
      rw [hP] at hver
      have hv0 : 0 ≤ (x k).ver := by omega
      have hv1 : (x k).ver ≤ 1000000 := by omega
      have HR := hid hr
      have HC := hid hc
      have HV := hid hv
      have hrm : Room wr w.heap.size 1800 := hr.room
      clear hr hc hv hvk
      go_wp2
      obtain ⟨W1, hW1⟩ : ∃ W1, wr.alloc (.cells #[.int .i64 (x k).ver, .bool (x k).gone, .string (x k).ob.kind, .string (x k).ob.name, .int .i64 (x k).ob.ver, .int .i64 (x k).ob.born, .string (x k).ob.text, .bool (x k).ob.ending, .slice (A k) (x k).ob.hn (C k)] 75) = W1 := ⟨_, rfl⟩
      have hbW : Below wr.heap.size wr W1 := by rw [← hW1]; exact below_alloc _ _
      have hrm1 := hrm.below hbW hrm.lt
      obtain ⟨_, q0⟩ := hrm1.has (P * 9) (by omega)
      obtain ⟨_, q1⟩ := hrm1.has (P * 9 + 1) (by omega)
      obtain ⟨_, q2⟩ := hrm1.has (P * 9 + 2) (by omega)
      obtain ⟨_, q3⟩ := hrm1.has (P * 9 + 3) (by omega)
      obtain ⟨_, q4⟩ := hrm1.has (P * 9 + 4) (by omega)
      obtain ⟨_, q5⟩ := hrm1.has (P * 9 + 5) (by omega)
      obtain ⟨_, q6⟩ := hrm1.has (P * 9 + 6) (by omega)
      obtain ⟨_, q7⟩ := hrm1.has (P * 9 + 7) (by omega)
      obtain ⟨_, q8⟩ := hrm1.has (P * 9 + 8) (by omega)
      have qf := hrm1.free
      have b0 : W1.cell? ⟨wr.heap.size, 0, none⟩ = some (.int .i64 (x k).ver) := by rw [← hW1, World.cell?_alloc_new]; rfl
      have b1 : W1.cell? ⟨wr.heap.size, 1, none⟩ = some (.bool (x k).gone) := by rw [← hW1, World.cell?_alloc_new]; rfl
      have b2 : W1.cell? ⟨wr.heap.size, 2, none⟩ = some (.string (x k).ob.kind) := by rw [← hW1, World.cell?_alloc_new]; rfl
      have b3 : W1.cell? ⟨wr.heap.size, 3, none⟩ = some (.string (x k).ob.name) := by rw [← hW1, World.cell?_alloc_new]; rfl
      have b4 : W1.cell? ⟨wr.heap.size, 4, none⟩ = some (.int .i64 (x k).ob.ver) := by rw [← hW1, World.cell?_alloc_new]; rfl
      have b5 : W1.cell? ⟨wr.heap.size, 5, none⟩ = some (.int .i64 (x k).ob.born) := by rw [← hW1, World.cell?_alloc_new]; rfl
      have b6 : W1.cell? ⟨wr.heap.size, 6, none⟩ = some (.string (x k).ob.text) := by rw [← hW1, World.cell?_alloc_new]; rfl
      have b7 : W1.cell? ⟨wr.heap.size, 7, none⟩ = some (.bool (x k).ob.ending) := by rw [← hW1, World.cell?_alloc_new]; rfl
      have b8 : W1.cell? ⟨wr.heap.size, 8, none⟩ = some (.slice (A k) (x k).ob.hn (C k)) := by rw [← hW1, World.cell?_alloc_new]; rfl
      rw [hW1]
      have HW := hid hbW
      clear hrm hrm1 hW1 hbW d0 d1 d2 d3 d4 d5 d6 d7 d8
      go_region_with (go_at_call 102; go_must (refine (place_any _ (x k).ver _ hv0 hv1).mono ?_; rw [hver]; rintro e w' ⟨rfl, rfl⟩))
      all_goals
        have HS := hid (show RingAt (W1.setCells w.heap.size (P * 9) [.int .i64 (x k).ver, .bool (x k).gone, .string (x k).ob.kind, .string (x k).ob.name, .int .i64 (x k).ob.ver, .int .i64 (x k).ob.born, .string (x k).ob.text, .bool (x k).ob.ending, .slice (A k) (x k).ob.hn (C k)]).drew w.heap.size (k + 1) f x A C from hP ▸ HR.out.step (by omega) HW.out)
        have HB := hid (show Below w.heap.size w (W1.setCells w.heap.size (P * 9) [.int .i64 (x k).ver, .bool (x k).gone, .string (x k).ob.kind, .string (x k).ob.name, .int .i64 (x k).ob.ver, .int .i64 (x k).ob.born, .string (x k).ob.text, .bool (x k).ob.ending, .slice (A k) (x k).ob.hn (C k)]).drew from ((hb.trans (HW.out.mono hb.size)).trans ((fr_setCells w.heap.size [.int .i64 (x k).ver, .bool (x k).gone, .string (x k).ob.kind, .string (x k).ob.name, .int .i64 (x k).ob.ver, .int .i64 (x k).ob.born, .string (x k).ob.text, .bool (x k).ob.ending, .slice (A k) (x k).ob.hn (C k)] (P * 9) W1).below (Nat.le_refl _) (hb.trans (HW.out.mono hb.size)).size)).trans ((Below.refl _ _).drew))
        have hz1 : w.heap.size < W1.heap.size := Nat.lt_of_lt_of_le hz HW.out.size
        clear q0 q1 q2 q3 q4 q5 q6 q7 q8 qf b0 b1 b2 b3 b4 b5 b6 b7 b8
        go_wp2
        go_roundw
        case rel => exact ⟨k + 1, by omega, by go_num, HB.out, by simpa using hz1, HS.out⟩
        case measure => simp [intOf]; omega
    · have hke : k = n := by omega
      subst hke
      go_wp2
      go_ret
      exact ⟨rfl, hr, hb⟩
end Go.Proofs.YtkecnaaacbckoaaGreat
namespace Go.Proofs.YtkecnaaacbckoaaGreat
open Go.RowKit Go.Shelf
attribute [local go_sem] Oper.semAt_some
def chV (x : Ch) (a : Option Addr) (c : Nat) : Value := .agg #[.int .i64 x.ver, .bool x.gone, .string x.ob.kind, .string x.ob.name, .int .i64 x.ob.ver, .int .i64 x.ob.born, .string x.ob.text, .bool x.ob.ending, .slice a x.ob.hn c]
theorem pick_range {α : Type} {x : Nat → α} {n i : Nat} (h : i < n) : pick x (List.range n) i = x i := by
  unfold pick
  simp [List.getD_eq_getElem?_getD, h]
set_option maxRecDepth 100000 in
set_option maxHeartbeats 1000000 in
theorem between_in (F : Fence) (m : Nat) (h23 : F.fn 48) (hro : F.round = none) (R : Nat) (ab up : Int) (w : World) :
    CallsIn F m Tryz.prog 48 #[.pointer (some ⟨R, 0, none⟩), .int .i64 ab, .int .i64 up] w fun e w' => e = .returned (.func (.func 104) #[] #[.pointer (some ⟨w.heap.size + 1, 0, none⟩), .pointer (some ⟨w.heap.size + 1 + 1, 0, none⟩), .pointer (some ⟨w.heap.size, 0, none⟩)]) ∧ w' = ((w.alloc (.cells #[.pointer (some ⟨R, 0, none⟩)] 79)).alloc (.cells #[.int .i64 ab] 3)).alloc (.cells #[.int .i64 up] 3) := by
  refine callsIn_of_wp Tryz.func48 rfl h23 ?_ hro
  simp only [Tryz.ntmps48, List.size_toArray, List.length_cons, List.length_nil, Nat.reduceAdd, Nat.reduceSub, Array.replicate_succ, Array.replicate_zero, List.push_toArray, List.append_toArray, List.nil_append, List.cons_append]
  gi_wp2
  go_ret
  exact ⟨rfl, rfl⟩
set_option maxRecDepth 100000 in
set_option maxHeartbeats 2000000 in
theorem between1_in (F : Fence) (m : Nat) (h58 : F.fn 104) (h56 : F.fn 102) (hro : F.round = none) (hm : 1 ≤ m) (l Ba Bu Br n₀ R : Nat) (f k n : Nat) (x : Nat → Ch) (A : Nat → Option Addr) (C : Nat → Nat) (hkn : k ≤ n) (hfn : f + n ≤ 1000000) (J Jx : List (Ix (n - k)) → World → Prop)
    (hPl : ∀ (v : Int) (w : World), 0 ≤ v → v ≤ 1000000 → CallsIn F (m - 1) Tryz.prog 102 #[.pointer (some ⟨R, 0, none⟩), .int .i64 v] w fun e w' => e = .returned (.pointer (some ⟨R, (v % 200).toNat * 9, none⟩)) ∧ w' = w)
    (W : World)
    (hY : ∀ pre x' W1, J pre W1 → pre.length < n - k → YieldAt F (m - 1) Tryz.prog l #[chV (x (k + x'.1)) (A (k + x'.1)) (C (k + x'.1))] W1 fun e W' =>
      (e = .returned (.bool true) ∧ J (pre ++ [x']) W' ∧ Below n₀ W1 W') ∨ (e = .returned (.bool false) ∧ Jx (pre ++ [x']) W'))
    (hBa : W.cell? ⟨Ba, 0, none⟩ = some (.int .i64 ((f + k : Nat) : Int))) (hBu : W.cell? ⟨Bu, 0, none⟩ = some (.int .i64 ((f + n : Nat) : Int))) (hBr : W.cell? ⟨Br, 0, none⟩ = some (.pointer (some ⟨R, 0, none⟩)))
    (hu : Bu < n₀) (hr : Br < n₀) (hR : R < n₀) (_hn₀ : n₀ ≤ W.heap.size) (hs : RingAt W R n f x A C) (h0 : J [] W) :
    CallsIn F m Tryz.prog 104 #[.func (.yield l) #[] #[], .pointer (some ⟨Ba, 0, none⟩), .pointer (some ⟨Bu, 0, none⟩), .pointer (some ⟨Br, 0, none⟩)] W fun e W' => (∃ v, e = .returned v) ∧
      ((∃ ys, ixs ys = List.range (n - k) ∧ J ys W') ∨ (∃ pre, True ∧ Jx pre W')) := by
  refine callsIn_of_wp Tryz.func104 rfl h58 ?_ hro
  simp only [Tryz.ntmps104, List.size_toArray, List.length_cons, List.length_nil, Nat.reduceAdd, Nat.reduceSub, Array.replicate_succ, Array.replicate_zero, List.push_toArray, List.append_toArray, List.nil_append, List.cons_append]
  have HS := hid hs
  clear hs
  gi_wp2
  gi_loopw [5] (fun i wr => ∃ (j : Nat) (pre : List (Ix (n - k))), j ≤ n - k ∧ i = .int .i64 ((f + k + 1 + j : Nat) : Int) ∧ ixs pre = List.range j ∧ J pre wr ∧ Below n₀ W wr)
    (fun i _ => f + n + 1 - (intOf i).toNat)
  case atStart => exact ⟨0, [], Nat.zero_le _, by go_num, rfl, h0, Below.refl _ _⟩
  case round =>
    obtain ⟨j, pre, hjn, rfl, hpre, hJs, hf⟩ := hrel
    have hcu : wr.cell? ⟨Bu, 0, none⟩ = some (.int .i64 ((f + n : Nat) : Int)) := (hf.cell (p := ⟨Bu, 0, none⟩) hu).trans hBu
    have hcr : wr.cell? ⟨Br, 0, none⟩ = some (.pointer (some ⟨R, 0, none⟩)) := (hf.cell (p := ⟨Br, 0, none⟩) hr).trans hBr
    by_cases hlt : j < n - k
    · have hpl : pre.length < n - k := by
        have h1 := ixs_len pre
        rw [hpre] at h1
        simp at h1
        omega
      obtain ⟨P, hP⟩ : ∃ P, (f + 1 + (k + j)) % 200 = P := ⟨_, rfl⟩
      have hc := (HS.out.at_ (k + j) (by omega)).below hf hR
      rw [hP] at hc
      obtain ⟨e0, e1, e2, e3, e4, e5, e6, e7, e8⟩ := hc
      have hver : ((((f + k + 1 + j : Nat) : Int)) % 200).toNat = P := by omega
      have hI := hPl ((f + k + 1 + j : Nat) : Int)
      rw [hver] at hI
      have HN := hid (show ixs (pre ++ [⟨j, hlt⟩]) = List.range (j + 1) by rw [ixs_snoc, hpre, List.range_succ])
      obtain ⟨fn, tmps, assign, body, hy, hRR⟩ := hY pre ⟨j, hlt⟩ wr hJs hpl
      unfold chV at hy
      dsimp only at hy
      clear hP
      gi_wp2_with (gi_at_call 102; go_must (refine (hI _ (by omega) (by omega)).mono ?_; rintro e w1 ⟨rfl, rfl⟩))
      refine hRR.mono ?_
      rintro e W3 (⟨rfl, hJ3, hk3⟩ | ⟨rfl, hJx3⟩)
      · gi_wp2
        go_roundw
        case rel => exact ⟨j + 1, pre ++ [⟨j, hlt⟩], by omega, by go_num, HN.out, hJ3, hf.trans hk3⟩
        case measure => simp [intOf]; omega
      · gi_wp2
        refine bodyPost_ret (results_none rfl _ _ _) rfl ?_
        exact ⟨⟨_, rfl⟩, .inr ⟨pre ++ [⟨j, hlt⟩], trivial, hJx3⟩⟩
    · obtain rfl : j = n - k := by omega
      gi_wp2
      go_end0
      exact ⟨⟨_, rfl⟩, .inl ⟨_, hpre, hJs⟩⟩
end Go.Proofs.YtkecnaaacbckoaaGreat
