import Derived.Test.YtkecnaaacbckoaaGreatOb
import Derived.Test.YtkecnaaacbckoaaGreatQ
import Derived.Sort.Statements
import Derived.Test.YtkecnaaacbckoaaGreatGj
import Derived.Test.YtkecnaaacbckoaaGreatGn
import Derived.Test.YtkecnaaacbckoaaGreatLb
import Derived.Test.YtkecnaaacbckoaaGreatZj
import Derived.Test.YtkecnaaacbckoaaGreatHc
namespace Go.Proofs.YtkecnaaacbckoaaGreat
open Go.RowKit Go.Sort
theorem less_trans : ∀ a b c : List UInt8, Op.bytesLess a b = true → Op.bytesLess b c = true → Op.bytesLess a c = true
  | [], [], _, h, _ => by simp [Op.bytesLess] at h
  | _ :: _, [], _, h, _ => by simp [Op.bytesLess] at h
  | _, _ :: _, [], _, h => by simp [Op.bytesLess] at h
  | [], _ :: _, _ :: _, _, _ => by simp [Op.bytesLess]
  | x :: a, y :: b, z :: c, h1, h2 => by
    simp only [Op.bytesLess, Bool.or_eq_true, decide_eq_true_eq, Bool.and_eq_true, beq_iff_eq] at h1 h2 ⊢
    rcases h1 with h1 | ⟨rfl, h1⟩
    · rcases h2 with h2 | ⟨rfl, h2⟩
      · exact Or.inl (UInt8.lt_trans h1 h2)
      · exact Or.inl h1
    · rcases h2 with h2 | ⟨rfl, h2⟩
      · exact Or.inl h2
      · exact Or.inr ⟨rfl, less_trans a b c h1 h2⟩
theorem less_tot : ∀ a b : List UInt8, Op.bytesLess a b = false → Op.bytesLess b a = false → a = b
  | [], [], _, _ => rfl
  | [], _ :: _, h, _ => by simp [Op.bytesLess] at h
  | _ :: _, [], _, h => by simp [Op.bytesLess] at h
  | x :: a, y :: b, h1, h2 => by
    simp only [Op.bytesLess, Bool.or_eq_false_iff, decide_eq_false_iff_not, Bool.and_eq_false_iff, beq_eq_false_iff_ne] at h1 h2
    have e : x = y := UInt8.le_antisymm (UInt8.not_lt.1 h2.1) (UInt8.not_lt.1 h1.1)
    subst e
    have e2 := less_tot a b (by rcases h1.2 with h | h; exact absurd rfl h; exact h) (by rcases h2.2 with h | h; exact absurd rfl h; exact h)
    rw [e2]
theorem ltB_trans {a b c : ByteArray} (h1 : ltB a b = true) (h2 : ltB b c = true) : ltB a c = true := less_trans _ _ _ h1 h2
theorem ltB_tot {a b : ByteArray} (h1 : ltB a b = false) (h2 : ltB b a = false) : a.toList = b.toList := less_tot _ _ h1 h2
theorem befB_irr (x : Ob) : befB x x = false := by unfold befB; rw [if_pos rfl]; exact ltB_irr rfl
theorem befB_trans {x y z : Ob} (h1 : befB x y = true) (h2 : befB y z = true) : befB x z = true := by
  unfold befB at *
  by_cases e1 : x.kind.toList = y.kind.toList
  · rw [if_pos e1] at h1
    by_cases e2 : y.kind.toList = z.kind.toList
    · rw [if_pos e2] at h2
      rw [if_pos (e1.trans e2)]
      exact ltB_trans h1 h2
    · rw [if_neg e2] at h2
      rw [if_neg (fun e => e2 (e1.symm.trans e))]
      unfold ltB at h2 ⊢
      rw [e1]
      exact h2
  · rw [if_neg e1] at h1
    by_cases e2 : y.kind.toList = z.kind.toList
    · rw [if_pos e2] at h2
      rw [if_neg (fun e => e1 (e.trans e2.symm))]
      unfold ltB at h1 ⊢
      rw [← e2]
      exact h1
    · rw [if_neg e2] at h2
      have h3 := ltB_trans h1 h2
      rw [if_neg (fun e => by rw [ltB_irr e] at h3; cases h3)]
      exact h3
theorem befB_tot {x y : Ob} (h1 : befB x y = false) (h2 : befB y x = false) : x.kind.toList = y.kind.toList ∧ x.name.toList = y.name.toList := by
  unfold befB at *
  by_cases e1 : x.kind.toList = y.kind.toList
  · rw [if_pos e1] at h1
    rw [if_pos e1.symm] at h2
    exact ⟨e1, ltB_tot h1 h2⟩
  · rw [if_neg e1] at h1
    rw [if_neg (fun e => e1 e.symm)] at h2
    exact absurd (ltB_tot h1 h2) e1
theorem befB_key {x y z : Ob} (h : x.kind.toList = y.kind.toList ∧ x.name.toList = y.name.toList) : befB x z = befB y z := by
  unfold befB ltB
  rw [h.1, h.2]
/-- objects by kind and name: a strict weak order -/
theorem befB_swo : SWO befB where
  irrefl := befB_irr
  trans := fun _ _ _ => befB_trans
  ntrans := fun x y z h1 h2 => by
    cases h : befB x z with
    | false => rfl
    | true =>
      cases h3 : befB y x with
      | false =>
        rw [befB_key (befB_tot h1 h3), h2] at h
        cases h
      | true =>
        rw [befB_trans h3 h] at h2
        cases h2
/-- two rows that ascend and have the same elements are the same -/
theorem asc_eq {α : Type} {lt : α → α → Prop} (irr : ∀ a, ¬ lt a a) (tr : ∀ a b c, lt a b → lt b c → lt a c) : ∀ {l1 l2 : List α}, l1.Pairwise lt → l2.Pairwise lt → (∀ a, a ∈ l1 ↔ a ∈ l2) → l1 = l2
  | [], [], _, _, _ => rfl
  | [], b :: _, _, _, h => absurd ((h b).2 List.mem_cons_self) (by simp)
  | a :: _, [], _, _, h => absurd ((h a).1 List.mem_cons_self) (by simp)
  | a :: l1, b :: l2, h1, h2, h => by
    obtain ⟨p1, q1⟩ := List.pairwise_cons.1 h1
    obtain ⟨p2, q2⟩ := List.pairwise_cons.1 h2
    have e : a = b := by
      rcases List.mem_cons.1 ((h a).1 List.mem_cons_self) with e | e
      · exact e
      · rcases List.mem_cons.1 ((h b).2 List.mem_cons_self) with e' | e'
        · exact e'.symm
        · exact absurd (tr _ _ _ (p1 b e') (p2 a e)) (irr a)
    subst e
    have ht : ∀ x, x ∈ l1 ↔ x ∈ l2 := fun x => ⟨fun hx => by
      rcases List.mem_cons.1 ((h x).1 (List.mem_cons_of_mem _ hx)) with e | e
      · subst e; exact absurd (p1 x hx) (irr x)
      · exact e, fun hx => by
      rcases List.mem_cons.1 ((h x).2 (List.mem_cons_of_mem _ hx)) with e | e
      · subst e; exact absurd (p2 x hx) (irr x)
      · exact e⟩
    rw [asc_eq irr tr q1 q2 ht]
end Go.Proofs.YtkecnaaacbckoaaGreat
namespace Go.Proofs.YtkecnaaacbckoaaGreat
open Go.RowKit
set_option maxRecDepth 100000 in
set_option maxHeartbeats 2000000 in
theorem specObs_any (n : Nat) (x : Nat → Ob) (ad : Option Addr) (cap : Nat) (w : World) (lo hi : Nat) (hhi : hi ≤ w.heap.size) (hl : (n : Int) ≤ 1048576) (hf : ∀ i, i < n → ObFit (x i)) (hc : ObjsIn w lo hi ad n x) :
    Calls Tryz.prog 59 #[.slice ad n cap] w fun e w' => ∃ ad' cap' g A C hb, e = .returned (.slice ad' n cap') ∧ ObsAt w' ad' g n x A C hb ∧ (∀ q, blkH g n (fun i => (x i).hn) hb q → w.heap.size ≤ q) ∧ Below w.heap.size w w' := by
  obtain ⟨i0, hi0, hz0, hz1, hz2⟩ := info_parts Tryz.info73
  have HC := hid hc
  have HF := hid hf
  clear hc hf
  go_enter Tryz.func59, Tryz.ntmps59
  go_wp2
  have bd0 : BdOb (w.alloc (.cells #[] 73)) w.heap.size (.slice (some ⟨w.heap.size, 0, none⟩) 0 0) 0 x (fun _ => none) (fun _ => 0) (fun _ => 0) :=
    ⟨⟨fun _ => .int .i64 0, by simpa [rowCells] using World.ownsRow_made (base := w.heap.size) (e := 73) (size := 7) w #[] 0 (Nat.le_refl _) (Nat.zero_le _) rfl, fun i hi => absurd hi (Nat.not_lt_zero _)⟩, fun i hi => absurd hi (Nat.not_lt_zero _), fun i hi => absurd hi (Nat.not_lt_zero _), fun i hi => absurd hi (Nat.not_lt_zero _), fun i j hi => absurd hi (Nat.not_lt_zero _)⟩
  go_loopw [3, 4] (fun o i wr => ∃ (k : Nat) (A : Nat → Option Addr) (C hb : Nat → Nat), k ≤ n ∧ i = .int .i64 k ∧ Below w.heap.size w wr ∧ BdOb wr w.heap.size o k x A C hb) (fun _ i _ => n - (intOf i).toNat)
  case atStart => exact ⟨0, _, _, _, Nat.zero_le _, rfl, below_alloc _ _, bd0⟩
  case round =>
    clear bd0
    obtain ⟨k, A, C, hb, hk, rfl, b0, bd⟩ := hrel
    by_cases hkn : k < n
    · obtain ⟨b, off, ah, ch, rfl, hlo, hbh, hcx, hsx⟩ := HC.out k hkn
      have hfk := (HF.out k hkn).h
      obtain ⟨e0, e1, e2, e3, e4, e5, e6⟩ := hcx.below b0 (by omega)
      have HSX := hid (hsx.below b0 hhi)
      have zr := b0.size
      have BD := hid bd
      clear hcx hsx bd
      go_wp2_with fail
      refine (specOb_any (x k) ah ch _ lo hi (by omega) hfk HSX.out).mono ?_
      rintro e w1 ⟨ad', cap', rfl, hs1, hb1⟩
      obtain ⟨b', ho1, hl1⟩ := hs1.one
      have z1 := hb1.size
      have HO1 := hid ho1
      have HL1 := hid hl1
      have BD1 := hid ((BD.out.grow hb1).grow (below_alloc w1 (.cells #[.string (x k).kind, .string (x k).name, .int .i64 (x k).ver, .int .i64 (x k).born, .string (x k).text, .bool (x k).ending, .slice ad' (x k).hn cap'] 73)))
      obtain ⟨c, hown, hat⟩ := BD1.out.row
      have HAT := hid hat
      clear hs1 ho1 hl1 e0 e1 e2 e3 e4 e5 e6 hat
      go_wp2_with (at_builtin; go_must (refine wpList_append_own_at _ rfl _ _ 28 rfl w.heap.size 73 i0 _ 7 96 Tryz.underlying28 hi0 hz0 hz1 hz2 rfl (by decide) _ k (rowCells (k * 7) c) rfl hown ⟨w1.heap.size, 0, none⟩ 1 1 [.string (x k).kind, .string (x k).name, .int .i64 (x k).ver, .int .i64 (x k).born, .string (x k).text, .bool (x k).ending, .slice ad' (x k).hn cap'] rfl rfl (alloc_news w1 _ 73) (by simp [Value.oneCell']) (by unfold maxLen; omega) (by omega) (by simp; omega) ?_; intro v' w2 hown2 hgrow2 hnil2 hat2; clear hnil2))
      have hg2 := hgrow2.size
      have FB : ∀ o, FrP (fun _ => False) w1 (w1.alloc o) := fun o => FrP.of_below (below_alloc w1 o)
      have BD2 := hid (BD1.out.app (cap' := cap') HAT.out hown2 hgrow2 hat2 (HO1.out.frP (FB _) (fun h0 => ⟨fun h => h, (HL1.out h0).2⟩)) (fun h0 => ⟨by have := (HL1.out h0).1; omega, by have := (HL1.out h0).2; simp; omega⟩)
        (fun h0 e => by
          obtain ⟨c0, r0, _⟩ := BD.out.row
          have h1 := (r0.lt _ e).2
          have h2 := (HL1.out h0).1
          omega)
        (fun i hi h0 h1 e => by
          have h2 := (BD.out.hlt i hi h0).2
          have h3 := (HL1.out h1).1
          omega))
      have B2 : Below w.heap.size w w2 := by
        obtain ⟨c0, r0, _⟩ := BD.out.row
        exact ((b0.trans (hb1.mono zr)).alloc (by omega) _).trans ((FrP.of_grown hgrow2).below (fun q hq e => by have := (r0.lt q e).1; omega) (by simp; omega))
      clear hown hown2 hgrow2 hat2 FB
      go_wp2
      go_roundw
      case rel => exact ⟨k + 1, _, _, _, by omega, by go_num, B2, BD2.out⟩
      case measure => simp [intOf]; omega
    · have hke : k = n := by omega
      subst hke
      obtain ⟨ad', cap', g, e, at', hq⟩ := bd.done
      subst e
      have AT' := hid at'
      clear at' bd
      go_wp2
      go_ret
      exact ⟨ad', cap', g, A, C, hb, rfl, AT'.out, hq, b0⟩
end Go.Proofs.YtkecnaaacbckoaaGreat
namespace Go.Proofs.YtkecnaaacbckoaaGreat
open Go.RowKit
def obz : Ob := ⟨ByteArray.empty, ByteArray.empty, 0, 0, ByteArray.empty, false, 0, fun _ => ByteArray.empty⟩
/-- what stands when the first k objects are put, those that no change tells of -/
def objL (os : Nat → Ob) (fl : Int) : Nat → Nat × (Nat → Ob)
  | 0 => (0, fun _ => obz)
  | k + 1 => if (os k).ver ≤ fl then ((putAll (objL os fl k).1 (objL os fl k).2 (os k) false).m, (putAll (objL os fl k).1 (objL os fl k).2 (os k) false).y) else objL os fl k
/-- .. and the first k changes, those up to a version -/
def hisL (s : Nat × (Nat → Ob)) (hs : Nat → Ch) (ver : Int) : Nat → Nat × (Nat → Ob)
  | 0 => s
  | k + 1 => if (hs k).ver ≤ ver then ((putAll (hisL s hs ver k).1 (hisL s hs ver k).2 (hs k).ob (hs k).gone).m, (putAll (hisL s hs ver k).1 (hisL s hs ver k).2 (hs k).ob (hs k).gone).y) else hisL s hs ver k
/-- no change above the version is the first of an object that was there -/
def allK (hs : Nat → Ch) (ver : Int) : Nat → Bool
  | 0 => true
  | k + 1 => allK hs ver k && (decide ((hs k).ver ≤ ver) || !(decide (lastI hs (hs k).ob k < 0) && !creB (hs k)))
theorem putAll_le (n : Nat) (x : Nat → Ob) (o : Ob) (gone : Bool) : (putAll n x o gone).m ≤ n + 1 := by
  have h := putTo_le x o gone n
  unfold putAll putEnd
  split
  · next hd => rw [hd] at h; simpa using h
  · next hd =>
    have hd' : (putTo x o gone n).done = false := by simpa using hd
    rw [hd'] at h
    show (putTo x o gone n).m + 1 ≤ n + 1
    simpa using h
theorem objL_le (os : Nat → Ob) (fl : Int) : ∀ k, (objL os fl k).1 ≤ k
  | 0 => Nat.le_refl _
  | k + 1 => by
    have ih := objL_le os fl k
    unfold objL
    split
    · have := putAll_le (objL os fl k).1 (objL os fl k).2 (os k) false
      show (putAll _ _ _ _).m ≤ k + 1
      omega
    · omega
theorem hisL_le (s : Nat × (Nat → Ob)) (hs : Nat → Ch) (ver : Int) : ∀ k, (hisL s hs ver k).1 ≤ s.1 + k
  | 0 => Nat.le_refl _
  | k + 1 => by
    have ih := hisL_le s hs ver k
    unfold hisL
    split
    · have := putAll_le (hisL s hs ver k).1 (hisL s hs ver k).2 (hs k).ob (hs k).gone
      show (putAll _ _ _ _).m ≤ s.1 + (k + 1)
      omega
    · omega
theorem BdR.objs {w : World} {base lo hi : Nat} {v : Value} {m : Nat} {y : Nat → Ob} {A : Nat → Option Addr} {C : Nat → Nat} (h : BdR w base lo hi v m y A C) (hhi : hi ≤ w.heap.size) : ∃ ad cap, v = .slice ad m cap ∧ ObjsIn w 0 w.heap.size ad m y := by
  obtain ⟨c, r, hat⟩ := h.row
  rcases r.2 with ⟨rfl, rfl⟩ | ⟨g, cap, cur, rfl, _⟩
  · exact ⟨none, 0, rfl, fun i hi' => absurd hi' (Nat.not_lt_zero _)⟩
  · have rw := row_of_own r
    refine ⟨_, cap, rfl, fun i hi' => ?_⟩
    obtain ⟨a0, a1, a2, a3, a4, a5, a6⟩ := hat i hi'
    refine ⟨g, 0, A i, C i, rfl, Nat.zero_le _, rw.lt, ?_, fun j hj => ?_⟩
    · rw [Nat.zero_add]
      exact ⟨(rw.cell _ (by omega)).trans (congrArg some a0), (rw.cell _ (by omega)).trans (congrArg some a1), (rw.cell _ (by omega)).trans (congrArg some a2), (rw.cell _ (by omega)).trans (congrArg some a3), (rw.cell _ (by omega)).trans (congrArg some a4), (rw.cell _ (by omega)).trans (congrArg some a5), (rw.cell _ (by omega)).trans (congrArg some a6)⟩
    · obtain ⟨b, off, e1, e2, e3, e4⟩ := h.hold i hi' j hj
      exact ⟨b, off, e1, Nat.zero_le _, by omega, e4⟩
theorem putTo_all {P : Ob → Prop} {x : Nat → Ob} {o : Ob} {gone : Bool} (ho : P o) : ∀ n, (∀ i, i < n → P (x i)) → ∀ i, i < (putTo x o gone n).m → P ((putTo x o gone n).y i)
  | 0, _, i, hi => absurd hi (Nat.not_lt_zero _)
  | n + 1, hx, i, hi => by
    have ih := putTo_all (gone := gone) ho n (fun i hi => hx i (by omega))
    have hn := hx n (by omega)
    have up : ∀ (y : Nat → Ob) (m : Nat) (z : Ob), P z → (∀ j, j < m → P (y j)) → ∀ j, j < m + 1 → P (updF y m z j) := fun y m z hz hy j hj => by
      by_cases e : j = m
      · subst e; rw [updF_same]; exact hz
      · rw [updF_ne _ _ e]; exact hy j (by omega)
    revert hi
    show i < (putStep o (x n) (putTo x o gone n)).m → P ((putStep o (x n) (putTo x o gone n)).y i)
    unfold putStep
    split
    · split
      · exact ih i
      · exact up _ _ _ hn ih i
    · split
      · exact up _ _ _ hn ih i
      · split
        · exact up _ _ _ ho ih i
        · exact up _ _ _ hn (up _ _ _ ho ih) i
theorem putAll_all {P : Ob → Prop} {n : Nat} {x : Nat → Ob} {o : Ob} {gone : Bool} (ho : P o) (hx : ∀ i, i < n → P (x i)) : ∀ i, i < (putAll n x o gone).m → P ((putAll n x o gone).y i) := fun i hi => by
  have ih := putTo_all (gone := gone) ho n hx
  revert hi
  unfold putAll putEnd
  split
  · exact ih i
  · intro hi
    by_cases e : i = (putTo x o gone n).m
    · subst e
      show P (updF _ _ _ _)
      rw [updF_same]; exact ho
    · show P (updF _ _ _ _)
      rw [updF_ne _ _ e]
      have hi' : i < (putTo x o gone n).m + 1 := hi
      exact ih i (by omega)
theorem objL_all {P : Ob → Prop} {os : Nat → Ob} {fl : Int} : ∀ k, (∀ i, i < k → P (os i)) → ∀ i, i < (objL os fl k).1 → P ((objL os fl k).2 i)
  | 0, _, i, hi => absurd hi (Nat.not_lt_zero _)
  | k + 1, hx, i, hi => by
    have ih := objL_all (fl := fl) k (fun i hi => hx i (by omega))
    revert hi
    unfold objL
    split
    · exact putAll_all (hx k (by omega)) ih i
    · exact ih i
theorem hisL_all {P : Ob → Prop} {s : Nat × (Nat → Ob)} {hs : Nat → Ch} {ver : Int} (h0 : ∀ i, i < s.1 → P (s.2 i)) : ∀ k, (∀ i, i < k → P (hs i).ob) → ∀ i, i < (hisL s hs ver k).1 → P ((hisL s hs ver k).2 i)
  | 0, _, i, hi => h0 i hi
  | k + 1, hx, i, hi => by
    have ih := hisL_all (ver := ver) h0 k (fun i hi => hx i (by omega))
    revert hi
    unfold hisL
    split
    · exact putAll_all (hx k (by omega)) ih i
    · exact ih i
/-- the first loop's state -/
def AtI1 (x : Bk) (w1 : World) (o i : Value) (wr : World) : Prop := ∃ (k : Nat) (ad : Option Addr) (cap : Nat), k ≤ x.on ∧ i = .int .i64 (k : Nat) ∧ o = .slice ad (objL x.os x.floor k).1 cap ∧ Below w1.heap.size w1 wr ∧ ObjsIn wr 0 wr.heap.size ad (objL x.os x.floor k).1 (objL x.os x.floor k).2
/-- the second loop's state -/
def AtI2 (x : Bk) (ver : Int) (w1 : World) (o al i : Value) (wr : World) : Prop := ∃ (k : Nat) (ad : Option Addr) (cap : Nat), k ≤ x.hn ∧ i = .int .i64 (k : Nat) ∧ al = .bool (allK x.hs ver k) ∧ o = .slice ad (hisL (objL x.os x.floor x.on) x.hs ver k).1 cap ∧ Below w1.heap.size w1 wr ∧ ObjsIn wr 0 wr.heap.size ad (hisL (objL x.os x.floor x.on) x.hs ver k).1 (hisL (objL x.os x.floor x.on) x.hs ver k).2
theorem StrsIn.up {w : World} {lo hi : Nat} {ad : Option Addr} {n : Nat} {s : Nat → ByteArray} (h : StrsIn w lo hi ad n s) (h2 : hi ≤ w.heap.size) : StrsIn w 0 w.heap.size ad n s := fun i hi' => by
  obtain ⟨b, off, e1, e2, e3, e4⟩ := h i hi'
  exact ⟨b, off, e1, Nat.zero_le _, by omega, e4⟩
theorem ObjsIn.up {w w' : World} {ad : Option Addr} {n : Nat} {x : Nat → Ob} (h : ObjsIn w 0 w.heap.size ad n x) (hb : Below w.heap.size w w') : ObjsIn w' 0 w'.heap.size ad n x := fun i hi' => by
  obtain ⟨b, off, ah, ch, e1, e2, e3, e4, e5⟩ := h.below hb (Nat.le_refl _) i hi'
  have := hb.size
  exact ⟨b, off, ah, ch, e1, e2, by omega, e4, fun j hj => by obtain ⟨b', o', f1, f2, f3, f4⟩ := e5 j hj; exact ⟨b', o', f1, f2, by omega, f4⟩⟩
set_option maxRecDepth 100000 in
set_option maxHeartbeats 4000000 in
theorem specAtYes_any (x : Bk) (a1 a2 a3 : Option Addr) (c1 c2 c3 : Nat) (ver : Int) (w : World) (lo hi : Nat) (hhi : hi ≤ w.heap.size) (l1 : (x.on : Int) ≤ 1048576) (hf : BkFit x) (hc : BkIn w lo hi x a1 a2 a3) (hv : allTo (chk x) 7 = true) (h100 : x.on ≤ 100) (h200 : x.hn ≤ 200) (hin : inB ver x.floor x.now = true) :
    Calls Tryz.prog 15 #[.agg #[.int .i64 x.now, .int .i64 x.floor, .slice a1 x.on c1, .slice a2 x.hn c2, .slice a3 x.tn c3], .int .i64 ver] w fun e w' => ∃ ad' cap' g A C hb, e = .returned (.tuple #[.slice ad' (hisL (objL x.os x.floor x.on) x.hs ver x.hn).1 cap', .bool (allK x.hs ver x.hn)]) ∧ ObsAt w' ad' g (hisL (objL x.os x.floor x.on) x.hs ver x.hn).1 (hisL (objL x.os x.floor x.on) x.hs ver x.hn).2 A C hb ∧ (∀ q, blkH g (hisL (objL x.os x.floor x.on) x.hs ver x.hn).1 (fun i => ((hisL (objL x.os x.floor x.on) x.hs ver x.hn).2 i).hn) hb q → w.heap.size ≤ q) ∧ Below w.heap.size w w' := by
  have HC := hid hc
  have HF := hid hf
  go_enter Tryz.func15, Tryz.ntmps15
  go_wp2_with (first
    | (go_at_call 39; go_must (refine (specValid_any x a1 a2 a3 c1 c2 c3 _ lo hi (by simp; omega) hf (HC.out.below ((below_alloc _ _).alloc (by simp) _) hhi)).mono ?_; rw [hv]; rintro e w1 ⟨rfl, hb1⟩; have hB1 : Below w.heap.size w w1 := ((below_alloc _ _).alloc (by simp) _).trans (hb1.mono (by simp; omega)); have H1 : Holds w1 w.heap.size (bkCells x a1 a2 a3 c1 c2 c3) := ((holds_new w _ 32).below (below_alloc _ _) (by simp)).below hb1 (by simp; omega); obtain ⟨p0, p1, p2, p3, p4⟩ := holds_bk H1))
    | (go_at_call 55; go_must (refine (in_any ver x.floor x.now _).mono ?_; rw [hin]; rintro e w2 ⟨rfl, hw2⟩; replace hw2 := hw2.symm; subst hw2)))
  have zw1 : w.heap.size + 1 < w1.heap.size := by have := hb1.size; simp at this; omega
  have H0 : ObjsIn w1 0 w1.heap.size (some ⟨w.heap.size + 1, 0, none⟩) (objL x.os x.floor 0).1 (objL x.os x.floor 0).2 := fun i hi' => absurd hi' (Nat.not_lt_zero _)
  clear p0 p1 p2 p3 p4 hb1
  go_loopw [6, 8] (fun o i wr => AtI1 x w1 o i wr) (fun _ i _ => x.on - (intOf i).toNat)
  case atStart => exact ⟨0, _, 0, Nat.zero_le _, rfl, rfl, Below.refl _ _, H0⟩
  case round =>
    obtain ⟨k, ad, cap, hk, rfl, rfl, hb, ho⟩ := hrel
    clear H0
    obtain ⟨p0, p1, p2, p3, p4⟩ := holds_bk (H1.below hb (by omega))
    have zr := hb.size
    have HO := hid ho
    clear ho
    by_cases hkn : k < x.on
    · obtain ⟨b, off, ah, ch, rfl, hlo, hbh, hcx, hsx⟩ := HC.out.o k hkn
      obtain ⟨e0, e1, e2, e3, e4, e5, e6⟩ := (hcx.below hB1 (by omega)).below hb (by omega)
      have HSX := hid (((hsx.below hB1 hhi).below hb (by omega)).up (by omega))
      have hle := objL_le x.os x.floor k
      obtain ⟨m, hm⟩ : ∃ m, (objL x.os x.floor k).1 = m := ⟨_, rfl⟩
      obtain ⟨y, hy⟩ : ∃ y, (objL x.os x.floor k).2 = y := ⟨_, rfl⟩
      rw [hm] at hle
      by_cases hver : (x.os k).ver ≤ x.floor
      · have HN1 := hid (show (objL x.os x.floor (k + 1)).1 = (putAll m y (x.os k) false).m by rw [objL, if_pos hver, hm, hy])
        have HN2 := hid (show (objL x.os x.floor (k + 1)).2 = (putAll m y (x.os k) false).y by rw [objL, if_pos hver, hm, hy])
        have HO2 := hid (show ObjsIn wr 0 wr.heap.size ad m y from hm ▸ hy ▸ HO.out)
        rw [hm]
        clear hm hy HO
        go_wp2
        go_region
        all_goals go_wp2_with (go_at_call 56; go_must (refine (l2Put_any m y ad cap ⟨0, false, x.os k⟩ ah ch _ 0 wr.heap.size (by simp) (by omega) (by exact HO2.out.below ((Below.refl _ _).drew) (Nat.le_refl _)) (by exact HSX.out.below ((Below.refl _ _).drew) (Nat.le_refl _))).mono ?_; rintro e w3 ⟨v3, A3, C3, rfl, hr3, hb3⟩; have HR3 := hid hr3; clear hr3))
        all_goals
          have z3 := hb3.size
          simp only [World.size_drew] at z3
          obtain ⟨ad3, cap3, hv3, ho3⟩ := HR3.out.objs z3
          subst hv3
          exact ⟨⟨k + 1, ad3, cap3, by omega, by simp, by rw [HN1.out], hb.trans ((((Below.refl _ _).drew).trans hb3).mono zr), by rw [HN1.out, HN2.out]; exact ho3⟩, by simp [intOf]; omega⟩
      · have HN1 := hid (show objL x.os x.floor (k + 1) = objL x.os x.floor k by rw [objL, if_neg hver])
        have HO2 := hid (show ObjsIn wr 0 wr.heap.size ad m y from hm ▸ hy ▸ HO.out)
        have HM := hid hm
        have HYY := hid hy
        rw [hm]
        clear hm hy HO
        go_wp2
        go_region
        all_goals go_wp2
        all_goals exact ⟨⟨k + 1, ad, cap, by omega, by simp, by rw [HN1.out, HM.out], hb.trans ((Below.refl _ _).drew), by rw [HN1.out, HM.out, HYY.out]; exact HO2.out.up ((Below.refl _ _).drew)⟩, by simp [intOf]; omega⟩
    · have hke : k = x.on := by omega
      subst hke
      obtain ⟨W0, hW0⟩ : ∃ W0, W0 = wr := ⟨_, rfl⟩
      subst hW0
      go_wp2
      go_loopw [6, 7, 9] (fun o al i wr => AtI2 x ver w1 o al i wr) (fun _ _ i _ => x.hn - (intOf i).toNat)
      case atStart => exact ⟨0, ad, cap, Nat.zero_le _, rfl, rfl, rfl, hb, HO.out⟩
      case round =>
        obtain ⟨k, ad, cap, hk, rfl, rfl, rfl, hb, ho⟩ := hrel
        clear HO p0 p1 p2 p3 p4 zr
        obtain ⟨p0, p1, p2, p3, p4⟩ := holds_bk (H1.below hb (by omega))
        have zr := hb.size
        have HO := hid ho
        clear ho
        by_cases hkn : k < x.hn
        · obtain ⟨b, off, ah, ch, ha2, hlo, hbh, hcx, hsx⟩ := HC.out.h k hkn
          obtain ⟨e0, e1, e2, e3, e4, e5, e6, e7, e8⟩ := (hcx.below hB1 (by omega)).below hb (by omega)
          have HSX := hid (((hsx.below hB1 hhi).below hb (by omega)).up (by omega))
          have HCI := hid ((HC.out.h.below hB1 hhi).below hb (by omega))
          have hle := hisL_le (objL x.os x.floor x.on) x.hs ver k
          have hle0 := objL_le x.os x.floor x.on
          obtain ⟨m, hm⟩ : ∃ m, (hisL (objL x.os x.floor x.on) x.hs ver k).1 = m := ⟨_, rfl⟩
          obtain ⟨y, hy⟩ : ∃ y, (hisL (objL x.os x.floor x.on) x.hs ver k).2 = y := ⟨_, rfl⟩
          rw [hm] at hle
          have HO2 := hid (show ObjsIn wr 0 wr.heap.size ad m y from hm ▸ hy ▸ HO.out)
          have hB := (holds_new wr #[.int .i64 (x.hs k).ver, .bool (x.hs k).gone, .string (x.hs k).ob.kind, .string (x.hs k).ob.name, .int .i64 (x.hs k).ob.ver, .int .i64 (x.hs k).ob.born, .string (x.hs k).ob.text, .bool (x.hs k).ob.ending, .slice ah (x.hs k).ob.hn ch] 75)
          have g0 := hB 0; have g1 := hB 1; have g2 := hB 2; have g3 := hB 3; have g4 := hB 4; have g5 := hB 5; have g6 := hB 6; have g7 := hB 7; have g8 := hB 8
          simp only [List.getElem?_toArray, List.getElem?_cons_succ, List.getElem?_cons_zero] at g0 g1 g2 g3 g4 g5 g6 g7 g8
          have q3 : ∀ o, (wr.alloc o).cell? ⟨w.heap.size, 3, none⟩ = some (.slice a2 x.hn c2) := fun o => (World.cell?_alloc_past _ _ _ (by omega)).trans p3
          clear hB
          by_cases hver : (x.hs k).ver ≤ ver
          · have HN1 := hid (show (hisL (objL x.os x.floor x.on) x.hs ver (k + 1)).1 = (putAll m y (x.hs k).ob (x.hs k).gone).m by rw [hisL, if_pos hver, hm, hy])
            have HN2 := hid (show (hisL (objL x.os x.floor x.on) x.hs ver (k + 1)).2 = (putAll m y (x.hs k).ob (x.hs k).gone).y by rw [hisL, if_pos hver, hm, hy])
            have HA := hid (show allK x.hs ver (k + 1) = allK x.hs ver k by rw [allK, decide_eq_true hver]; simp)
            rw [hm]
            clear hm hy HO
            generalize hal : allK x.hs ver k = al
            subst ha2
            go_wp2_with (go_at_call 56; go_must (refine (l2Put_any m y ad cap (x.hs k) ah ch _ 0 wr.heap.size (by simp) (by omega) (by exact HO2.out.below (below_alloc _ _) (Nat.le_refl _)) (by exact HSX.out.below (below_alloc _ _) (Nat.le_refl _))).mono ?_; rintro e w3 ⟨v3, A3, C3, rfl, hr3, hb3⟩; have HR3 := hid hr3; clear hr3))
            have z3 := hb3.size
            simp only [World.size_alloc] at z3
            obtain ⟨ad3, cap3, hv3, ho3⟩ := HR3.out.objs (by omega)
            subst hv3
            exact ⟨⟨k + 1, ad3, cap3, by omega, by simp, by rw [HA.out, hal], by rw [HN1.out], hb.trans (((below_alloc _ _).trans (hb3.mono (by simp))).mono zr), by rw [HN1.out, HN2.out]; exact ho3⟩, by simp [intOf]; omega⟩
          · have HN1 := hid (show hisL (objL x.os x.floor x.on) x.hs ver (k + 1) = hisL (objL x.os x.floor x.on) x.hs ver k by rw [hisL, if_neg hver])
            have HA := hid (show allK x.hs ver (k + 1) = (allK x.hs ver k && !(decide (lastI x.hs (x.hs k).ob k < 0) && !creB (x.hs k))) by rw [allK, decide_eq_false hver]; simp)
            have HM := hid hm
            have HYY := hid hy
            rw [hm]
            clear hm hy HO
            generalize hal : allK x.hs ver k = al
            have HAL := hid hal
            clear hal
            subst ha2
            have zn : k ≤ x.hn := by omega
            have hl0 : ∀ r, lastI x.hs (x.hs k).ob k = r → lastI x.hs (x.hs k).ob k = r := fun _ h => h
            clear hl0
            obtain ⟨r, hrr⟩ : ∃ r, lastI x.hs (x.hs k).ob k = r := ⟨_, rfl⟩
            have HRR := hid hrr
            by_cases hl : r < 0
            · have hl2 : lastI x.hs (x.hs k).ob k < 0 := by rw [hrr]; exact hl
              cases hcr : creB (x.hs k) with
              | true =>
                go_wp2_with (first | (go_at_call 57; go_must (refine (l1Last_any x.hn k x.hs (x.hs k).ob _ ah c2 ch _ lo hi (by simp; omega) (by omega) zn (by exact HCI.out.below (below_alloc _ _) (by omega))).mono ?_; rw [HRR.out]; rintro e w3 ⟨rfl, hb3⟩; have r0 := (hb3.cell (p := ⟨wr.heap.size, 0, none⟩) (by simp)).trans g0; have r1 := (hb3.cell (p := ⟨wr.heap.size, 1, none⟩) (by simp)).trans g1; have r2 := (hb3.cell (p := ⟨wr.heap.size, 2, none⟩) (by simp)).trans g2; have r3 := (hb3.cell (p := ⟨wr.heap.size, 3, none⟩) (by simp)).trans g3; have r4 := (hb3.cell (p := ⟨wr.heap.size, 4, none⟩) (by simp)).trans g4; have r5 := (hb3.cell (p := ⟨wr.heap.size, 5, none⟩) (by simp)).trans g5; have r6 := (hb3.cell (p := ⟨wr.heap.size, 6, none⟩) (by simp)).trans g6; have r7 := (hb3.cell (p := ⟨wr.heap.size, 7, none⟩) (by simp)).trans g7; have r8 := (hb3.cell (p := ⟨wr.heap.size, 8, none⟩) (by simp)).trans g8)) | (go_at_call 58; go_must (refine (specCre_any (x.hs k) ah ch _).mono ?_; rw [hcr]; rintro e w4 ⟨rfl, hb4⟩)))
                exact ⟨⟨k + 1, ad, cap, by omega, by simp, by rw [HA.out, HAL.out]; simp [hl2, hcr], by rw [HN1.out, HM.out], hb.trans ((((below_alloc _ _).trans (hb3.mono (by simp))).trans (hb4.mono (by have := hb3.size; simp at this; omega))).mono zr), by rw [HN1.out, HM.out, HYY.out]; exact HO2.out.up ((((below_alloc _ _).trans (hb3.mono (by simp))).trans (hb4.mono (by have := hb3.size; simp at this; omega))))⟩, by simp [intOf]; omega⟩
              | false =>
                go_wp2_with (first | (go_at_call 57; go_must (refine (l1Last_any x.hn k x.hs (x.hs k).ob _ ah c2 ch _ lo hi (by simp; omega) (by omega) zn (by exact HCI.out.below (below_alloc _ _) (by omega))).mono ?_; rw [HRR.out]; rintro e w3 ⟨rfl, hb3⟩; have r0 := (hb3.cell (p := ⟨wr.heap.size, 0, none⟩) (by simp)).trans g0; have r1 := (hb3.cell (p := ⟨wr.heap.size, 1, none⟩) (by simp)).trans g1; have r2 := (hb3.cell (p := ⟨wr.heap.size, 2, none⟩) (by simp)).trans g2; have r3 := (hb3.cell (p := ⟨wr.heap.size, 3, none⟩) (by simp)).trans g3; have r4 := (hb3.cell (p := ⟨wr.heap.size, 4, none⟩) (by simp)).trans g4; have r5 := (hb3.cell (p := ⟨wr.heap.size, 5, none⟩) (by simp)).trans g5; have r6 := (hb3.cell (p := ⟨wr.heap.size, 6, none⟩) (by simp)).trans g6; have r7 := (hb3.cell (p := ⟨wr.heap.size, 7, none⟩) (by simp)).trans g7; have r8 := (hb3.cell (p := ⟨wr.heap.size, 8, none⟩) (by simp)).trans g8)) | (go_at_call 58; go_must (refine (specCre_any (x.hs k) ah ch _).mono ?_; rw [hcr]; rintro e w4 ⟨rfl, hb4⟩)))
                exact ⟨⟨k + 1, ad, cap, by omega, by simp, by rw [HA.out, HAL.out]; simp [hl2, hcr], by rw [HN1.out, HM.out], hb.trans ((((below_alloc _ _).trans (hb3.mono (by simp))).trans (hb4.mono (by have := hb3.size; simp at this; omega))).mono zr), by rw [HN1.out, HM.out, HYY.out]; exact HO2.out.up ((((below_alloc _ _).trans (hb3.mono (by simp))).trans (hb4.mono (by have := hb3.size; simp at this; omega))))⟩, by simp [intOf]; omega⟩
            · have hl2 : ¬ lastI x.hs (x.hs k).ob k < 0 := by rw [hrr]; exact hl
              go_wp2_with (go_at_call 57; go_must (refine (l1Last_any x.hn k x.hs (x.hs k).ob _ ah c2 ch _ lo hi (by simp; omega) (by omega) zn (by exact HCI.out.below (below_alloc _ _) (by omega))).mono ?_; rw [HRR.out]; rintro e w3 ⟨rfl, hb3⟩; have r0 := (hb3.cell (p := ⟨wr.heap.size, 0, none⟩) (by simp)).trans g0; have r1 := (hb3.cell (p := ⟨wr.heap.size, 1, none⟩) (by simp)).trans g1; have r2 := (hb3.cell (p := ⟨wr.heap.size, 2, none⟩) (by simp)).trans g2; have r3 := (hb3.cell (p := ⟨wr.heap.size, 3, none⟩) (by simp)).trans g3; have r4 := (hb3.cell (p := ⟨wr.heap.size, 4, none⟩) (by simp)).trans g4; have r5 := (hb3.cell (p := ⟨wr.heap.size, 5, none⟩) (by simp)).trans g5; have r6 := (hb3.cell (p := ⟨wr.heap.size, 6, none⟩) (by simp)).trans g6; have r7 := (hb3.cell (p := ⟨wr.heap.size, 7, none⟩) (by simp)).trans g7; have r8 := (hb3.cell (p := ⟨wr.heap.size, 8, none⟩) (by simp)).trans g8))
              exact ⟨⟨k + 1, ad, cap, by omega, by simp, by rw [HA.out, HAL.out]; simp [hl2], by rw [HN1.out, HM.out], hb.trans (((below_alloc _ _).trans (hb3.mono (by simp))).mono zr), by rw [HN1.out, HM.out, HYY.out]; exact HO2.out.up (((below_alloc _ _).trans (hb3.mono (by simp))))⟩, by simp [intOf]; omega⟩
        · have hke : k = x.hn := by omega
          subst hke
          have HFT := hid (hisL_all (ver := ver) (P := ObFit) (objL_all (fl := x.floor) x.on HF.out.os) x.hn HF.out.hs)
          have hle := hisL_le (objL x.os x.floor x.on) x.hs ver x.hn
          have hle0 := objL_le x.os x.floor x.on
          obtain ⟨m, hm⟩ : ∃ m, (hisL (objL x.os x.floor x.on) x.hs ver x.hn).1 = m := ⟨_, rfl⟩
          obtain ⟨y, hy⟩ : ∃ y, (hisL (objL x.os x.floor x.on) x.hs ver x.hn).2 = y := ⟨_, rfl⟩
          rw [hm] at hle
          have HO2 := hid (show ObjsIn wr 0 wr.heap.size ad m y from hm ▸ hy ▸ HO.out)
          have HFT2 := hid (show ∀ i, i < m → ObFit (y i) from fun i hi' => by rw [← hy]; exact HFT.out i (by rw [hm]; exact hi'))
          generalize hal : allK x.hs ver x.hn = al
          have HAL := hid hal
          have HM := hid hm
          have HYY := hid hy
          rw [hm]
          clear hm hy HO HFT hal
          go_wp2_with (go_at_call 59; go_must (refine (specObs_any m y ad cap _ 0 wr.heap.size (Nat.le_refl _) (by omega) HFT2.out HO2.out).mono ?_; rintro e w3 ⟨ad', cap', g, A, C, hb', rfl, hat, hq, hb3⟩; have HAT := hid hat; have HQ := hid hq; clear hat hq))
          refine bodyPost_ret (v := .tuple #[.slice ad' m cap', .bool al]) (by simp [results, Tryz.results15, go_sem]) rfl ?_
          rw [HM.out, HYY.out, HAL.out]
          exact ⟨ad', cap', g, A, C, hb', rfl, HAT.out, fun q hq => Nat.le_trans (by omega) (HQ.out q hq), (hB1.trans (hb.mono (by omega))).trans (hb3.mono (by omega))⟩
end Go.Proofs.YtkecnaaacbckoaaGreat
namespace Go.Proofs.YtkecnaaacbckoaaGreat
open Go.RowKit Go.Sort
/-- a list of objects, as a row -/
def toL (m : Nat) (y : Nat → Ob) : List Ob := (List.range m).map y
theorem toL_zero (y : Nat → Ob) : toL 0 y = [] := rfl
theorem toL_succ (m : Nat) (y : Nat → Ob) : toL (m + 1) y = toL m y ++ [y m] := by simp [toL, List.range_succ]
theorem toL_upd (m : Nat) (y : Nat → Ob) (z : Ob) : toL (m + 1) (updF y m z) = toL m y ++ [z] := by
  rw [toL_succ, updF_same]
  congr 1
  unfold toL
  apply List.map_congr_left
  intro i hi
  rw [updF_ne _ _ (by have := List.mem_range.1 hi; omega)]
theorem keyI_neg (x z : Ob) : keyI x z < 0 ↔ befB x z = true := by
  have h := keyI_bef x z
  cases hb : befB x z with
  | true => rw [hb] at h; simp at h; simp; omega
  | false => rw [hb] at h; simp at h; simp; omega
theorem keyI_nil (x z : Ob) : keyI x z = 0 ↔ (x.kind.toList = z.kind.toList ∧ x.name.toList = z.name.toList) := by
  unfold keyI
  by_cases h : x.kind.toList = z.kind.toList
  · rw [ltB_irr h]
    by_cases h2 : x.name.toList = z.name.toList
    · rw [ltB_irr h2]; simp [h, h2]
    · cases h3 : ltB x.name z.name <;> simp [h, h2]
  · cases h1 : ltB x.kind z.kind <;> simp [h]
theorem bef_of_key {x z : Ob} (h : keyI x z = 0) : befB x z = false ∧ befB z x = false := by
  have h2 := (keyI_nil x z).1 h
  exact ⟨by rw [befB_key h2]; exact befB_irr z, by rw [befB_key ⟨h2.1.symm, h2.2.symm⟩]; exact befB_irr x⟩
theorem bef_of_pos {x z : Ob} (h1 : ¬ keyI x z < 0) (h2 : ¬ keyI x z = 0) : befB x z = false ∧ befB z x = true := by
  have h3 : befB x z = false := by
    cases h : befB x z with
    | false => rfl
    | true => exact absurd ((keyI_neg x z).2 h) h1
  refine ⟨h3, ?_⟩
  cases h : befB z x with
  | true => rfl
  | false => exact absurd ((keyI_nil x z).2 (befB_tot h3 h)) h2
/-- ascending -/
def Asc (n : Nat) (x : Nat → Ob) : Prop := ∀ i j, i < j → j < n → befB (x i) (x j) = true
/-- what putting leaves: those below, the new one unless it is gone, those above -/
def putL (o : Ob) (gone : Bool) (l : List Ob) : List Ob := l.filter (fun y => befB y o) ++ ((if gone then [] else [o]) ++ l.filter (fun y => befB o y))
theorem putTo_gone (x : Nat → Ob) (o : Ob) : ∀ n, (putTo x o true n).done = true ∧ toL (putTo x o true n).m (putTo x o true n).y = (toL n x).filter (fun y => befB y o || befB o y)
  | 0 => ⟨rfl, rfl⟩
  | n + 1 => by
    obtain ⟨h1, h2⟩ := putTo_gone x o n
    show (putStep o (x n) (putTo x o true n)).done = true ∧ toL (putStep o (x n) (putTo x o true n)).m (putStep o (x n) (putTo x o true n)).y = _
    rw [toL_succ, List.filter_append, ← h2]
    unfold putStep
    rw [h1]
    by_cases hk : keyI (x n) o = 0
    · rw [if_pos rfl, if_pos hk]
      have hb := bef_of_key hk
      exact ⟨h1, by simp [hb]⟩
    · rw [if_pos rfl, if_neg hk]
      refine ⟨rfl, ?_⟩
      show toL ((putTo x o true n).m + 1) (updF _ _ _) = _
      rw [toL_upd]
      by_cases hn : keyI (x n) o < 0
      · simp [(keyI_neg _ _).1 hn]
      · simp [bef_of_pos hn hk]
theorem putTo_here {x : Nat → Ob} {o : Ob} : ∀ n, Asc n x →
    ((putTo x o false n).done = false ∧ toL (putTo x o false n).m (putTo x o false n).y = toL n x ∧ ∀ i, i < n → befB (x i) o = true) ∨
    ((putTo x o false n).done = true ∧ toL (putTo x o false n).m (putTo x o false n).y = putL o false (toL n x) ∧ ∃ i, i < n ∧ befB (x i) o = false)
  | 0, _ => Or.inl ⟨rfl, rfl, fun i hi => absurd hi (Nat.not_lt_zero _)⟩
  | n + 1, ha => by
    have ih := putTo_here (o := o) n (fun i j h1 h2 => ha i j h1 (by omega))
    show ((putStep o (x n) (putTo x o false n)).done = false ∧ toL (putStep o (x n) (putTo x o false n)).m (putStep o (x n) (putTo x o false n)).y = _ ∧ _) ∨ ((putStep o (x n) (putTo x o false n)).done = true ∧ toL (putStep o (x n) (putTo x o false n)).m (putStep o (x n) (putTo x o false n)).y = _ ∧ _)
    unfold putStep
    rcases ih with ⟨h1, h2, h3⟩ | ⟨h1, h2, i, hi, h3⟩
    · have f1 : (toL n x).filter (fun y => befB y o) = toL n x := List.filter_eq_self.2 (fun y hy => by
        obtain ⟨i, hi, rfl⟩ := List.mem_map.1 hy
        exact h3 i (List.mem_range.1 hi))
      have f2 : (toL n x).filter (fun y => befB o y) = [] := List.filter_eq_nil_iff.2 (fun y hy hb => by
        obtain ⟨i, hi, rfl⟩ := List.mem_map.1 hy
        have h4 := befB_trans (h3 i (List.mem_range.1 hi)) hb
        rw [befB_irr] at h4
        cases h4)
      rw [h1, if_neg (by decide)]
      by_cases hn : keyI (x n) o < 0
      · rw [if_pos hn]
        refine Or.inl ⟨rfl, ?_, fun i hi => ?_⟩
        · show toL ((putTo x o false n).m + 1) (updF _ _ _) = _
          rw [toL_upd, toL_succ, h2]
        · by_cases e : i = n
          · subst e; exact (keyI_neg _ _).1 hn
          · exact h3 i (by omega)
      · rw [if_neg hn]
        by_cases hk : keyI (x n) o = 0
        · rw [if_pos hk]
          have hb := bef_of_key hk
          refine Or.inr ⟨rfl, ?_, n, by omega, hb.1⟩
          show toL ((putTo x o false n).m + 1) (updF _ _ _) = _
          rw [toL_upd, h2]
          unfold putL
          rw [toL_succ, List.filter_append, List.filter_append, f1, f2]
          simp [hb]
        · rw [if_neg hk]
          have hb := bef_of_pos hn hk
          refine Or.inr ⟨rfl, ?_, n, by omega, hb.1⟩
          show toL ((putTo x o false n).m + 1 + 1) (updF _ _ _) = _
          rw [toL_upd, toL_upd, h2]
          unfold putL
          rw [toL_succ, List.filter_append, List.filter_append, f1, f2]
          simp [hb]
    · rw [h1, if_pos rfl]
      have hnb : befB (x n) o = false := by
        cases h : befB (x n) o with
        | false => rfl
        | true =>
          have h4 := befB_trans (ha i n hi (Nat.lt_succ_self _)) h
          rw [h3] at h4
          cases h4
      by_cases hk : keyI (x n) o = 0
      · rw [if_pos hk]
        have hb := bef_of_key hk
        refine Or.inr ⟨h1, ?_, i, by omega, h3⟩
        rw [h2]
        unfold putL
        rw [toL_succ, List.filter_append, List.filter_append]
        simp [hb]
      · rw [if_neg hk]
        have hb := bef_of_pos (fun h => by rw [(keyI_neg _ _).1 h] at hnb; cases hnb) hk
        refine Or.inr ⟨rfl, ?_, i, by omega, h3⟩
        show toL ((putTo x o false n).m + 1) (updF _ _ _) = _
        rw [toL_upd, h2]
        unfold putL
        rw [toL_succ, List.filter_append, List.filter_append]
        simp [hb]
theorem toL_split {x : Nat → Ob} {o : Ob} : ∀ n, Asc n x → (toL n x).filter (fun y => befB y o || befB o y) = (toL n x).filter (fun y => befB y o) ++ (toL n x).filter (fun y => befB o y)
  | 0, _ => rfl
  | n + 1, ha => by
    have ih := toL_split (o := o) n (fun i j h1 h2 => ha i j h1 (by omega))
    rw [toL_succ, List.filter_append, List.filter_append, List.filter_append, ih]
    cases h1 : befB (x n) o with
    | true =>
      have f2 : (toL n x).filter (fun y => befB o y) = [] := List.filter_eq_nil_iff.2 (fun y hy hb => by
        obtain ⟨i, hi, rfl⟩ := List.mem_map.1 hy
        have h4 := befB_trans (befB_trans hb (ha i n (List.mem_range.1 hi) (Nat.lt_succ_self _))) h1
        rw [befB_irr] at h4
        cases h4)
      have h5 : befB o (x n) = false := by
        cases h : befB o (x n) with
        | false => rfl
        | true => have h4 := befB_trans h1 h; rw [befB_irr] at h4; cases h4
      rw [f2]
      simp [h1, h5]
    | false => cases h2 : befB o (x n) <;> simp [h1, h2]
/-- putting, as a row -/
theorem putAll_list {x : Nat → Ob} {o : Ob} {gone : Bool} {n : Nat} (ha : Asc n x) : toL (putAll n x o gone).m (putAll n x o gone).y = putL o gone (toL n x) := by
  unfold putAll putEnd
  cases gone with
  | true =>
    obtain ⟨h1, h2⟩ := putTo_gone x o n
    rw [if_pos h1, h2, toL_split n ha]
    simp [putL]
  | false =>
    rcases putTo_here (o := o) n ha with ⟨h1, h2, h3⟩ | ⟨h1, h2, _⟩
    · rw [if_neg (by rw [h1]; decide)]
      show toL ((putTo x o false n).m + 1) (updF _ _ _) = _
      rw [toL_upd, h2]
      have f1 : (toL n x).filter (fun y => befB y o) = toL n x := List.filter_eq_self.2 (fun y hy => by
        obtain ⟨i, hi, rfl⟩ := List.mem_map.1 hy
        exact h3 i (List.mem_range.1 hi))
      have f2 : (toL n x).filter (fun y => befB o y) = [] := List.filter_eq_nil_iff.2 (fun y hy hb => by
        obtain ⟨i, hi, rfl⟩ := List.mem_map.1 hy
        have h4 := befB_trans (h3 i (List.mem_range.1 hi)) hb
        rw [befB_irr] at h4
        cases h4)
      unfold putL
      rw [f1, f2]
      simp
    · rw [if_pos h1, h2]
/-- two objects of the same kind and name -/
def sameK (a b : Ob) : Prop := befB a b = false ∧ befB b a = false
theorem putL_mem (o : Ob) (gone : Bool) (l : List Ob) (y : Ob) : y ∈ putL o gone l ↔ (y ∈ l ∧ ¬ sameK y o) ∨ (gone = false ∧ y = o) := by
  unfold putL sameK
  rw [List.mem_append, List.mem_append, List.mem_filter, List.mem_filter]
  cases gone <;> cases h1 : befB y o <;> cases h2 : befB o y <;> simp
  · exact Or.comm
  · exact ⟨fun h => by rcases h with h | h | h; exact Or.inl h; exact Or.inr h; exact Or.inl h, fun h => by rcases h with h | h; exact Or.inl h; exact Or.inr (Or.inl h)⟩
theorem putL_asc {o : Ob} {gone : Bool} {l : List Ob} (h : l.Pairwise (fun a b => befB a b = true)) : (putL o gone l).Pairwise (fun a b => befB a b = true) := by
  unfold putL
  rw [List.pairwise_append]
  refine ⟨h.filter _, ?_, fun a ha b hb => ?_⟩
  · rw [List.pairwise_append]
    refine ⟨by cases gone <;> simp, h.filter _, fun a ha b hb => ?_⟩
    cases gone with
    | true => simp at ha
    | false =>
      obtain rfl : a = o := by simpa using ha
      exact (List.mem_filter.1 hb).2
  · have h1 := (List.mem_filter.1 ha).2
    rcases List.mem_append.1 hb with hb | hb
    · cases gone with
      | true => simp at hb
      | false =>
        obtain rfl : b = o := by simpa using hb
        exact h1
    · exact befB_trans h1 (List.mem_filter.1 hb).2
theorem asc_pair {n : Nat} {x : Nat → Ob} : Asc n x ↔ (toL n x).Pairwise (fun a b => befB a b = true) := by
  unfold toL Asc
  rw [List.pairwise_map, List.pairwise_iff_getElem]
  constructor
  · intro h i j hi hj hij
    simp only [List.getElem_range]
    exact h i j hij (by simpa using hj)
  · intro h i j hij hj
    have h2 := h i j (by simp; omega) (by simpa using hj) hij
    simpa using h2
/-- the first loop, as a row -/
theorem objL_list {os : Nat → Ob} {fl : Int} : ∀ n, (toL (objL os fl n).1 (objL os fl n).2).Pairwise (fun a b => befB a b = true) ∧
    toL (objL os fl (n + 1)).1 (objL os fl (n + 1)).2 = if (os n).ver ≤ fl then putL (os n) false (toL (objL os fl n).1 (objL os fl n).2) else toL (objL os fl n).1 (objL os fl n).2
  | n => by
    have step : ∀ n, Asc (objL os fl n).1 (objL os fl n).2 → toL (objL os fl (n + 1)).1 (objL os fl (n + 1)).2 = if (os n).ver ≤ fl then putL (os n) false (toL (objL os fl n).1 (objL os fl n).2) else toL (objL os fl n).1 (objL os fl n).2 := fun n ha => by
      by_cases h : (os n).ver ≤ fl
      · rw [if_pos h, objL, if_pos h]
        exact putAll_list ha
      · rw [if_neg h, objL, if_neg h]
    have asc : ∀ n, (toL (objL os fl n).1 (objL os fl n).2).Pairwise (fun a b => befB a b = true) := fun n => by
      induction n with
      | zero => exact List.Pairwise.nil
      | succ n ih =>
        rw [step n (asc_pair.2 ih)]
        split
        · exact putL_asc ih
        · exact ih
    exact ⟨asc n, step n (asc_pair.2 (asc n))⟩
/-- the second loop, as a row -/
theorem hisL_list {s : Nat × (Nat → Ob)} {hs : Nat → Ch} {ver : Int} (h0 : (toL s.1 s.2).Pairwise (fun a b => befB a b = true)) : ∀ n, (toL (hisL s hs ver n).1 (hisL s hs ver n).2).Pairwise (fun a b => befB a b = true) ∧
    toL (hisL s hs ver (n + 1)).1 (hisL s hs ver (n + 1)).2 = if (hs n).ver ≤ ver then putL (hs n).ob (hs n).gone (toL (hisL s hs ver n).1 (hisL s hs ver n).2) else toL (hisL s hs ver n).1 (hisL s hs ver n).2
  | n => by
    have step : ∀ n, Asc (hisL s hs ver n).1 (hisL s hs ver n).2 → toL (hisL s hs ver (n + 1)).1 (hisL s hs ver (n + 1)).2 = if (hs n).ver ≤ ver then putL (hs n).ob (hs n).gone (toL (hisL s hs ver n).1 (hisL s hs ver n).2) else toL (hisL s hs ver n).1 (hisL s hs ver n).2 := fun n ha => by
      by_cases h : (hs n).ver ≤ ver
      · rw [if_pos h, hisL, if_pos h]
        exact putAll_list ha
      · rw [if_neg h, hisL, if_neg h]
    have asc : ∀ n, (toL (hisL s hs ver n).1 (hisL s hs ver n).2).Pairwise (fun a b => befB a b = true) := fun n => by
      induction n with
      | zero => exact h0
      | succ n ih =>
        rw [step n (asc_pair.2 ih)]
        split
        · exact putL_asc ih
        · exact ih
    exact ⟨asc n, step n (asc_pair.2 (asc n))⟩
theorem toL_mem {n : Nat} {x : Nat → Ob} {y : Ob} : y ∈ toL n x ↔ ∃ i, i < n ∧ y = x i := by
  unfold toL
  rw [List.mem_map]
  constructor
  · rintro ⟨i, hi, rfl⟩; exact ⟨i, List.mem_range.1 hi, rfl⟩
  · rintro ⟨i, hi, rfl⟩; exact ⟨i, List.mem_range.2 hi, rfl⟩
/-- which objects stand after the first loop, where no two of them are of the same kind and name -/
theorem objL_mem {os : Nat → Ob} {fl : Int} {y : Ob} : ∀ n, Asc n os → (y ∈ toL (objL os fl n).1 (objL os fl n).2 ↔ ∃ i, i < n ∧ (os i).ver ≤ fl ∧ y = os i)
  | 0, _ => by
    constructor
    · intro h; simp [objL, toL] at h
    · rintro ⟨i, hi, _⟩; exact absurd hi (Nat.not_lt_zero _)
  | n + 1, ha => by
    have ih := objL_mem (fl := fl) (y := y) n (fun i j h1 h2 => ha i j h1 (by omega))
    rw [(objL_list n).2]
    by_cases h : (os n).ver ≤ fl
    · rw [if_pos h, putL_mem, ih]
      constructor
      · rintro (⟨⟨i, hi, h1, h2⟩, _⟩ | ⟨_, h2⟩)
        · exact ⟨i, by omega, h1, h2⟩
        · exact ⟨n, by omega, h, h2⟩
      · rintro ⟨i, hi, h1, h2⟩
        by_cases e : i = n
        · subst e; exact Or.inr ⟨rfl, h2⟩
        · refine Or.inl ⟨⟨i, by omega, h1, h2⟩, fun hk => ?_⟩
          have h3 := ha i n (by omega) (by omega)
          rw [← h2] at h3
          rw [hk.1] at h3
          cases h3
    · rw [if_neg h, ih]
      constructor
      · rintro ⟨i, hi, h1, h2⟩; exact ⟨i, by omega, h1, h2⟩
      · rintro ⟨i, hi, h1, h2⟩
        by_cases e : i = n
        · subst e; exact absurd h1 h
        · exact ⟨i, by omega, h1, h2⟩
/-- which objects stand after the second loop: those of before that no change tells of, and what the last change of each left -/
theorem hisL_mem {s : Nat × (Nat → Ob)} {hs : Nat → Ch} {ver : Int} {y : Ob} (h0 : (toL s.1 s.2).Pairwise (fun a b => befB a b = true)) : ∀ n, (y ∈ toL (hisL s hs ver n).1 (hisL s hs ver n).2 ↔
    (y ∈ toL s.1 s.2 ∧ ∀ j, j < n → (hs j).ver ≤ ver → ¬ sameK y (hs j).ob) ∨ (∃ j, j < n ∧ (hs j).ver ≤ ver ∧ (hs j).gone = false ∧ y = (hs j).ob ∧ ∀ i, j < i → i < n → (hs i).ver ≤ ver → ¬ sameK y (hs i).ob))
  | 0 => by
    constructor
    · intro h; exact Or.inl ⟨h, fun j hj => absurd hj (Nat.not_lt_zero _)⟩
    · rintro (⟨h, _⟩ | ⟨j, hj, _⟩)
      · exact h
      · exact absurd hj (Nat.not_lt_zero _)
  | n + 1 => by
    have ih := hisL_mem (hs := hs) (ver := ver) (y := y) h0 n
    rw [(hisL_list h0 n).2]
    by_cases h : (hs n).ver ≤ ver
    · rw [if_pos h, putL_mem, ih]
      constructor
      · rintro (⟨⟨h1, h2⟩ | ⟨j, hj, h1, h2, h3, h4⟩, hk⟩ | ⟨h1, h2⟩)
        · refine Or.inl ⟨h1, fun j hj hv => ?_⟩
          by_cases e : j = n
          · subst e; exact hk
          · exact h2 j (by omega) hv
        · refine Or.inr ⟨j, by omega, h1, h2, h3, fun i hi1 hi2 hv => ?_⟩
          by_cases e : i = n
          · subst e; exact hk
          · exact h4 i hi1 (by omega) hv
        · exact Or.inr ⟨n, by omega, h, h1, h2, fun i hi1 hi2 => by omega⟩
      · rintro (⟨h1, h2⟩ | ⟨j, hj, h1, h2, h3, h4⟩)
        · exact Or.inl ⟨Or.inl ⟨h1, fun j hj hv => h2 j (by omega) hv⟩, h2 n (by omega) h⟩
        · by_cases e : j = n
          · subst e; exact Or.inr ⟨h2, h3⟩
          · exact Or.inl ⟨Or.inr ⟨j, by omega, h1, h2, h3, fun i hi1 hi2 hv => h4 i hi1 (by omega) hv⟩, h4 n (by omega) (by omega) h⟩
    · rw [if_neg h, ih]
      constructor
      · rintro (⟨h1, h2⟩ | ⟨j, hj, h1, h2, h3, h4⟩)
        · refine Or.inl ⟨h1, fun j hj hv => ?_⟩
          by_cases e : j = n
          · subst e; exact absurd hv h
          · exact h2 j (by omega) hv
        · refine Or.inr ⟨j, by omega, h1, h2, h3, fun i hi1 hi2 hv => ?_⟩
          by_cases e : i = n
          · subst e; exact absurd hv h
          · exact h4 i hi1 (by omega) hv
      · rintro (⟨h1, h2⟩ | ⟨j, hj, h1, h2, h3, h4⟩)
        · exact Or.inl ⟨h1, fun j hj hv => h2 j (by omega) hv⟩
        · by_cases e : j = n
          · subst e; exact absurd h1 h
          · exact Or.inr ⟨j, by omega, h1, h2, h3, fun i hi1 hi2 hv => h4 i hi1 (by omega) hv⟩
end Go.Proofs.YtkecnaaacbckoaaGreat
namespace Go.Proofs.YtkecnaaacbckoaaGreat
open Go.RowKit Go.Maps
theorem tl_range (x : Nat → Ch) (a b : ByteArray) : ∀ n, tl x (List.range n) a b = (lst x a b n).isSome
  | 0 => rfl
  | n + 1 => by
    have ih := tl_range x a b n
    unfold tl at ih ⊢
    rw [List.range_succ, List.any_append, ih]
    by_cases h : (x n).ob.kind = a ∧ (x n).ob.name = b
    · rw [lst_hit h]; simp [h]
    · rw [lst_miss h]; simp [h]
theorem QTold.has {x : Nat → Ch} {n : Nat} {D : DataW Unit} (h : QTold x n D) : HTold x (List.range n) D := fun a b ha hb => by
  obtain ⟨h1, h2⟩ := h a b ha hb
  rw [tl_range]
  cases e : lst x a b n with
  | none => rw [h2 e]; rfl
  | some i => rw [(h1 i e).1]; rfl
theorem lastI_neg (x : Nat → Ch) (o : Ob) (n : Nat) : decide (lastI x o n < 0) = !tl x (List.range n) o.kind o.name := by
  rw [tl_range]
  unfold lastI
  cases e : lst x o.kind o.name n with
  | none => rfl
  | some i => simp
/-- spec's flag is impl's -/
theorem allK_knw {hs : Nat → Ch} {ver : Int} {k : Nat} : ∀ d, (∀ i, i < k + d → ((hs i).ver ≤ ver ↔ i < k)) → allK hs ver (k + d) = knw hs (List.range k) ((List.range d).map (k + ·))
  | 0, h => by
    have h1 : ∀ n, n ≤ k → allK hs ver n = true := fun n => by
      induction n with
      | zero => intro _; rfl
      | succ n ih =>
        intro hn
        unfold allK
        rw [ih (by omega), decide_eq_true ((h n (by omega)).2 (by omega))]
        rfl
    rw [Nat.add_zero, h1 k (Nat.le_refl _)]
    rfl
  | d + 1, h => by
    have ih := allK_knw (hs := hs) (ver := ver) (k := k) d (fun i hi => h i (by omega))
    have hd : ¬ (hs (k + d)).ver ≤ ver := fun hv => by have := (h (k + d) (by omega)).1 hv; omega
    show (allK hs ver (k + d) && (decide ((hs (k + d)).ver ≤ ver) || !(decide (lastI hs (hs (k + d)).ob (k + d) < 0) && !creB (hs (k + d))))) = _
    rw [ih, List.range_succ, List.map_append]
    show _ = knw hs (List.range k) ((List.range d).map (k + ·) ++ [k + d])
    rw [knw_snoc, ← List.range_add, decide_eq_false hd, lastI_neg]
    cases tl hs (List.range (k + d)) (hs (k + d)).ob.kind (hs (k + d)).ob.name <;> cases creB (hs (k + d)) <;> rfl
end Go.Proofs.YtkecnaaacbckoaaGreat
