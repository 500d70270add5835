import Derived.Test.YtkecnaaacbckoaaGreatVb
import Derived.Test.YtkecnaaacbckoaaGreatVd
import Derived.Test.YtkecnaaacbckoaaGreatVe
import Derived.Test.YtkecnaaacbckoaaGreatVc
namespace Go.Proofs.YtkecnaaacbckoaaGreat
open Go.RowKit Go.Maps
theorem tl_range (x : Nat → Ch) (a b : ByteArray) : ∀ n, tl x (List.range n) a b = (lst x a b n).isSome
  | 0 => rfl
  | n + 1 => by
    have ih := tl_range x a b n
    unfold tl at ih ⊢
    rw [List.range_succ, List.any_append, ih]
    by_cases h : (x n).ob.kind = a ∧ (x n).ob.name = b
    · rw [lst_hit h]; simp [h]
    · rw [lst_miss h]; simp [h]
theorem QTold.has {x : Nat → Ch} {n : Nat} {D : DataW Unit} (h : QTold x n D) : HTold x (List.range n) D := fun a b ha hb => by
  obtain ⟨h1, h2⟩ := h a b ha hb
  rw [tl_range]
  cases e : lst x a b n with
  | none => rw [h2 e]; rfl
  | some i => rw [(h1 i e).1]; rfl
theorem lastI_neg (x : Nat → Ch) (o : Ob) (n : Nat) : decide (lastI x o n < 0) = !tl x (List.range n) o.kind o.name := by
  rw [tl_range]
  unfold lastI
  cases e : lst x o.kind o.name n with
  | none => rfl
  | some i => simp
/-- spec's flag is impl's -/
theorem allK_knw {hs : Nat → Ch} {ver : Int} {k : Nat} : ∀ d, (∀ i, i < k + d → ((hs i).ver ≤ ver ↔ i < k)) → allK hs ver (k + d) = knw hs (List.range k) ((List.range d).map (k + ·))
  | 0, h => by
    have h1 : ∀ n, n ≤ k → allK hs ver n = true := fun n => by
      induction n with
      | zero => intro _; rfl
      | succ n ih =>
        intro hn
        unfold allK
        rw [ih (by omega), decide_eq_true ((h n (by omega)).2 (by omega))]
        rfl
    rw [Nat.add_zero, h1 k (Nat.le_refl _)]
    rfl
  | d + 1, h => by
    have ih := allK_knw (hs := hs) (ver := ver) (k := k) d (fun i hi => h i (by omega))
    have hd : ¬ (hs (k + d)).ver ≤ ver := fun hv => by have := (h (k + d) (by omega)).1 hv; omega
    show (allK hs ver (k + d) && (decide ((hs (k + d)).ver ≤ ver) || !(decide (lastI hs (hs (k + d)).ob (k + d) < 0) && !creB (hs (k + d))))) = _
    rw [ih, List.range_succ, List.map_append]
    show _ = knw hs (List.range k) ((List.range d).map (k + ·) ++ [k + d])
    rw [knw_snoc, ← List.range_add, decide_eq_false hd, lastI_neg]
    cases tl hs (List.range (k + d)) (hs (k + d)).ob.kind (hs (k + d)).ob.name <;> cases creB (hs (k + d)) <;> rfl
end Go.Proofs.YtkecnaaacbckoaaGreat
namespace Go.Proofs.YtkecnaaacbckoaaGreat
open Go.RowKit
theorem sameK_iff (x z : Ob) : sameK x z ↔ (x.kind = z.kind ∧ x.name = z.name) := by
  have h0 := keyI_zero x z
  constructor
  · intro h
    have h1 : keyI x z = 0 := (keyI_nil x z).2 (befB_tot h.1 h.2)
    rw [h1] at h0
    simpa using h0.symm
  · intro h
    have h1 : keyI x z = 0 := by simpa [h] using h0
    exact bef_of_key h1
theorem lst_none {h : Nat → Ch} {a b : ByteArray} : ∀ {n : Nat}, lst h a b n = none → ∀ j, j < n → ¬ ((h j).ob.kind = a ∧ (h j).ob.name = b)
  | 0, _, j, hj => absurd hj (Nat.not_lt_zero _)
  | n + 1, e, j, hj => by
    by_cases h2 : (h n).ob.kind = a ∧ (h n).ob.name = b
    · rw [lst_hit h2] at e; cases e
    · rw [lst_miss h2] at e
      by_cases e2 : j = n
      · subst e2; exact h2
      · exact lst_none e j (by omega)
theorem lst_is {h : Nat → Ch} {a b : ByteArray} {i : Nat} : ∀ {n : Nat}, lst h a b n = some i ↔ (i < n ∧ ((h i).ob.kind = a ∧ (h i).ob.name = b) ∧ ∀ j, i < j → j < n → ¬ ((h j).ob.kind = a ∧ (h j).ob.name = b))
  | 0 => by
    constructor
    · intro e; cases e
    · rintro ⟨h1, _⟩; exact absurd h1 (Nat.not_lt_zero _)
  | n + 1 => by
    have ih := lst_is (h := h) (a := a) (b := b) (i := i) (n := n)
    by_cases h2 : (h n).ob.kind = a ∧ (h n).ob.name = b
    · rw [lst_hit h2]
      constructor
      · intro e; cases e; exact ⟨by omega, h2, fun j h3 h4 => by omega⟩
      · rintro ⟨h3, _, h5⟩
        by_cases e : i = n
        · rw [e]
        · exact absurd h2 (h5 n (by omega) (by omega))
    · rw [lst_miss h2, ih]
      constructor
      · rintro ⟨h3, h4, h5⟩
        refine ⟨by omega, h4, fun j h6 h7 => ?_⟩
        by_cases e : j = n
        · subst e; exact h2
        · exact h5 j h6 (by omega)
      · rintro ⟨h3, h4, h5⟩
        by_cases e : i = n
        · subst e; exact absurd h4 h2
        · exact ⟨by omega, h4, fun j h6 h7 => h5 j h6 (by omega)⟩
theorem valid_hist {B : Bk} (hv : allTo (chk B) 7 = true) : 0 ≤ B.floor ∧ B.floor ≤ B.now ∧ B.now ≤ 1000000 ∧ B.hn ≤ 200 ∧ (B.hn : Int) = B.now - B.floor ∧ ∀ i, i < B.hn → (B.hs i).ver = B.floor + 1 + i ∧ (B.hs i).ob.ver = (B.hs i).ver := by
  have h0 := numB_yes (allTo_iff.1 hv 0 (by omega))
  have h3 : histB B.now B.floor B.hn B.hs = true := allTo_iff.1 hv 3 (by omega)
  unfold histB at h3
  simp only [Bool.and_eq_true, decide_eq_true_eq] at h3
  refine ⟨h0.1, h0.2.1, h0.2.2, h3.1, h3.2.1, fun i hi => ?_⟩
  have := allTo_iff.1 h3.2.2 i hi
  simp only [Bool.and_eq_true, decide_eq_true_eq] at this
  refine ⟨this.1, ?_⟩
  have h4 := this.2
  unfold chgB at h4
  simp only [Bool.and_eq_true, beq_iff_eq] at h4
  exact h4.1
/-- of an object whose version is not above the floor no change tells -/
theorem untold_free {B : Bk} (hv : allTo (chk B) 7 = true) {i : Nat} (hi : i < B.on) (hf : (B.os i).ver ≤ B.floor) {j : Nat} (hj : j < B.hn) : ¬ sameK (B.os i) (B.hs j).ob := by
  obtain ⟨_, _, _, _, _, hh⟩ := valid_hist hv
  have h5 : agB B.floor B.on B.os B.hn B.hs = true := allTo_iff.1 hv 5 (by omega)
  unfold agB at h5
  simp only [Bool.and_eq_true] at h5
  have h6 := allTo_iff.1 h5.1 i hi
  unfold agO at h6
  rw [sameK_iff]
  cases e : lst B.hs (B.os i).kind (B.os i).name B.hn with
  | none =>
    intro h
    exact lst_none e j hj ⟨h.1.symm, h.2.symm⟩
  | some k =>
    rw [e] at h6
    unfold sameB at h6
    simp only [Bool.and_eq_true, decide_eq_true_eq] at h6
    have h7 := (lst_lt e).1
    have h8 := hh k h7
    have h9 := h6.2.2.2.1
    omega
/-- impl's list, ahead of the sort -/
def impRow (B : Bk) (k : Nat) : List Ob := (unt B (List.range B.on)).map B.os ++ ((List.range k).filter (fun j => !(B.hs j).gone && lst B.hs (B.hs j).ob.kind (B.hs j).ob.name k == some j)).map (fun j => (B.hs j).ob)
theorem impRow_mem {B : Bk} {k : Nat} {y : Ob} : y ∈ impRow B k ↔ (∃ i, i < B.on ∧ (B.os i).ver ≤ B.floor ∧ y = B.os i) ∨ (∃ j, j < k ∧ (B.hs j).gone = false ∧ y = (B.hs j).ob ∧ ∀ i, j < i → i < k → ¬ sameK y (B.hs i).ob) := by
  unfold impRow unt
  rw [List.mem_append, List.mem_map, List.mem_map]
  constructor
  · rintro (⟨i, hi, rfl⟩ | ⟨j, hj, rfl⟩)
    · have h1 := List.mem_filter.1 hi
      exact Or.inl ⟨i, List.mem_range.1 h1.1, by simpa using h1.2, rfl⟩
    · have h1 := List.mem_filter.1 hj
      have h2 := h1.2
      simp only [Bool.and_eq_true, Bool.not_eq_true', beq_iff_eq] at h2
      have h3 := lst_is.1 h2.2
      exact Or.inr ⟨j, List.mem_range.1 h1.1, h2.1, rfl, fun i h4 h5 h6 => by
        rw [sameK_iff] at h6
        exact h3.2.2 i h4 h5 ⟨h6.1.symm, h6.2.symm⟩⟩
  · rintro (⟨i, hi, h1, rfl⟩ | ⟨j, hj, h1, rfl, h2⟩)
    · exact Or.inl ⟨i, List.mem_filter.2 ⟨List.mem_range.2 hi, by simpa using h1⟩, rfl⟩
    · refine Or.inr ⟨j, List.mem_filter.2 ⟨List.mem_range.2 hj, ?_⟩, rfl⟩
      simp only [Bool.and_eq_true, Bool.not_eq_true', beq_iff_eq]
      refine ⟨h1, lst_is.2 ⟨hj, ⟨rfl, rfl⟩, fun i h4 h5 h6 => h2 i h4 h5 ?_⟩⟩
      rw [sameK_iff]
      exact ⟨h6.1.symm, h6.2.symm⟩
/-- both sides have the same objects -/
theorem impRow_his {B : Bk} {k : Nat} {ver : Int} {y : Ob} (hv : allTo (chk B) 7 = true) (hk : k ≤ B.hn) (hver : ver = B.floor + k) (ha : Asc B.on B.os) :
    y ∈ toL (hisL (objL B.os B.floor B.on) B.hs ver B.hn).1 (hisL (objL B.os B.floor B.on) B.hs ver B.hn).2 ↔ y ∈ impRow B k := by
  obtain ⟨_, _, _, _, _, hh⟩ := valid_hist hv
  have hlt : ∀ j, j < B.hn → ((B.hs j).ver ≤ ver ↔ j < k) := fun j hj => by
    have := (hh j hj).1
    omega
  rw [hisL_mem (objL_list B.on).1 B.hn, objL_mem B.on ha, impRow_mem]
  constructor
  · rintro (⟨h1, _⟩ | ⟨j, hj, h1, h2, h3, h4⟩)
    · exact Or.inl h1
    · exact Or.inr ⟨j, (hlt j hj).1 h1, h2, h3, fun i h5 h6 => h4 i h5 (by omega) ((hlt i (by omega)).2 h6)⟩
  · rintro (⟨i, hi, h1, rfl⟩ | ⟨j, hj, h2, h3, h4⟩)
    · exact Or.inl ⟨⟨i, hi, h1, rfl⟩, fun j hj _ => untold_free hv hi h1 hj⟩
    · exact Or.inr ⟨j, by omega, (hlt j (by omega)).2 hj, h2, h3, fun i h5 h6 h7 => h4 i h5 ((hlt i h6).1 h7)⟩
theorem asc_of_adj {n : Nat} {x : Nat → Ob} (h : objAsc n x = true) : Asc n x := by
  have h1 : ∀ j, j + 1 < n → befB (x j) (x (j + 1)) = true := fun j hj => by
    have h2 := allTo_iff.1 h (j + 1) hj
    simpa using h2
  intro i j hij
  induction j with
  | zero => omega
  | succ j ih =>
    intro hj
    by_cases e : i = j
    · subst e; exact h1 i hj
    · exact befB_trans (ih (by omega) (by omega)) (h1 j hj)
theorem valid_asc {B : Bk} (hv : allTo (chk B) 7 = true) : B.on ≤ 100 ∧ Asc B.on B.os := by
  have h1 : objs1B B.on B.os B.now = true := allTo_iff.1 hv 1 (by omega)
  unfold objs1B at h1
  simp only [Bool.and_eq_true, decide_eq_true_eq] at h1
  exact ⟨h1.1, asc_of_adj h1.2.1⟩
theorem sameK_symm {a b : Ob} (h : sameK a b) : sameK b a := ⟨h.2, h.1⟩
/-- impl's list has no two objects of the same kind and name -/
theorem impRow_diff {B : Bk} {k : Nat} (hv : allTo (chk B) 7 = true) (hk : k ≤ B.hn) : (impRow B k).Pairwise (fun a b => ¬ sameK a b) := by
  have ha := (valid_asc hv).2
  unfold impRow
  rw [List.pairwise_append]
  refine ⟨?_, ?_, fun a ha' b hb => ?_⟩
  · rw [List.pairwise_map]
    refine List.Pairwise.imp_of_mem (R := (· < ·)) (fun {i j} hi hj hij hs => ?_) (List.Pairwise.filter _ List.pairwise_lt_range)
    have h1 := List.mem_range.1 (List.mem_filter.1 hj).1
    have h2 := ha i j hij h1
    rw [hs.1] at h2
    cases h2
  · rw [List.pairwise_map]
    refine List.Pairwise.imp_of_mem (R := (· < ·)) (fun {i j} hi hj hij hs => ?_) (List.Pairwise.filter _ List.pairwise_lt_range)
    have h1 := (List.mem_filter.1 hi).2
    simp only [Bool.and_eq_true, Bool.not_eq_true', beq_iff_eq] at h1
    have h3 := lst_is.1 h1.2
    rw [sameK_iff] at hs
    exact h3.2.2 j hij (List.mem_range.1 (List.mem_filter.1 hj).1) ⟨hs.1.symm, hs.2.symm⟩
  · obtain ⟨i, hi, rfl⟩ := List.mem_map.1 ha'
    obtain ⟨j, hj, rfl⟩ := List.mem_map.1 hb
    have h1 := List.mem_filter.1 hi
    have h2 := List.mem_range.1 (List.mem_filter.1 hj).1
    exact untold_free hv (List.mem_range.1 h1.1) (by simpa using h1.2) (by omega)
/-- impl's list, sorted, is spec's -/
theorem impRow_sorted {B : Bk} {k : Nat} {ver : Int} {d : List Ob} (hv : allTo (chk B) 7 = true) (hk : k ≤ B.hn) (hver : ver = B.floor + k) (hp : d.Perm (impRow B k)) (hs : d.Pairwise (fun a b => befB b a = false)) :
    toL (hisL (objL B.os B.floor B.on) B.hs ver B.hn).1 (hisL (objL B.os B.floor B.on) B.hs ver B.hn).2 = d := by
  have hd : d.Pairwise (fun a b => ¬ sameK a b) := (hp.pairwise_iff (fun h h2 => h (sameK_symm h2))).2 (impRow_diff hv hk)
  have ha : d.Pairwise (fun a b => befB a b = true) := by
    refine (hs.and hd).imp ?_
    rintro a b ⟨h1, h2⟩
    cases h : befB a b with
    | true => rfl
    | false => exact absurd ⟨h, h1⟩ h2
  refine asc_eq (lt := fun a b => befB a b = true) (fun a h => by rw [befB_irr] at h; cases h) (fun _ _ _ => befB_trans) (hisL_list (objL_list B.on).1 B.hn).1 ha (fun y => ?_)
  rw [impRow_his hv hk hver (valid_asc hv).2, hp.mem_iff]
end Go.Proofs.YtkecnaaacbckoaaGreat
namespace Go.Proofs.YtkecnaaacbckoaaGreat
open Go.RowKit
/-- the version of the last of the first k changes that is of the same kind and name as change j -/
def cVf (x : Nat → Ch) (k j : Nat) : Int := match lst x (x j).ob.kind (x j).ob.name k with | some i => (x i).ver | none => 0
theorem lst_has {x : Nat → Ch} {k j : Nat} (hj : j < k) : ∃ i, lst x (x j).ob.kind (x j).ob.name k = some i := by
  cases e : lst x (x j).ob.kind (x j).ob.name k with
  | some i => exact ⟨i, rfl⟩
  | none => exact absurd ⟨rfl, rfl⟩ (lst_none e j hj)
theorem QTold.at_ {x : Nat → Ch} {k : Nat} {D : DataW Unit} (h : QTold x k D) {j : Nat} (hj : j < k) (hk : (x j).ob.kind.size ≤ maxLen) (hn : (x j).ob.name.size ≤ maxLen) : D.atKey (kl (x j).ob.kind (x j).ob.name) (.lit (.int .i64 0)) = .lit (.int .i64 (cVf x k j)) := by
  obtain ⟨i, hi⟩ := lst_has (x := x) hj
  have h1 := ((h _ _ hk hn).1 i hi).2
  unfold cVf
  rw [hi]
  exact h1
theorem cVf_sel {x : Nat → Ch} {k j : Nat} {f : Int} (hv : ∀ i, i < k → (x i).ver = f + 1 + i) (hj : j < k) : (cVf x k j == (x j).ver) = (lst x (x j).ob.kind (x j).ob.name k == some j) := by
  obtain ⟨i, hi⟩ := lst_has (x := x) hj
  unfold cVf
  rw [hi]
  have h1 := hv i (lst_lt hi).1
  have h2 := hv j hj
  show ((x i).ver == (x j).ver) = _
  by_cases e : i = j
  · subst e; simp
  · have e1 : ¬ (x i).ver = (x j).ver := by omega
    rw [beq_eq_false_iff_ne.2 e1]
    exact (beq_eq_false_iff_ne.2 (fun h => e (Option.some.inj h))).symm
theorem toL_pick (z : Nat → Ob) (L : List Nat) : toL L.length (pick z L) = L.map z := by
  apply List.ext_getElem
  · simp [toL]
  · intro i h1 h2
    have hi : i < L.length := by simpa [toL] using h1
    simp [toL, pick, hi]
/-- the objects of a book, then those of its changes -/
def zOf (B : Bk) (i : Nat) : Ob := if i < B.on then B.os i else (B.hs (i - B.on)).ob
theorem zOf_hs (B : Bk) (i : Nat) : zOf B (B.on + i) = (B.hs i).ob := by
  unfold zOf
  rw [if_neg (by omega), Nat.add_sub_cancel_left]
theorem zOf_os {B : Bk} {i : Nat} (h : i < B.on) : zOf B i = B.os i := if_pos h
/-- the list that impl's loops build -/
theorem impRow_sel {B : Bk} {k : Nat} (hv : allTo (chk B) 7 = true) (hk : k ≤ B.hn) : (selL (fun j => !(B.hs j).gone && cVf B.hs k j == (B.hs j).ver) B.on (unt B (List.range B.on)) (List.range k)).map (zOf B) = impRow B k := by
  obtain ⟨_, _, _, _, _, hh⟩ := valid_hist hv
  unfold selL impRow
  rw [List.map_append, List.map_map]
  congr 1
  · apply List.map_congr_left
    intro i hi
    exact zOf_os (List.mem_range.1 (List.mem_filter.1 hi).1)
  · rw [List.filter_congr (q := fun j => !(B.hs j).gone && lst B.hs (B.hs j).ob.kind (B.hs j).ob.name k == some j) (fun j hj => by rw [cVf_sel (f := B.floor) (fun i hi => (hh i (by omega)).1) (List.mem_range.1 hj)])]
    apply List.map_congr_left
    intro j _
    exact zOf_hs B j
theorem extract_nil (s : ByteArray) : s.extract 0 0 = ⟨#[]⟩ := by
  apply ByteArray.ext
  rw [ByteArray.extract]
  show #[].extract 0 0 ++ s.data.extract 0 (0 + (0 - 0)) ++ _ = _
  simp
theorem lkB_nil (o : Ob) : lkB o ⟨#[]⟩ ⟨#[]⟩ = true := by
  have e1 : (ByteArray.mk #[]).toList = [] := by unfold ByteArray.toList; unfold ByteArray.toList.loop; rfl
  have e2 : (ByteArray.mk #[]).size = 0 := rfl
  unfold lkB pfB
  rw [e2, extract_nil, e1]
  simp
theorem flt_all {p : Nat → Bool} : ∀ n, (∀ i, i < n → p i = true) → flt p n = List.range n
  | 0, _ => rfl
  | n + 1, h => by rw [flt_yes (h n (Nat.lt_succ_self _)), flt_all n (fun i hi => h i (by omega)), List.range_succ]
end Go.Proofs.YtkecnaaacbckoaaGreat
namespace Go.Proofs.YtkecnaaacbckoaaGreat
open Go.RowKit Go.Shelf
set_option maxRecDepth 100000 in
set_option maxHeartbeats 1000000 in
theorem implAtNo_any (B : Bk) (a1 a2 a3 : Option Addr) (c1 c2 c3 : Nat) (ver : Int) (w : World) (lo hi : Nat) (hhi : hi ≤ w.heap.size) (hfit : BkFit B) (hin : BkIn w lo hi B a1 a2 a3) (hv : (allTo (chk B) 7 && inB ver B.floor B.now) = false) :
    Calls Tryz.prog 16 #[.agg #[.int .i64 B.now, .int .i64 B.floor, .slice a1 B.on c1, .slice a2 B.hn c2, .slice a3 B.tn c3], .int .i64 ver] w fun e w' => e = .returned (.tuple #[.slice none 0 0, .bool false]) ∧ Below w.heap.size w w' := by
  cases hc : allTo (chk B) 7 with
  | false =>
    go_enter Tryz.func16, Tryz.ntmps16
    go_wp2_with (go_at_call 44; go_must (refine (implValid_any B a1 a2 a3 c1 c2 c3 _ lo hi (by simp; omega) hfit (hin.below (below_alloc _ _) hhi)).mono ?_; rw [hc]; rintro e w1 ⟨rfl, hb1⟩))
    refine bodyPost_ret (v := .tuple #[.slice none 0 0, .bool false]) (by simp [results, Tryz.results16, go_sem]) rfl ⟨rfl, ?_⟩
    exact (below_alloc _ _).trans (hb1.mono (by simp))
  | true =>
    rw [hc] at hv
    have hi2 : inB ver B.floor B.now = false := by simpa using hv
    go_enter Tryz.func16, Tryz.ntmps16
    go_wp2_with (first
      | (go_at_call 44; go_must (refine (implValid_any B a1 a2 a3 c1 c2 c3 _ lo hi (by simp; omega) hfit (hin.below (below_alloc _ _) hhi)).mono ?_; rw [hc]; rintro e w1 ⟨rfl, hb1⟩; have H1 := (holds_new w (bkCells B a1 a2 a3 c1 c2 c3) 32).below hb1 (by simp); obtain ⟨p0, p1, p2, p3, p4⟩ := holds_bk H1))
      | (go_at_call 60; go_must (refine (within_any _ _ _ _).mono ?_; rw [hi2]; rintro e w2 ⟨rfl, rfl⟩)))
    refine bodyPost_ret (v := .tuple #[.slice none 0 0, .bool false]) (by simp [results, Tryz.results16, go_sem]) rfl ⟨rfl, ?_⟩
    exact (below_alloc _ _).trans (hb1.mono (by simp))
set_option maxRecDepth 100000 in
set_option maxHeartbeats 1000000 in
theorem specAtNo_any (x : Bk) (a1 a2 a3 : Option Addr) (c1 c2 c3 : Nat) (ver : Int) (w : World) (lo hi : Nat) (hhi : hi ≤ w.heap.size) (hf : BkFit x) (hc : BkIn w lo hi x a1 a2 a3) (hv : (allTo (chk x) 7 && inB ver x.floor x.now) = false) :
    Calls Tryz.prog 15 #[.agg #[.int .i64 x.now, .int .i64 x.floor, .slice a1 x.on c1, .slice a2 x.hn c2, .slice a3 x.tn c3], .int .i64 ver] w fun e w' => ∃ ad' cap', e = .returned (.tuple #[.slice ad' 0 cap', .bool false]) ∧ Below w.heap.size w w' := by
  have HC := hid hc
  cases hcv : allTo (chk x) 7 with
  | false =>
    go_enter Tryz.func15, Tryz.ntmps15
    go_wp2_with (go_at_call 39; go_must (refine (specValid_any x a1 a2 a3 c1 c2 c3 _ lo hi (by simp; omega) hf (HC.out.below ((below_alloc _ _).alloc (by simp) _) hhi)).mono ?_; rw [hcv]; rintro e w1 ⟨rfl, hb1⟩))
    have hB1 : Below w.heap.size w w1 := ((below_alloc _ _).alloc (by simp) _).trans (hb1.mono (by simp; omega))
    first
      | exact bodyPost_ret (v := .tuple #[.slice (some ⟨w.heap.size + 1, 0, none⟩) 0 0, .bool false]) (by simp [results, Tryz.results15, go_sem]) rfl ⟨_, _, rfl, hB1⟩
      | exact bodyPost_ret (v := .tuple #[.slice none 0 0, .bool false]) (by simp [results, Tryz.results15, go_sem]) rfl ⟨_, _, rfl, hB1⟩
  | true =>
    rw [hcv] at hv
    have hi2 : inB ver x.floor x.now = false := by simpa using hv
    go_enter Tryz.func15, Tryz.ntmps15
    go_wp2_with (first
      | (go_at_call 39; go_must (refine (specValid_any x a1 a2 a3 c1 c2 c3 _ lo hi (by simp; omega) hf (HC.out.below ((below_alloc _ _).alloc (by simp) _) hhi)).mono ?_; rw [hcv]; rintro e w1 ⟨rfl, hb1⟩; have hB1 : Below w.heap.size w w1 := ((below_alloc _ _).alloc (by simp) _).trans (hb1.mono (by simp; omega)); have H1 : Holds w1 w.heap.size (bkCells x a1 a2 a3 c1 c2 c3) := ((holds_new w _ 32).below (below_alloc _ _) (by simp)).below hb1 (by simp; omega); obtain ⟨p0, p1, p2, p3, p4⟩ := holds_bk H1))
      | (go_at_call 55; go_must (refine (in_any ver x.floor x.now _).mono ?_; rw [hi2]; rintro e w2 ⟨rfl, hw2⟩; replace hw2 := hw2.symm; subst hw2)))
    first
      | exact bodyPost_ret (v := .tuple #[.slice (some ⟨w.heap.size + 1, 0, none⟩) 0 0, .bool false]) (by simp [results, Tryz.results15, go_sem]) rfl ⟨_, _, rfl, hB1⟩
      | exact bodyPost_ret (v := .tuple #[.slice none 0 0, .bool false]) (by simp [results, Tryz.results15, go_sem]) rfl ⟨_, _, rfl, hB1⟩
end Go.Proofs.YtkecnaaacbckoaaGreat
