import Derived.Test.YtipdnhgdaiimlaaMb
import Derived.Laws.IdiomCopy
import Derived.Laws.CopyOwn
import Derived.Deep.AppendSrc
import Derived.Maps.AppendAt
namespace Go.Proofs.Ytipdnhgdaiimlaa
open Go.RowKit
theorem run_copy_many {P : Program} (w : World) (dT sT ty elem : TypeId) (b o dLen dCap : Nat) (a : Addr) (sLen sCap z : Nat) (cs : List Value)
    (hu : P.underlying dT = some (.slice elem)) (hs : (P.info? elem).map (·.size) = some z) (hn : cs.length = Nat.min sLen dLen * z)
    (hsrc : ∀ j v, cs[j]? = some v → w.cell? (a.add j) = some v) (hc : ∀ j, j < cs.length → (w.cell? ⟨b, o + j, none⟩).isSome = true) (hf : ∀ j, j < cs.length → w.frozen? ⟨b, o + j, none⟩ = false) (h1 : ∀ v ∈ cs, v.oneCell' = true) :
    (Builtin.copy_ #[dT, sT] ty #[.slice (some ⟨b, o, none⟩) dLen dCap, .slice (some a) sLen sCap]).run P w = .ok (goInt (Nat.min sLen dLen)) (w.setCells b o cs) := by
  have hl := run_loadCells_list (P := P) w a cs hsrc
  have hst := run_storeCells_cells (P := P) b o cs 0 w (by simpa using hc) (by simpa using hf) h1
  cases hq : P.info? elem with
  | none => simp [hq] at hs
  | some i =>
    have hi : i.size = z := by simpa [hq] using hs
    simp [Builtin.copy_, run_underlying hu, Builtin.lenOf, Builtin.firstCells, sizeOf, typeInfo, hq, hi, ← hn, hl, hst]
/-- m cells of values of one cell each, at ad -/
structure SrcRow (w : World) (lo hi : Nat) (ad : Option Addr) (m : Nat) (c : Nat → Value) : Prop where
  at_ : ∀ j, j < m → ∃ b off, ad = some ⟨b, off, none⟩ ∧ lo ≤ b ∧ b < hi ∧ w.cell? ⟨b, off + j, none⟩ = some (c j)
  one : ∀ j, j < m → (c j).oneCell' = true
def rowCells (m : Nat) (c : Nat → Value) : List Value := (List.range m).map c
theorem rowCells_len (m : Nat) (c : Nat → Value) : (rowCells m c).length = m := by simp [rowCells]
theorem rowCells_get {m : Nat} {c : Nat → Value} {j : Nat} {u : Value} (h : (rowCells m c)[j]? = some u) : j < m ∧ u = c j := by
  simp only [rowCells, List.getElem?_map] at h
  rcases Nat.lt_or_ge j m with h1 | h1
  · rw [List.getElem?_eq_getElem (by simpa using h1)] at h
    simp at h
    exact ⟨h1, h.symm⟩
  · rw [List.getElem?_eq_none (by simpa using h1)] at h
    cases h
theorem rowCells_at {m : Nat} {c : Nat → Value} {j : Nat} (h : j < (rowCells m c).length) : (rowCells m c)[j] = c j := by simp [rowCells]
def rowOf (z : Nat) (f : Nat → List Value) (j : Nat) : Value := (f (j / z)).getD (j % z) undef
theorem rowOf_at {z : Nat} {f : Nat → List Value} {i k : Nat} (hk : k < z) : rowOf z f (i * z + k) = (f i).getD k undef := by
  unfold rowOf
  have h1 : (i * z + k) / z = i := by rw [Nat.add_comm, Nat.add_mul_div_right _ _ (by omega), Nat.div_eq_of_lt hk]; omega
  have h2 : (i * z + k) % z = k := by rw [Nat.add_comm, Nat.add_mul_mod_self_right]; exact Nat.mod_eq_of_lt hk
  rw [h1, h2]
theorem SrcRow.of {w : World} {lo hi : Nat} {ad : Option Addr} {n z : Nat} {f : Nat → List Value} (hz : 0 < z) (hl : ∀ i, i < n → (f i).length = z)
    (h : ∀ i, i < n → ∃ b off, ad = some ⟨b, off, none⟩ ∧ lo ≤ b ∧ b < hi ∧ ∀ k, k < z → w.cell? ⟨b, off + i * z + k, none⟩ = (f i)[k]?) (h1 : ∀ i, i < n → ∀ v ∈ f i, v.oneCell' = true) : SrcRow w lo hi ad (n * z) (rowOf z f) := by
  have key : ∀ j, j < n * z → j / z < n ∧ j % z < z ∧ j = j / z * z + j % z := fun j hj => ⟨Nat.div_lt_of_lt_mul (by rw [Nat.mul_comm]; exact hj), Nat.mod_lt _ hz, by rw [Nat.mul_comm]; exact (Nat.div_add_mod j z).symm⟩
  refine ⟨fun j hj => ?_, fun j hj => ?_⟩
  · obtain ⟨k1, k2, k3⟩ := key j hj
    obtain ⟨b, off, e1, e2, e3, e4⟩ := h (j / z) k1
    refine ⟨b, off, e1, e2, e3, ?_⟩
    have := e4 (j % z) k2
    rw [show off + j / z * z + j % z = off + j by omega] at this
    rw [this, rowOf, List.getD_eq_getElem?_getD, List.getElem?_eq_getElem (by rw [hl _ k1]; exact k2)]
    rfl
  · obtain ⟨k1, k2, k3⟩ := key j hj
    refine h1 (j / z) k1 _ ?_
    rw [rowOf, List.getD_eq_getElem?_getD, List.getElem?_eq_getElem (by rw [hl _ k1]; exact k2)]
    exact List.getElem_mem _
def slR (x : Nat → Sl) (i : Nat) : List Value := [.int .i64 (x i).bal, .string (x i).text]
theorem SlsIn.src {w : World} {lo hi : Nat} {ad : Option Addr} {n : Nat} {x : Nat → Sl} (h : SlsIn w lo hi ad n x) : SrcRow w lo hi ad (n * 2) (rowOf 2 (slR x)) :=
  SrcRow.of (by omega) (fun _ _ => rfl) (fun i hi' => by
    obtain ⟨b, off, e1, e2, e3, e4⟩ := h i hi'
    refine ⟨b, off, e1, e2, e3, fun k hk => ?_⟩
    rcases (show k = 0 ∨ k = 1 by omega) with rfl | rfl
    · exact e4.c0
    · exact e4.c1) (fun i _ v hv => by
    simp only [slR, List.mem_cons, List.not_mem_nil, or_false] at hv
    rcases hv with rfl | rfl <;> rfl)
theorem slR_at (x : Nat → Sl) (i : Nat) : atSl (rowOf 2 (slR x)) i (x i) := ⟨rowOf_at (i := i) (k := 0) (by omega), rowOf_at (i := i) (k := 1) (by omega)⟩
theorem SrcRow.below {w w' : World} {B lo hi : Nat} {ad : Option Addr} {m : Nat} {c : Nat → Value} (h : SrcRow w lo hi ad m c) (hb : Below B w w') (hB : hi ≤ B) : SrcRow w' lo hi ad m c :=
  ⟨fun j hj => by obtain ⟨b, off, e1, e2, e3, e4⟩ := h.at_ j hj; exact ⟨b, off, e1, e2, e3, (hb.cell (p := ⟨b, off + j, none⟩) (by show b < B; omega)).trans e4⟩, h.one⟩
def catF (c : Nat → Value) (m : Nat) (d : Nat → Value) (j : Nat) : Value := if j < m then c j else d (j - m)
theorem rowCells_cat (c d : Nat → Value) (m k : Nat) : rowCells m c ++ rowCells k d = rowCells (m + k) (catF c m d) := by
  apply List.ext_getElem
  · simp [rowCells]
  · intro j h1 h2
    have hj : j < m + k := by simpa [rowCells] using h2
    rw [rowCells_at, List.getElem_append]
    unfold catF
    by_cases h : j < m
    · rw [dif_pos (by rw [rowCells_len]; exact h), rowCells_at, if_pos h]
    · rw [dif_neg (by rw [rowCells_len]; exact h), if_neg h, rowCells_at]
      simp only [rowCells_len]
theorem SrcRow.cells {P : Program} {w : World} {lo hi : Nat} {ad : Option Addr} {n z cap : Nat} {c : Nat → Value} (h : SrcRow w lo hi ad (n * z) c) (hz : 0 < z) : (Builtin.firstCells z n (.slice ad n cap)).run P w = .ok (rowCells (n * z) c).toArray w := by
  cases ad with
  | none =>
    have h0 : n = 0 := by
      rcases Nat.eq_zero_or_pos n with h0 | h0
      · exact h0
      · obtain ⟨b, off, e, _⟩ := h.at_ 0 (Nat.mul_pos h0 hz)
        cases e
    subst h0
    rw [run_firstCells_none]
    simp [rowCells]
  | some a =>
    refine run_firstCells_some w z n a n cap _ (by rw [rowCells_len]) (fun j v hv => ?_)
    obtain ⟨h1, rfl⟩ := rowCells_get hv
    obtain ⟨b, off, e, _, _, e4⟩ := h.at_ j h1
    cases e
    rw [show ((⟨b, off, none⟩ : Addr).add j) = ⟨b, off + j, none⟩ by simp [Addr.add]]
    exact e4
theorem SrcRow.drew {w : World} {lo hi : Nat} {ad : Option Addr} {m : Nat} {c : Nat → Value} (h : SrcRow w lo hi ad m c) : SrcRow w.drew lo hi ad m c := ⟨fun j hj => h.at_ j hj, h.one⟩
theorem SrcRow.src {P : Program} {w : World} {lo hi : Nat} {ad : Option Addr} {n z cap : Nat} {c : Nat → Value} (h : SrcRow w lo hi ad (n * z) c) (hz : 0 < z) {t e : TypeId} (ht : P.underlying t = some (.slice e)) : Src P z t (.slice ad n cap) n (rowCells (n * z) c) w :=
  ⟨.inl ⟨e, ht⟩, fun _ => rfl, h.cells hz, h.drew.cells hz, by rw [rowCells_len], fun u hu => by
    obtain ⟨j, hj, rfl⟩ := List.mem_map.1 hu
    exact h.one j (by simpa using hj)⟩
theorem SlsIn.take {w : World} {lo hi : Nat} {ad : Option Addr} {n m : Nat} {x : Nat → Sl} (h : SlsIn w lo hi ad n x) (hm : m ≤ n) : SlsIn w lo hi ad m x := fun i hi' => h i (by omega)
theorem FrP.of_grown {w w' : World} {row : Option Nat} (h : w.grownBy w' row) : FrP (fun q => row = some q) w w' := ⟨h.os, h.tape, h.output, h.size, fun k hk ho => h.block k hk (fun e => ho e.symm)⟩
theorem ownsRow_fr {w w' : World} {base e z n : Nat} {v : Value} {xs : List Value} {P : Nat → Prop} (h : w.ownsRow base e z v n xs) (hf : FrP P w w') (hp : ∀ g, v.ownBlock = some g → ¬ P g) : w'.ownsRow base e z v n xs := by
  refine ⟨h.1, ?_⟩
  rcases h.2 with h0 | ⟨g, cap, cur, rfl, h1, h2, h3⟩
  · exact Or.inl h0
  · exact Or.inr ⟨g, cap, cur, rfl, h1, (hf.block g (Array.getElem?_eq_some_iff.1 h2).1 (hp g rfl)).trans h2, h3⟩
theorem alloc_news (w : World) (l : List Value) (t : TypeId) : ∀ j u, l[j]? = some u → (w.alloc (.cells l.toArray t)).cell? ((⟨w.heap.size, 0, none⟩ : Addr).add j) = some u := by
  intro j u h
  rw [show ((⟨w.heap.size, 0, none⟩ : Addr).add j) = ⟨w.heap.size, j, none⟩ by unfold Addr.add; split <;> simp_all, World.cell?_alloc_new]
  simpa using h
def appF (c : Nat → Value) (m : Nat) (news : List Value) : Nat → Value := fun j => if j < m then c j else news.getD (j - m) (.int .i64 0)
theorem appF_zero (c : Nat → Value) (m : Nat) (news : List Value) : appF c m news m = news.getD 0 (.int .i64 0) := by
  unfold appF
  rw [if_neg (Nat.lt_irrefl _), Nat.sub_self]
theorem appF_at (c : Nat → Value) (m : Nat) (news : List Value) (j : Nat) : appF c m news (m + j) = news.getD j (.int .i64 0) := by
  unfold appF
  rw [if_neg (by omega), Nat.add_sub_cancel_left]
theorem rowCells_append (c : Nat → Value) (m : Nat) (news : List Value) : rowCells m c ++ news = rowCells (m + news.length) (appF c m news) := by
  apply List.ext_getElem
  · simp [rowCells]
  · intro j h1 h2
    have hj : j < m + news.length := by simpa [rowCells] using h2
    rw [rowCells_at, List.getElem_append]
    unfold appF
    by_cases h : j < m
    · rw [dif_pos (by rw [rowCells_len]; exact h), rowCells_at, if_pos h]
    · rw [dif_neg (by rw [rowCells_len]; exact h), if_neg h]
      simp only [rowCells_len]
      rw [List.getD_eq_getElem?_getD, List.getElem?_eq_getElem (by omega)]
      rfl
theorem row_of_own {w : World} {base e z n g cap : Nat} {c : Nat → Value} (h : w.ownsRow base e z (.slice (some ⟨g, 0, none⟩) n cap) n (rowCells (n * z) c)) : RowF w g (n * z) c := by
  refine ⟨(h.lt g rfl).2, fun j => h.frozenAt j, fun j hj => ?_⟩
  rw [h.cellAt j hj, List.getElem?_eq_getElem (by rw [rowCells_len]; exact hj), rowCells_at]
end Go.Proofs.Ytipdnhgdaiimlaa
