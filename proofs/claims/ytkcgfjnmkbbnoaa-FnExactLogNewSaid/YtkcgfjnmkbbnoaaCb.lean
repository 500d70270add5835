import Derived.Test.YtkcgfjnmkbbnoaaMe
import Derived.Laws.IdiomCopy
import Derived.Laws.CopyOwn
namespace Go.Proofs.Ytkcgfjnmkbbnoaa
open Go.RowKit
theorem run_copy_many {P : Program} (w : World) (dT sT ty elem : TypeId) (b o dLen dCap : Nat) (a : Addr) (sLen sCap z : Nat) (cs : List Value)
    (hu : P.underlying dT = some (.slice elem)) (hs : (P.info? elem).map (·.size) = some z) (hn : cs.length = Nat.min sLen dLen * z)
    (hsrc : ∀ j v, cs[j]? = some v → w.cell? (a.add j) = some v) (hc : ∀ j, j < cs.length → (w.cell? ⟨b, o + j, none⟩).isSome = true) (hf : ∀ j, j < cs.length → w.frozen? ⟨b, o + j, none⟩ = false) (h1 : ∀ v ∈ cs, v.oneCell' = true) :
    (Builtin.copy_ #[dT, sT] ty #[.slice (some ⟨b, o, none⟩) dLen dCap, .slice (some a) sLen sCap]).run P w = .ok (goInt (Nat.min sLen dLen)) (w.setCells b o cs) := by
  have hl := run_loadCells_list (P := P) w a cs hsrc
  have hst := run_storeCells_cells (P := P) b o cs 0 w (by simpa using hc) (by simpa using hf) h1
  cases hq : P.info? elem with
  | none => simp [hq] at hs
  | some i =>
    have hi : i.size = z := by simpa [hq] using hs
    simp [Builtin.copy_, run_underlying hu, Builtin.lenOf, Builtin.firstCells, sizeOf, typeInfo, hq, hi, ← hn, hl, hst]
/-- m cells of values of one cell each, at ad -/
structure SrcRow (w : World) (lo hi : Nat) (ad : Option Addr) (m : Nat) (c : Nat → Value) : Prop where
  at_ : ∀ j, j < m → ∃ b off, ad = some ⟨b, off, none⟩ ∧ lo ≤ b ∧ b < hi ∧ w.cell? ⟨b, off + j, none⟩ = some (c j)
  one : ∀ j, j < m → (c j).oneCell' = true
def rowCells (m : Nat) (c : Nat → Value) : List Value := (List.range m).map c
theorem rowCells_len (m : Nat) (c : Nat → Value) : (rowCells m c).length = m := by simp [rowCells]
theorem rowCells_get {m : Nat} {c : Nat → Value} {j : Nat} {u : Value} (h : (rowCells m c)[j]? = some u) : j < m ∧ u = c j := by
  simp only [rowCells, List.getElem?_map] at h
  rcases Nat.lt_or_ge j m with h1 | h1
  · rw [List.getElem?_eq_getElem (by simpa using h1)] at h
    simp at h
    exact ⟨h1, h.symm⟩
  · rw [List.getElem?_eq_none (by simpa using h1)] at h
    cases h
theorem rowCells_at {m : Nat} {c : Nat → Value} {j : Nat} (h : j < (rowCells m c).length) : (rowCells m c)[j] = c j := by simp [rowCells]
theorem RowF.filled {w : World} {g m : Nat} (c : Nat → Value) (h : Room w g m) : RowF (w.setCells g 0 (rowCells m c)) g m c :=
  ⟨by rw [size_setCells]; exact h.lt, fun j => by rw [World.frozen?_setCells]; exact h.free j, fun j hj => by
    have := World.cell?_setCells_in g (rowCells m c) 0 w (fun j hj => by
      rw [rowCells_len] at hj
      obtain ⟨u, hu⟩ := h.has j hj
      rw [Nat.zero_add, hu]; rfl) j (by rw [rowCells_len]; exact hj)
    rw [Nat.zero_add, rowCells_at] at this
    exact this⟩
def rowOf (z : Nat) (f : Nat → List Value) (j : Nat) : Value := (f (j / z)).getD (j % z) undef
theorem rowOf_at {z : Nat} {f : Nat → List Value} {i k : Nat} (hk : k < z) : rowOf z f (i * z + k) = (f i).getD k undef := by
  unfold rowOf
  have h1 : (i * z + k) / z = i := by rw [Nat.add_comm, Nat.add_mul_div_right _ _ (by omega), Nat.div_eq_of_lt hk]; omega
  have h2 : (i * z + k) % z = k := by rw [Nat.add_comm, Nat.add_mul_mod_self_right]; exact Nat.mod_eq_of_lt hk
  rw [h1, h2]
theorem SrcRow.of {w : World} {lo hi : Nat} {ad : Option Addr} {n z : Nat} {f : Nat → List Value} (hz : 0 < z) (hl : ∀ i, i < n → (f i).length = z)
    (h : ∀ i, i < n → ∃ b off, ad = some ⟨b, off, none⟩ ∧ lo ≤ b ∧ b < hi ∧ ∀ k, k < z → w.cell? ⟨b, off + i * z + k, none⟩ = (f i)[k]?) (h1 : ∀ i, i < n → ∀ v ∈ f i, v.oneCell' = true) : SrcRow w lo hi ad (n * z) (rowOf z f) := by
  have key : ∀ j, j < n * z → j / z < n ∧ j % z < z ∧ j = j / z * z + j % z := fun j hj => ⟨Nat.div_lt_of_lt_mul (by rw [Nat.mul_comm]; exact hj), Nat.mod_lt _ hz, by rw [Nat.mul_comm]; exact (Nat.div_add_mod j z).symm⟩
  refine ⟨fun j hj => ?_, fun j hj => ?_⟩
  · obtain ⟨k1, k2, k3⟩ := key j hj
    obtain ⟨b, off, e1, e2, e3, e4⟩ := h (j / z) k1
    refine ⟨b, off, e1, e2, e3, ?_⟩
    have := e4 (j % z) k2
    rw [show off + j / z * z + j % z = off + j by omega] at this
    rw [this, rowOf, List.getD_eq_getElem?_getD, List.getElem?_eq_getElem (by rw [hl _ k1]; exact k2)]
    rfl
  · obtain ⟨k1, k2, k3⟩ := key j hj
    refine h1 (j / z) k1 _ ?_
    rw [rowOf, List.getD_eq_getElem?_getD, List.getElem?_eq_getElem (by rw [hl _ k1]; exact k2)]
    exact List.getElem_mem _
def slR (x : Nat → Sl) (i : Nat) : List Value := [.int .i64 (x i).bal, .string (x i).text]
theorem SlsIn.src {w : World} {lo hi : Nat} {ad : Option Addr} {n : Nat} {x : Nat → Sl} (h : SlsIn w lo hi ad n x) : SrcRow w lo hi ad (n * 2) (rowOf 2 (slR x)) :=
  SrcRow.of (by omega) (fun _ _ => rfl) (fun i hi' => by
    obtain ⟨b, off, e1, e2, e3, e4⟩ := h i hi'
    refine ⟨b, off, e1, e2, e3, fun k hk => ?_⟩
    rcases (show k = 0 ∨ k = 1 by omega) with rfl | rfl
    · exact e4.c0
    · exact e4.c1) (fun i _ v hv => by
    simp only [slR, List.mem_cons, List.not_mem_nil, or_false] at hv
    rcases hv with rfl | rfl <;> rfl)
theorem slR_at (x : Nat → Sl) (i : Nat) : atSl (rowOf 2 (slR x)) i (x i) := ⟨rowOf_at (i := i) (k := 0) (by omega), rowOf_at (i := i) (k := 1) (by omega)⟩
def msR (x : Nat → Ms) (A : Nat → Option Addr) (C : Nat → Nat) (i : Nat) : List Value := [.int .i64 (x i).kind, .int .i64 (x i).from_, .int .i64 (x i).to, .int .i64 (x i).bal, .int .i64 (x i).ix, .int .i64 (x i).kn, .string (x i).text, .slice (A i) (x i).n (C i)]
theorem msR_at (x : Nat → Ms) (A : Nat → Option Addr) (C : Nat → Nat) (i : Nat) : atMs (rowOf 8 (msR x A C)) i (x i) (A i) (C i) := ⟨rowOf_at (i := i) (k := 0) (by omega), rowOf_at (i := i) (k := 1) (by omega), rowOf_at (i := i) (k := 2) (by omega), rowOf_at (i := i) (k := 3) (by omega), rowOf_at (i := i) (k := 4) (by omega), rowOf_at (i := i) (k := 5) (by omega), rowOf_at (i := i) (k := 6) (by omega), rowOf_at (i := i) (k := 7) (by omega)⟩
theorem skolC {β : Type} {n : Nat} (d : β) {p : Nat → β → Prop} (h : ∀ i, i < n → ∃ x, p i x) : ∃ f : Nat → β, ∀ i, i < n → p i (f i) := by
  have h' : ∀ i, ∃ x, i < n → p i x := fun i => by
    by_cases hi : i < n
    · obtain ⟨x, hx⟩ := h i hi; exact ⟨x, fun _ => hx⟩
    · exact ⟨d, fun e => absurd e hi⟩
  obtain ⟨f, hf⟩ := Classical.skolem.1 h'
  exact ⟨f, hf⟩
theorem MssIn.src {w : World} {lo hi : Nat} {ad : Option Addr} {n : Nat} {x : Nat → Ms} (h : MssIn w lo hi ad n x) : ∃ (A : Nat → Option Addr) (C : Nat → Nat), SrcRow w lo hi ad (n * 8) (rowOf 8 (msR x A C)) ∧ (∀ i, i < n → SlsIn w lo hi (A i) (x i).n (x i).s) := by
  obtain ⟨F, hF⟩ := skolC (n := n) ((none, 0) : (Option Addr × Nat)) (p := fun i q => (∃ b off, ad = some ⟨b, off, none⟩ ∧ lo ≤ b ∧ b < hi ∧ MsCells w b (off + i * 8) (x i) q.1 q.2) ∧ SlsIn w lo hi q.1 (x i).n (x i).s) (fun i hi' => by
    obtain ⟨b, off, ah, ch, e1, e2, e3, e4, e5⟩ := h i hi'
    exact ⟨(ah, ch), ⟨b, off, e1, e2, e3, e4⟩, e5⟩)
  refine ⟨fun i => (F i).1, fun i => (F i).2, SrcRow.of (by omega) (fun _ _ => rfl) (fun i hi' => ?_) (fun i _ v hv => ?_), fun i hi' => (hF i hi').2⟩
  · obtain ⟨⟨b, off, e1, e2, e3, e4⟩, _⟩ := hF i hi'
    refine ⟨b, off, e1, e2, e3, fun k hk => ?_⟩
    rcases (show k = 0 ∨ k = 1 ∨ k = 2 ∨ k = 3 ∨ k = 4 ∨ k = 5 ∨ k = 6 ∨ k = 7 by omega) with rfl | rfl | rfl | rfl | rfl | rfl | rfl | rfl
    · exact e4.c0
    · exact e4.c1
    · exact e4.c2
    · exact e4.c3
    · exact e4.c4
    · exact e4.c5
    · exact e4.c6
    · exact e4.c7
  · simp only [msR, List.mem_cons, List.not_mem_nil, or_false] at hv
    rcases hv with rfl | rfl | rfl | rfl | rfl | rfl | rfl | rfl <;> rfl
def akR (x : Nat → Ak) (A : Nat → Option Addr) (C : Nat → Nat) (i : Nat) : List Value := [.int .i64 (x i).ix, .slice (A i) (x i).n (C i)]
theorem akR_at (x : Nat → Ak) (A : Nat → Option Addr) (C : Nat → Nat) (i : Nat) : atAk (rowOf 2 (akR x A C)) i (x i) (A i) (C i) := ⟨rowOf_at (i := i) (k := 0) (by omega), rowOf_at (i := i) (k := 1) (by omega)⟩
theorem AksIn.src {w : World} {lo hi : Nat} {ad : Option Addr} {n : Nat} {x : Nat → Ak} (h : AksIn w lo hi ad n x) : ∃ (A : Nat → Option Addr) (C : Nat → Nat), SrcRow w lo hi ad (n * 2) (rowOf 2 (akR x A C)) ∧ (∀ i, i < n → IntsIn w lo hi (A i) (x i).n (x i).s) := by
  obtain ⟨F, hF⟩ := skolC (n := n) ((none, 0) : (Option Addr × Nat)) (p := fun i q => (∃ b off, ad = some ⟨b, off, none⟩ ∧ lo ≤ b ∧ b < hi ∧ AkCells w b (off + i * 2) (x i) q.1 q.2) ∧ IntsIn w lo hi q.1 (x i).n (x i).s) (fun i hi' => by
    obtain ⟨b, off, ah, ch, e1, e2, e3, e4, e5⟩ := h i hi'
    exact ⟨(ah, ch), ⟨b, off, e1, e2, e3, e4⟩, e5⟩)
  refine ⟨fun i => (F i).1, fun i => (F i).2, SrcRow.of (by omega) (fun _ _ => rfl) (fun i hi' => ?_) (fun i _ v hv => ?_), fun i hi' => (hF i hi').2⟩
  · obtain ⟨⟨b, off, e1, e2, e3, e4⟩, _⟩ := hF i hi'
    refine ⟨b, off, e1, e2, e3, fun k hk => ?_⟩
    rcases (show k = 0 ∨ k = 1 by omega) with rfl | rfl
    · exact e4.c0
    · exact e4.c1
  · simp only [akR, List.mem_cons, List.not_mem_nil, or_false] at hv
    rcases hv with rfl | rfl <;> rfl
theorem StrsIn.src {w : World} {lo hi : Nat} {ad : Option Addr} {n : Nat} {s : Nat → ByteArray} (h : StrsIn w lo hi ad n s) : SrcRow w lo hi ad (n * 1) (fun j => .string (s j)) :=
  ⟨fun j hj => h j (by omega), fun _ _ => rfl⟩
theorem IntsIn.src {w : World} {lo hi : Nat} {ad : Option Addr} {n : Nat} {s : Nat → Int} (h : IntsIn w lo hi ad n s) : SrcRow w lo hi ad (n * 1) (fun j => .int .i64 (s j)) :=
  ⟨fun j hj => h j (by omega), fun _ _ => rfl⟩
theorem RowF.strs {w : World} {g n : Nat} {s : Nat → ByteArray} (h : RowF w g (n * 1) (fun j => .string (s j))) : StrsOwn w g (g + 1) (some ⟨g, 0, none⟩) n s := fun i hi =>
  ⟨g, 0, rfl, Nat.le_refl _, Nat.lt_succ_self _, by rw [Nat.zero_add]; exact h.cell i (by omega), by rw [Nat.zero_add]; exact h.free i⟩
theorem RowF.ints {w : World} {g n : Nat} {s : Nat → Int} (h : RowF w g (n * 1) (fun j => .int .i64 (s j))) : IntsOwn w g (g + 1) (some ⟨g, 0, none⟩) n s := fun i hi =>
  ⟨g, 0, rfl, Nat.le_refl _, Nat.lt_succ_self _, by rw [Nat.zero_add]; exact h.cell i (by omega), by rw [Nat.zero_add]; exact h.free i⟩
end Go.Proofs.Ytkcgfjnmkbbnoaa
namespace Go.Proofs.Ytkcgfjnmkbbnoaa
open Go.RowKit
def updF {α : Type} (f : Nat → α) (k : Nat) (v : α) : Nat → α := fun i => if i = k then v else f i
theorem updF_same {α : Type} (f : Nat → α) (k : Nat) (v : α) : updF f k v k = v := if_pos rfl
theorem updF_ne {α : Type} (f : Nat → α) {k i : Nat} (v : α) (h : ¬ i = k) : updF f k v i = f i := if_neg h
/-- a list of which k elements have lists of their own -/
structure CpMs (w : World) (g n k : Nat) (x : Nat → Ms) (A0 A : Nat → Option Addr) (C hb : Nat → Nat) : Prop where
  row : 0 < n → ∃ c, RowF w g (n * 8) c ∧ ∀ i, i < n → atMs c i (x i) (A i) (C i)
  src : ∀ i, k ≤ i → i < n → A i = A0 i
  hold : ∀ i, i < k → SlsAt w (A i) (hb i) (x i).n (x i).s
  hlt : ∀ i, i < k → (x i).n ≠ 0 → g < hb i ∧ hb i < w.heap.size
  inj : ∀ i j, i < k → j < k → (x i).n ≠ 0 → (x j).n ≠ 0 → hb i = hb j → i = j
theorem CpMs.put {w w1 : World} {g n k : Nat} {x : Nat → Ms} {A0 A : Nat → Option Addr} {C hb : Nat → Nat} (h : CpMs w g n k x A0 A C hb) (hk : k < n) (hb1 : Below w.heap.size w w1) {ad' : Option Addr} {cap' b' : Nat} (hb' : w.heap.size ≤ b') (hlt' : (x k).n ≠ 0 → b' < w1.heap.size) (ho : SlsAt w1 ad' b' (x k).n (x k).s) :
    CpMs (w1.setCell ⟨g, k * 8 + 7, none⟩ (.slice ad' (x k).n cap')) g n (k + 1) x A0 (updF A k ad') (updF C k cap') (updF hb k b') := by
  obtain ⟨c, r, hat⟩ := h.row (by omega)
  have hgw := r.lt
  have F : FrP (fun q => q = g) w1 (w1.setCell ⟨g, k * 8 + 7, none⟩ (.slice ad' (x k).n cap')) := (FrP.refl (fun q => q = g) w1).setCell (p := ⟨g, k * 8 + 7, none⟩) rfl _
  refine ⟨fun _ => ⟨_, ((r.below hb1 hgw).set (o := k * 8 + 7) (by omega) _), fun i hi => ?_⟩, fun i h1 h2 => ?_, fun i hi => ?_, fun i hi h0 => ?_, fun i j hi hj h0 h1 e => ?_⟩
  · by_cases e : i = k
    · subst e
      have a0 := hat i hi
      rw [updF_same, updF_same]
      obtain ⟨a0, a1, a2, a3, a4, a5, a6, a7⟩ := a0
      exact ⟨(if_neg (by omega)).trans a0, (if_neg (by omega)).trans a1, (if_neg (by omega)).trans a2, (if_neg (by omega)).trans a3, (if_neg (by omega)).trans a4, (if_neg (by omega)).trans a5, (if_neg (by omega)).trans a6, if_pos rfl⟩
    · rw [updF_ne _ _ e, updF_ne _ _ e]
      exact atMs_set (hat i hi) e (k := k) (by omega) (by omega) _
  · rw [updF_ne _ _ (by omega)]
    exact h.src i (by omega) h2
  · by_cases e : i = k
    · subst e
      rw [updF_same, updF_same]
      exact ho.frP (P := fun q => q = g) F (fun h0 => ⟨by omega, hlt' h0⟩)
    · rw [updF_ne _ _ e, updF_ne _ _ e]
      exact (h.hold i (by omega)).frP (P := fun q => q = g) ((FrP.of_below hb1).trans F) (fun h0 => ⟨fun e => Nat.lt_irrefl _ (e ▸ (h.hlt i (by omega) h0).1), (h.hlt i (by omega) h0).2⟩)
  · simp only [World.size_setCell]
    by_cases e : i = k
    · subst e
      rw [updF_same]
      exact ⟨by omega, hlt' h0⟩
    · rw [updF_ne _ _ e]
      exact ⟨(h.hlt i (by omega) h0).1, Nat.lt_of_lt_of_le (h.hlt i (by omega) h0).2 hb1.size⟩
  · by_cases e1 : i = k
    · by_cases e2 : j = k
      · rw [e1, e2]
      · subst e1
        rw [updF_same, updF_ne _ _ e2] at e
        have := (h.hlt j (by omega) h1).2
        omega
    · by_cases e2 : j = k
      · subst e2
        rw [updF_same, updF_ne _ _ e1] at e
        have := (h.hlt i (by omega) h0).2
        omega
      · rw [updF_ne _ _ e1, updF_ne _ _ e2] at e
        exact h.inj i j (by omega) (by omega) h0 h1 e
theorem CpMs.done {w : World} {ad : Option Addr} {g n : Nat} {x : Nat → Ms} {A0 A : Nat → Option Addr} {C hb : Nat → Nat} (h : CpMs w g n n x A0 A C hb) (ha : 0 < n → ad = some ⟨g, 0, none⟩) : MssAt w ad g n x A C hb :=
  ⟨ha, h.row, h.hold, fun i hi h0 => (h.hlt i hi h0).2, ⟨fun i hi h0 e => Nat.lt_irrefl _ (e ▸ (h.hlt i hi h0).1), h.inj⟩⟩
theorem CpMs.rng {w : World} {g n : Nat} {x : Nat → Ms} {A0 A : Nat → Option Addr} {C hb : Nat → Nat} (h : CpMs w g n n x A0 A C hb) {k : Nat} (hk : blkH g n (fun i => (x i).n) hb k) : g ≤ k ∧ k < w.heap.size := by
  rcases hk with ⟨h0, rfl⟩ | ⟨i, hi, h0, rfl⟩
  · obtain ⟨c, r, _⟩ := h.row h0; exact ⟨Nat.le_refl _, r.lt⟩
  · exact ⟨Nat.le_of_lt (h.hlt i hi h0).1, (h.hlt i hi h0).2⟩
theorem CpMs.grow {w w' : World} {g n k : Nat} {x : Nat → Ms} {A0 A : Nat → Option Addr} {C hb : Nat → Nat} (h : CpMs w g n k x A0 A C hb) (hf : Below w.heap.size w w') : CpMs w' g n k x A0 A C hb :=
  ⟨fun h0 => by obtain ⟨c, r, e⟩ := h.row h0; exact ⟨c, r.below hf r.lt, e⟩, h.src, fun i hi => (h.hold i hi).frP (FrP.of_below (P := fun _ => False) hf) (fun h0 => ⟨fun h => h, (h.hlt i hi h0).2⟩), fun i hi h0 => ⟨(h.hlt i hi h0).1, Nat.lt_of_lt_of_le (h.hlt i hi h0).2 hf.size⟩, h.inj⟩
/-- a list of which k elements have lists of their own -/
structure CpAk (w : World) (g n k : Nat) (x : Nat → Ak) (A0 A : Nat → Option Addr) (C hb : Nat → Nat) : Prop where
  row : 0 < n → ∃ c, RowF w g (n * 2) c ∧ ∀ i, i < n → atAk c i (x i) (A i) (C i)
  src : ∀ i, k ≤ i → i < n → A i = A0 i
  hold : ∀ i, i < k → IntsOwn w (hb i) ((hb i) + 1) (A i) (x i).n (x i).s
  hlt : ∀ i, i < k → (x i).n ≠ 0 → g < hb i ∧ hb i < w.heap.size
  inj : ∀ i j, i < k → j < k → (x i).n ≠ 0 → (x j).n ≠ 0 → hb i = hb j → i = j
theorem CpAk.put {w w1 : World} {g n k : Nat} {x : Nat → Ak} {A0 A : Nat → Option Addr} {C hb : Nat → Nat} (h : CpAk w g n k x A0 A C hb) (hk : k < n) (hb1 : Below w.heap.size w w1) {ad' : Option Addr} {cap' b' : Nat} (hb' : w.heap.size ≤ b') (hlt' : (x k).n ≠ 0 → b' < w1.heap.size) (ho : IntsOwn w1 b' (b' + 1) ad' (x k).n (x k).s) :
    CpAk (w1.setCell ⟨g, k * 2 + 1, none⟩ (.slice ad' (x k).n cap')) g n (k + 1) x A0 (updF A k ad') (updF C k cap') (updF hb k b') := by
  obtain ⟨c, r, hat⟩ := h.row (by omega)
  have hgw := r.lt
  have F : FrP (fun q => q = g) w1 (w1.setCell ⟨g, k * 2 + 1, none⟩ (.slice ad' (x k).n cap')) := (FrP.refl (fun q => q = g) w1).setCell (p := ⟨g, k * 2 + 1, none⟩) rfl _
  refine ⟨fun _ => ⟨_, ((r.below hb1 hgw).set (o := k * 2 + 1) (by omega) _), fun i hi => ?_⟩, fun i h1 h2 => ?_, fun i hi => ?_, fun i hi h0 => ?_, fun i j hi hj h0 h1 e => ?_⟩
  · by_cases e : i = k
    · subst e
      have a0 := hat i hi
      rw [updF_same, updF_same]
      obtain ⟨a0, a1⟩ := a0
      exact ⟨(if_neg (by omega)).trans a0, if_pos rfl⟩
    · rw [updF_ne _ _ e, updF_ne _ _ e]
      exact atAk_set (hat i hi) e (k := k) (by omega) (by omega) _
  · rw [updF_ne _ _ (by omega)]
    exact h.src i (by omega) h2
  · by_cases e : i = k
    · subst e
      rw [updF_same, updF_same]
      exact ho.frP (P := fun q => q = g) F (fun h0 => ⟨by omega, hlt' h0⟩)
    · rw [updF_ne _ _ e, updF_ne _ _ e]
      exact (h.hold i (by omega)).frP (P := fun q => q = g) ((FrP.of_below hb1).trans F) (fun h0 => ⟨fun e => Nat.lt_irrefl _ (e ▸ (h.hlt i (by omega) h0).1), (h.hlt i (by omega) h0).2⟩)
  · simp only [World.size_setCell]
    by_cases e : i = k
    · subst e
      rw [updF_same]
      exact ⟨by omega, hlt' h0⟩
    · rw [updF_ne _ _ e]
      exact ⟨(h.hlt i (by omega) h0).1, Nat.lt_of_lt_of_le (h.hlt i (by omega) h0).2 hb1.size⟩
  · by_cases e1 : i = k
    · by_cases e2 : j = k
      · rw [e1, e2]
      · subst e1
        rw [updF_same, updF_ne _ _ e2] at e
        have := (h.hlt j (by omega) h1).2
        omega
    · by_cases e2 : j = k
      · subst e2
        rw [updF_same, updF_ne _ _ e1] at e
        have := (h.hlt i (by omega) h0).2
        omega
      · rw [updF_ne _ _ e1, updF_ne _ _ e2] at e
        exact h.inj i j (by omega) (by omega) h0 h1 e
theorem CpAk.done {w : World} {ad : Option Addr} {g n : Nat} {x : Nat → Ak} {A0 A : Nat → Option Addr} {C hb : Nat → Nat} (h : CpAk w g n n x A0 A C hb) (ha : 0 < n → ad = some ⟨g, 0, none⟩) : AksAt w ad g n x A C hb :=
  ⟨ha, h.row, h.hold, fun i hi h0 => (h.hlt i hi h0).2, ⟨fun i hi h0 e => Nat.lt_irrefl _ (e ▸ (h.hlt i hi h0).1), h.inj⟩⟩
theorem CpAk.rng {w : World} {g n : Nat} {x : Nat → Ak} {A0 A : Nat → Option Addr} {C hb : Nat → Nat} (h : CpAk w g n n x A0 A C hb) {k : Nat} (hk : blkH g n (fun i => (x i).n) hb k) : g ≤ k ∧ k < w.heap.size := by
  rcases hk with ⟨h0, rfl⟩ | ⟨i, hi, h0, rfl⟩
  · obtain ⟨c, r, _⟩ := h.row h0; exact ⟨Nat.le_refl _, r.lt⟩
  · exact ⟨Nat.le_of_lt (h.hlt i hi h0).1, (h.hlt i hi h0).2⟩
theorem CpAk.grow {w w' : World} {g n k : Nat} {x : Nat → Ak} {A0 A : Nat → Option Addr} {C hb : Nat → Nat} (h : CpAk w g n k x A0 A C hb) (hf : Below w.heap.size w w') : CpAk w' g n k x A0 A C hb :=
  ⟨fun h0 => by obtain ⟨c, r, e⟩ := h.row h0; exact ⟨c, r.below hf r.lt, e⟩, h.src, fun i hi => (h.hold i hi).frP (FrP.of_below (P := fun _ => False) hf) (fun h0 => ⟨fun h => h, (h.hlt i hi h0).2⟩), fun i hi h0 => ⟨(h.hlt i hi h0).1, Nat.lt_of_lt_of_le (h.hlt i hi h0).2 hf.size⟩, h.inj⟩
end Go.Proofs.Ytkcgfjnmkbbnoaa
