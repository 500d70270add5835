import Derived.Test.YtkcgfjnmkbbnoaaF
import Derived.ProofKit
import Derived.SizedLaws
import Derived.Deep.Slices
import Derived.Deep.Strs
namespace Go.Proofs.Ytkcgfjnmkbbnoaa
open Go.ChangeShapes Go.WideShapes Go.ChangeAt Go.RowKit Go.Deep
theorem Try.c9 : Try.prog.cellsOf 9 = 1 := by kernel_rfl
theorem Try.c3 : Try.prog.cellsOf 3 = 1 := by kernel_rfl
theorem Try.c4 : Try.prog.cellsOf 4 = 1 := by kernel_rfl
theorem Try.c43 : Try.prog.cellsOf 43 = 1 := by kernel_rfl
theorem Try.c44 : Try.prog.cellsOf 44 = 1 := by kernel_rfl
theorem Try.b9 : Try.prog.bytesOf 9 = 16 := by kernel_rfl
theorem Try.b3 : Try.prog.bytesOf 3 = 8 := by kernel_rfl
def Fits {H : Type} (t : TypeId) (d : DataW H) : Prop := ∀ x ∈ DataW.weights Try.prog t d, x ≤ reachBytes
theorem weightsAll_mem {H : Type} {P : Program} {e : TypeId} : ∀ {l : List (DataW H)} {d : DataW H}, d ∈ l → ∀ x ∈ DataW.weights P e d, x ∈ DataW.weightsAll P e l
  | d0 :: r, d, h, x, hx => by
    rw [DataW.weightsAll]
    rcases List.mem_cons.1 h with rfl | h
    · exact List.mem_append_left _ hx
    · exact List.mem_append_right _ (weightsAll_mem h x hx)
set_option maxRecDepth 100000 in
theorem fits_slice {H : Type} {t e : TypeId} {es sp : List (DataW H)} (hu : Try.prog.underlying t = some (.slice e)) (h : Fits t (.slice es sp)) : (es.length + sp.length) * Try.prog.bytesOf e ≤ reachBytes ∧ ∀ d ∈ es, Fits e d := by
  refine ⟨h _ (by simp [DataW.weights, hu]), fun d hd x hx => h x ?_⟩
  simp only [DataW.weights, hu]
  exact List.mem_cons_of_mem _ (List.mem_append_left _ (weightsAll_mem hd x hx))
set_option maxRecDepth 100000 in
theorem fits_string {H : Type} {t : TypeId} {b : List UInt8} (h : Fits (H := H) t (.lit (.string b))) : b.length ≤ reachBytes := h _ (by simp [DataW.weights])
theorem cell_lt {W : World} {a : Addr} {v : Value} (h : W.cell? a = some v) : a.block < W.heap.size := by
  unfold World.cell? at h
  rcases Nat.lt_or_ge a.block W.heap.size with h1 | h1
  · exact h1
  · rw [Array.getElem?_eq_none h1] at h
    cases h
set_option maxRecDepth 100000 in
theorem openStrs {H : Type} {enc : TypeId × Value → H} {W : World} {fuel : Nat} {v : Value} {x : DataW H × List MemPlace} (h : DataW.trod enc Try.prog W 0 (fun _ => true) true fuel 43 [v] = some x) (hs : Fits 43 x.1) :
    ∃ ad n cap s, v = .slice ad n cap ∧ StrsIn W 0 W.heap.size ad n s ∧ (n : Int) ≤ 8796093022208 ∧ ∀ i, i < n → ((s i).size : Int) ≤ 140737488355328 := by
  rcases open_strs Try.underlying43 Try.underlying9 Try.c9 h with ⟨hc, _⟩ | ⟨a, len, cap, m, s, hc, _, hl, _, hm, hx, hcell⟩
  · simp only [List.cons.injEq, and_true] at hc
    exact ⟨none, 0, 0, fun _ => ⟨#[]⟩, hc, fun i hi => absurd hi (Nat.not_lt_zero _), by omega, fun i hi => absurd hi (Nat.not_lt_zero _)⟩
  · simp only [List.cons.injEq, and_true] at hc
    simp only [if_true] at hm
    subst hm
    subst hx
    obtain ⟨f1, f2⟩ := fits_slice Try.underlying43 hs
    simp only [List.length_map, List.length_range, Try.b9, reachBytes] at f1
    refine ⟨some a, len, m, s, hc, fun i hi => ?_, by omega, fun i hi => ?_⟩
    · obtain ⟨b, off, spot⟩ := a
      have hspot : spot = none := by simpa [Addr.add] using World.cell?_spot (hcell 0 (by omega)).1
      subst hspot
      have hci := (hcell i (by omega)).1
      have ea : ((⟨b, off, none⟩ : Addr).add i) = ⟨b, off + i, none⟩ := by simp [Addr.add]
      rw [ea] at hci
      exact ⟨b, off, rfl, Nat.zero_le _, cell_lt hci, hci⟩
    · have := fits_string (f2 _ (List.mem_map.2 ⟨i, List.mem_range.2 hi, rfl⟩))
      have e : (s i).data.toList.length = (s i).size := rfl
      simp only [reachBytes] at this
      omega
theorem list2 {α : Type} {l : List α} (h : l.length = 2) : ∃ a b, l = [a, b] := by
  match l, h with
  | [a, b], _ => exact ⟨a, b, rfl⟩
theorem list3 {α : Type} {l : List α} (h : l.length = 3) : ∃ a b c, l = [a, b, c] := by
  match l, h with
  | [a, b, c], _ => exact ⟨a, b, c, rfl⟩
theorem list8 {α : Type} {l : List α} (h : l.length = 8) : ∃ a b c d e f g h, l = [a, b, c, d, e, f, g, h] := by
  match l, h with
  | [a, b, c, d, e, f, g, h], _ => exact ⟨a, b, c, d, e, f, g, h, rfl⟩
set_option maxRecDepth 100000 in
theorem fit_str {H : Type} {enc : TypeId × Value → H} {W : World} {n : Nat} {v : Value} {y : DataW H × List MemPlace} (h : DataW.trod enc Try.prog W 0 (fun _ => true) true n 9 [v] = some y) (hs : Fits 9 y.1) : ∃ s : ByteArray, v = .string s ∧ (s.size : Int) ≤ 140737488355328 := by
  obtain ⟨s, h1, h2, _⟩ := DataW.trod_string Try.underlying9 h
  subst h2
  have := fits_string hs
  have e : s.data.toList.length = s.size := rfl
  simp only [reachBytes] at this
  exact ⟨s, by simpa using h1, by omega⟩
set_option maxRecDepth 100000 in
theorem fit_int {H : Type} {enc : TypeId × Value → H} {W : World} {n : Nat} {v : Value} {y : DataW H × List MemPlace} (h : DataW.trod enc Try.prog W 0 (fun _ => true) true n 3 [v] = some y) : ∃ a : Int, v = .int .i64 a := by
  obtain ⟨a, h1, _⟩ := DataW.trod_int Try.underlying3 h
  exact ⟨a, by simpa using h1⟩
set_option maxRecDepth 100000 in
theorem fit_bool {H : Type} {enc : TypeId × Value → H} {W : World} {n : Nat} {v : Value} {y : DataW H × List MemPlace} (h : DataW.trod enc Try.prog W 0 (fun _ => true) true n 4 [v] = some y) : ∃ a : Bool, v = .bool a := by
  obtain ⟨a, h1, _⟩ := DataW.trod_bool Try.underlying4 h
  exact ⟨a, by simpa using h1⟩
theorem skol {β : Type} {n : Nat} (d : β) {p : Nat → β → Prop} (h : ∀ i, i < n → ∃ x, p i x) : ∃ f : Nat → β, ∀ i, i < n → p i (f i) := by
  have h' : ∀ i, ∃ x, i < n → p i x := fun i => by
    by_cases hi : i < n
    · obtain ⟨x, hx⟩ := h i hi; exact ⟨x, fun _ => hx⟩
    · exact ⟨d, fun e => absurd e hi⟩
  obtain ⟨f, hf⟩ := Classical.skolem.1 h'
  exact ⟨f, hf⟩
set_option maxRecDepth 100000 in
/-- a slice that came in, its elements of z cells each -/
theorem openSl {H : Type} {enc : TypeId × Value → H} {W : World} {fuel : Nat} {v : Value} {x : DataW H × List MemPlace} {t e : TypeId} {z : Nat} (ht : Try.prog.underlying t = some (.slice e)) (hz : Try.prog.cellsOf e = z) (hz0 : 0 < z) (h : DataW.trod enc Try.prog W 0 (fun _ => true) true fuel t [v] = some x) (hs : Fits t x.1) (hb : 16 ≤ Try.prog.bytesOf e) :
    ∃ ad n cap, v = .slice ad n cap ∧ (n : Int) ≤ 8796093022208 ∧ ∀ i, i < n → ∃ (b off : Nat) (cs : List Value) (k : Nat) (y : DataW H × List MemPlace), ad = some ⟨b, off, none⟩ ∧ b < W.heap.size ∧ (∀ j, j < z → W.cell? ⟨b, off + i * z + j, none⟩ = cs[j]?) ∧ DataW.trod enc Try.prog W 0 (fun _ => true) true k e cs = some y ∧ Fits e y.1 := by
  rcases open_slice ht h with ⟨hc, _⟩ | ⟨a, len, cap, m, n, D, Pl, hc, _, hl, _, hm, hx, hel⟩
  · simp only [List.cons.injEq, and_true] at hc
    exact ⟨none, 0, 0, hc, by omega, fun i hi => absurd hi (Nat.not_lt_zero _)⟩
  · simp only [List.cons.injEq, and_true] at hc
    simp only [if_true] at hm
    subst hm
    subst hx
    obtain ⟨f1, f2⟩ := fits_slice ht hs
    simp only [List.length_map, List.length_range, reachBytes] at f1
    have f3 : (len + (m - len)) * 16 ≤ 140737488351232 := Nat.le_trans (Nat.mul_le_mul_left _ hb) f1
    refine ⟨some a, len, m, hc, by omega, fun i hi => ?_⟩
    obtain ⟨cs, h1, h2⟩ := hel i (by omega)
    rw [hz] at h1
    obtain ⟨_, hcl, hcc⟩ := World.cells?_some h1
    obtain ⟨cs0, h10, _⟩ := hel 0 (by omega)
    rw [hz] at h10
    obtain ⟨_, hcl0, hcc0⟩ := World.cells?_some h10
    obtain ⟨b, off, spot⟩ := a
    have hspot : spot = none := by
      have := hcc0 0 hz0
      rw [List.getElem?_eq_getElem (by omega)] at this
      simpa [Addr.add] using World.cell?_spot this
    subst hspot
    have ea : ∀ j, (((⟨b, off, none⟩ : Addr).add (i * z)).add j) = ⟨b, off + i * z + j, none⟩ := fun j => by simp [add_plain]
    have hb' : b < W.heap.size := by
      have := hcc 0 hz0
      rw [ea, List.getElem?_eq_getElem (by omega)] at this
      exact cell_lt this
    exact ⟨b, off, cs, n, _, rfl, hb', fun j hj => by rw [← ea]; exact hcc j hj, h2, f2 _ (List.mem_map.2 ⟨i, List.mem_range.2 hi, rfl⟩)⟩
end Go.Proofs.Ytkcgfjnmkbbnoaa
namespace Go.Proofs.Ytkcgfjnmkbbnoaa
open Go.ChangeShapes Go.WideShapes Go.ChangeAt Go.RowKit
open Go.WideMaps Go.WideElems
theorem Try.own : ownKnob Try.prog.godebug = none := by kernel_rfl
theorem Try.laidOut : laidOutB Try.prog = true := by kernel_rfl
end Go.Proofs.Ytkcgfjnmkbbnoaa
