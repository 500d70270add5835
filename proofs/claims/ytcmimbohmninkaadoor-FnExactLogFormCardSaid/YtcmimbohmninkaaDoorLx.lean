import Derived.Test.YtcmimbohmninkaaDoorLc
import Derived.ProofKit
import Derived.SizedLaws
import Derived.Deep.Slices
import Derived.Deep.Strs
namespace Go.Proofs.YtcmimbohmninkaaDoor
open Go.ChangeShapes Go.WideShapes Go.ChangeAt Go.RowKit Go.Deep
open Go.WideMaps Go.WideElems
theorem Tryd.c9 : Tryd.prog.cellsOf 9 = 1 := by kernel_rfl
theorem Tryd.c3 : Tryd.prog.cellsOf 3 = 1 := by kernel_rfl
theorem Tryd.b9 : Tryd.prog.bytesOf 9 = 16 := by kernel_rfl
def Fits {H : Type} (t : TypeId) (d : DataW H) : Prop := ∀ x ∈ DataW.weights Tryd.prog t d, x ≤ reachBytes
theorem weightsAll_mem {H : Type} {P : Program} {e : TypeId} : ∀ {l : List (DataW H)} {d : DataW H}, d ∈ l → ∀ x ∈ DataW.weights P e d, x ∈ DataW.weightsAll P e l
  | d0 :: r, d, h, x, hx => by
    rw [DataW.weightsAll]
    rcases List.mem_cons.1 h with rfl | h
    · exact List.mem_append_left _ hx
    · exact List.mem_append_right _ (weightsAll_mem h x hx)
set_option maxRecDepth 100000 in
theorem fits_slice {H : Type} {t e : TypeId} {es sp : List (DataW H)} (hu : Tryd.prog.underlying t = some (.slice e)) (h : Fits t (.slice es sp)) : (es.length + sp.length) * Tryd.prog.bytesOf e ≤ reachBytes ∧ ∀ d ∈ es, Fits e d := by
  refine ⟨h _ (by simp [DataW.weights, hu]), fun d hd x hx => h x ?_⟩
  simp only [DataW.weights, hu]
  exact List.mem_cons_of_mem _ (List.mem_append_left _ (weightsAll_mem hd x hx))
set_option maxRecDepth 100000 in
theorem fits_string {H : Type} {t : TypeId} {b : List UInt8} (h : Fits (H := H) t (.lit (.string b))) : b.length ≤ reachBytes := h _ (by simp [DataW.weights])
theorem cell_lt {W : World} {a : Addr} {v : Value} (h : W.cell? a = some v) : a.block < W.heap.size := by
  unfold World.cell? at h
  rcases Nat.lt_or_ge a.block W.heap.size with h1 | h1
  · exact h1
  · rw [Array.getElem?_eq_none h1] at h
    cases h
theorem list2 {α : Type} {l : List α} (h : l.length = 2) : ∃ a b, l = [a, b] := by
  match l, h with
  | [a, b], _ => exact ⟨a, b, rfl⟩
theorem list3 {α : Type} {l : List α} (h : l.length = 3) : ∃ a b c, l = [a, b, c] := by
  match l, h with
  | [a, b, c], _ => exact ⟨a, b, c, rfl⟩
set_option maxRecDepth 100000 in
theorem fit_str {H : Type} {enc : TypeId × Value → H} {W : World} {n : Nat} {v : Value} {y : DataW H × List MemPlace} (h : DataW.trod enc Tryd.prog W 0 (fun _ => true) true n 9 [v] = some y) (hs : Fits 9 y.1) : ∃ s : ByteArray, v = .string s ∧ (s.size : Int) ≤ 140737488355328 := by
  obtain ⟨s, h1, h2, _⟩ := DataW.trod_string Tryd.underlying9 h
  subst h2
  have := fits_string hs
  have e : s.data.toList.length = s.size := rfl
  simp only [reachBytes] at this
  exact ⟨s, by simpa using h1, by omega⟩
set_option maxRecDepth 100000 in
theorem fit_int {H : Type} {enc : TypeId × Value → H} {W : World} {n : Nat} {v : Value} {y : DataW H × List MemPlace} (h : DataW.trod enc Tryd.prog W 0 (fun _ => true) true n 3 [v] = some y) : ∃ a : Int, v = .int .i64 a := by
  obtain ⟨a, h1, _⟩ := DataW.trod_int Tryd.underlying3 h
  exact ⟨a, by simpa using h1⟩
theorem skol {β : Type} {n : Nat} (d : β) {p : Nat → β → Prop} (h : ∀ i, i < n → ∃ x, p i x) : ∃ f : Nat → β, ∀ i, i < n → p i (f i) := by
  have h' : ∀ i, ∃ x, i < n → p i x := fun i => by
    by_cases hi : i < n
    · obtain ⟨x, hx⟩ := h i hi; exact ⟨x, fun _ => hx⟩
    · exact ⟨d, fun e => absurd e hi⟩
  obtain ⟨f, hf⟩ := Classical.skolem.1 h'
  exact ⟨f, hf⟩
set_option maxRecDepth 100000 in
/-- a slice that came in, its elements of z cells each -/
theorem openSl {H : Type} {enc : TypeId × Value → H} {W : World} {fuel : Nat} {v : Value} {x : DataW H × List MemPlace} {t e : TypeId} {z : Nat} (ht : Tryd.prog.underlying t = some (.slice e)) (hz : Tryd.prog.cellsOf e = z) (hz0 : 0 < z) (h : DataW.trod enc Tryd.prog W 0 (fun _ => true) true fuel t [v] = some x) (hs : Fits t x.1) (hb : 16 ≤ Tryd.prog.bytesOf e) :
    ∃ ad n cap, v = .slice ad n cap ∧ (n : Int) ≤ 8796093022208 ∧ ∀ i, i < n → ∃ (b off : Nat) (cs : List Value) (k : Nat) (y : DataW H × List MemPlace), ad = some ⟨b, off, none⟩ ∧ b < W.heap.size ∧ (∀ j, j < z → W.cell? ⟨b, off + i * z + j, none⟩ = cs[j]?) ∧ DataW.trod enc Tryd.prog W 0 (fun _ => true) true k e cs = some y ∧ Fits e y.1 := by
  rcases open_slice ht h with ⟨hc, _⟩ | ⟨a, len, cap, m, n, D, Pl, hc, _, hl, _, hm, hx, hel⟩
  · simp only [List.cons.injEq, and_true] at hc
    exact ⟨none, 0, 0, hc, by omega, fun i hi => absurd hi (Nat.not_lt_zero _)⟩
  · simp only [List.cons.injEq, and_true] at hc
    simp only [if_true] at hm
    subst hm
    subst hx
    obtain ⟨f1, f2⟩ := fits_slice ht hs
    simp only [List.length_map, List.length_range, reachBytes] at f1
    have f3 : (len + (m - len)) * 16 ≤ 140737488351232 := Nat.le_trans (Nat.mul_le_mul_left _ hb) f1
    refine ⟨some a, len, m, hc, by omega, fun i hi => ?_⟩
    obtain ⟨cs, h1, h2⟩ := hel i (by omega)
    rw [hz] at h1
    obtain ⟨_, hcl, hcc⟩ := World.cells?_some h1
    obtain ⟨cs0, h10, _⟩ := hel 0 (by omega)
    rw [hz] at h10
    obtain ⟨_, hcl0, hcc0⟩ := World.cells?_some h10
    obtain ⟨b, off, spot⟩ := a
    have hspot : spot = none := by
      have := hcc0 0 hz0
      rw [List.getElem?_eq_getElem (by omega)] at this
      simpa [Addr.add] using World.cell?_spot this
    subst hspot
    have ea : ∀ j, (((⟨b, off, none⟩ : Addr).add (i * z)).add j) = ⟨b, off + i * z + j, none⟩ := fun j => by simp [add_plain]
    have hb' : b < W.heap.size := by
      have := hcc 0 hz0
      rw [ea, List.getElem?_eq_getElem (by omega)] at this
      exact cell_lt this
    exact ⟨b, off, cs, n, _, rfl, hb', fun j hj => by rw [← ea]; exact hcc j hj, h2, f2 _ (List.mem_map.2 ⟨i, List.mem_range.2 hi, rfl⟩)⟩
theorem Tryd.own : ownKnob Tryd.prog.godebug = none := by kernel_rfl
theorem Tryd.laidOut : laidOutB Tryd.prog = true := by kernel_rfl
theorem Tryd.c74 : Tryd.prog.cellsOf 74 = 3 := by kernel_rfl
theorem Tryd.c76 : Tryd.prog.cellsOf 76 = 6 := by kernel_rfl
theorem Tryd.b74 : Tryd.prog.bytesOf 74 = 40 := by kernel_rfl
theorem Tryd.b76 : Tryd.prog.bytesOf 76 = 80 := by kernel_rfl
theorem Tryd.c25 : Tryd.prog.cellsOf 25 = 2 := by kernel_rfl
theorem Tryd.c27 : Tryd.prog.cellsOf 27 = 4 := by kernel_rfl
theorem lst2 {α : Type} {l : List α} (h : l.length = 2) : ∃ a0 a1, l = [a0, a1] := by
  match l, h with
  | [a0, a1], _ => exact ⟨a0, a1, rfl⟩
theorem lst3 {α : Type} {l : List α} (h : l.length = 3) : ∃ a0 a1 a2, l = [a0, a1, a2] := by
  match l, h with
  | [a0, a1, a2], _ => exact ⟨a0, a1, a2, rfl⟩
theorem lst4 {α : Type} {l : List α} (h : l.length = 4) : ∃ a0 a1 a2 a3, l = [a0, a1, a2, a3] := by
  match l, h with
  | [a0, a1, a2, a3], _ => exact ⟨a0, a1, a2, a3, rfl⟩
theorem lst6 {α : Type} {l : List α} (h : l.length = 6) : ∃ a0 a1 a2 a3 a4 a5, l = [a0, a1, a2, a3, a4, a5] := by
  match l, h with
  | [a0, a1, a2, a3, a4, a5], _ => exact ⟨a0, a1, a2, a3, a4, a5, rfl⟩
set_option maxRecDepth 100000 in
theorem openWt {H : Type} {enc : TypeId × Value → H} {W : World} {fuel : Nat} {cs : List Value} {x : DataW H × List MemPlace} (h : DataW.trod enc Tryd.prog W 0 (fun _ => true) true fuel 74 cs = some x) (hs : Fits 74 x.1) :
    ∃ o : Wt, cs = [.string o.kind, .string o.name, .int .i64 o.ver] ∧ WtFit o := by
  obtain ⟨xs, n, _, rfl, hlen, hxl, hf⟩ := DataW.trod_struct Tryd.underlying74 h
  rw [Tryd.c74] at hlen
  obtain ⟨c0, c1, c2, rfl⟩ := lst3 hlen
  obtain ⟨y0, y1, y2, rfl⟩ := lst3 (show xs.length = 3 from hxl)
  have g0 : DataW.trod enc Tryd.prog W 0 (fun _ => true) true n 9 [c0] = some y0 := hf 0 _ rfl
  have g1 : DataW.trod enc Tryd.prog W 0 (fun _ => true) true n 9 [c1] = some y1 := hf 1 _ rfl
  have g2 : DataW.trod enc Tryd.prog W 0 (fun _ => true) true n 3 [c2] = some y2 := hf 2 _ rfl
  have w0 : Fits 9 y0.1 := fun z hz => hs z (by
    simp only [List.map_cons, List.map_nil, DataW.weights, Tryd.underlying74, DataW.weightsEach, List.mem_append]
    simp [hz])
  have w1 : Fits 9 y1.1 := fun z hz => hs z (by
    simp only [List.map_cons, List.map_nil, DataW.weights, Tryd.underlying74, DataW.weightsEach, List.mem_append]
    simp [hz])
  obtain ⟨s0, rfl, f0⟩ := fit_str g0 w0
  obtain ⟨s1, rfl, f1⟩ := fit_str g1 w1
  obtain ⟨s2, rfl⟩ := fit_int g2
  exact ⟨⟨s0, s1, s2⟩, rfl, ⟨f0, f1⟩⟩
set_option maxRecDepth 100000 in
theorem openWr {H : Type} {enc : TypeId × Value → H} {W : World} {fuel : Nat} {cs : List Value} {x : DataW H × List MemPlace} (h : DataW.trod enc Tryd.prog W 0 (fun _ => true) true fuel 76 cs = some x) (hs : Fits 76 x.1) :
    ∃ o : Wr, cs = [.int .i64 o.op, .string o.kind, .string o.name, .int .i64 o.seen, .string o.text, .string o.hold] ∧ WrFit o := by
  obtain ⟨xs, n, _, rfl, hlen, hxl, hf⟩ := DataW.trod_struct Tryd.underlying76 h
  rw [Tryd.c76] at hlen
  obtain ⟨c0, c1, c2, c3, c4, c5, rfl⟩ := lst6 hlen
  obtain ⟨y0, y1, y2, y3, y4, y5, rfl⟩ := lst6 (show xs.length = 6 from hxl)
  have g0 : DataW.trod enc Tryd.prog W 0 (fun _ => true) true n 3 [c0] = some y0 := hf 0 _ rfl
  have g1 : DataW.trod enc Tryd.prog W 0 (fun _ => true) true n 9 [c1] = some y1 := hf 1 _ rfl
  have g2 : DataW.trod enc Tryd.prog W 0 (fun _ => true) true n 9 [c2] = some y2 := hf 2 _ rfl
  have g3 : DataW.trod enc Tryd.prog W 0 (fun _ => true) true n 3 [c3] = some y3 := hf 3 _ rfl
  have g4 : DataW.trod enc Tryd.prog W 0 (fun _ => true) true n 9 [c4] = some y4 := hf 4 _ rfl
  have g5 : DataW.trod enc Tryd.prog W 0 (fun _ => true) true n 9 [c5] = some y5 := hf 5 _ rfl
  have w1 : Fits 9 y1.1 := fun z hz => hs z (by
    simp only [List.map_cons, List.map_nil, DataW.weights, Tryd.underlying76, DataW.weightsEach, List.mem_append]
    simp [hz])
  have w2 : Fits 9 y2.1 := fun z hz => hs z (by
    simp only [List.map_cons, List.map_nil, DataW.weights, Tryd.underlying76, DataW.weightsEach, List.mem_append]
    simp [hz])
  have w4 : Fits 9 y4.1 := fun z hz => hs z (by
    simp only [List.map_cons, List.map_nil, DataW.weights, Tryd.underlying76, DataW.weightsEach, List.mem_append]
    simp [hz])
  have w5 : Fits 9 y5.1 := fun z hz => hs z (by
    simp only [List.map_cons, List.map_nil, DataW.weights, Tryd.underlying76, DataW.weightsEach, List.mem_append]
    simp [hz])
  obtain ⟨s0, rfl⟩ := fit_int g0
  obtain ⟨s1, rfl, f1⟩ := fit_str g1 w1
  obtain ⟨s2, rfl, f2⟩ := fit_str g2 w2
  obtain ⟨s3, rfl⟩ := fit_int g3
  obtain ⟨s4, rfl, f4⟩ := fit_str g4 w4
  obtain ⟨s5, rfl, f5⟩ := fit_str g5 w5
  exact ⟨⟨s0, s1, s2, s3, s4, s5⟩, rfl, ⟨f1, f2, f4, f5⟩⟩
set_option maxRecDepth 100000 in
theorem openWts {H : Type} {enc : TypeId × Value → H} {W : World} {fuel : Nat} {v : Value} {x : DataW H × List MemPlace} (h : DataW.trod enc Tryd.prog W 0 (fun _ => true) true fuel 22 [v] = some x) (hs : Fits 22 x.1) :
    ∃ ad n cap xs, v = .slice ad n cap ∧ (n : Int) ≤ 8796093022208 ∧ WtsIn W 0 W.heap.size ad n xs ∧ ∀ i, i < n → WtFit (xs i) := by
  obtain ⟨ad, n, cap, rfl, hn, hel⟩ := openSl Tryd.underlying22 Tryd.c74 (by omega) h hs (by rw [Tryd.b74]; omega)
  obtain ⟨xs, hxs⟩ := skol (⟨⟨#[]⟩, ⟨#[]⟩, 0⟩ : Wt) (p := fun i o => (∃ b off, ad = some ⟨b, off, none⟩ ∧ 0 ≤ b ∧ b < W.heap.size ∧ WtCells W b (off + i * 3) o) ∧ WtFit o) (fun i hi => by
    obtain ⟨b, off, cs, k, y, rfl, hb, hc, ht, hf⟩ := hel i hi
    obtain ⟨o, rfl, hfit⟩ := openWt ht hf
    exact ⟨o, ⟨b, off, rfl, Nat.zero_le _, hb, ⟨hc 0 (by omega), hc 1 (by omega), hc 2 (by omega)⟩⟩, hfit⟩)
  exact ⟨ad, n, cap, xs, rfl, hn, fun i hi => (hxs i hi).1, fun i hi => (hxs i hi).2⟩
set_option maxRecDepth 100000 in
theorem openWrs {H : Type} {enc : TypeId × Value → H} {W : World} {fuel : Nat} {v : Value} {x : DataW H × List MemPlace} (h : DataW.trod enc Tryd.prog W 0 (fun _ => true) true fuel 23 [v] = some x) (hs : Fits 23 x.1) :
    ∃ ad n cap xs, v = .slice ad n cap ∧ (n : Int) ≤ 8796093022208 ∧ WrsIn W 0 W.heap.size ad n xs ∧ ∀ i, i < n → WrFit (xs i) := by
  obtain ⟨ad, n, cap, rfl, hn, hel⟩ := openSl Tryd.underlying23 Tryd.c76 (by omega) h hs (by rw [Tryd.b76]; omega)
  obtain ⟨xs, hxs⟩ := skol (⟨0, ⟨#[]⟩, ⟨#[]⟩, 0, ⟨#[]⟩, ⟨#[]⟩⟩ : Wr) (p := fun i o => (∃ b off, ad = some ⟨b, off, none⟩ ∧ 0 ≤ b ∧ b < W.heap.size ∧ WrCells W b (off + i * 6) o) ∧ WrFit o) (fun i hi => by
    obtain ⟨b, off, cs, k, y, rfl, hb, hc, ht, hf⟩ := hel i hi
    obtain ⟨o, rfl, hfit⟩ := openWr ht hf
    exact ⟨o, ⟨b, off, rfl, Nat.zero_le _, hb, ⟨hc 0 (by omega), hc 1 (by omega), hc 2 (by omega), hc 3 (by omega), hc 4 (by omega), hc 5 (by omega)⟩⟩, hfit⟩)
  exact ⟨ad, n, cap, xs, rfl, hn, fun i hi => (hxs i hi).1, fun i hi => (hxs i hi).2⟩
set_option maxRecDepth 100000 in
theorem openBd {H : Type} {enc : TypeId × Value → H} {W : World} {fuel : Nat} {cs : List Value} {x : DataW H × List MemPlace} (h : DataW.trod enc Tryd.prog W 0 (fun _ => true) true fuel 25 cs = some x) (hs : Fits 25 x.1) :
    ∃ a0 n0 p0 x0 a1 n1 p1 x1, cs = [.slice a0 n0 p0, .slice a1 n1 p1] ∧ (n0 : Int) ≤ 8796093022208 ∧ WtsIn W 0 W.heap.size a0 n0 x0 ∧ (∀ i, i < n0 → WtFit (x0 i)) ∧ (n1 : Int) ≤ 8796093022208 ∧ WrsIn W 0 W.heap.size a1 n1 x1 ∧ ∀ i, i < n1 → WrFit (x1 i) := by
  obtain ⟨xs, n, _, rfl, hlen, hxl, hf⟩ := DataW.trod_struct Tryd.underlying25 h
  rw [Tryd.c25] at hlen
  obtain ⟨c0, c1, rfl⟩ := lst2 hlen
  obtain ⟨y0, y1, rfl⟩ := lst2 (show xs.length = 2 from hxl)
  have g0 : DataW.trod enc Tryd.prog W 0 (fun _ => true) true n 22 [c0] = some y0 := hf 0 _ rfl
  have g1 : DataW.trod enc Tryd.prog W 0 (fun _ => true) true n 23 [c1] = some y1 := hf 1 _ rfl
  have w0 : Fits 22 y0.1 := fun z hz => hs z (by
    simp only [List.map_cons, List.map_nil, DataW.weights, Tryd.underlying25, DataW.weightsEach, List.mem_append]
    simp [hz])
  have w1 : Fits 23 y1.1 := fun z hz => hs z (by
    simp only [List.map_cons, List.map_nil, DataW.weights, Tryd.underlying25, DataW.weightsEach, List.mem_append]
    simp [hz])
  obtain ⟨a0, n0, p0, x0, rfl, m0, in0, f0⟩ := openWts g0 w0
  obtain ⟨a1, n1, p1, x1, rfl, m1, in1, f1⟩ := openWrs g1 w1
  exact ⟨a0, n0, p0, x0, a1, n1, p1, x1, rfl, m0, in0, f0, m1, in1, f1⟩
set_option maxRecDepth 100000 in
theorem openCall {H : Type} {enc : TypeId × Value → H} {W : World} {fuel : Nat} {cs : List Value} {x : DataW H × List MemPlace} (h : DataW.trod enc Tryd.prog W 0 (fun _ => true) true fuel 27 cs = some x) (hs : Fits 27 x.1) :
    ∃ (v : Bc) (V : BcA), cs = (bcC v V).toList ∧ BcIn W 0 W.heap.size v V ∧ BcFit v := by
  obtain ⟨xs, n, _, rfl, hlen, hxl, hf⟩ := DataW.trod_struct Tryd.underlying27 h
  rw [Tryd.c27] at hlen
  obtain ⟨c0, c1, c2, c3, rfl⟩ := lst4 hlen
  obtain ⟨y0, y1, y2, rfl⟩ := lst3 (show xs.length = 3 from hxl)
  have g0 : DataW.trod enc Tryd.prog W 0 (fun _ => true) true n 9 [c0] = some y0 := hf 0 _ rfl
  have g1 : DataW.trod enc Tryd.prog W 0 (fun _ => true) true n 3 [c1] = some y1 := hf 1 _ rfl
  have g2 : DataW.trod enc Tryd.prog W 0 (fun _ => true) true n 25 [c2, c3] = some y2 := hf 2 _ rfl
  have w0 : Fits 9 y0.1 := fun z hz => hs z (by
    simp only [List.map_cons, List.map_nil, DataW.weights, Tryd.underlying27, DataW.weightsEach, List.mem_append]
    simp [hz])
  have w2 : Fits 25 y2.1 := fun z hz => hs z (by
    simp only [List.map_cons, List.map_nil, DataW.weights, Tryd.underlying27, DataW.weightsEach, List.mem_append]
    simp [hz])
  obtain ⟨s0, rfl, f0⟩ := fit_str g0 w0
  obtain ⟨i1, rfl⟩ := fit_int g1
  obtain ⟨a0, n0, p0, x0, a1, n1, p1, x1, e2, m0, in0, q0, m1, in1, q1⟩ := openBd g2 w2
  simp only [List.cons.injEq, and_true] at e2
  obtain ⟨rfl, rfl⟩ := e2
  exact ⟨⟨s0, i1, n0, x0, n1, x1⟩, ⟨a0, a1, p0, p1⟩, rfl, ⟨in0, in1⟩, ⟨f0, m0, q0, m1, q1⟩⟩
set_option maxRecDepth 100000 in
theorem openBc {H : Type} {enc : TypeId × Value → H} {W : World} {b0 : Nat} {v : Value} {d : DataW H} {p : List MemPlace} (hv : Value.okWide Tryd.prog W .any b0 27 v) (h : DataW.Trod enc Tryd.prog W 0 (fun _ => true) true 27 v d p) (hs : Fits 27 d) :
    ∃ (x : Bc) (V : BcA), v = bcV x V ∧ BcIn W 0 W.heap.size x V ∧ BcFit x := by
  obtain ⟨cs, rfl, hsz⟩ := okWide_struct Tryd.underlying27 hv
  obtain ⟨fuel, hf0⟩ := h
  obtain ⟨x, V, hcs, h1, h2⟩ := openCall hf0 hs
  refine ⟨x, V, ?_, h1, h2⟩
  have : cs = bcC x V := by
    apply Array.ext'
    exact hcs
  rw [this]
end Go.Proofs.YtcmimbohmninkaaDoor
