import Derived.Test.YtjepponnhieocaaXr
import Derived.Test.YtjepponnhieocaaGe
namespace Go.Proofs.Ytjepponnhieocaa
open Go.ChangeShapes Go.WideShapes Go.ChangeAt Go.RowKit Go.Deep
open Go.WideMaps Go.WideElems
theorem Try.c120 : Try.prog.cellsOf 120 = 2 := by kernel_rfl
theorem Try.b120 : Try.prog.bytesOf 120 = 24 := by kernel_rfl
theorem Try.b50 : Try.prog.bytesOf 50 = 248 := by kernel_rfl
theorem Try.c35 : Try.prog.cellsOf 35 = 3 := by kernel_rfl
set_option maxRecDepth 100000 in
theorem openFix {H : Type} {enc : TypeId × Value → H} {W : World} {fuel : Nat} {cs : List Value} {x : DataW H × List MemPlace} (h : DataW.trod enc Try.prog W 0 (fun _ => true) true fuel 120 cs = some x) (hs : Fits 120 x.1) :
    ∃ o : Sl, cs = [.int .i64 o.bal, .string o.text] ∧ SlFit o := by
  obtain ⟨xs, n, _, rfl, hlen, hxl, hf⟩ := DataW.trod_struct Try.underlying120 h
  rw [Try.c120] at hlen
  obtain ⟨c0, c1, rfl⟩ := list2 hlen
  obtain ⟨y0, y1, rfl⟩ := list2 (show xs.length = 2 from hxl)
  have g0 := hf 0 _ rfl
  have g1 := hf 1 _ rfl
  simp only [List.getElem?_cons_succ, List.getElem?_cons_zero] at g0 g1
  have hs' : ∀ z, z ∈ DataW.weights Try.prog 9 y1.1 → z ≤ reachBytes := fun z hz => hs z (by
    simp only [List.map_cons, List.map_nil, DataW.weights, Try.underlying120, DataW.weightsEach, List.mem_append]
    simp [hz])
  obtain ⟨b, rfl⟩ := fit_int g0
  obtain ⟨t, rfl, ft⟩ := fit_str g1 (fun z hz => hs' z hz)
  exact ⟨⟨b, t⟩, rfl, ⟨ft⟩⟩
set_option maxRecDepth 100000 in
theorem openFixes {H : Type} {enc : TypeId × Value → H} {W : World} {fuel : Nat} {v : Value} {x : DataW H × List MemPlace} (h : DataW.trod enc Try.prog W 0 (fun _ => true) true fuel 33 [v] = some x) (hs : Fits 33 x.1) :
    ∃ ad n cap xs, v = .slice ad n cap ∧ (n : Int) ≤ 8796093022208 ∧ SlsIn W 0 W.heap.size ad n xs ∧ ∀ i, i < n → SlFit (xs i) := by
  obtain ⟨ad, n, cap, rfl, hn, hel⟩ := openSl Try.underlying33 Try.c120 (by omega) h hs (by rw [Try.b120]; omega)
  obtain ⟨xs, hxs⟩ := skol (⟨0, ⟨#[]⟩⟩ : Sl) (p := fun i o => (∃ b off, ad = some ⟨b, off, none⟩ ∧ 0 ≤ b ∧ b < W.heap.size ∧ SlCells W b (off + i * 2) o) ∧ SlFit o) (fun i hi => by
    obtain ⟨b, off, cs, k, y, rfl, hb, hc, ht, hf⟩ := hel i hi
    obtain ⟨o, rfl, hfit⟩ := openFix ht hf
    exact ⟨o, ⟨b, off, rfl, Nat.zero_le _, hb, ⟨hc 0 (by omega), hc 1 (by omega)⟩⟩, hfit⟩)
  exact ⟨ad, n, cap, xs, rfl, hn, fun i hi => (hxs i hi).1, fun i hi => (hxs i hi).2⟩
set_option maxRecDepth 100000 in
theorem openRcs {H : Type} {enc : TypeId × Value → H} {W : World} {fuel : Nat} {v : Value} {x : DataW H × List MemPlace} (h : DataW.trod enc Try.prog W 0 (fun _ => true) true fuel 31 [v] = some x) (hs : Fits 31 x.1) :
    ∃ ad n cap xs A, v = .slice ad n cap ∧ (n : Int) ≤ 8796093022208 ∧ RcsIn W 0 W.heap.size ad n xs A ∧ ∀ i, i < n → RcFit (xs i) := by
  obtain ⟨ad, n, cap, rfl, hn, hel⟩ := openSl Try.underlying31 Try.c50 (by omega) h hs (by rw [Try.b50]; omega)
  obtain ⟨xs, hxs⟩ := skol ((⟨0, 0, false, ⟨0, 0, 0, fun _ => ⟨0, ⟨#[]⟩⟩⟩, ⟨0, 0, 0, fun _ => ⟨0, ⟨#[]⟩⟩⟩, 0, fun _ => ⟨0, 0, 0, 0, 0, 0, ⟨#[]⟩, 0, fun _ => ⟨0, ⟨#[]⟩⟩⟩, 0, fun _ => ⟨#[]⟩, false, false, 0, 0, fun _ => 0, 0, fun _ => ⟨0, ⟨#[]⟩⟩, 0, fun _ => ⟨0, 0, fun _ => 0⟩, 0⟩, ⟨none, none, none, none, none, none, none, 0, 0, 0, 0, 0, 0, 0⟩) : Rc × RcA) (p := fun i o => (∃ b off, ad = some ⟨b, off, none⟩ ∧ 0 ≤ b ∧ b < W.heap.size ∧ W.rangeAt b (off + i * 18) (rcCs o.1 o.2) ∧ RcIn W 0 W.heap.size o.1 o.2) ∧ RcFit o.1) (fun i hi => by
    obtain ⟨b, off, cs, k, y, rfl, hb, hc, ht, hf⟩ := hel i hi
    obtain ⟨r, A, rfl, hin, hfit⟩ := openRec ht hf
    exact ⟨(r, A), ⟨b, off, rfl, Nat.zero_le _, hb, fun j u hu => (hc j (by have := (List.getElem?_eq_some_iff.1 hu).1; exact this)).trans hu, hin⟩, hfit⟩)
  exact ⟨ad, n, cap, fun i => (xs i).1, fun i => (xs i).2, rfl, hn, fun i hi => (hxs i hi).1, fun i hi => (hxs i hi).2⟩
set_option maxRecDepth 100000 in
theorem openWld {H : Type} {enc : TypeId × Value → H} {W : World} {fuel : Nat} {cs : List Value} {x : DataW H × List MemPlace} (h : DataW.trod enc Try.prog W 0 (fun _ => true) true fuel 35 cs = some x) (hs : Fits 35 x.1) :
    ∃ (v : Rw) (V : RwA), cs = (rwC v V).toList ∧ RwIn W 0 W.heap.size v V ∧ RwFit v := by
  obtain ⟨xs, n, _, rfl, hlen, hxl, hf⟩ := DataW.trod_struct Try.underlying35 h
  rw [Try.c35] at hlen
  obtain ⟨c0, c1, c2, rfl⟩ : ∃ a b c, cs = [a, b, c] := by
    match cs, hlen with
    | [a, b, c], _ => exact ⟨a, b, c, rfl⟩
  obtain ⟨y0, y1, y2, rfl⟩ : ∃ a b c, xs = [a, b, c] := by
    match xs, (show xs.length = 3 from hxl) with
    | [a, b, c], _ => exact ⟨a, b, c, rfl⟩
  have g0 : DataW.trod enc Try.prog W 0 (fun _ => true) true n 31 [c0] = some y0 := hf 0 _ rfl
  have g1 : DataW.trod enc Try.prog W 0 (fun _ => true) true n 32 [c1] = some y1 := hf 1 _ rfl
  have g2 : DataW.trod enc Try.prog W 0 (fun _ => true) true n 33 [c2] = some y2 := hf 2 _ rfl
  have w0 : Fits 31 y0.1 := fun z hz => hs z (by
    simp only [List.map_cons, List.map_nil, DataW.weights, Try.underlying35, DataW.weightsEach, List.mem_append]
    simp [hz])
  have w1 : Fits 32 y1.1 := fun z hz => hs z (by
    simp only [List.map_cons, List.map_nil, DataW.weights, Try.underlying35, DataW.weightsEach, List.mem_append]
    simp [hz])
  have w2 : Fits 33 y2.1 := fun z hz => hs z (by
    simp only [List.map_cons, List.map_nil, DataW.weights, Try.underlying35, DataW.weightsEach, List.mem_append]
    simp [hz])
  obtain ⟨a0, n0, p0, x0, A0, rfl, m0, in0, f0⟩ := openRcs g0 w0
  obtain ⟨a1, n1, p1, x1, rfl, m1, in1, f1⟩ := openMss g1 w1
  obtain ⟨a2, n2, p2, x2, rfl, m2, in2, f2⟩ := openFixes g2 w2
  exact ⟨⟨n0, x0, n1, x1, n2, x2⟩, ⟨a0, a1, a2, p0, p1, p2, A0⟩, rfl, ⟨in0, in1, in2⟩, ⟨m0, f0, m1, f1, m2, f2⟩⟩
set_option maxRecDepth 100000 in
theorem openRw {H : Type} {enc : TypeId × Value → H} {W : World} {b0 : Nat} {v : Value} {d : DataW H} {p : List MemPlace} (hv : Value.okWide Try.prog W .any b0 35 v) (h : DataW.Trod enc Try.prog W 0 (fun _ => true) true 35 v d p) (hs : Fits 35 d) :
    ∃ (x : Rw) (V : RwA), v = rwV x V ∧ RwIn W 0 W.heap.size x V ∧ RwFit x := by
  obtain ⟨cs, rfl, hsz⟩ := okWide_struct Try.underlying35 hv
  obtain ⟨fuel, hf0⟩ := h
  obtain ⟨x, V, hcs, h1, h2⟩ := openWld hf0 hs
  refine ⟨x, V, ?_, h1, h2⟩
  have : cs = rwC x V := by
    apply Array.ext'
    exact hcs
  rw [this]
end Go.Proofs.Ytjepponnhieocaa
