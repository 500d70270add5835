import Derived.Test.YtjepponnhieocaaH
import Derived.Test.YtjepponnhieocaaO
import Derived.ProofKit
import Derived.SizedLaws
import Derived.Deep.Slices
import Derived.Deep.Strs
namespace Go.Proofs.Ytjepponnhieocaa
open Go.RowKit
theorem holds8 {W : World} {B : Nat} {v0 v1 v2 v3 v4 v5 v6 v7 : Value} (h : Holds W B #[v0, v1, v2, v3, v4, v5, v6, v7]) :
    W.cell? ⟨B, 0, none⟩ = some v0 ∧ W.cell? ⟨B, 1, none⟩ = some v1 ∧ W.cell? ⟨B, 2, none⟩ = some v2 ∧ W.cell? ⟨B, 3, none⟩ = some v3 ∧ W.cell? ⟨B, 4, none⟩ = some v4 ∧ W.cell? ⟨B, 5, none⟩ = some v5 ∧ W.cell? ⟨B, 6, none⟩ = some v6 ∧ W.cell? ⟨B, 7, none⟩ = some v7 := ⟨h 0, h 1, h 2, h 3, h 4, h 5, h 6, h 7⟩
end Go.Proofs.Ytjepponnhieocaa
namespace Go.Proofs.Ytjepponnhieocaa
open Go.ChangeShapes Go.WideShapes Go.ChangeAt Go.RowKit Go.Deep
open Go.WideMaps Go.WideElems
set_option maxRecDepth 100000 in
theorem openMess {H : Type} {enc : TypeId × Value → H} {W : World} {fuel : Nat} {cs : List Value} {x : DataW H × List MemPlace} (h : DataW.trod enc Try.prog W 0 (fun _ => true) true fuel 118 cs = some x) (hs : Fits 118 x.1) :
    ∃ (m : Ms) (ad : Option Addr) (cap : Nat), cs = [.int .i64 m.kind, .int .i64 m.from_, .int .i64 m.to, .int .i64 m.bal, .int .i64 m.ix, .int .i64 m.kn, .string m.text, .slice ad m.n cap] ∧ SlsIn W 0 W.heap.size ad m.n m.s ∧ MsFit m := by
  obtain ⟨xs, n, _, rfl, hlen, hxl, hf⟩ := DataW.trod_struct Try.underlying118 h
  rw [Try.c118] at hlen
  obtain ⟨c0, c1, c2, c3, c4, c5, c6, c7, rfl⟩ := list8 hlen
  obtain ⟨y0, y1, y2, y3, y4, y5, y6, y7, rfl⟩ := list8 (show xs.length = 8 from hxl)
  have g0 := hf 0 _ rfl
  have g1 := hf 1 _ rfl
  have g2 := hf 2 _ rfl
  have g3 := hf 3 _ rfl
  have g4 := hf 4 _ rfl
  have g5 := hf 5 _ rfl
  have g6 := hf 6 _ rfl
  have g7 := hf 7 _ rfl
  simp only [List.getElem?_cons_succ, List.getElem?_cons_zero] at g0 g1 g2 g3 g4 g5 g6 g7
  have hs' : ∀ z, z ∈ DataW.weights Try.prog 9 y6.1 ∨ z ∈ DataW.weights Try.prog 43 y7.1 → z ≤ reachBytes := fun z hz => hs z (by
    simp only [List.map_cons, List.map_nil, DataW.weights, Try.underlying118, DataW.weightsEach, List.mem_append]
    rcases hz with hz | hz <;> simp [hz])
  obtain ⟨a0, rfl⟩ := fit_int g0
  obtain ⟨a1, rfl⟩ := fit_int g1
  obtain ⟨a2, rfl⟩ := fit_int g2
  obtain ⟨a3, rfl⟩ := fit_int g3
  obtain ⟨a4, rfl⟩ := fit_int g4
  obtain ⟨a5, rfl⟩ := fit_int g5
  obtain ⟨t, rfl, ft⟩ := fit_str g6 (fun z hz => hs' z (Or.inl hz))
  obtain ⟨ad, n, cap, s, rfl, hn, hin, hfit⟩ := openSlots g7 (fun z hz => hs' z (Or.inr (hz)))
  exact ⟨⟨a0, a1, a2, a3, a4, a5, t, n, s⟩, ad, cap, rfl, hin, ⟨ft, hn, hfit⟩⟩
set_option maxRecDepth 100000 in
theorem openMs {H : Type} {enc : TypeId × Value → H} {W : World} {b0 : Nat} {v : Value} {d : DataW H} {p : List MemPlace} (hv : Value.okWide Try.prog W .any b0 118 v) (h : DataW.Trod enc Try.prog W 0 (fun _ => true) true 118 v d p) (hs : Fits 118 d) :
    ∃ (x : Ms) (ad : Option Addr) (cap : Nat), v = msV x ad cap ∧ SlsIn W 0 W.heap.size ad x.n x.s ∧ MsFit x := by
  obtain ⟨cs, rfl, hsz⟩ := okWide_struct Try.underlying118 hv
  obtain ⟨fuel, hf0⟩ := h
  obtain ⟨x, ad, cap, hcs, h1, h2⟩ := openMess hf0 hs
  refine ⟨x, ad, cap, ?_, h1, h2⟩
  have : cs = msC x ad cap := by
    apply Array.ext'
    exact hcs
  rw [this]
end Go.Proofs.Ytjepponnhieocaa
