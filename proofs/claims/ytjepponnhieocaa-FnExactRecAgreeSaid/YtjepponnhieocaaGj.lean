import Derived.Test.YtjepponnhieocaaF
import Derived.ProofKit
import Derived.SizedLaws
import Derived.Deep.Slices
import Derived.Deep.Strs
import Derived.Test.YtjepponnhieocaaH
import Derived.Test.YtjepponnhieocaaL
import Derived.Test.YtjepponnhieocaaQ
import Derived.Test.YtjepponnhieocaaGe
namespace Go.Proofs.Ytjepponnhieocaa
open Go.ChangeShapes Go.WideShapes Go.ChangeAt Go.RowKit Go.Deep
theorem Try.c9 : Try.prog.cellsOf 9 = 1 := by kernel_rfl
theorem Try.c3 : Try.prog.cellsOf 3 = 1 := by kernel_rfl
theorem Try.c4 : Try.prog.cellsOf 4 = 1 := by kernel_rfl
theorem Try.c46 : Try.prog.cellsOf 46 = 1 := by kernel_rfl
theorem Try.c47 : Try.prog.cellsOf 47 = 1 := by kernel_rfl
theorem Try.c43 : Try.prog.cellsOf 43 = 1 := by kernel_rfl
theorem Try.c137 : Try.prog.cellsOf 137 = 2 := by kernel_rfl
theorem Try.c45 : Try.prog.cellsOf 45 = 3 := by kernel_rfl
theorem Try.c118 : Try.prog.cellsOf 118 = 8 := by kernel_rfl
theorem Try.c32 : Try.prog.cellsOf 32 = 1 := by kernel_rfl
theorem Try.c140 : Try.prog.cellsOf 140 = 2 := by kernel_rfl
theorem Try.c48 : Try.prog.cellsOf 48 = 1 := by kernel_rfl
theorem Try.c50 : Try.prog.cellsOf 50 = 18 := by kernel_rfl
theorem Try.b9 : Try.prog.bytesOf 9 = 16 := by kernel_rfl
theorem Try.b3 : Try.prog.bytesOf 3 = 8 := by kernel_rfl
theorem Try.b137 : Try.prog.bytesOf 137 = 24 := by kernel_rfl
theorem Try.b118 : Try.prog.bytesOf 118 = 88 := by kernel_rfl
theorem Try.b140 : Try.prog.bytesOf 140 = 32 := by kernel_rfl
def Fits {H : Type} (t : TypeId) (d : DataW H) : Prop := ∀ x ∈ DataW.weights Try.prog t d, x ≤ reachBytes
theorem weightsAll_mem {H : Type} {P : Program} {e : TypeId} : ∀ {l : List (DataW H)} {d : DataW H}, d ∈ l → ∀ x ∈ DataW.weights P e d, x ∈ DataW.weightsAll P e l
  | d0 :: r, d, h, x, hx => by
    rw [DataW.weightsAll]
    rcases List.mem_cons.1 h with rfl | h
    · exact List.mem_append_left _ hx
    · exact List.mem_append_right _ (weightsAll_mem h x hx)
set_option maxRecDepth 100000 in
theorem fits_slice {H : Type} {t e : TypeId} {es sp : List (DataW H)} (hu : Try.prog.underlying t = some (.slice e)) (h : Fits t (.slice es sp)) : (es.length + sp.length) * Try.prog.bytesOf e ≤ reachBytes ∧ ∀ d ∈ es, Fits e d := by
  refine ⟨h _ (by simp [DataW.weights, hu]), fun d hd x hx => h x ?_⟩
  simp only [DataW.weights, hu]
  exact List.mem_cons_of_mem _ (List.mem_append_left _ (weightsAll_mem hd x hx))
set_option maxRecDepth 100000 in
theorem fits_string {H : Type} {t : TypeId} {b : List UInt8} (h : Fits (H := H) t (.lit (.string b))) : b.length ≤ reachBytes := h _ (by simp [DataW.weights])
theorem cell_lt {W : World} {a : Addr} {v : Value} (h : W.cell? a = some v) : a.block < W.heap.size := by
  unfold World.cell? at h
  rcases Nat.lt_or_ge a.block W.heap.size with h1 | h1
  · exact h1
  · rw [Array.getElem?_eq_none h1] at h
    cases h
set_option maxRecDepth 100000 in
theorem openStrs {H : Type} {enc : TypeId × Value → H} {W : World} {fuel : Nat} {v : Value} {x : DataW H × List MemPlace} (h : DataW.trod enc Try.prog W 0 (fun _ => true) true fuel 46 [v] = some x) (hs : Fits 46 x.1) :
    ∃ ad n cap s, v = .slice ad n cap ∧ StrsIn W 0 W.heap.size ad n s ∧ (n : Int) ≤ 8796093022208 ∧ ∀ i, i < n → ((s i).size : Int) ≤ 140737488355328 := by
  rcases open_strs Try.underlying46 Try.underlying9 Try.c9 h with ⟨hc, _⟩ | ⟨a, len, cap, m, s, hc, _, hl, _, hm, hx, hcell⟩
  · simp only [List.cons.injEq, and_true] at hc
    exact ⟨none, 0, 0, fun _ => ⟨#[]⟩, hc, fun i hi => absurd hi (Nat.not_lt_zero _), by omega, fun i hi => absurd hi (Nat.not_lt_zero _)⟩
  · simp only [List.cons.injEq, and_true] at hc
    simp only [if_true] at hm
    subst hm
    subst hx
    obtain ⟨f1, f2⟩ := fits_slice Try.underlying46 hs
    simp only [List.length_map, List.length_range, Try.b9, reachBytes] at f1
    refine ⟨some a, len, m, s, hc, fun i hi => ?_, by omega, fun i hi => ?_⟩
    · obtain ⟨b, off, spot⟩ := a
      have hspot : spot = none := by simpa [Addr.add] using World.cell?_spot (hcell 0 (by omega)).1
      subst hspot
      have hci := (hcell i (by omega)).1
      have ea : ((⟨b, off, none⟩ : Addr).add i) = ⟨b, off + i, none⟩ := by simp [Addr.add]
      rw [ea] at hci
      exact ⟨b, off, rfl, Nat.zero_le _, cell_lt hci, hci⟩
    · have := fits_string (f2 _ (List.mem_map.2 ⟨i, List.mem_range.2 hi, rfl⟩))
      have e : (s i).data.toList.length = (s i).size := rfl
      simp only [reachBytes] at this
      omega
theorem list2 {α : Type} {l : List α} (h : l.length = 2) : ∃ a b, l = [a, b] := by
  match l, h with
  | [a, b], _ => exact ⟨a, b, rfl⟩
theorem list3 {α : Type} {l : List α} (h : l.length = 3) : ∃ a b c, l = [a, b, c] := by
  match l, h with
  | [a, b, c], _ => exact ⟨a, b, c, rfl⟩
theorem list8 {α : Type} {l : List α} (h : l.length = 8) : ∃ a b c d e f g h, l = [a, b, c, d, e, f, g, h] := by
  match l, h with
  | [a, b, c, d, e, f, g, h], _ => exact ⟨a, b, c, d, e, f, g, h, rfl⟩
set_option maxRecDepth 100000 in
theorem fit_str {H : Type} {enc : TypeId × Value → H} {W : World} {n : Nat} {v : Value} {y : DataW H × List MemPlace} (h : DataW.trod enc Try.prog W 0 (fun _ => true) true n 9 [v] = some y) (hs : Fits 9 y.1) : ∃ s : ByteArray, v = .string s ∧ (s.size : Int) ≤ 140737488355328 := by
  obtain ⟨s, h1, h2, _⟩ := DataW.trod_string Try.underlying9 h
  subst h2
  have := fits_string hs
  have e : s.data.toList.length = s.size := rfl
  simp only [reachBytes] at this
  exact ⟨s, by simpa using h1, by omega⟩
set_option maxRecDepth 100000 in
theorem fit_int {H : Type} {enc : TypeId × Value → H} {W : World} {n : Nat} {v : Value} {y : DataW H × List MemPlace} (h : DataW.trod enc Try.prog W 0 (fun _ => true) true n 3 [v] = some y) : ∃ a : Int, v = .int .i64 a := by
  obtain ⟨a, h1, _⟩ := DataW.trod_int Try.underlying3 h
  exact ⟨a, by simpa using h1⟩
set_option maxRecDepth 100000 in
theorem fit_bool {H : Type} {enc : TypeId × Value → H} {W : World} {n : Nat} {v : Value} {y : DataW H × List MemPlace} (h : DataW.trod enc Try.prog W 0 (fun _ => true) true n 4 [v] = some y) : ∃ a : Bool, v = .bool a := by
  obtain ⟨a, h1, _⟩ := DataW.trod_bool Try.underlying4 h
  exact ⟨a, by simpa using h1⟩
theorem skol {β : Type} {n : Nat} (d : β) {p : Nat → β → Prop} (h : ∀ i, i < n → ∃ x, p i x) : ∃ f : Nat → β, ∀ i, i < n → p i (f i) := by
  have h' : ∀ i, ∃ x, i < n → p i x := fun i => by
    by_cases hi : i < n
    · obtain ⟨x, hx⟩ := h i hi; exact ⟨x, fun _ => hx⟩
    · exact ⟨d, fun e => absurd e hi⟩
  obtain ⟨f, hf⟩ := Classical.skolem.1 h'
  exact ⟨f, hf⟩
set_option maxRecDepth 100000 in
/-- a slice that came in, its elements of z cells each -/
theorem openSl {H : Type} {enc : TypeId × Value → H} {W : World} {fuel : Nat} {v : Value} {x : DataW H × List MemPlace} {t e : TypeId} {z : Nat} (ht : Try.prog.underlying t = some (.slice e)) (hz : Try.prog.cellsOf e = z) (hz0 : 0 < z) (h : DataW.trod enc Try.prog W 0 (fun _ => true) true fuel t [v] = some x) (hs : Fits t x.1) (hb : 16 ≤ Try.prog.bytesOf e) :
    ∃ ad n cap, v = .slice ad n cap ∧ (n : Int) ≤ 8796093022208 ∧ ∀ i, i < n → ∃ (b off : Nat) (cs : List Value) (k : Nat) (y : DataW H × List MemPlace), ad = some ⟨b, off, none⟩ ∧ b < W.heap.size ∧ (∀ j, j < z → W.cell? ⟨b, off + i * z + j, none⟩ = cs[j]?) ∧ DataW.trod enc Try.prog W 0 (fun _ => true) true k e cs = some y ∧ Fits e y.1 := by
  rcases open_slice ht h with ⟨hc, _⟩ | ⟨a, len, cap, m, n, D, Pl, hc, _, hl, _, hm, hx, hel⟩
  · simp only [List.cons.injEq, and_true] at hc
    exact ⟨none, 0, 0, hc, by omega, fun i hi => absurd hi (Nat.not_lt_zero _)⟩
  · simp only [List.cons.injEq, and_true] at hc
    simp only [if_true] at hm
    subst hm
    subst hx
    obtain ⟨f1, f2⟩ := fits_slice ht hs
    simp only [List.length_map, List.length_range, reachBytes] at f1
    have f3 : (len + (m - len)) * 16 ≤ 140737488351232 := Nat.le_trans (Nat.mul_le_mul_left _ hb) f1
    refine ⟨some a, len, m, hc, by omega, fun i hi => ?_⟩
    obtain ⟨cs, h1, h2⟩ := hel i (by omega)
    rw [hz] at h1
    obtain ⟨_, hcl, hcc⟩ := World.cells?_some h1
    obtain ⟨cs0, h10, _⟩ := hel 0 (by omega)
    rw [hz] at h10
    obtain ⟨_, hcl0, hcc0⟩ := World.cells?_some h10
    obtain ⟨b, off, spot⟩ := a
    have hspot : spot = none := by
      have := hcc0 0 hz0
      rw [List.getElem?_eq_getElem (by omega)] at this
      simpa [Addr.add] using World.cell?_spot this
    subst hspot
    have ea : ∀ j, (((⟨b, off, none⟩ : Addr).add (i * z)).add j) = ⟨b, off + i * z + j, none⟩ := fun j => by simp [add_plain]
    have hb' : b < W.heap.size := by
      have := hcc 0 hz0
      rw [ea, List.getElem?_eq_getElem (by omega)] at this
      exact cell_lt this
    exact ⟨b, off, cs, n, _, rfl, hb', fun j hj => by rw [← ea]; exact hcc j hj, h2, f2 _ (List.mem_map.2 ⟨i, List.mem_range.2 hi, rfl⟩)⟩
set_option maxRecDepth 100000 in
theorem openSlot {H : Type} {enc : TypeId × Value → H} {W : World} {fuel : Nat} {cs : List Value} {x : DataW H × List MemPlace} (h : DataW.trod enc Try.prog W 0 (fun _ => true) true fuel 137 cs = some x) (hs : Fits 137 x.1) :
    ∃ o : Sl, cs = [.int .i64 o.bal, .string o.text] ∧ SlFit o := by
  obtain ⟨xs, n, _, rfl, hlen, hxl, hf⟩ := DataW.trod_struct Try.underlying137 h
  rw [Try.c137] at hlen
  obtain ⟨c0, c1, rfl⟩ := list2 hlen
  obtain ⟨y0, y1, rfl⟩ := list2 (show xs.length = 2 from hxl)
  have g0 := hf 0 _ rfl
  have g1 := hf 1 _ rfl
  simp only [List.getElem?_cons_succ, List.getElem?_cons_zero] at g0 g1
  have hs' : ∀ z, z ∈ DataW.weights Try.prog 9 y1.1 → z ≤ reachBytes := fun z hz => hs z (by
    simp only [List.map_cons, List.map_nil, DataW.weights, Try.underlying137, DataW.weightsEach, List.mem_append]
    simp [hz])
  obtain ⟨b, rfl⟩ := fit_int g0
  obtain ⟨t, rfl, ft⟩ := fit_str g1 (fun z hz => hs' z hz)
  exact ⟨⟨b, t⟩, rfl, ⟨ft⟩⟩
set_option maxRecDepth 100000 in
theorem openSlots {H : Type} {enc : TypeId × Value → H} {W : World} {fuel : Nat} {v : Value} {x : DataW H × List MemPlace} (h : DataW.trod enc Try.prog W 0 (fun _ => true) true fuel 43 [v] = some x) (hs : Fits 43 x.1) :
    ∃ ad n cap xs, v = .slice ad n cap ∧ (n : Int) ≤ 8796093022208 ∧ SlsIn W 0 W.heap.size ad n xs ∧ ∀ i, i < n → SlFit (xs i) := by
  obtain ⟨ad, n, cap, rfl, hn, hel⟩ := openSl Try.underlying43 Try.c137 (by omega) h hs (by rw [Try.b137]; omega)
  obtain ⟨xs, hxs⟩ := skol (⟨0, ⟨#[]⟩⟩ : Sl) (p := fun i o => (∃ b off, ad = some ⟨b, off, none⟩ ∧ 0 ≤ b ∧ b < W.heap.size ∧ SlCells W b (off + i * 2) o) ∧ SlFit o) (fun i hi => by
    obtain ⟨b, off, cs, k, y, rfl, hb, hc, ht, hf⟩ := hel i hi
    obtain ⟨o, rfl, hfit⟩ := openSlot ht hf
    exact ⟨o, ⟨b, off, rfl, Nat.zero_le _, hb, ⟨hc 0 (by omega), hc 1 (by omega)⟩⟩, hfit⟩)
  exact ⟨ad, n, cap, xs, rfl, hn, fun i hi => (hxs i hi).1, fun i hi => (hxs i hi).2⟩
set_option maxRecDepth 100000 in
theorem openDisk {H : Type} {enc : TypeId × Value → H} {W : World} {fuel : Nat} {cs : List Value} {x : DataW H × List MemPlace} (h : DataW.trod enc Try.prog W 0 (fun _ => true) true fuel 45 cs = some x) (hs : Fits 45 x.1) :
    ∃ (d : Dk) (ad : Option Addr) (cap : Nat), cs = [.int .i64 d.pr, .int .i64 d.kn, .slice ad d.n cap] ∧ SlsIn W 0 W.heap.size ad d.n d.s ∧ DkFit d := by
  obtain ⟨xs, n, _, rfl, hlen, hxl, hf⟩ := DataW.trod_struct Try.underlying45 h
  rw [Try.c45] at hlen
  obtain ⟨c0, c1, c2, rfl⟩ := list3 hlen
  obtain ⟨y0, y1, y2, rfl⟩ := list3 (show xs.length = 3 from hxl)
  have g0 := hf 0 _ rfl
  have g1 := hf 1 _ rfl
  have g2 := hf 2 _ rfl
  simp only [List.getElem?_cons_succ, List.getElem?_cons_zero] at g0 g1 g2
  have hs' : ∀ z, z ∈ DataW.weights Try.prog 43 y2.1 → z ≤ reachBytes := fun z hz => hs z (by
    simp only [List.map_cons, List.map_nil, DataW.weights, Try.underlying45, DataW.weightsEach, List.mem_append]
    simp [hz])
  obtain ⟨p, rfl⟩ := fit_int g0
  obtain ⟨k, rfl⟩ := fit_int g1
  obtain ⟨ad, n, cap, s, rfl, hn, hin, hfit⟩ := openSlots g2 (fun z hz => hs' z hz)
  exact ⟨⟨p, k, n, s⟩, ad, cap, rfl, hin, ⟨hn, hfit⟩⟩
set_option maxRecDepth 100000 in
theorem openDk {H : Type} {enc : TypeId × Value → H} {W : World} {b0 : Nat} {v : Value} {d : DataW H} {p : List MemPlace} (hv : Value.okWide Try.prog W .any b0 45 v) (h : DataW.Trod enc Try.prog W 0 (fun _ => true) true 45 v d p) (hs : Fits 45 d) :
    ∃ (x : Dk) (ad : Option Addr) (cap : Nat), v = dkV x ad cap ∧ SlsIn W 0 W.heap.size ad x.n x.s ∧ DkFit x := by
  obtain ⟨cs, rfl, hsz⟩ := okWide_struct Try.underlying45 hv
  obtain ⟨fuel, hf0⟩ := h
  obtain ⟨x, ad, cap, hcs, h1, h2⟩ := openDisk hf0 hs
  refine ⟨x, ad, cap, ?_, h1, h2⟩
  have : cs = #[.int .i64 x.pr, .int .i64 x.kn, .slice ad x.n cap] := by
    apply Array.ext'
    exact hcs
  rw [this]
end Go.Proofs.Ytjepponnhieocaa
namespace Go.Proofs.Ytjepponnhieocaa
open Go.ChangeShapes Go.WideShapes Go.ChangeAt Go.RowKit
open Go.WideMaps Go.WideElems
theorem Try.own : ownKnob Try.prog.godebug = none := by kernel_rfl
theorem Try.laidOut : laidOutB Try.prog = true := by kernel_rfl
end Go.Proofs.Ytjepponnhieocaa
namespace Go.Proofs.Ytjepponnhieocaa
open Go.RowKit
theorem holds8 {W : World} {B : Nat} {v0 v1 v2 v3 v4 v5 v6 v7 : Value} (h : Holds W B #[v0, v1, v2, v3, v4, v5, v6, v7]) :
    W.cell? ⟨B, 0, none⟩ = some v0 ∧ W.cell? ⟨B, 1, none⟩ = some v1 ∧ W.cell? ⟨B, 2, none⟩ = some v2 ∧ W.cell? ⟨B, 3, none⟩ = some v3 ∧ W.cell? ⟨B, 4, none⟩ = some v4 ∧ W.cell? ⟨B, 5, none⟩ = some v5 ∧ W.cell? ⟨B, 6, none⟩ = some v6 ∧ W.cell? ⟨B, 7, none⟩ = some v7 := ⟨h 0, h 1, h 2, h 3, h 4, h 5, h 6, h 7⟩
end Go.Proofs.Ytjepponnhieocaa
namespace Go.Proofs.Ytjepponnhieocaa
open Go.ChangeShapes Go.WideShapes Go.ChangeAt Go.RowKit Go.Deep
open Go.WideMaps Go.WideElems
set_option maxRecDepth 100000 in
theorem openMess {H : Type} {enc : TypeId × Value → H} {W : World} {fuel : Nat} {cs : List Value} {x : DataW H × List MemPlace} (h : DataW.trod enc Try.prog W 0 (fun _ => true) true fuel 118 cs = some x) (hs : Fits 118 x.1) :
    ∃ (m : Ms) (ad : Option Addr) (cap : Nat), cs = [.int .i64 m.kind, .int .i64 m.from_, .int .i64 m.to, .int .i64 m.bal, .int .i64 m.ix, .int .i64 m.kn, .string m.text, .slice ad m.n cap] ∧ SlsIn W 0 W.heap.size ad m.n m.s ∧ MsFit m := by
  obtain ⟨xs, n, _, rfl, hlen, hxl, hf⟩ := DataW.trod_struct Try.underlying118 h
  rw [Try.c118] at hlen
  obtain ⟨c0, c1, c2, c3, c4, c5, c6, c7, rfl⟩ := list8 hlen
  obtain ⟨y0, y1, y2, y3, y4, y5, y6, y7, rfl⟩ := list8 (show xs.length = 8 from hxl)
  have g0 := hf 0 _ rfl
  have g1 := hf 1 _ rfl
  have g2 := hf 2 _ rfl
  have g3 := hf 3 _ rfl
  have g4 := hf 4 _ rfl
  have g5 := hf 5 _ rfl
  have g6 := hf 6 _ rfl
  have g7 := hf 7 _ rfl
  simp only [List.getElem?_cons_succ, List.getElem?_cons_zero] at g0 g1 g2 g3 g4 g5 g6 g7
  have hs' : ∀ z, z ∈ DataW.weights Try.prog 9 y6.1 ∨ z ∈ DataW.weights Try.prog 43 y7.1 → z ≤ reachBytes := fun z hz => hs z (by
    simp only [List.map_cons, List.map_nil, DataW.weights, Try.underlying118, DataW.weightsEach, List.mem_append]
    rcases hz with hz | hz <;> simp [hz])
  obtain ⟨a0, rfl⟩ := fit_int g0
  obtain ⟨a1, rfl⟩ := fit_int g1
  obtain ⟨a2, rfl⟩ := fit_int g2
  obtain ⟨a3, rfl⟩ := fit_int g3
  obtain ⟨a4, rfl⟩ := fit_int g4
  obtain ⟨a5, rfl⟩ := fit_int g5
  obtain ⟨t, rfl, ft⟩ := fit_str g6 (fun z hz => hs' z (Or.inl hz))
  obtain ⟨ad, n, cap, s, rfl, hn, hin, hfit⟩ := openSlots g7 (fun z hz => hs' z (Or.inr (hz)))
  exact ⟨⟨a0, a1, a2, a3, a4, a5, t, n, s⟩, ad, cap, rfl, hin, ⟨ft, hn, hfit⟩⟩
set_option maxRecDepth 100000 in
theorem openMs {H : Type} {enc : TypeId × Value → H} {W : World} {b0 : Nat} {v : Value} {d : DataW H} {p : List MemPlace} (hv : Value.okWide Try.prog W .any b0 118 v) (h : DataW.Trod enc Try.prog W 0 (fun _ => true) true 118 v d p) (hs : Fits 118 d) :
    ∃ (x : Ms) (ad : Option Addr) (cap : Nat), v = msV x ad cap ∧ SlsIn W 0 W.heap.size ad x.n x.s ∧ MsFit x := by
  obtain ⟨cs, rfl, hsz⟩ := okWide_struct Try.underlying118 hv
  obtain ⟨fuel, hf0⟩ := h
  obtain ⟨x, ad, cap, hcs, h1, h2⟩ := openMess hf0 hs
  refine ⟨x, ad, cap, ?_, h1, h2⟩
  have : cs = msC x ad cap := by
    apply Array.ext'
    exact hcs
  rw [this]
end Go.Proofs.Ytjepponnhieocaa
namespace Go.Proofs.Ytjepponnhieocaa
open Go.ChangeShapes Go.WideShapes Go.ChangeAt Go.RowKit Go.Deep
open Go.WideMaps Go.WideElems
theorem list14 {α : Type} {l : List α} (h : l.length = 14) : ∃ a0 a1 a2 a3 a4 a5 a6 a7 a8 a9 a10 a11 a12 a13, l = [a0, a1, a2, a3, a4, a5, a6, a7, a8, a9, a10, a11, a12, a13] := by
  match l, h with
  | [a0, a1, a2, a3, a4, a5, a6, a7, a8, a9, a10, a11, a12, a13], _ => exact ⟨a0, a1, a2, a3, a4, a5, a6, a7, a8, a9, a10, a11, a12, a13, rfl⟩
theorem list18 {α : Type} {l : List α} (h : l.length = 18) : ∃ a0 a1 a2 a3 a4 a5 a6 a7 a8 a9 a10 a11 a12 a13 a14 a15 a16 a17, l = [a0, a1, a2, a3, a4, a5, a6, a7, a8, a9, a10, a11, a12, a13, a14, a15, a16, a17] := by
  match l, h with
  | [a0, a1, a2, a3, a4, a5, a6, a7, a8, a9, a10, a11, a12, a13, a14, a15, a16, a17], _ => exact ⟨a0, a1, a2, a3, a4, a5, a6, a7, a8, a9, a10, a11, a12, a13, a14, a15, a16, a17, rfl⟩
set_option maxRecDepth 100000 in
theorem openInts {H : Type} {enc : TypeId × Value → H} {W : World} {fuel : Nat} {v : Value} {x : DataW H × List MemPlace} (h : DataW.trod enc Try.prog W 0 (fun _ => true) true fuel 47 [v] = some x) (hs : Fits 47 x.1) :
    ∃ ad n cap s, v = .slice ad n cap ∧ (n : Int) ≤ 17592186044416 ∧ IntsIn W 0 W.heap.size ad n s := by
  rcases open_slice Try.underlying47 h with ⟨hc, _⟩ | ⟨a, len, cap, m, n, D, Pl, hc, _, hl, _, hm, hx, hel⟩
  · simp only [List.cons.injEq, and_true] at hc
    exact ⟨none, 0, 0, fun _ => 0, hc, by omega, fun i hi => absurd hi (Nat.not_lt_zero _)⟩
  · simp only [List.cons.injEq, and_true] at hc
    simp only [if_true] at hm
    subst hm
    subst hx
    obtain ⟨f1, f2⟩ := fits_slice Try.underlying47 hs
    simp only [List.length_map, List.length_range, Try.b3, reachBytes] at f1
    obtain ⟨b0, off0, spot⟩ := a
    have hspot : 0 < len → spot = none := fun h0 => by
      obtain ⟨cs0, h10, _⟩ := hel 0 (by omega)
      rw [Try.c3] at h10
      obtain ⟨_, hcl0, hcc0⟩ := World.cells?_some h10
      have := hcc0 0 (by omega)
      rw [List.getElem?_eq_getElem (by omega)] at this
      simpa [Addr.add] using World.cell?_spot this
    obtain ⟨s, hsk⟩ := skol (n := len) (0 : Int) (p := fun i k => ∃ b off, (some ⟨b0, off0, spot⟩ : Option Addr) = some ⟨b, off, none⟩ ∧ 0 ≤ b ∧ b < W.heap.size ∧ W.cell? ⟨b, off + i, none⟩ = some (.int .i64 k)) (fun i hi => by
      obtain ⟨cs, h1, h2⟩ := hel i (by omega)
      rw [Try.c3] at h1
      obtain ⟨_, hcl, hcc⟩ := World.cells?_some h1
      obtain ⟨c, rfl⟩ : ∃ c, cs = [c] := by
        match cs, hcl with
        | [c], _ => exact ⟨c, rfl⟩
      obtain ⟨k, rfl⟩ := fit_int h2
      have hc0 : W.cell? (((⟨b0, off0, spot⟩ : Addr).add (i * 1)).add 0) = some (.int .i64 k) := hcc 0 (by omega)
      have e := hspot (by omega)
      subst e
      have ea : (((⟨b0, off0, none⟩ : Addr).add (i * 1)).add 0) = ⟨b0, off0 + i, none⟩ := by simp [add_plain]
      rw [ea] at hc0
      exact ⟨k, b0, off0, rfl, Nat.zero_le _, cell_lt hc0, hc0⟩)
    exact ⟨some ⟨b0, off0, spot⟩, len, m, s, hc, by omega, hsk⟩
set_option maxRecDepth 100000 in
theorem openAck {H : Type} {enc : TypeId × Value → H} {W : World} {fuel : Nat} {cs : List Value} {x : DataW H × List MemPlace} (h : DataW.trod enc Try.prog W 0 (fun _ => true) true fuel 140 cs = some x) (hs : Fits 140 x.1) :
    ∃ (a : Ak) (ad : Option Addr) (cap : Nat), cs = [.int .i64 a.ix, .slice ad a.n cap] ∧ IntsIn W 0 W.heap.size ad a.n a.s ∧ AkFit a := by
  obtain ⟨xs, n, _, rfl, hlen, hxl, hf⟩ := DataW.trod_struct Try.underlying140 h
  rw [Try.c140] at hlen
  obtain ⟨c0, c1, rfl⟩ := list2 hlen
  obtain ⟨y0, y1, rfl⟩ := list2 (show xs.length = 2 from hxl)
  have g0 := hf 0 _ rfl
  have g1 := hf 1 _ rfl
  simp only [List.getElem?_cons_succ, List.getElem?_cons_zero] at g0 g1
  have hs' : ∀ z, z ∈ DataW.weights Try.prog 47 y1.1 → z ≤ reachBytes := fun z hz => hs z (by
    simp only [List.map_cons, List.map_nil, DataW.weights, Try.underlying140, DataW.weightsEach, List.mem_append]
    simp [hz])
  obtain ⟨b, rfl⟩ := fit_int g0
  obtain ⟨ad, n, cap, s, rfl, hn, hin⟩ := openInts g1 (fun z hz => hs' z hz)
  exact ⟨⟨b, n, s⟩, ad, cap, rfl, hin, ⟨hn⟩⟩
set_option maxRecDepth 100000 in
theorem openAcks {H : Type} {enc : TypeId × Value → H} {W : World} {fuel : Nat} {v : Value} {x : DataW H × List MemPlace} (h : DataW.trod enc Try.prog W 0 (fun _ => true) true fuel 48 [v] = some x) (hs : Fits 48 x.1) :
    ∃ ad n cap xs, v = .slice ad n cap ∧ (n : Int) ≤ 8796093022208 ∧ AksIn W 0 W.heap.size ad n xs ∧ ∀ i, i < n → AkFit (xs i) := by
  obtain ⟨ad, n, cap, rfl, hn, hel⟩ := openSl Try.underlying48 Try.c140 (by omega) h hs (by rw [Try.b140]; omega)
  obtain ⟨xs, hxs⟩ := skol (⟨0, 0, fun _ => 0⟩ : Ak) (p := fun i o => (∃ b off ah ch, ad = some ⟨b, off, none⟩ ∧ 0 ≤ b ∧ b < W.heap.size ∧ AkCells W b (off + i * 2) o ah ch ∧ IntsIn W 0 W.heap.size ah o.n o.s) ∧ AkFit o) (fun i hi => by
    obtain ⟨b, off, cs, k, y, rfl, hb, hc, ht, hf⟩ := hel i hi
    obtain ⟨o, ah, ch, rfl, hin, hfit⟩ := openAck ht hf
    exact ⟨o, ⟨b, off, ah, ch, rfl, Nat.zero_le _, hb, ⟨hc 0 (by omega), hc 1 (by omega)⟩, hin⟩, hfit⟩)
  exact ⟨ad, n, cap, xs, rfl, hn, fun i hi => (hxs i hi).1, fun i hi => (hxs i hi).2⟩
set_option maxRecDepth 100000 in
theorem openMss {H : Type} {enc : TypeId × Value → H} {W : World} {fuel : Nat} {v : Value} {x : DataW H × List MemPlace} (h : DataW.trod enc Try.prog W 0 (fun _ => true) true fuel 32 [v] = some x) (hs : Fits 32 x.1) :
    ∃ ad n cap xs, v = .slice ad n cap ∧ (n : Int) ≤ 8796093022208 ∧ MssIn W 0 W.heap.size ad n xs ∧ ∀ i, i < n → MsFit (xs i) := by
  obtain ⟨ad, n, cap, rfl, hn, hel⟩ := openSl Try.underlying32 Try.c118 (by omega) h hs (by rw [Try.b118]; omega)
  obtain ⟨xs, hxs⟩ := skol (⟨0, 0, 0, 0, 0, 0, ⟨#[]⟩, 0, fun _ => ⟨0, ⟨#[]⟩⟩⟩ : Ms) (p := fun i o => (∃ b off ah ch, ad = some ⟨b, off, none⟩ ∧ 0 ≤ b ∧ b < W.heap.size ∧ MsCells W b (off + i * 8) o ah ch ∧ SlsIn W 0 W.heap.size ah o.n o.s) ∧ MsFit o) (fun i hi => by
    obtain ⟨b, off, cs, k, y, rfl, hb, hc, ht, hf⟩ := hel i hi
    obtain ⟨o, ah, ch, rfl, hin, hfit⟩ := openMess ht hf
    exact ⟨o, ⟨b, off, ah, ch, rfl, Nat.zero_le _, hb, ⟨hc 0 (by omega), hc 1 (by omega), hc 2 (by omega), hc 3 (by omega), hc 4 (by omega), hc 5 (by omega), hc 6 (by omega), hc 7 (by omega)⟩, hin⟩, hfit⟩)
  exact ⟨ad, n, cap, xs, rfl, hn, fun i hi => (hxs i hi).1, fun i hi => (hxs i hi).2⟩
set_option maxRecDepth 100000 in
theorem openRec {H : Type} {enc : TypeId × Value → H} {W : World} {fuel : Nat} {cs : List Value} {x : DataW H × List MemPlace} (h : DataW.trod enc Try.prog W 0 (fun _ => true) true fuel 50 cs = some x) (hs : Fits 50 x.1) :
    ∃ (r : Rc) (A : RcA), cs = (rcC r A).toList ∧ RcIn W 0 W.heap.size r A ∧ RcFit r := by
  obtain ⟨xs, n, _, rfl, hlen, hxl, hf⟩ := DataW.trod_struct Try.underlying50 h
  rw [Try.c50] at hlen
  obtain ⟨c0, c1, c2, c3, c4, c5, c6, c7, c8, c9, c10, c11, c12, c13, c14, c15, c16, c17, rfl⟩ := list18 hlen
  obtain ⟨y0, y1, y2, y3, y4, y5, y6, y7, y8, y9, y10, y11, y12, y13, rfl⟩ := list14 (show xs.length = 14 from hxl)
  have g0 : DataW.trod enc Try.prog W 0 (fun _ => true) true n 3 [c0] = some y0 := hf 0 _ rfl
  have g1 : DataW.trod enc Try.prog W 0 (fun _ => true) true n 3 [c1] = some y1 := hf 1 _ rfl
  have g2 : DataW.trod enc Try.prog W 0 (fun _ => true) true n 4 [c2] = some y2 := hf 2 _ rfl
  have g3 : DataW.trod enc Try.prog W 0 (fun _ => true) true n 45 [c3, c4, c5] = some y3 := hf 3 _ rfl
  have g4 : DataW.trod enc Try.prog W 0 (fun _ => true) true n 45 [c6, c7, c8] = some y4 := hf 4 _ rfl
  have g5 : DataW.trod enc Try.prog W 0 (fun _ => true) true n 32 [c9] = some y5 := hf 5 _ rfl
  have g6 : DataW.trod enc Try.prog W 0 (fun _ => true) true n 46 [c10] = some y6 := hf 6 _ rfl
  have g7 : DataW.trod enc Try.prog W 0 (fun _ => true) true n 4 [c11] = some y7 := hf 7 _ rfl
  have g8 : DataW.trod enc Try.prog W 0 (fun _ => true) true n 4 [c12] = some y8 := hf 8 _ rfl
  have g9 : DataW.trod enc Try.prog W 0 (fun _ => true) true n 3 [c13] = some y9 := hf 9 _ rfl
  have g10 : DataW.trod enc Try.prog W 0 (fun _ => true) true n 47 [c14] = some y10 := hf 10 _ rfl
  have g11 : DataW.trod enc Try.prog W 0 (fun _ => true) true n 43 [c15] = some y11 := hf 11 _ rfl
  have g12 : DataW.trod enc Try.prog W 0 (fun _ => true) true n 48 [c16] = some y12 := hf 12 _ rfl
  have g13 : DataW.trod enc Try.prog W 0 (fun _ => true) true n 3 [c17] = some y13 := hf 13 _ rfl
  have w3 : Fits 45 y3.1 := fun z hz => hs z (by
    simp only [List.map_cons, List.map_nil, DataW.weights, Try.underlying50, DataW.weightsEach, List.mem_append]
    simp [hz])
  have w4 : Fits 45 y4.1 := fun z hz => hs z (by
    simp only [List.map_cons, List.map_nil, DataW.weights, Try.underlying50, DataW.weightsEach, List.mem_append]
    simp [hz])
  have w5 : Fits 32 y5.1 := fun z hz => hs z (by
    simp only [List.map_cons, List.map_nil, DataW.weights, Try.underlying50, DataW.weightsEach, List.mem_append]
    simp [hz])
  have w6 : Fits 46 y6.1 := fun z hz => hs z (by
    simp only [List.map_cons, List.map_nil, DataW.weights, Try.underlying50, DataW.weightsEach, List.mem_append]
    simp [hz])
  have w10 : Fits 47 y10.1 := fun z hz => hs z (by
    simp only [List.map_cons, List.map_nil, DataW.weights, Try.underlying50, DataW.weightsEach, List.mem_append]
    simp [hz])
  have w11 : Fits 43 y11.1 := fun z hz => hs z (by
    simp only [List.map_cons, List.map_nil, DataW.weights, Try.underlying50, DataW.weightsEach, List.mem_append]
    simp [hz])
  have w12 : Fits 48 y12.1 := fun z hz => hs z (by
    simp only [List.map_cons, List.map_nil, DataW.weights, Try.underlying50, DataW.weightsEach, List.mem_append]
    simp [hz])
  obtain ⟨i0, rfl⟩ := fit_int g0
  obtain ⟨i1, rfl⟩ := fit_int g1
  obtain ⟨i2, rfl⟩ := fit_bool g2
  obtain ⟨i7, rfl⟩ := fit_bool g7
  obtain ⟨i8, rfl⟩ := fit_bool g8
  obtain ⟨i9, rfl⟩ := fit_int g9
  obtain ⟨i13, rfl⟩ := fit_int g13
  obtain ⟨d3, a3, p3, e3, in3, f3⟩ := openDisk g3 w3
  obtain ⟨d4, a4, p4, e4, in4, f4⟩ := openDisk g4 w4
  obtain ⟨a5, n5, p5, s5, rfl, m5, in5, f5⟩ := openMss g5 w5
  obtain ⟨a6, n6, p6, s6, rfl, in6, m6, f6⟩ := openStrs g6 w6
  obtain ⟨a10, n10, p10, s10, rfl, m10, in10⟩ := openInts g10 w10
  obtain ⟨a11, n11, p11, s11, rfl, m11, in11, f11⟩ := openSlots g11 w11
  obtain ⟨a12, n12, p12, s12, rfl, m12, in12, f12⟩ := openAcks g12 w12
  simp only [List.cons.injEq, and_true] at e3 e4
  obtain ⟨rfl, rfl, rfl⟩ := e3
  obtain ⟨rfl, rfl, rfl⟩ := e4
  exact ⟨⟨i0, i1, i2, d3, d4, n5, s5, n6, s6, i7, i8, i9, n10, s10, n11, s11, n12, s12, i13⟩, ⟨a3, a4, a5, a6, a10, a11, a12, p3, p4, p5, p6, p10, p11, p12⟩, rfl, ⟨in3, in4, in5, in6, in10, in11, in12⟩, ⟨f3, f4, m5, f5, m6, f6, m10, m11, f11, m12, f12⟩⟩
set_option maxRecDepth 100000 in
theorem openRc {H : Type} {enc : TypeId × Value → H} {W : World} {b0 : Nat} {v : Value} {d : DataW H} {p : List MemPlace} (hv : Value.okWide Try.prog W .any b0 50 v) (h : DataW.Trod enc Try.prog W 0 (fun _ => true) true 50 v d p) (hs : Fits 50 d) :
    ∃ (r : Rc) (A : RcA), v = rcV r A ∧ RcIn W 0 W.heap.size r A ∧ RcFit r := by
  obtain ⟨cs, rfl, hsz⟩ := okWide_struct Try.underlying50 hv
  obtain ⟨fuel, hf0⟩ := h
  obtain ⟨r, A, hcs, h1, h2⟩ := openRec hf0 hs
  refine ⟨r, A, ?_, h1, h2⟩
  have : cs = rcC r A := by
    apply Array.ext'
    exact hcs
  rw [this]
end Go.Proofs.Ytjepponnhieocaa
namespace Go.Proofs.Ytjepponnhieocaa
open Go.ChangeShapes Go.WideShapes Go.ChangeAt Go.RowKit Go.Deep
open Go.WideMaps Go.WideElems
theorem Try.c120 : Try.prog.cellsOf 120 = 2 := by kernel_rfl
theorem Try.b120 : Try.prog.bytesOf 120 = 24 := by kernel_rfl
theorem Try.b50 : Try.prog.bytesOf 50 = 248 := by kernel_rfl
theorem Try.c35 : Try.prog.cellsOf 35 = 3 := by kernel_rfl
set_option maxRecDepth 100000 in
theorem openFix {H : Type} {enc : TypeId × Value → H} {W : World} {fuel : Nat} {cs : List Value} {x : DataW H × List MemPlace} (h : DataW.trod enc Try.prog W 0 (fun _ => true) true fuel 120 cs = some x) (hs : Fits 120 x.1) :
    ∃ o : Sl, cs = [.int .i64 o.bal, .string o.text] ∧ SlFit o := by
  obtain ⟨xs, n, _, rfl, hlen, hxl, hf⟩ := DataW.trod_struct Try.underlying120 h
  rw [Try.c120] at hlen
  obtain ⟨c0, c1, rfl⟩ := list2 hlen
  obtain ⟨y0, y1, rfl⟩ := list2 (show xs.length = 2 from hxl)
  have g0 := hf 0 _ rfl
  have g1 := hf 1 _ rfl
  simp only [List.getElem?_cons_succ, List.getElem?_cons_zero] at g0 g1
  have hs' : ∀ z, z ∈ DataW.weights Try.prog 9 y1.1 → z ≤ reachBytes := fun z hz => hs z (by
    simp only [List.map_cons, List.map_nil, DataW.weights, Try.underlying120, DataW.weightsEach, List.mem_append]
    simp [hz])
  obtain ⟨b, rfl⟩ := fit_int g0
  obtain ⟨t, rfl, ft⟩ := fit_str g1 (fun z hz => hs' z hz)
  exact ⟨⟨b, t⟩, rfl, ⟨ft⟩⟩
set_option maxRecDepth 100000 in
theorem openFixes {H : Type} {enc : TypeId × Value → H} {W : World} {fuel : Nat} {v : Value} {x : DataW H × List MemPlace} (h : DataW.trod enc Try.prog W 0 (fun _ => true) true fuel 33 [v] = some x) (hs : Fits 33 x.1) :
    ∃ ad n cap xs, v = .slice ad n cap ∧ (n : Int) ≤ 8796093022208 ∧ SlsIn W 0 W.heap.size ad n xs ∧ ∀ i, i < n → SlFit (xs i) := by
  obtain ⟨ad, n, cap, rfl, hn, hel⟩ := openSl Try.underlying33 Try.c120 (by omega) h hs (by rw [Try.b120]; omega)
  obtain ⟨xs, hxs⟩ := skol (⟨0, ⟨#[]⟩⟩ : Sl) (p := fun i o => (∃ b off, ad = some ⟨b, off, none⟩ ∧ 0 ≤ b ∧ b < W.heap.size ∧ SlCells W b (off + i * 2) o) ∧ SlFit o) (fun i hi => by
    obtain ⟨b, off, cs, k, y, rfl, hb, hc, ht, hf⟩ := hel i hi
    obtain ⟨o, rfl, hfit⟩ := openFix ht hf
    exact ⟨o, ⟨b, off, rfl, Nat.zero_le _, hb, ⟨hc 0 (by omega), hc 1 (by omega)⟩⟩, hfit⟩)
  exact ⟨ad, n, cap, xs, rfl, hn, fun i hi => (hxs i hi).1, fun i hi => (hxs i hi).2⟩
set_option maxRecDepth 100000 in
theorem openRcs {H : Type} {enc : TypeId × Value → H} {W : World} {fuel : Nat} {v : Value} {x : DataW H × List MemPlace} (h : DataW.trod enc Try.prog W 0 (fun _ => true) true fuel 31 [v] = some x) (hs : Fits 31 x.1) :
    ∃ ad n cap xs A, v = .slice ad n cap ∧ (n : Int) ≤ 8796093022208 ∧ RcsIn W 0 W.heap.size ad n xs A ∧ ∀ i, i < n → RcFit (xs i) := by
  obtain ⟨ad, n, cap, rfl, hn, hel⟩ := openSl Try.underlying31 Try.c50 (by omega) h hs (by rw [Try.b50]; omega)
  obtain ⟨xs, hxs⟩ := skol ((⟨0, 0, false, ⟨0, 0, 0, fun _ => ⟨0, ⟨#[]⟩⟩⟩, ⟨0, 0, 0, fun _ => ⟨0, ⟨#[]⟩⟩⟩, 0, fun _ => ⟨0, 0, 0, 0, 0, 0, ⟨#[]⟩, 0, fun _ => ⟨0, ⟨#[]⟩⟩⟩, 0, fun _ => ⟨#[]⟩, false, false, 0, 0, fun _ => 0, 0, fun _ => ⟨0, ⟨#[]⟩⟩, 0, fun _ => ⟨0, 0, fun _ => 0⟩, 0⟩, ⟨none, none, none, none, none, none, none, 0, 0, 0, 0, 0, 0, 0⟩) : Rc × RcA) (p := fun i o => (∃ b off, ad = some ⟨b, off, none⟩ ∧ 0 ≤ b ∧ b < W.heap.size ∧ W.rangeAt b (off + i * 18) (rcCs o.1 o.2) ∧ RcIn W 0 W.heap.size o.1 o.2) ∧ RcFit o.1) (fun i hi => by
    obtain ⟨b, off, cs, k, y, rfl, hb, hc, ht, hf⟩ := hel i hi
    obtain ⟨r, A, rfl, hin, hfit⟩ := openRec ht hf
    exact ⟨(r, A), ⟨b, off, rfl, Nat.zero_le _, hb, fun j u hu => (hc j (by have := (List.getElem?_eq_some_iff.1 hu).1; exact this)).trans hu, hin⟩, hfit⟩)
  exact ⟨ad, n, cap, fun i => (xs i).1, fun i => (xs i).2, rfl, hn, fun i hi => (hxs i hi).1, fun i hi => (hxs i hi).2⟩
set_option maxRecDepth 100000 in
theorem openWld {H : Type} {enc : TypeId × Value → H} {W : World} {fuel : Nat} {cs : List Value} {x : DataW H × List MemPlace} (h : DataW.trod enc Try.prog W 0 (fun _ => true) true fuel 35 cs = some x) (hs : Fits 35 x.1) :
    ∃ (v : Rw) (V : RwA), cs = (rwC v V).toList ∧ RwIn W 0 W.heap.size v V ∧ RwFit v := by
  obtain ⟨xs, n, _, rfl, hlen, hxl, hf⟩ := DataW.trod_struct Try.underlying35 h
  rw [Try.c35] at hlen
  obtain ⟨c0, c1, c2, rfl⟩ : ∃ a b c, cs = [a, b, c] := by
    match cs, hlen with
    | [a, b, c], _ => exact ⟨a, b, c, rfl⟩
  obtain ⟨y0, y1, y2, rfl⟩ : ∃ a b c, xs = [a, b, c] := by
    match xs, (show xs.length = 3 from hxl) with
    | [a, b, c], _ => exact ⟨a, b, c, rfl⟩
  have g0 : DataW.trod enc Try.prog W 0 (fun _ => true) true n 31 [c0] = some y0 := hf 0 _ rfl
  have g1 : DataW.trod enc Try.prog W 0 (fun _ => true) true n 32 [c1] = some y1 := hf 1 _ rfl
  have g2 : DataW.trod enc Try.prog W 0 (fun _ => true) true n 33 [c2] = some y2 := hf 2 _ rfl
  have w0 : Fits 31 y0.1 := fun z hz => hs z (by
    simp only [List.map_cons, List.map_nil, DataW.weights, Try.underlying35, DataW.weightsEach, List.mem_append]
    simp [hz])
  have w1 : Fits 32 y1.1 := fun z hz => hs z (by
    simp only [List.map_cons, List.map_nil, DataW.weights, Try.underlying35, DataW.weightsEach, List.mem_append]
    simp [hz])
  have w2 : Fits 33 y2.1 := fun z hz => hs z (by
    simp only [List.map_cons, List.map_nil, DataW.weights, Try.underlying35, DataW.weightsEach, List.mem_append]
    simp [hz])
  obtain ⟨a0, n0, p0, x0, A0, rfl, m0, in0, f0⟩ := openRcs g0 w0
  obtain ⟨a1, n1, p1, x1, rfl, m1, in1, f1⟩ := openMss g1 w1
  obtain ⟨a2, n2, p2, x2, rfl, m2, in2, f2⟩ := openFixes g2 w2
  exact ⟨⟨n0, x0, n1, x1, n2, x2⟩, ⟨a0, a1, a2, p0, p1, p2, A0⟩, rfl, ⟨in0, in1, in2⟩, ⟨m0, f0, m1, f1, m2, f2⟩⟩
set_option maxRecDepth 100000 in
theorem openRw {H : Type} {enc : TypeId × Value → H} {W : World} {b0 : Nat} {v : Value} {d : DataW H} {p : List MemPlace} (hv : Value.okWide Try.prog W .any b0 35 v) (h : DataW.Trod enc Try.prog W 0 (fun _ => true) true 35 v d p) (hs : Fits 35 d) :
    ∃ (x : Rw) (V : RwA), v = rwV x V ∧ RwIn W 0 W.heap.size x V ∧ RwFit x := by
  obtain ⟨cs, rfl, hsz⟩ := okWide_struct Try.underlying35 hv
  obtain ⟨fuel, hf0⟩ := h
  obtain ⟨x, V, hcs, h1, h2⟩ := openWld hf0 hs
  refine ⟨x, V, ?_, h1, h2⟩
  have : cs = rwC x V := by
    apply Array.ext'
    exact hcs
  rw [this]
end Go.Proofs.Ytjepponnhieocaa
