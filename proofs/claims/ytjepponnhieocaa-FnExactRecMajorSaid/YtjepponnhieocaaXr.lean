import Derived.Test.YtjepponnhieocaaHy
import Derived.Test.YtjepponnhieocaaL
import Derived.Test.YtjepponnhieocaaQ
namespace Go.Proofs.Ytjepponnhieocaa
open Go.ChangeShapes Go.WideShapes Go.ChangeAt Go.RowKit Go.Deep
open Go.WideMaps Go.WideElems
theorem list14 {α : Type} {l : List α} (h : l.length = 14) : ∃ a0 a1 a2 a3 a4 a5 a6 a7 a8 a9 a10 a11 a12 a13, l = [a0, a1, a2, a3, a4, a5, a6, a7, a8, a9, a10, a11, a12, a13] := by
  match l, h with
  | [a0, a1, a2, a3, a4, a5, a6, a7, a8, a9, a10, a11, a12, a13], _ => exact ⟨a0, a1, a2, a3, a4, a5, a6, a7, a8, a9, a10, a11, a12, a13, rfl⟩
theorem list18 {α : Type} {l : List α} (h : l.length = 18) : ∃ a0 a1 a2 a3 a4 a5 a6 a7 a8 a9 a10 a11 a12 a13 a14 a15 a16 a17, l = [a0, a1, a2, a3, a4, a5, a6, a7, a8, a9, a10, a11, a12, a13, a14, a15, a16, a17] := by
  match l, h with
  | [a0, a1, a2, a3, a4, a5, a6, a7, a8, a9, a10, a11, a12, a13, a14, a15, a16, a17], _ => exact ⟨a0, a1, a2, a3, a4, a5, a6, a7, a8, a9, a10, a11, a12, a13, a14, a15, a16, a17, rfl⟩
set_option maxRecDepth 100000 in
theorem openInts {H : Type} {enc : TypeId × Value → H} {W : World} {fuel : Nat} {v : Value} {x : DataW H × List MemPlace} (h : DataW.trod enc Try.prog W 0 (fun _ => true) true fuel 47 [v] = some x) (hs : Fits 47 x.1) :
    ∃ ad n cap s, v = .slice ad n cap ∧ (n : Int) ≤ 17592186044416 ∧ IntsIn W 0 W.heap.size ad n s := by
  rcases open_slice Try.underlying47 h with ⟨hc, _⟩ | ⟨a, len, cap, m, n, D, Pl, hc, _, hl, _, hm, hx, hel⟩
  · simp only [List.cons.injEq, and_true] at hc
    exact ⟨none, 0, 0, fun _ => 0, hc, by omega, fun i hi => absurd hi (Nat.not_lt_zero _)⟩
  · simp only [List.cons.injEq, and_true] at hc
    simp only [if_true] at hm
    subst hm
    subst hx
    obtain ⟨f1, f2⟩ := fits_slice Try.underlying47 hs
    simp only [List.length_map, List.length_range, Try.b3, reachBytes] at f1
    obtain ⟨b0, off0, spot⟩ := a
    have hspot : 0 < len → spot = none := fun h0 => by
      obtain ⟨cs0, h10, _⟩ := hel 0 (by omega)
      rw [Try.c3] at h10
      obtain ⟨_, hcl0, hcc0⟩ := World.cells?_some h10
      have := hcc0 0 (by omega)
      rw [List.getElem?_eq_getElem (by omega)] at this
      simpa [Addr.add] using World.cell?_spot this
    obtain ⟨s, hsk⟩ := skol (n := len) (0 : Int) (p := fun i k => ∃ b off, (some ⟨b0, off0, spot⟩ : Option Addr) = some ⟨b, off, none⟩ ∧ 0 ≤ b ∧ b < W.heap.size ∧ W.cell? ⟨b, off + i, none⟩ = some (.int .i64 k)) (fun i hi => by
      obtain ⟨cs, h1, h2⟩ := hel i (by omega)
      rw [Try.c3] at h1
      obtain ⟨_, hcl, hcc⟩ := World.cells?_some h1
      obtain ⟨c, rfl⟩ : ∃ c, cs = [c] := by
        match cs, hcl with
        | [c], _ => exact ⟨c, rfl⟩
      obtain ⟨k, rfl⟩ := fit_int h2
      have hc0 : W.cell? (((⟨b0, off0, spot⟩ : Addr).add (i * 1)).add 0) = some (.int .i64 k) := hcc 0 (by omega)
      have e := hspot (by omega)
      subst e
      have ea : (((⟨b0, off0, none⟩ : Addr).add (i * 1)).add 0) = ⟨b0, off0 + i, none⟩ := by simp [add_plain]
      rw [ea] at hc0
      exact ⟨k, b0, off0, rfl, Nat.zero_le _, cell_lt hc0, hc0⟩)
    exact ⟨some ⟨b0, off0, spot⟩, len, m, s, hc, by omega, hsk⟩
set_option maxRecDepth 100000 in
theorem openAck {H : Type} {enc : TypeId × Value → H} {W : World} {fuel : Nat} {cs : List Value} {x : DataW H × List MemPlace} (h : DataW.trod enc Try.prog W 0 (fun _ => true) true fuel 140 cs = some x) (hs : Fits 140 x.1) :
    ∃ (a : Ak) (ad : Option Addr) (cap : Nat), cs = [.int .i64 a.ix, .slice ad a.n cap] ∧ IntsIn W 0 W.heap.size ad a.n a.s ∧ AkFit a := by
  obtain ⟨xs, n, _, rfl, hlen, hxl, hf⟩ := DataW.trod_struct Try.underlying140 h
  rw [Try.c140] at hlen
  obtain ⟨c0, c1, rfl⟩ := list2 hlen
  obtain ⟨y0, y1, rfl⟩ := list2 (show xs.length = 2 from hxl)
  have g0 := hf 0 _ rfl
  have g1 := hf 1 _ rfl
  simp only [List.getElem?_cons_succ, List.getElem?_cons_zero] at g0 g1
  have hs' : ∀ z, z ∈ DataW.weights Try.prog 47 y1.1 → z ≤ reachBytes := fun z hz => hs z (by
    simp only [List.map_cons, List.map_nil, DataW.weights, Try.underlying140, DataW.weightsEach, List.mem_append]
    simp [hz])
  obtain ⟨b, rfl⟩ := fit_int g0
  obtain ⟨ad, n, cap, s, rfl, hn, hin⟩ := openInts g1 (fun z hz => hs' z hz)
  exact ⟨⟨b, n, s⟩, ad, cap, rfl, hin, ⟨hn⟩⟩
set_option maxRecDepth 100000 in
theorem openAcks {H : Type} {enc : TypeId × Value → H} {W : World} {fuel : Nat} {v : Value} {x : DataW H × List MemPlace} (h : DataW.trod enc Try.prog W 0 (fun _ => true) true fuel 48 [v] = some x) (hs : Fits 48 x.1) :
    ∃ ad n cap xs, v = .slice ad n cap ∧ (n : Int) ≤ 8796093022208 ∧ AksIn W 0 W.heap.size ad n xs ∧ ∀ i, i < n → AkFit (xs i) := by
  obtain ⟨ad, n, cap, rfl, hn, hel⟩ := openSl Try.underlying48 Try.c140 (by omega) h hs (by rw [Try.b140]; omega)
  obtain ⟨xs, hxs⟩ := skol (⟨0, 0, fun _ => 0⟩ : Ak) (p := fun i o => (∃ b off ah ch, ad = some ⟨b, off, none⟩ ∧ 0 ≤ b ∧ b < W.heap.size ∧ AkCells W b (off + i * 2) o ah ch ∧ IntsIn W 0 W.heap.size ah o.n o.s) ∧ AkFit o) (fun i hi => by
    obtain ⟨b, off, cs, k, y, rfl, hb, hc, ht, hf⟩ := hel i hi
    obtain ⟨o, ah, ch, rfl, hin, hfit⟩ := openAck ht hf
    exact ⟨o, ⟨b, off, ah, ch, rfl, Nat.zero_le _, hb, ⟨hc 0 (by omega), hc 1 (by omega)⟩, hin⟩, hfit⟩)
  exact ⟨ad, n, cap, xs, rfl, hn, fun i hi => (hxs i hi).1, fun i hi => (hxs i hi).2⟩
set_option maxRecDepth 100000 in
theorem openMss {H : Type} {enc : TypeId × Value → H} {W : World} {fuel : Nat} {v : Value} {x : DataW H × List MemPlace} (h : DataW.trod enc Try.prog W 0 (fun _ => true) true fuel 32 [v] = some x) (hs : Fits 32 x.1) :
    ∃ ad n cap xs, v = .slice ad n cap ∧ (n : Int) ≤ 8796093022208 ∧ MssIn W 0 W.heap.size ad n xs ∧ ∀ i, i < n → MsFit (xs i) := by
  obtain ⟨ad, n, cap, rfl, hn, hel⟩ := openSl Try.underlying32 Try.c118 (by omega) h hs (by rw [Try.b118]; omega)
  obtain ⟨xs, hxs⟩ := skol (⟨0, 0, 0, 0, 0, 0, ⟨#[]⟩, 0, fun _ => ⟨0, ⟨#[]⟩⟩⟩ : Ms) (p := fun i o => (∃ b off ah ch, ad = some ⟨b, off, none⟩ ∧ 0 ≤ b ∧ b < W.heap.size ∧ MsCells W b (off + i * 8) o ah ch ∧ SlsIn W 0 W.heap.size ah o.n o.s) ∧ MsFit o) (fun i hi => by
    obtain ⟨b, off, cs, k, y, rfl, hb, hc, ht, hf⟩ := hel i hi
    obtain ⟨o, ah, ch, rfl, hin, hfit⟩ := openMess ht hf
    exact ⟨o, ⟨b, off, ah, ch, rfl, Nat.zero_le _, hb, ⟨hc 0 (by omega), hc 1 (by omega), hc 2 (by omega), hc 3 (by omega), hc 4 (by omega), hc 5 (by omega), hc 6 (by omega), hc 7 (by omega)⟩, hin⟩, hfit⟩)
  exact ⟨ad, n, cap, xs, rfl, hn, fun i hi => (hxs i hi).1, fun i hi => (hxs i hi).2⟩
set_option maxRecDepth 100000 in
theorem openRec {H : Type} {enc : TypeId × Value → H} {W : World} {fuel : Nat} {cs : List Value} {x : DataW H × List MemPlace} (h : DataW.trod enc Try.prog W 0 (fun _ => true) true fuel 50 cs = some x) (hs : Fits 50 x.1) :
    ∃ (r : Rc) (A : RcA), cs = (rcC r A).toList ∧ RcIn W 0 W.heap.size r A ∧ RcFit r := by
  obtain ⟨xs, n, _, rfl, hlen, hxl, hf⟩ := DataW.trod_struct Try.underlying50 h
  rw [Try.c50] at hlen
  obtain ⟨c0, c1, c2, c3, c4, c5, c6, c7, c8, c9, c10, c11, c12, c13, c14, c15, c16, c17, rfl⟩ := list18 hlen
  obtain ⟨y0, y1, y2, y3, y4, y5, y6, y7, y8, y9, y10, y11, y12, y13, rfl⟩ := list14 (show xs.length = 14 from hxl)
  have g0 : DataW.trod enc Try.prog W 0 (fun _ => true) true n 3 [c0] = some y0 := hf 0 _ rfl
  have g1 : DataW.trod enc Try.prog W 0 (fun _ => true) true n 3 [c1] = some y1 := hf 1 _ rfl
  have g2 : DataW.trod enc Try.prog W 0 (fun _ => true) true n 4 [c2] = some y2 := hf 2 _ rfl
  have g3 : DataW.trod enc Try.prog W 0 (fun _ => true) true n 45 [c3, c4, c5] = some y3 := hf 3 _ rfl
  have g4 : DataW.trod enc Try.prog W 0 (fun _ => true) true n 45 [c6, c7, c8] = some y4 := hf 4 _ rfl
  have g5 : DataW.trod enc Try.prog W 0 (fun _ => true) true n 32 [c9] = some y5 := hf 5 _ rfl
  have g6 : DataW.trod enc Try.prog W 0 (fun _ => true) true n 46 [c10] = some y6 := hf 6 _ rfl
  have g7 : DataW.trod enc Try.prog W 0 (fun _ => true) true n 4 [c11] = some y7 := hf 7 _ rfl
  have g8 : DataW.trod enc Try.prog W 0 (fun _ => true) true n 4 [c12] = some y8 := hf 8 _ rfl
  have g9 : DataW.trod enc Try.prog W 0 (fun _ => true) true n 3 [c13] = some y9 := hf 9 _ rfl
  have g10 : DataW.trod enc Try.prog W 0 (fun _ => true) true n 47 [c14] = some y10 := hf 10 _ rfl
  have g11 : DataW.trod enc Try.prog W 0 (fun _ => true) true n 43 [c15] = some y11 := hf 11 _ rfl
  have g12 : DataW.trod enc Try.prog W 0 (fun _ => true) true n 48 [c16] = some y12 := hf 12 _ rfl
  have g13 : DataW.trod enc Try.prog W 0 (fun _ => true) true n 3 [c17] = some y13 := hf 13 _ rfl
  have w3 : Fits 45 y3.1 := fun z hz => hs z (by
    simp only [List.map_cons, List.map_nil, DataW.weights, Try.underlying50, DataW.weightsEach, List.mem_append]
    simp [hz])
  have w4 : Fits 45 y4.1 := fun z hz => hs z (by
    simp only [List.map_cons, List.map_nil, DataW.weights, Try.underlying50, DataW.weightsEach, List.mem_append]
    simp [hz])
  have w5 : Fits 32 y5.1 := fun z hz => hs z (by
    simp only [List.map_cons, List.map_nil, DataW.weights, Try.underlying50, DataW.weightsEach, List.mem_append]
    simp [hz])
  have w6 : Fits 46 y6.1 := fun z hz => hs z (by
    simp only [List.map_cons, List.map_nil, DataW.weights, Try.underlying50, DataW.weightsEach, List.mem_append]
    simp [hz])
  have w10 : Fits 47 y10.1 := fun z hz => hs z (by
    simp only [List.map_cons, List.map_nil, DataW.weights, Try.underlying50, DataW.weightsEach, List.mem_append]
    simp [hz])
  have w11 : Fits 43 y11.1 := fun z hz => hs z (by
    simp only [List.map_cons, List.map_nil, DataW.weights, Try.underlying50, DataW.weightsEach, List.mem_append]
    simp [hz])
  have w12 : Fits 48 y12.1 := fun z hz => hs z (by
    simp only [List.map_cons, List.map_nil, DataW.weights, Try.underlying50, DataW.weightsEach, List.mem_append]
    simp [hz])
  obtain ⟨i0, rfl⟩ := fit_int g0
  obtain ⟨i1, rfl⟩ := fit_int g1
  obtain ⟨i2, rfl⟩ := fit_bool g2
  obtain ⟨i7, rfl⟩ := fit_bool g7
  obtain ⟨i8, rfl⟩ := fit_bool g8
  obtain ⟨i9, rfl⟩ := fit_int g9
  obtain ⟨i13, rfl⟩ := fit_int g13
  obtain ⟨d3, a3, p3, e3, in3, f3⟩ := openDisk g3 w3
  obtain ⟨d4, a4, p4, e4, in4, f4⟩ := openDisk g4 w4
  obtain ⟨a5, n5, p5, s5, rfl, m5, in5, f5⟩ := openMss g5 w5
  obtain ⟨a6, n6, p6, s6, rfl, in6, m6, f6⟩ := openStrs g6 w6
  obtain ⟨a10, n10, p10, s10, rfl, m10, in10⟩ := openInts g10 w10
  obtain ⟨a11, n11, p11, s11, rfl, m11, in11, f11⟩ := openSlots g11 w11
  obtain ⟨a12, n12, p12, s12, rfl, m12, in12, f12⟩ := openAcks g12 w12
  simp only [List.cons.injEq, and_true] at e3 e4
  obtain ⟨rfl, rfl, rfl⟩ := e3
  obtain ⟨rfl, rfl, rfl⟩ := e4
  exact ⟨⟨i0, i1, i2, d3, d4, n5, s5, n6, s6, i7, i8, i9, n10, s10, n11, s11, n12, s12, i13⟩, ⟨a3, a4, a5, a6, a10, a11, a12, p3, p4, p5, p6, p10, p11, p12⟩, rfl, ⟨in3, in4, in5, in6, in10, in11, in12⟩, ⟨f3, f4, m5, f5, m6, f6, m10, m11, f11, m12, f12⟩⟩
set_option maxRecDepth 100000 in
theorem openRc {H : Type} {enc : TypeId × Value → H} {W : World} {b0 : Nat} {v : Value} {d : DataW H} {p : List MemPlace} (hv : Value.okWide Try.prog W .any b0 50 v) (h : DataW.Trod enc Try.prog W 0 (fun _ => true) true 50 v d p) (hs : Fits 50 d) :
    ∃ (r : Rc) (A : RcA), v = rcV r A ∧ RcIn W 0 W.heap.size r A ∧ RcFit r := by
  obtain ⟨cs, rfl, hsz⟩ := okWide_struct Try.underlying50 hv
  obtain ⟨fuel, hf0⟩ := h
  obtain ⟨r, A, hcs, h1, h2⟩ := openRec hf0 hs
  refine ⟨r, A, ?_, h1, h2⟩
  have : cs = rcC r A := by
    apply Array.ext'
    exact hcs
  rw [this]
end Go.Proofs.Ytjepponnhieocaa
