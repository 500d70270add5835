import Derived.Test.YtipdnhgdaiimlaaH
import Derived.Test.YtipdnhgdaiimlaaX
import Derived.Test.YtipdnhgdaiimlaaO
import Derived.ProofKit
import Derived.SizedLaws
import Derived.Deep.Slices
import Derived.Deep.Strs
namespace Go.Proofs.Ytipdnhgdaiimlaa
open Go.RowKit
theorem holds8 {W : World} {B : Nat} {v0 v1 v2 v3 v4 v5 v6 v7 : Value} (h : Holds W B #[v0, v1, v2, v3, v4, v5, v6, v7]) :
    W.cell? ⟨B, 0, none⟩ = some v0 ∧ W.cell? ⟨B, 1, none⟩ = some v1 ∧ W.cell? ⟨B, 2, none⟩ = some v2 ∧ W.cell? ⟨B, 3, none⟩ = some v3 ∧ W.cell? ⟨B, 4, none⟩ = some v4 ∧ W.cell? ⟨B, 5, none⟩ = some v5 ∧ W.cell? ⟨B, 6, none⟩ = some v6 ∧ W.cell? ⟨B, 7, none⟩ = some v7 := ⟨h 0, h 1, h 2, h 3, h 4, h 5, h 6, h 7⟩
set_option maxRecDepth 100000 in
set_option maxHeartbeats 4000000 in
theorem message_law (x : Ms) (of : Int) (ad : Option Addr) (cap : Nat) (w : World) (hf : MsFit x) (hc : SlsIn w 0 w.heap.size ad x.n x.s) :
    Calls Try.prog 7 #[msV x ad cap, .int .i64 of] w fun e w' => e = .returned (.bool true) ∧ Below w.heap.size w w' := by
  go_enter Try.func7, Try.ntmps7
  go_wp2_with fail
  refine (szMs_any x ad cap 1048576 _ (by omega) (by omega) 0 w.heap.size (by simp) hf (hc.below (below_alloc _ _) (Nat.le_refl _))).mono ?_
  rintro e w1 ⟨rfl, hb1⟩
  have hB1 : Below w.heap.size w w1 := (below_alloc _ _).trans (hb1.mono (by simp))
  have H1 : Holds w1 w.heap.size (msC x ad cap) := (holds_new w _ 58).below hb1 (by simp)
  have hz1 : w.heap.size < w1.heap.size := by have := hb1.size; simp at this; omega
  clear hb1
  by_cases hsz : szOut 1048576 (szMs x) < 0
  · clear H1
    go_wp2
    go_ret
    exact ⟨rfl, hB1⟩
  have hn0 : (x.n : Int) ≤ 1099511627776 := by
    have := (szOut_ge (l := 1048576) (s := szMs x) (by omega)).1
    unfold szMs szSls at this
    omega
  obtain ⟨p0, p1, p2, p3, p4, p5, p6, p7⟩ := holds8 H1
  go_wp2_with fail
  refine (toMs_any x ad cap w1 0 w.heap.size (by omega) hn0 (hc.below hB1 (Nat.le_refl _))).mono ?_
  rintro e w2 ⟨g2, rfl, ho2, hb2⟩
  have hB2 : Below w.heap.size w w2 := hB1.trans (hb2.mono hB1.size)
  have H2 := H1.below hb2 hz1
  have hz2 := hb2.size
  obtain ⟨bv, hbv⟩ : ∃ bv, msB x of = bv := ⟨_, rfl⟩
  have HBV := hid hbv
  clear p0 p1 p2 p3 p4 p5 p6 p7 hb2 hbv H1
  have hS := specMessage_any x of _ x.n w2 w1.heap.size w2.heap.size (Nat.le_refl _) hf ho2.isIn
  rw [HBV.out] at hS
  clear ho2
  go_wp2_with fail
  refine hS.mono ?_
  rintro e w3 ⟨rfl, hb3⟩
  clear hS
  have hB3 : Below w.heap.size w w3 := hB2.trans (hb3.mono hB2.size)
  have hz3 := hb3.size
  have H3 := H2.below hb3 (by omega)
  obtain ⟨p0, p1, p2, p3, p4, p5, p6, p7⟩ := holds8 H3
  have hzw3 : w.heap.size < w3.heap.size := by omega
  clear H2 hb3
  go_wp2_with fail
  refine (toMs_any x ad cap w3 0 w.heap.size (by omega) hn0 (hc.below hB3 (Nat.le_refl _))).mono ?_
  rintro e w4 ⟨g4, rfl, hx4, hb4⟩
  have H4 : Holds w4 w.heap.size (msC x ad cap) := H3.below hb4 hzw3
  have hB4 : Below w.heap.size w w4 := hB3.trans (hb4.mono (by omega))
  have hz4 : w3.heap.size ≤ w4.heap.size := hb4.size
  have HX := hid hx4
  have hI := implMessage_any x of (some ⟨g4, 0, none⟩) x.n (w4.alloc (.cells (msC x (some ⟨g4, 0, none⟩) x.n) 62)) w3.heap.size w4.heap.size (by simp) hf (HX.out.isIn.below (below_alloc _ _) (Nat.le_refl _))
  rw [HBV.out] at hI
  clear p0 p1 p2 p3 p4 p5 p6 p7 hb4 H3 hx4
  go_wp2_with fail
  refine hI.mono ?_
  rintro e w5 ⟨rfl, hb5⟩
  clear hI
  have H5 := (H4.below (below_alloc w4 (.cells (msC x (some ⟨g4, 0, none⟩) x.n) 62)) (by omega)).below hb5 (by simp; omega)
  have X5 : Holds w5 w4.heap.size (msC x (some ⟨g4, 0, none⟩) x.n) := (holds_new w4 _ 62).below hb5 (by simp)
  have HX5 := hid ((HX.out.isIn.below (below_alloc w4 (.cells (msC x (some ⟨g4, 0, none⟩) x.n) 62)) (Nat.le_refl _)).below hb5 (by simp))
  have hB5 : Below w.heap.size w w5 := (hB4.alloc hB4.size _).trans (hb5.mono (by simp; omega))
  have hz5 : w4.heap.size < w5.heap.size := by have := hb5.size; simp at this; omega
  have HC5 := hid (hc.below hB5 (Nat.le_refl _))
  obtain ⟨p0, p1, p2, p3, p4, p5, p6, p7⟩ := holds8 H5
  obtain ⟨q0, q1, q2, q3, q4, q5, q6, q7⟩ := holds8 X5
  have HXX := hid X5
  clear hb5 HX H4 H5 X5 hc
  have hne : (bv != bv) = false := by cases bv <;> rfl
  go_wp2
  go_region_with (first
    | (go_at_call 31; go_must (refine (toMs_any x ad cap _ 0 w.heap.size (by exact hB5.size) hn0 (by exact HC5.out.below ((Below.refl _ _).drew) (Nat.le_refl _))).mono ?_; rintro e w7 ⟨g7, rfl, hx7, hb70⟩; have hb7 : Below w5.heap.size w5 w7 := ((Below.refl _ _).drew).trans hb70; clear hb70; have HX7 := hid hx7; have hz7 := hb7.size; obtain ⟨r0, r1, r2, r3, r4, r5, r6, r7⟩ := holds8 (HXX.out.below hb7 hz5); have HB7 := hid hb7; clear hx7 hb7))
    | (go_at_call 33; go_must (refine (eqMs_any x _ _ x.n x.n _ w3.heap.size w4.heap.size w5.heap.size w7.heap.size (by omega) (by exact Nat.le_refl _) (by omega) (by exact HX5.out.below HB7.out (by omega)) (by exact HX7.out.isIn)).mono ?_; rintro e w8 ⟨rfl, hb8⟩)))
  all_goals
    have hb78 : Below w5.heap.size w5 w8 := HB7.out.trans (hb8.mono hz7)
    have hB8 : Below w.heap.size w w8 := hB5.trans (hb78.mono hB5.size)
    clear p0 p1 p2 p3 p4 p5 p6 p7 q0 q1 q2 q3 q4 q5 q6 q7 r0 r1 r2 r3 r4 r5 r6 r7 HX5 HX7 HB7 hb8 hb78
    go_wp2
    go_ret
    exact ⟨rfl, hB8⟩
end Go.Proofs.Ytipdnhgdaiimlaa
namespace Go.Proofs.Ytipdnhgdaiimlaa
open Go.ChangeShapes Go.WideShapes Go.ChangeAt Go.RowKit Go.Deep
open Go.WideMaps Go.WideElems
set_option maxRecDepth 100000 in
theorem openMess {H : Type} {enc : TypeId × Value → H} {W : World} {fuel : Nat} {cs : List Value} {x : DataW H × List MemPlace} (h : DataW.trod enc Try.prog W 0 (fun _ => true) true fuel 58 cs = some x) (hs : Fits 58 x.1) :
    ∃ (m : Ms) (ad : Option Addr) (cap : Nat), cs = [.int .i64 m.kind, .int .i64 m.from_, .int .i64 m.to, .int .i64 m.bal, .int .i64 m.ix, .int .i64 m.kn, .string m.text, .slice ad m.n cap] ∧ SlsIn W 0 W.heap.size ad m.n m.s ∧ MsFit m := by
  obtain ⟨xs, n, _, rfl, hlen, hxl, hf⟩ := DataW.trod_struct Try.underlying58 h
  rw [Try.c58] at hlen
  obtain ⟨c0, c1, c2, c3, c4, c5, c6, c7, rfl⟩ := list8 hlen
  obtain ⟨y0, y1, y2, y3, y4, y5, y6, y7, rfl⟩ := list8 (show xs.length = 8 from hxl)
  have g0 := hf 0 _ rfl
  have g1 := hf 1 _ rfl
  have g2 := hf 2 _ rfl
  have g3 := hf 3 _ rfl
  have g4 := hf 4 _ rfl
  have g5 := hf 5 _ rfl
  have g6 := hf 6 _ rfl
  have g7 := hf 7 _ rfl
  simp only [List.getElem?_cons_succ, List.getElem?_cons_zero] at g0 g1 g2 g3 g4 g5 g6 g7
  have hs' : ∀ z, z ∈ DataW.weights Try.prog 9 y6.1 ∨ z ∈ DataW.weights Try.prog 22 y7.1 → z ≤ reachBytes := fun z hz => hs z (by
    simp only [List.map_cons, List.map_nil, DataW.weights, Try.underlying58, DataW.weightsEach, List.mem_append]
    rcases hz with hz | hz <;> simp [hz])
  obtain ⟨a0, rfl⟩ := fit_int g0
  obtain ⟨a1, rfl⟩ := fit_int g1
  obtain ⟨a2, rfl⟩ := fit_int g2
  obtain ⟨a3, rfl⟩ := fit_int g3
  obtain ⟨a4, rfl⟩ := fit_int g4
  obtain ⟨a5, rfl⟩ := fit_int g5
  obtain ⟨t, rfl, ft⟩ := fit_str g6 (fun z hz => hs' z (Or.inl hz))
  obtain ⟨ad, n, cap, s, rfl, hn, hin, hfit⟩ := openSlots g7 (fun z hz => hs' z (Or.inr (hz)))
  exact ⟨⟨a0, a1, a2, a3, a4, a5, t, n, s⟩, ad, cap, rfl, hin, ⟨ft, hn, hfit⟩⟩
set_option maxRecDepth 100000 in
theorem openMs {H : Type} {enc : TypeId × Value → H} {W : World} {b0 : Nat} {v : Value} {d : DataW H} {p : List MemPlace} (hv : Value.okWide Try.prog W .any b0 58 v) (h : DataW.Trod enc Try.prog W 0 (fun _ => true) true 58 v d p) (hs : Fits 58 d) :
    ∃ (x : Ms) (ad : Option Addr) (cap : Nat), v = msV x ad cap ∧ SlsIn W 0 W.heap.size ad x.n x.s ∧ MsFit x := by
  obtain ⟨cs, rfl, hsz⟩ := okWide_struct Try.underlying58 hv
  obtain ⟨fuel, hf0⟩ := h
  obtain ⟨x, ad, cap, hcs, h1, h2⟩ := openMess hf0 hs
  refine ⟨x, ad, cap, ?_, h1, h2⟩
  have : cs = msC x ad cap := by
    apply Array.ext'
    exact hcs
  rw [this]
set_option maxRecDepth 100000 in
theorem message_lifted (os : Os) (started : os.Started) (H : Type) (enc : TypeId × Value → H) :
    ReturnsInHanded {} Try.checked os 7 .any (Rows.fnExactRecMessageOkSpec.pre6 enc Try.prog Try.f7 Rows.fnExactRecMessageOkRow.domain false) (Rows.fnExactRecMessageOkSpec.post enc Try.prog Try.f7 false true false false) := by
  refine returnsInHanded_of_change_sized (C := Try.checked) Try.own started (by kernel_rfl) Try.func7
    (ChangeSpec.witness6 (enc := enc) (C := Try.checked) false ⟨#[], #[.agg #[.int .i64 0, .int .i64 0, .int .i64 0, .int .i64 0, .int .i64 0, .int .i64 0, .string ⟨#[]⟩, .slice none 0 0], .int .i64 0], []⟩ 8 (by kernel_rfl) (by kernel_rfl) (by kernel_rfl) (by kernel_rfl)) ?_
  intro W base args ds gs before hval0 hW _ hsz0 _
  have hsz : (DataW.weightsEach Try.prog (Try.f7.params.toList ++ Rows.fnExactRecMessageOkSpec.plain.varTypes Try.prog) (ds ++ gs)).all (· ≤ reachBytes) = true := hsz0
  clear hsz0
  have hval : ∀ (j : Nat) t v, Try.f7.params[j]? = some t → args[j]? = some v → Value.okWide Try.prog W .any base t v := hval0
  have hW' := hW
  obtain ⟨p, q, hA0, hV, rfl, _, _⟩ := hW
  have hA : DataW.TrodAll enc Try.prog W 0 (fun _ => true) true Try.f7.params.toList args.toList ds p := hA0
  rw [Try.params7] at hA hval hsz
  obtain ⟨v0, v1, d0, d1, p0, p1, rfl, rfl, rfl, h0, h1⟩ := trodAll_two hA
  obtain ⟨rfl, rfl⟩ := trodVars_none hV
  have hfit : Fits 58 d0 := fun x hx => by
    have := List.all_eq_true.1 hsz x (DataW.weights_mem_each (j := 0) (t := 58) rfl rfl x hx)
    simpa using this
  have h0k := h0
  obtain ⟨x, ad, cap, rfl, hin, hbf⟩ := openMs (hval 0 58 v0 rfl rfl) h0 hfit
  obtain ⟨n1, rfl, rfl, rfl, hn1⟩ := open_int Try.underlying3 (hval 1 3 v1 rfl rfl) h1
  clear hA0 hval0 hsz
  simp only [List.append_nil] at hW'
  have hlt : ∀ y ∈ p0, y.block < W.heap.size := fun y hy => by simpa using hW'.lt y (by simp [hy])
  refine (message_law x n1 ad cap W hbf hin).mono fun e W' ⟨he, hb⟩ => ?_
  subst he
  refine ⟨_, rfl, _, _, _, [], p0 ++ [], [], hW', ?_, ?_, rfl, hb.frame _, fun h => by cases h⟩
  · exact trodAll_mk1 (shut_bool Try.underlying4 true)
  · exact trodAll_mk2 (Below.trod Try.laidOut (by kernel_rfl) (of_decide_eq_true (by kernel_rfl)) h0k hb hlt) (shut_int Try.underlying3 hn1)
theorem message_holds : Rows.FnExactRecMessageOkSaid :=
  OpenClaim.holds_of_wide 7 Try.f7 rfl rfl rfl rfl rfl rfl rfl ⟨rfl, rfl, rfl, rfl, rfl⟩ rfl rfl rfl rfl rfl (by kernel_rfl) Try.func7 (by kernel_rfl)
    (of_decide_eq_true (by kernel_rfl)) (by unfold Func.isWrapper; rw [if_neg (of_decide_eq_false (by kernel_rfl))]; exact ⟨rfl, rfl⟩)
    (fun os started H enc _ => message_lifted os started H enc)
end Go.Proofs.Ytipdnhgdaiimlaa
