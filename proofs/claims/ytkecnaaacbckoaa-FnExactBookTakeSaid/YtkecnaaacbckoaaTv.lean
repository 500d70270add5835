import Derived.Test.YtkecnaaacbckoaaTu
import Derived.Test.YtkecnaaacbckoaaX
import Derived.ProofKit
import Derived.SizedLaws
namespace Go.Proofs.Ytkecnaaacbckoaa
open Go.ChangeShapes Go.WideShapes Go.ChangeAt Go.RowKit Go.Deep
open Go.WideMaps Go.WideElems
theorem Try.laidOut : laidOutB Try.prog = true := by kernel_rfl
theorem Try.own : ownKnob Try.prog.godebug = none := by kernel_rfl
theorem Try.c24 : Try.prog.cellsOf 24 = 5 := by kernel_rfl
theorem Try.c27 : Try.prog.cellsOf 27 = 3 := by kernel_rfl
set_option maxRecDepth 100000 in
/-- a mirror that came in by value -/
theorem openMr {H : Type} {enc : TypeId × Value → H} {W : World} {b0 : Nat} {v : Value} {d : DataW H} {p : List MemPlace} (hv : Value.okWide Try.prog W .any b0 24 v) (h : DataW.Trod enc Try.prog W 0 (fun _ => true) true 24 v d p) (hs : Fits 24 d) :
    ∃ (m : Mr) (a : Option Addr) (c : Nat), v = .agg #[.string m.kind, .string m.pre, .int .i64 m.at_, .slice a m.n c, .int .i64 m.seen] ∧ ObjsIn W 0 W.heap.size a m.n m.os ∧ MrFit m := by
  obtain ⟨cs, rfl, hsz⟩ := okWide_struct Try.underlying24 hv
  obtain ⟨fuel, hf0⟩ := h
  obtain ⟨xs, n, _, hx, hlen, hxl, hf⟩ := DataW.trod_struct Try.underlying24 hf0
  simp only [Prod.mk.injEq] at hx
  obtain ⟨rfl, rfl⟩ := hx
  rw [Try.c24] at hsz
  obtain ⟨e0, e1, e2, e3, e4, he⟩ := list5 (show cs.toList.length = 5 by simpa using hsz)
  obtain rfl : cs = #[e0, e1, e2, e3, e4] := by
    apply Array.ext'
    simpa using he
  obtain ⟨y0, y1, y2, y3, y4, rfl⟩ := list5 (show xs.length = 5 from hxl)
  have g0 := hf 0 _ rfl
  have g1 := hf 1 _ rfl
  have g2 := hf 2 _ rfl
  have g3 := hf 3 _ rfl
  have g4 := hf 4 _ rfl
  simp only [List.getElem?_cons_succ, List.getElem?_cons_zero] at g0 g1 g2 g3 g4
  have hs' : ∀ z, z ∈ DataW.weights Try.prog 9 y0.1 ∨ z ∈ DataW.weights Try.prog 9 y1.1 ∨ z ∈ DataW.weights Try.prog 22 y3.1 → z ≤ reachBytes := fun z hz => hs z (by
    simp only [List.map_cons, List.map_nil, DataW.weights, Try.underlying24, DataW.weightsEach, List.mem_append]
    rcases hz with hz | hz | hz <;> simp [hz])
  obtain ⟨k, rfl, fk⟩ := fit_str g0 (fun z hz => hs' z (Or.inl hz))
  obtain ⟨pr, rfl, fp⟩ := fit_str g1 (fun z hz => hs' z (Or.inr (Or.inl hz)))
  obtain ⟨at', rfl⟩ := fit_int g2
  obtain ⟨a1, n1, c1, x1, rfl, b1, i1, j1⟩ := openObs g3 (fun z hz => hs' z (Or.inr (Or.inr hz)))
  obtain ⟨se, rfl⟩ := fit_int g4
  exact ⟨⟨k, pr, at', n1, x1, se⟩, a1, c1, rfl, i1, ⟨fk, fp, b1, j1⟩⟩
set_option maxRecDepth 100000 in
/-- news that came in by value -/
theorem openNw {H : Type} {enc : TypeId × Value → H} {W : World} {b0 : Nat} {v : Value} {d : DataW H} {p : List MemPlace} (hv : Value.okWide Try.prog W .any b0 27 v) (h : DataW.Trod enc Try.prog W 0 (fun _ => true) true 27 v d p) (hs : Fits 27 d) :
    ∃ (cd fv : Int) (n : Nat) (x : Nat → Ch) (a : Option Addr) (c : Nat), v = .agg #[.int .i64 cd, .slice a n c, .int .i64 fv] ∧ ChgsIn W 0 W.heap.size a n x ∧ (n : Int) ≤ 8796093022208 ∧ ∀ i, i < n → ObFit (x i).ob := by
  obtain ⟨cs, rfl, hsz⟩ := okWide_struct Try.underlying27 hv
  obtain ⟨fuel, hf0⟩ := h
  obtain ⟨xs, n, _, hx, hlen, hxl, hf⟩ := DataW.trod_struct Try.underlying27 hf0
  simp only [Prod.mk.injEq] at hx
  obtain ⟨rfl, rfl⟩ := hx
  rw [Try.c27] at hsz
  obtain ⟨e0, e1, e2, he⟩ := list3 (show cs.toList.length = 3 by simpa using hsz)
  obtain rfl : cs = #[e0, e1, e2] := by
    apply Array.ext'
    simpa using he
  obtain ⟨y0, y1, y2, rfl⟩ := list3 (show xs.length = 3 from hxl)
  have g0 := hf 0 _ rfl
  have g1 := hf 1 _ rfl
  have g2 := hf 2 _ rfl
  simp only [List.getElem?_cons_succ, List.getElem?_cons_zero] at g0 g1 g2
  have hs' : ∀ z, z ∈ DataW.weights Try.prog 25 y1.1 → z ≤ reachBytes := fun z hz => hs z (by
    simp only [List.map_cons, List.map_nil, DataW.weights, Try.underlying27, DataW.weightsEach, List.mem_append]
    simp [hz])
  obtain ⟨k, rfl⟩ := fit_int g0
  obtain ⟨a1, n1, c1, x1, rfl, b1, i1, j1⟩ := openChs g1 (fun z hz => hs' z hz)
  obtain ⟨at', rfl⟩ := fit_int g2
  exact ⟨k, at', n1, x1, a1, c1, rfl, i1, b1, j1⟩
set_option maxRecDepth 100000 in
theorem take_lifted (os : Os) (started : os.Started) (H : Type) (enc : TypeId × Value → H) :
    ReturnsInHanded {} Try.checked os 3 .any (Rows.fnExactBookTakeSpec.pre6 enc Try.prog Try.f3 Rows.fnExactBookTakeRow.domain false) (Rows.fnExactBookTakeSpec.post enc Try.prog Try.f3 false true false false) := by
  refine returnsInHanded_of_change_sized (C := Try.checked) Try.own started (by kernel_rfl) Try.func3
    (ChangeSpec.witness6 (enc := enc) (C := Try.checked) false ⟨#[], #[.agg #[.string ⟨#[]⟩, .string ⟨#[]⟩, .int .i64 0, .slice none 0 0, .int .i64 0], .agg #[.int .i64 0, .slice none 0 0, .int .i64 0]], []⟩ 8 (by kernel_rfl) (by kernel_rfl) (by kernel_rfl) (by kernel_rfl)) ?_
  intro W base args ds gs before hval0 hW _ hsz0 _
  have hsz : (DataW.weightsEach Try.prog (Try.f3.params.toList ++ Rows.fnExactBookTakeSpec.plain.varTypes Try.prog) (ds ++ gs)).all (· ≤ reachBytes) = true := hsz0
  clear hsz0
  have hval : ∀ (j : Nat) t v, Try.f3.params[j]? = some t → args[j]? = some v → Value.okWide Try.prog W .any base t v := hval0
  have hW' := hW
  obtain ⟨p, q, hA0, hV, rfl, _, _⟩ := hW
  have hA : DataW.TrodAll enc Try.prog W 0 (fun _ => true) true Try.f3.params.toList args.toList ds p := hA0
  rw [Try.params3] at hA hval hsz
  obtain ⟨v0, v1, d0, d1, p0, p1, rfl, rfl, rfl, h0, h1⟩ := trodAll_two hA
  obtain ⟨rfl, rfl⟩ := trodVars_none hV
  have hfit : Fits 24 d0 := fun x hx => by
    have := List.all_eq_true.1 hsz x (DataW.weights_mem_each (j := 0) (t := 24) rfl rfl x hx)
    simpa using this
  have hfit1 : Fits 27 d1 := fun x hx => by
    have := List.all_eq_true.1 hsz x (DataW.weights_mem_each (j := 1) (t := 27) rfl rfl x hx)
    simpa using this
  have h0k := h0
  have h1k := h1
  obtain ⟨m, a, c, rfl, him, hmf⟩ := openMr (hval 0 24 v0 rfl rfl) h0 hfit
  obtain ⟨cd, fv, n, x, an, cn, rfl, hin, hnl, hnf⟩ := openNw (hval 1 27 v1 rfl rfl) h1 hfit1
  clear hA0 hval0 hsz
  simp only [List.append_nil] at hW'
  have hlt : ∀ y ∈ p0, y.block < W.heap.size := fun y hy => by simpa using hW'.lt y (by simp [hy])
  have hlt1 : ∀ y ∈ p1, y.block < W.heap.size := fun y hy => by simpa using hW'.lt y (by simp [hy])
  refine (take_law m a c cd fv n x an cn W hmf hnl hnf him hin).mono fun e W' ⟨he, hb⟩ => ?_
  subst he
  refine ⟨_, rfl, _, _, _, [], p0 ++ p1, [], hW', ?_, ?_, rfl, hb.frame _, fun h => by cases h⟩
  · exact trodAll_mk1 (shut_bool Try.underlying4 true)
  · exact trodAll_mk2 (Below.trod Try.laidOut (by kernel_rfl) (of_decide_eq_true (by kernel_rfl)) h0k hb hlt) (Below.trod Try.laidOut (by kernel_rfl) (of_decide_eq_true (by kernel_rfl)) h1k hb hlt1)
theorem take_holds : Rows.FnExactBookTakeSaid :=
  OpenClaim.holds_of_wide 3 Try.f3 rfl rfl rfl rfl rfl rfl rfl ⟨rfl, rfl, rfl, rfl, rfl⟩ rfl rfl rfl rfl rfl (by kernel_rfl) Try.func3 (by kernel_rfl)
    (of_decide_eq_true (by kernel_rfl)) (by unfold Func.isWrapper; rw [if_neg (of_decide_eq_false (by kernel_rfl))]; exact ⟨rfl, rfl⟩)
    (fun os started H enc _ => take_lifted os started H enc)
end Go.Proofs.Ytkecnaaacbckoaa
