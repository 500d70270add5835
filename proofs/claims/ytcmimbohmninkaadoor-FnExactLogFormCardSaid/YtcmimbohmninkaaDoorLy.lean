import Derived.Test.YtcmimbohmninkaaDoorLi
import Derived.Test.YtcmimbohmninkaaDoorLx
import Derived.Test.YtcmimbohmninkaaDoorTie
import Derived.Test.YtcmimbohmninkaaDoorCards
import Derived.ProofKit
import Derived.SizedLaws
import Derived.LaidMore
import Derived.OpenShut
import Derived.OpenVars
import Derived.Stop.Joined
import Derived.Stop.LaidErr
import Derived.Lib.LaidTab
import Derived.SevenTiedAt
namespace Go.Proofs.YtcmimbohmninkaaDoor
open Go.ChangeShapes Go.WideShapes Go.ChangeAt Go.RowKit
open Go.WideMaps Go.WideElems
open Go.ChangeMaps (open_string shut_string)
abbrev laidL : List (String × DataW Unit) := Rows.fnExactLogFormRow.laid
theorem powData : Rows.laid_internal_strconv_uint64pow10 = (Lib.tabData .u64 Lib.pow10Tab : DataW Unit) := by kernel_rfl
theorem Tryd.c133 : Tryd.prog.cellsOf 133 = 1 := by kernel_rfl
theorem starE : "*" ++ "errors.errorString" = "*errors.errorString" := by decide
theorem errRow (u : TypeId) (h : Tryd.prog.typeName? 3 u = some "*errors.errorString") : u = 131 :=
  typeName_ptr_named (nm := "errors.errorString") (by rw [starE]; kernel_rfl) (by kernel_rfl) (by decide) u (by rw [starE]; exact h)
theorem of_laid {W : World} (h : laidMetH Tryd.prog laidL W) : Tab W ∧ Ers W := by
  rw [MakeChecks.laidMetH_plain _ _ _ (by kernel_rfl)] at h
  have h2 := laidMet.tail (laidMet.tail h)
  have h5 := laidMet.tail (laidMet.tail (laidMet.tail h2))
  have h6 := laidMet.tail h5
  have h7 := laidMet.tail h6
  have h8 := laidMet.tail h7
  obtain ⟨a1, s1, hv1, _⟩ := laid_sentinel (g := 1) (ti := 47) (tp := 131) (te := 133) (ts := 9) h5 (by kernel_rfl) (by kernel_rfl) Tryd.underlying47 errRow Tryd.underlying131 Tryd.underlying133 rfl rfl Tryd.underlying9 Tryd.c133 Tryd.c9
  have c1 : W.cell? ⟨1, 0, none⟩ = some (.iface 131 (.pointer (some a1))) := by simpa using World.var?_cell (P := Tryd.prog) (g := 1) (by kernel_rfl) hv1 0
  obtain ⟨a2, s2, hv2, _⟩ := laid_sentinel (g := 2) (ti := 47) (tp := 131) (te := 133) (ts := 9) h6 (by kernel_rfl) (by kernel_rfl) Tryd.underlying47 errRow Tryd.underlying131 Tryd.underlying133 rfl rfl Tryd.underlying9 Tryd.c133 Tryd.c9
  have c2 : W.cell? ⟨2, 0, none⟩ = some (.iface 131 (.pointer (some a2))) := by simpa using World.var?_cell (P := Tryd.prog) (g := 2) (by kernel_rfl) hv2 0
  obtain ⟨a3, s3, hv3, _⟩ := laid_sentinel (g := 3) (ti := 47) (tp := 131) (te := 133) (ts := 9) h7 (by kernel_rfl) (by kernel_rfl) Tryd.underlying47 errRow Tryd.underlying131 Tryd.underlying133 rfl rfl Tryd.underlying9 Tryd.c133 Tryd.c9
  have c3 : W.cell? ⟨3, 0, none⟩ = some (.iface 131 (.pointer (some a3))) := by simpa using World.var?_cell (P := Tryd.prog) (g := 3) (by kernel_rfl) hv3 0
  obtain ⟨a0, s0, hv0, _⟩ := laid_sentinel (g := 0) (ti := 47) (tp := 131) (te := 133) (ts := 9) h8 (by kernel_rfl) (by kernel_rfl) Tryd.underlying47 errRow Tryd.underlying131 Tryd.underlying133 rfl rfl Tryd.underlying9 Tryd.c133 Tryd.c9
  have c0 : W.cell? ⟨0, 0, none⟩ = some (.iface 131 (.pointer (some a0))) := by simpa using World.var?_cell (P := Tryd.prog) (g := 0) (by kernel_rfl) hv0 0
  refine ⟨?_, fun g hg => ?_⟩
  · rw [powData] at h2
    exact Lib.tabIs_of_head (name := powName) (g := 8) (t := 125) (e := 113) (n := 20) (by kernel_rfl) (by kernel_rfl) Tryd.underlying125 (by kernel_rfl) (by kernel_rfl) (by kernel_rfl) h2
  · rcases (show g = 0 ∨ g = 1 ∨ g = 2 ∨ g = 3 by omega) with rfl | rfl | rfl | rfl
    · exact ⟨cell_lt c0, _, _, c0⟩
    · exact ⟨cell_lt c1, _, _, c1⟩
    · exact ⟨cell_lt c2, _, _, c2⟩
    · exact ⟨cell_lt c3, _, _, c3⟩
theorem trodVars_len {H : Type} {enc : TypeId × Value → H} {P : Program} {W : World} {sp : Nat → Bool} : ∀ {ns : List String} {gs : List (DataW H)} {ps : List MemPlace}, DataW.TrodVars enc P W sp ns gs ps → gs.length = ns.length
  | [], [], _, _ => rfl
  | [], _ :: _, _, h => h.elim
  | _ :: _, [], _, h => h.elim
  | n :: ns, d :: ds, ps, h => by
    obtain ⟨g, t, cs, fuel, p, q, h1, h2, h3, h4, hs, e⟩ := h
    simp [trodVars_len hs]
theorem lst5 {α : Type} {l : List α} (h : l.length = 5) : ∃ a b c d e, l = [a, b, c, d, e] := by
  match l, h with
  | [a, b, c, d, e], _ => exact ⟨a, b, c, d, e, rfl⟩
theorem door_met (os : Os) (args : Array Value) : laidMetH Tryd.prog laidL ((World.doorLaid Tryd.prog 400 os).forCall (fun _ _ => 0) ⟨#[], args, []⟩).memory :=
  laidMetH_of_parts3 (fuel := 8) (laidMet_of_run' 8 (by kernel_rfl) (by kernel_rfl)) (by kernel_rfl) (by kernel_rfl)
set_option maxRecDepth 100000 in
theorem form_lifted (os : Os) (started : os.Started) (H : Type) (enc : TypeId × Value → H) :
    ReturnsInHanded {} Tryd.checked os 3 .any (fun w args => (Rows.fnExactLogFormSpec.pre enc Tryd.prog Tryd.f3 Rows.fnExactLogFormRow.domain false w args ∧ laidMetH Tryd.prog laidL w) ∧ sizedMet enc Tryd.prog Tryd.f3 (OpenSpec.ofChange Rows.fnExactLogFormSpec) false w args)
      (Rows.fnExactLogFormSpec.post enc Tryd.prog Tryd.f3 false true false false) := by
  refine returnsInHanded_of_change_and (C := Tryd.checked) (X := fun w _ => laidMetH Tryd.prog laidL w) (fun _ _ _ hh h => h.of_heap hh) Tryd.own started (by kernel_rfl) Tryd.func3
    (ChangeSpec.witness_shaped (enc := enc) (C := Tryd.checked) (os := os) (X := fun w _ => laidMetH Tryd.prog laidL w) false (World.doorLaid Tryd.prog 400 os) #[.agg #[.string ⟨#[]⟩, .int .i64 0, .slice none 0 0, .slice none 0 0]] 8 rfl (World.shaped_of_RefB (by kernel_rfl) (by kernel_rfl)) (by kernel_rfl) (by kernel_rfl) (by kernel_rfl) (door_met os _)) ?_
  intro W base args ds gs before hval0 hW _ hsz0 hL _
  have hsz : (DataW.weightsEach Tryd.prog (Tryd.f3.params.toList ++ Rows.fnExactLogFormSpec.plain.varTypes Tryd.prog) (ds ++ gs)).all (· ≤ reachBytes) = true := hsz0
  clear hsz0
  have hval : ∀ (j : Nat) t v, Tryd.f3.params[j]? = some t → args[j]? = some v → Value.okWide Tryd.prog W .any base t v := hval0
  have hW' := hW
  obtain ⟨p, q, hA0, hV, rfl, _, _⟩ := hW
  have hA : DataW.TrodAll enc Tryd.prog W 0 (fun _ => true) true Tryd.f3.params.toList args.toList ds p := hA0
  rw [Tryd.params3] at hA hval hsz
  obtain ⟨v0, d0, rfl, rfl, h0⟩ := trodAll_one hA
  obtain ⟨k1, k2, k3, k4, k5, rfl⟩ := lst5 (trodVars_len hV)
  have hfit : Fits 27 d0 := fun x hx => by
    have := List.all_eq_true.1 hsz x (DataW.weights_mem_each (j := 0) (t := 27) rfl rfl x hx)
    simpa using this
  have h0k := h0
  obtain ⟨x, A, rfl, hin, hbf⟩ := openBc (hval 0 27 v0 rfl rfl) h0 hfit
  clear hA0 hval0 hsz
  have hlt : ∀ y ∈ p, y.block < W.heap.size := fun y hy => by simpa using hW'.lt y (by simp [hy])
  obtain ⟨hT, hE⟩ := of_laid hL
  refine (form_law x A W hbf hin hT hE).mono fun e W' ⟨he, hb⟩ => ?_
  subst he
  refine ⟨_, rfl, _, _, _, [], p, q, hW', ?_, ?_, ?_, hb.frame _, fun h => by cases h⟩
  · exact trodAll_mk1 (shut_bool Tryd.underlying4 true)
  · exact trodAll_mk1 (Below.trod Tryd.laidOut (by kernel_rfl) (of_decide_eq_true (by kernel_rfl)) h0k hb hlt)
  · exact Below.trodVars Tryd.laidOut hb (by kernel_rfl) hV
theorem form_holds : Rows.FnExactLogFormSaid :=
  OpenClaim.holds_of_wide 3 Tryd.f3 rfl rfl rfl rfl rfl rfl rfl ⟨rfl, rfl, rfl, rfl, rfl⟩ rfl rfl rfl rfl rfl (by kernel_rfl) Tryd.func3 (by kernel_rfl)
    (of_decide_eq_true (by kernel_rfl)) (by unfold Func.isWrapper; rw [if_neg (of_decide_eq_false (by kernel_rfl))]; exact ⟨rfl, rfl⟩)
    (fun os started H enc _ => form_lifted os started H enc)
theorem form_card : Rows.FnExactLogFormCardSaid :=
  Claim7.holds_tied_plain_at .later [] [.data, .data, .data, .sentinel, .sentinel, .sentinel, .sentinel, .sentinel, .sentinel, .sentinel] true Rows.fnExactLogFormCard.stood.harness true
    form_holds (fun _ h => by cases h) (by kernel_rfl) (fun _ h => by cases h) fnExactLogForm_row_tie rfl ⟨rfl, rfl⟩ (by kernel_rfl) rfl
    (fun f fn hf hfn => by
      obtain rfl : f = 3 := Option.some.inj ((show Tryd.prog.funcNamed Tryd.f3.name = some 3 by kernel_rfl).symm.trans hf) |>.symm
      obtain rfl : fn = Tryd.f3 := (Option.some.inj (Tryd.func3.symm.trans hfn)).symm
      exact ⟨by kernel_rfl, fun j t ht => by
        rw [Tryd.params3] at ht
        have hm : t ∈ [27] := by simpa using Array.mem_of_getElem? ht
        have hall : ([27].all fun u => !Tryd.prog.wantsStandIn u) = true := by kernel_rfl
        exact (show Tryd.prog.wantsStandIn t = false by simpa using List.all_eq_true.1 hall t hm)⟩)
    (by kernel_rfl)
end Go.Proofs.YtcmimbohmninkaaDoor
