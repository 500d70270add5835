import Derived.Test.YtcmimbohmninkaaGreatDoorQb
import Derived.Test.YtcmimbohmninkaaGreatDoorTie
import Derived.Test.YtcmimbohmninkaaGreatDoorCards
import Derived.ProofKit
import Derived.SizedLaws
import Derived.LaidMore
import Derived.Lay
import Derived.OpenShut
import Derived.OpenVars
import Derived.Stop.Joined
import Derived.Stop.LaidErr
import Derived.Lib.LaidTab
import Derived.Shelf.Vars
import Derived.SevenTiedAt
namespace Go.Proofs.YtcmimbohmninkaaGreatDoor
open Go.ChangeShapes Go.WideShapes Go.ChangeAt Go.RowKit
open Go.WideMaps Go.WideElems
open Go.ChangeMaps (open_string shut_string)
theorem Tryz.own : ownKnob Tryz.prog.godebug = none := by kernel_rfl
theorem Tryz.laidOut : laidOutB Tryz.prog = true := by kernel_rfl
theorem cell_lt {W : World} {a : Addr} {v : Value} (h : W.cell? a = some v) : a.block < W.heap.size := by
  unfold World.cell? at h
  rcases Nat.lt_or_ge a.block W.heap.size with h1 | h1
  · exact h1
  · rw [Array.getElem?_eq_none h1] at h
    cases h
abbrev laidL : List (String × DataW Unit) := Rows.fnExactLogReadRow.laid
theorem powData : Rows.laid_internal_strconv_uint64pow10 = (Lib.tabData .u64 Lib.pow10Tab : DataW Unit) := by kernel_rfl
theorem Tryz.c139 : Tryz.prog.cellsOf 139 = 1 := by kernel_rfl
theorem Tryz.c9' : Tryz.prog.cellsOf 9 = 1 := by kernel_rfl
theorem starE : "*" ++ "errors.errorString" = "*errors.errorString" := by decide
theorem errRow (u : TypeId) (h : Tryz.prog.typeName? 3 u = some "*errors.errorString") : u = 137 :=
  typeName_ptr_named (nm := "errors.errorString") (by rw [starE]; kernel_rfl) (by kernel_rfl) (by decide) u (by rw [starE]; exact h)
theorem of_laid {W : World} (h : laidMetH Tryz.prog laidL W) : Tab W ∧ (∀ g, g < 10 → g ≠ 7 → g < W.heap.size ∧ ∃ t v, W.cell? ⟨g, 0, none⟩ = some (.iface t v)) := by
  rw [MakeChecks.laidMetH_plain _ _ _ (by kernel_rfl)] at h
  have h2 := laidMet.tail (laidMet.tail h)
  have h3 := laidMet.tail h2
  have h4 := laidMet.tail h3
  have h5 := laidMet.tail h4
  have h6 := laidMet.tail h5
  have h7 := laidMet.tail h6
  have h8 := laidMet.tail h7
  have h9 := laidMet.tail h8
  have h10 := laidMet.tail h9
  have h11 := laidMet.tail h10
  have h12 := laidMet.tail h11
  obtain ⟨a9, s9, hv9, _⟩ := laid_sentinel (g := 9) (ti := 43) (tp := 137) (te := 139) (ts := 9) h4 (by kernel_rfl) (by kernel_rfl) Tryz.underlying43 errRow Tryz.underlying137 Tryz.underlying139 rfl rfl Tryz.underlying9 Tryz.c139 Tryz.c9'
  have c9 : W.cell? ⟨9, 0, none⟩ = some (.iface 137 (.pointer (some a9))) := by simpa using World.var?_cell (P := Tryz.prog) (g := 9) (by kernel_rfl) hv9 0
  obtain ⟨a8, s8, hv8, _⟩ := laid_sentinel (g := 8) (ti := 43) (tp := 137) (te := 139) (ts := 9) h5 (by kernel_rfl) (by kernel_rfl) Tryz.underlying43 errRow Tryz.underlying137 Tryz.underlying139 rfl rfl Tryz.underlying9 Tryz.c139 Tryz.c9'
  have c8 : W.cell? ⟨8, 0, none⟩ = some (.iface 137 (.pointer (some a8))) := by simpa using World.var?_cell (P := Tryz.prog) (g := 8) (by kernel_rfl) hv8 0
  obtain ⟨a3, s3, hv3, _⟩ := laid_sentinel (g := 3) (ti := 43) (tp := 137) (te := 139) (ts := 9) h6 (by kernel_rfl) (by kernel_rfl) Tryz.underlying43 errRow Tryz.underlying137 Tryz.underlying139 rfl rfl Tryz.underlying9 Tryz.c139 Tryz.c9'
  have c3 : W.cell? ⟨3, 0, none⟩ = some (.iface 137 (.pointer (some a3))) := by simpa using World.var?_cell (P := Tryz.prog) (g := 3) (by kernel_rfl) hv3 0
  obtain ⟨a4, s4, hv4, _⟩ := laid_sentinel (g := 4) (ti := 43) (tp := 137) (te := 139) (ts := 9) h7 (by kernel_rfl) (by kernel_rfl) Tryz.underlying43 errRow Tryz.underlying137 Tryz.underlying139 rfl rfl Tryz.underlying9 Tryz.c139 Tryz.c9'
  have c4 : W.cell? ⟨4, 0, none⟩ = some (.iface 137 (.pointer (some a4))) := by simpa using World.var?_cell (P := Tryz.prog) (g := 4) (by kernel_rfl) hv4 0
  obtain ⟨a5, s5, hv5, _⟩ := laid_sentinel (g := 5) (ti := 43) (tp := 137) (te := 139) (ts := 9) h8 (by kernel_rfl) (by kernel_rfl) Tryz.underlying43 errRow Tryz.underlying137 Tryz.underlying139 rfl rfl Tryz.underlying9 Tryz.c139 Tryz.c9'
  have c5 : W.cell? ⟨5, 0, none⟩ = some (.iface 137 (.pointer (some a5))) := by simpa using World.var?_cell (P := Tryz.prog) (g := 5) (by kernel_rfl) hv5 0
  obtain ⟨a0, s0, hv0, _⟩ := laid_sentinel (g := 0) (ti := 43) (tp := 137) (te := 139) (ts := 9) h9 (by kernel_rfl) (by kernel_rfl) Tryz.underlying43 errRow Tryz.underlying137 Tryz.underlying139 rfl rfl Tryz.underlying9 Tryz.c139 Tryz.c9'
  have c0 : W.cell? ⟨0, 0, none⟩ = some (.iface 137 (.pointer (some a0))) := by simpa using World.var?_cell (P := Tryz.prog) (g := 0) (by kernel_rfl) hv0 0
  obtain ⟨a2, s2, hv2, _⟩ := laid_sentinel (g := 2) (ti := 43) (tp := 137) (te := 139) (ts := 9) h10 (by kernel_rfl) (by kernel_rfl) Tryz.underlying43 errRow Tryz.underlying137 Tryz.underlying139 rfl rfl Tryz.underlying9 Tryz.c139 Tryz.c9'
  have c2 : W.cell? ⟨2, 0, none⟩ = some (.iface 137 (.pointer (some a2))) := by simpa using World.var?_cell (P := Tryz.prog) (g := 2) (by kernel_rfl) hv2 0
  obtain ⟨a6, s6, hv6, _⟩ := laid_sentinel (g := 6) (ti := 43) (tp := 137) (te := 139) (ts := 9) h11 (by kernel_rfl) (by kernel_rfl) Tryz.underlying43 errRow Tryz.underlying137 Tryz.underlying139 rfl rfl Tryz.underlying9 Tryz.c139 Tryz.c9'
  have c6 : W.cell? ⟨6, 0, none⟩ = some (.iface 137 (.pointer (some a6))) := by simpa using World.var?_cell (P := Tryz.prog) (g := 6) (by kernel_rfl) hv6 0
  obtain ⟨a1, s1, hv1, _⟩ := laid_sentinel (g := 1) (ti := 43) (tp := 137) (te := 139) (ts := 9) h12 (by kernel_rfl) (by kernel_rfl) Tryz.underlying43 errRow Tryz.underlying137 Tryz.underlying139 rfl rfl Tryz.underlying9 Tryz.c139 Tryz.c9'
  have c1 : W.cell? ⟨1, 0, none⟩ = some (.iface 137 (.pointer (some a1))) := by simpa using World.var?_cell (P := Tryz.prog) (g := 1) (by kernel_rfl) hv1 0
  refine ⟨?_, fun g hg h7 => ?_⟩
  · rw [powData] at h2
    exact Lib.tabIs_of_head (name := powName) (g := 12) (t := 132) (e := 113) (n := 20) (by kernel_rfl) (by kernel_rfl) Tryz.underlying132 (by kernel_rfl) (by kernel_rfl) (by kernel_rfl) h2
  · rcases (show g = 0 ∨ g = 1 ∨ g = 2 ∨ g = 3 ∨ g = 4 ∨ g = 5 ∨ g = 6 ∨ g = 8 ∨ g = 9 by omega) with rfl | rfl | rfl | rfl | rfl | rfl | rfl | rfl | rfl
    · exact ⟨cell_lt c0, _, _, c0⟩
    · exact ⟨cell_lt c1, _, _, c1⟩
    · exact ⟨cell_lt c2, _, _, c2⟩
    · exact ⟨cell_lt c3, _, _, c3⟩
    · exact ⟨cell_lt c4, _, _, c4⟩
    · exact ⟨cell_lt c5, _, _, c5⟩
    · exact ⟨cell_lt c6, _, _, c6⟩
    · exact ⟨cell_lt c8, _, _, c8⟩
    · exact ⟨cell_lt c9, _, _, c9⟩
theorem trodVars_len {H : Type} {enc : TypeId × Value → H} {P : Program} {W : World} {sp : Nat → Bool} : ∀ {ns : List String} {gs : List (DataW H)} {ps : List MemPlace}, DataW.TrodVars enc P W sp ns gs ps → gs.length = ns.length
  | [], [], _, _ => rfl
  | [], _ :: _, _, h => h.elim
  | _ :: _, [], _, h => h.elim
  | n :: ns, d :: ds, ps, h => by
    obtain ⟨g, t, cs, fuel, p, q, h1, h2, h3, h4, hs, e⟩ := h
    simp [trodVars_len hs]
theorem lst7 {α : Type} {l : List α} (h : l.length = 7) : ∃ a b c d e f g, l = [a, b, c, d, e, f, g] := by
  match l, h with
  | [a, b, c, d, e, f, g], _ => exact ⟨a, b, c, d, e, f, g, rfl⟩
/-- the wrap that keeps both what is laid and the world's shape -/
theorem handed_and_shaped {H : Type} {enc : TypeId × Value → H} {a : Assume} {C : Checked} {os : Os} {f : FuncId} {fn : Func} {s : ChangeSpec} {conds : List PathCond} {apart fresh handsOn again : Bool} {X : World → Array Value → Prop}
    (hX : ∀ (w w' : World) (args : Array Value), w.heap = w'.heap → X w args → X w' args)
    (own : ownKnob C.prog.godebug = none) (started : os.Started) (noInit : C.prog.inits.idxOf? f = none) (hfn : C.prog.funcs[f]? = some fn)
    (witness : ∃ (w : World) (tape : Tape) (i : Input), w.os = os ∧ (w.forCall tape i).Shaped C.prog ∧ i.vars = [] ∧ Input.okWide C.prog (w.forCall tape i) .any w.heap.size f i ∧
      ((s.pre enc C.prog fn conds apart (w.forCall tape i).memory i.args ∧ X (w.forCall tape i).memory i.args) ∧ sizedMet enc C.prog fn (OpenSpec.ofChange s) apart (w.forCall tape i).memory i.args) ∧ a.holds C.prog (lone (Frame.enter C.prog f i.args .normal) [] (w.forCall tape i)))
    (contract : ∀ (W : World) (base : Nat) (args : Array Value) (ds gs : List (DataW H)) (before : List MemPlace),
      (∀ (j : Nat) t v, fn.params[j]? = some t → args[j]? = some v → Value.okWide C.prog W .any base t v) →
      DataW.Whole enc C.prog fn.params.toList s.vars apart W args.toList ds gs before → X W args → W.ShapedOpen C.prog →
      Calls C.prog f args W fun e W' => ∃ v, e = .returned v ∧ s.post enc C.prog fn apart fresh handsOn again W args v W') :
    ReturnsInHanded a C os f .any (fun w args => (s.pre enc C.prog fn conds apart w args ∧ X w args) ∧ sizedMet enc C.prog fn (OpenSpec.ofChange s) apart w args) (s.post enc C.prog fn apart fresh handsOn again) := by
  refine returnsInHanded_of_calls own started noInit witness ?_
  intro w tape i _ hsh _ hok hpre _
  obtain ⟨_, _, _, fn', hfn', _, _, _, _, hval⟩ := hok
  have e : fn' = fn := Option.some.inj (hfn'.symm.trans hfn)
  subst e
  obtain ⟨⟨⟨ds, gs, before, hw, _⟩, hx⟩, _⟩ := hpre
  have hw' := DataW.Whole.of_heap (w' := w.forCall tape i) (by rfl) hw
  refine (contract (w.forCall tape i) w.heap.size i.args ds gs before hval hw' (hX _ _ _ (by rfl) hx) hsh).mono fun e W' ⟨v, he, hp⟩ => ?_
  subst he
  exact ChangeSpec.post_blind hp
theorem maxLen_cell {W : World} (h : W.ShapedOpen Tryz.prog) : ∃ m, W.cell? ⟨7, 0, none⟩ = some (.int .i64 m) :=
  cell_of_shapedOpen_int (g := 7) (t := 3) (zero := #[.int .i64 0]) h (of_decide_eq_true (by kernel_rfl)) (by kernel_rfl) rfl (by kernel_rfl) (by kernel_rfl) Tryz.underlying3
set_option maxRecDepth 100000 in
theorem read_lifted (os : Os) (started : os.Started) (H : Type) (enc : TypeId × Value → H) :
    ReturnsInHanded {} Tryz.checked os 3 .any (fun w args => (Rows.fnExactLogReadSpec.pre enc Tryz.prog Tryz.f3 Rows.fnExactLogReadRow.domain false w args ∧ laidMetH Tryz.prog laidL w) ∧ sizedMet enc Tryz.prog Tryz.f3 (OpenSpec.ofChange Rows.fnExactLogReadSpec) false w args)
      (Rows.fnExactLogReadSpec.post enc Tryz.prog Tryz.f3 false true false false) := by
  refine handed_and_shaped (C := Tryz.checked) (X := fun w _ => laidMetH Tryz.prog laidL w) (fun _ _ _ hh h => h.of_heap hh) Tryz.own started (by kernel_rfl) Tryz.func3
    (ChangeSpec.witness_shaped (enc := enc) (C := Tryz.checked) (os := os) (X := fun w _ => laidMetH Tryz.prog laidL w) false (World.laidAll Tryz.prog os laidL) #[.string ⟨#[]⟩] 8 (World.laidAll_os _ _ _)
      (World.shaped_of_ZipB (by kernel_rfl) (by kernel_rfl)) (by kernel_rfl) (by kernel_rfl) (by kernel_rfl)
      (by rw [MakeChecks.laidMetH_plain _ _ _ (by kernel_rfl)]; exact laidMet_laidAll _ (by kernel_rfl) (by kernel_rfl))) ?_
  intro W base args ds gs before hval0 hW hL hsh
  have hval : ∀ (j : Nat) t v, Tryz.f3.params[j]? = some t → args[j]? = some v → Value.okWide Tryz.prog W .any base t v := hval0
  have hW' := hW
  obtain ⟨p, q, hA0, hV, rfl, _, _⟩ := hW
  have hA : DataW.TrodAll enc Tryz.prog W 0 (fun _ => true) true Tryz.f3.params.toList args.toList ds p := hA0
  rw [Tryz.params3] at hA hval
  obtain ⟨v0, d0, rfl, rfl, h0⟩ := trodAll_one hA
  obtain ⟨k1, k2, k3, k4, k5, k6, k7, rfl⟩ := lst7 (trodVars_len hV)
  have h0k := h0
  obtain ⟨s, rfl, rfl, rfl, hs1⟩ := open_string Tryz.underlying9 (hval 0 9 v0 rfl rfl) h0
  clear hA0 hval0
  obtain ⟨hT, hC⟩ := of_laid hL
  obtain ⟨m, hm⟩ := maxLen_cell hsh
  have hE : Ers W := fun g hg => hC g (by omega) (fun e => by omega)
  obtain ⟨z8, t8, v8, c8⟩ := hC 8 (by omega) (by omega)
  obtain ⟨z9, t9, v9, c9⟩ := hC 9 (by omega) (by omega)
  refine (read_law s m W hT hE hm ⟨_, c8, Or.inr ⟨_, _, rfl⟩⟩ ⟨_, c9, Or.inr ⟨_, _, rfl⟩⟩ z9).mono fun e W' ⟨he, hb⟩ => ?_
  subst he
  refine ⟨_, rfl, _, _, _, [], [], q, hW', ?_, ?_, ?_, hb.frame _, fun h => by cases h⟩
  · exact trodAll_mk1 (shut_bool Tryz.underlying4 true)
  · exact trodAll_mk1 (shut_string Tryz.underlying9 hs1)
  · exact Below.trodVars Tryz.laidOut hb (by kernel_rfl) hV
theorem read_holds : Rows.FnExactLogReadSaid :=
  OpenClaim.holds_of_wide 3 Tryz.f3 rfl rfl rfl rfl rfl rfl rfl ⟨rfl, rfl, rfl, rfl, rfl⟩ rfl rfl rfl rfl rfl (by kernel_rfl) Tryz.func3 (by kernel_rfl)
    (of_decide_eq_true (by kernel_rfl)) (by unfold Func.isWrapper; rw [if_neg (of_decide_eq_false (by kernel_rfl))]; exact ⟨rfl, rfl⟩)
    (fun os started H enc _ => read_lifted os started H enc)
theorem read_card : Rows.FnExactLogReadCardSaid :=
  Claim7.holds_tied_plain_at .later [] [.data, .data, .data, .data, .sentinel, .sentinel, .sentinel, .sentinel, .sentinel, .sentinel, .sentinel, .sentinel, .sentinel, .pinned] true Rows.fnExactLogReadCard.stood.harness true
    read_holds (fun _ h => by cases h) (by kernel_rfl) (fun _ h => by cases h) fnExactLogRead_row_tie rfl ⟨rfl, rfl⟩ (by kernel_rfl) rfl
    (fun f fn hf hfn => by
      obtain rfl : f = 3 := Option.some.inj ((show Tryz.prog.funcNamed Tryz.f3.name = some 3 by kernel_rfl).symm.trans hf) |>.symm
      obtain rfl : fn = Tryz.f3 := (Option.some.inj (Tryz.func3.symm.trans hfn)).symm
      exact ⟨by kernel_rfl, fun j t ht => by
        rw [Tryz.params3] at ht
        have hm : t ∈ [9] := by simpa using Array.mem_of_getElem? ht
        have hall : ([9].all fun u => !Tryz.prog.wantsStandIn u) = true := by kernel_rfl
        exact (show Tryz.prog.wantsStandIn t = false by simpa using List.all_eq_true.1 hall t hm)⟩)
    (by kernel_rfl)
end Go.Proofs.YtcmimbohmninkaaGreatDoor
