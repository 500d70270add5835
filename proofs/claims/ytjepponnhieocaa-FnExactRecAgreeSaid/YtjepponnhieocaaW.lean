import Derived.Test.YtjepponnhieocaaVa
namespace Go.Proofs.Ytjepponnhieocaa
open Go.RowKit
def roleB (r : Rc) : Bool := if r.ld then leadB r else if r.tr then tryB r else quietB r
def restB (r : Rc) : Bool := numOk r.num r.of && (dkB r.sf && (dkB r.dk && (heldB r && (wishesB r.wn r.ws && (inB r.hd 0 1000000 && (numB r.of r.yn r.ys && (slsB r.bn r.bs && (aksB r.of r.an r.as_ && (roleB r && (r.up || bareB r))))))))))
/-- a recorder is valid -/
def rcB (r : Rc) : Bool := !(r.ld && r.tr) && restB r
theorem quiet_load {P : Program} {C : World → Prop} {o : Oper} {a : Act} {K : Act → Prop} (ty : TypeId) (x : Operand) (ho : o.op = .load ty x) (b : Nat) (hx : a.eval x = .pointer (some ⟨b, 0, none⟩)) (cs : List Value) (d : TypeDesc)
    (hS : ∀ w, C w → w.rangeAt b 0 cs) (hu : P.underlying ty = some d) (hd : d.isRow = true) (hi : (P.info? ty).map (·.size) = some cs.length) (h : K (a.put o.dst (.agg cs.toArray))) : o.quiet P a C K :=
  ⟨_, fun w hC => by
    unfold Oper.quietAt execOp
    simp only [ho, hx, Instr.loadAt, Instr.sureAddr, Sem.run_bind, Sem.run_pure, Result.andThen_ok, run_loadVar_mid w b 0 ty cs d (hS w hC) hu hd hi]
    exact ⟨rfl, rfl⟩, h⟩
theorem wpQuiet_load_step {P : Program} {ops : Array Oper} {C : World → Prop} {Q : Act → Prop} {a : Act} {o : Oper} {rest : List Oper} (hw : Region.wanted o (yielded ops a.tmps) = true) (ty : TypeId) (x : Operand) (ho : o.op = .load ty x) (b : Nat) (hx : a.eval x = .pointer (some ⟨b, 0, none⟩)) (cs : List Value) (d : TypeDesc)
    (hS : ∀ w, C w → w.rangeAt b 0 cs) (hu : P.underlying ty = some d) (hd : d.isRow = true) (hi : (P.info? ty).map (·.size) = some cs.length)
    (h : ∀ K : Act → Prop, (∀ a, wpQuiet P ops C Q rest a → K a) → K (a.put o.dst (.agg cs.toArray))) : wpQuiet P ops C Q (o :: rest) a :=
  wpQuiet_step (fun K hK => by rw [if_pos hw]; exact quiet_load ty x ho b hx cs d hS hu hd hi (h K hK))
theorem below_same {P : Program} {f : FuncId} {args : Array Value} {w : World} {v : Value} (h : Calls P f args w fun e w' => e = .returned v ∧ w' = w) : Calls P f args w fun e w' => e = .returned v ∧ Below w.heap.size w w' :=
  h.mono fun _ _ ⟨he, hm⟩ => ⟨he, by rw [hm]; exact Below.refl _ _⟩
theorem below_drew {P : Program} {f : FuncId} {args : Array Value} {w : World} {v : Value} (h : Calls P f args w fun e w' => e = .returned v ∧ ∃ q, w' = w.drewN q) : Calls P f args w fun e w' => e = .returned v ∧ Below w.heap.size w w' :=
  h.mono fun _ _ ⟨he, q, hm⟩ => ⟨he, by rw [hm]; exact below_drewN' _ _⟩
theorem meth114 (w : World) : (method 277 156 (.agg #[]) "loop.example/wharflog/impl.fits").run Try.prog w = .ok (144, .agg #[]) w := by kernel_rfl
theorem meth115 (w : World) : (method 277 157 (.agg #[]) "loop.example/wharflog/impl.fits").run Try.prog w = .ok (146, .agg #[]) w := by kernel_rfl
theorem meth116 (w : World) : (method 277 158 (.agg #[]) "loop.example/wharflog/impl.fits").run Try.prog w = .ok (147, .agg #[]) w := by kernel_rfl
abbrev setR (r : Rc) (ld tr up : Bool) : Rc := ⟨r.num, r.of, up, r.sf, r.dk, r.hn, r.hs, r.wn, r.ws, ld, tr, r.bal, r.yn, r.ys, r.bn, r.bs, r.an, r.as_, r.hd⟩
end Go.Proofs.Ytjepponnhieocaa
