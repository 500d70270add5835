import Derived.Test.YtllmmkchokkaaaaGreatDoorPk15
import Derived.Deep.MidRow
import Derived.WalkKit
import Derived.LaidEql
import Derived.Stop.Asserts
import Derived.RowKitTokens
set_option maxRecDepth 100000
set_option maxHeartbeats 1000000
namespace Go.Proofs.YtllmmkchokkaaaaGreatDoor
open Go.RowKit Go.Extern.Stop Go.Stop Go.Extern
theorem Tryz.valueOf149 (t:Addr) (w:World):(ReflectliteValue.unpack (.iface 149 (.pointer (some t)))).run Tryz.prog w
  = .ok (.agg #[.pointer (some ⟨5,149,none⟩),.pointer (some ⟨w.1.size,0,none⟩),.int .u64 150]) (w.alloc (.cells #[.pointer (some t)] 149)):=by kernel_rfl
theorem Tryz.type149 (a:Addr) (w:World):(ReflectliteValue.methodAny (ReflectliteValue.valueError "reflectlite.Value.Type" 0) (fun t _ _ _=>ReflectliteType.toType t) #[.agg #[.pointer (some ⟨5,149,none⟩),.pointer (some a),.int .u64 150]]).run Tryz.prog w
  = .ok (.iface 233 (.agg #[.pointer (some ⟨5,149,none⟩)])) w:=by kernel_rfl
theorem Tryz.methodKind (h:Value) (w:World):(Go.method 412 233 (.agg #[h]) "Kind").run Tryz.prog w=.ok (243,h) w:=by kernel_rfl
theorem Tryz.kind149 (w:World):((ReflectliteType.abiMethod fun t=>(fun a:Nat=>Value.int IntKind.u8 (a:Int)) <$> Rtype.kind t) #[.pointer (some ⟨5,149,none⟩)]).run Tryz.prog w=.ok (.int .u8 22) w:=by kernel_rfl
theorem Tryz.kind90 (w:World):((ReflectliteType.abiMethod fun t=>(fun a:Nat=>Value.int IntKind.u8 (a:Int)) <$> Rtype.kind t) #[.pointer (some ⟨5,90,none⟩)]).run Tryz.prog w=.ok (.int .u8 25) w:=by kernel_rfl
theorem rlm (z:Sem Value) (f:TypeId→Addr→Nat→Nat→Sem Value) (v:Value) :
  ReflectliteValue.method z f #[v]=(do match ←ReflectliteValue.parts v with|none=>z|some (t,a,fl)=>f t a fl (fl % 32)):=rfl
theorem Tryz.parts149 (a:Addr) (w:World):(ReflectliteValue.parts (.agg #[.pointer (some ⟨5,149,none⟩),.pointer (some a),.int .u64 150])).run Tryz.prog w=.ok (some (149,a,150)) w:=by kernel_rfl
theorem Tryz.isNil149 (a p:Addr) (W:World) (ha:W.cell? a=some (.pointer (some p))) :
  (ReflectliteValue.method (ReflectliteValue.valueError "reflectlite.Value.IsNil" 0) ReflectliteValue.isNil #[.agg #[.pointer (some ⟨5,149,none⟩),.pointer (some a),.int .u64 150]]).run Tryz.prog W=.ok (.bool false) W:=by
 rw [rlm]
 simp only [Sem.run_bind,Tryz.parts149,Result.andThen]
 simp [ReflectliteValue.isNil,loadVar,isAgg,underlying,Tryz.underlying149,ha,Result.andThen]
theorem Tryz.methodElem (h:Value) (w:World):(Go.method 412 233 (.agg #[h]) "Elem").run Tryz.prog w=.ok (255,.agg #[h]) w:=by kernel_rfl
theorem Tryz.methodImplements (h:Value) (w:World):(Go.method 412 233 (.agg #[h]) "Implements").run Tryz.prog w=.ok (256,.agg #[h]) w:=by kernel_rfl
theorem Tryz.methodAssignableTo (h:Value) (w:World):(Go.method 412 233 (.agg #[h]) "AssignableTo").run Tryz.prog w=.ok (253,.agg #[h]) w:=by kernel_rfl
theorem Tryz.elem149 (w:World):(ReflectliteType.method ReflectliteType.elem #[.agg #[.pointer (some ⟨5,149,none⟩)]]).run Tryz.prog w=.ok (.iface 233 (.agg #[.pointer (some ⟨5,90,none⟩)])) w:=by kernel_rfl
theorem Tryz.implements90 (w:World):(ReflectliteType.relation "Implements" ReflectliteType.implements_ #[.agg #[.pointer (some ⟨5,90,none⟩)],.iface 233 (.agg #[.pointer (some ⟨5,86,none⟩)])]).run Tryz.prog w=.ok (.bool true) w:=by kernel_rfl
theorem Tryz.typeOf90 (v:Value) (w:World):(ReflectliteType.typeOf #[.iface 90 v]).run Tryz.prog w=.ok (.iface 233 (.agg #[.pointer (some ⟨5,90,none⟩)])) w:=by kernel_rfl
theorem Tryz.typeOf146 (v:Value) (w:World):(ReflectliteType.typeOf #[.iface 146 v]).run Tryz.prog w=.ok (.iface 233 (.agg #[.pointer (some ⟨5,146,none⟩)])) w:=by kernel_rfl
theorem Tryz.assignable90 (w:World):(ReflectliteType.relation "AssignableTo" ReflectliteType.assignableTo #[.agg #[.pointer (some ⟨5,90,none⟩)],.iface 233 (.agg #[.pointer (some ⟨5,90,none⟩)])]).run Tryz.prog w=.ok (.bool true) w:=by kernel_rfl
theorem Tryz.assignable146 (w:World):(ReflectliteType.relation "AssignableTo" ReflectliteType.assignableTo #[.agg #[.pointer (some ⟨5,146,none⟩)],.iface 233 (.agg #[.pointer (some ⟨5,90,none⟩)])]).run Tryz.prog w=.ok (.bool false) w:=by kernel_rfl
theorem Tryz.valueOf90 (a b:Int) (w:World):(ReflectliteValue.unpack (.iface 90 (.agg #[.int .i64 a,.int .i64 b]))).run Tryz.prog w
  = .ok (.agg #[.pointer (some ⟨5,90,none⟩),.pointer (some ⟨w.1.size,0,none⟩),.int .u64 153]) (w.alloc (.cells #[.int .i64 a,.int .i64 b] 90)):=by kernel_rfl
theorem Tryz.elemOf149 (w:World):(Rtype.elem? 149).run Tryz.prog w=.ok (some 90) w:=by kernel_rfl
theorem Tryz.mk90 (p:Addr) (w:World):(ReflectliteValue.mk 90 p ReflectliteValue.flagAddr).run Tryz.prog w=.ok (.agg #[.pointer (some ⟨5,90,none⟩),.pointer (some p),.int .u64 409]) w:=by kernel_rfl
theorem Tryz.elemV149 (a p:Addr) (W:World) (ha:W.cell? a=some (.pointer (some p))) :
  (ReflectliteValue.method (ReflectliteValue.valueError "reflectlite.Value.Elem" 0) ReflectliteValue.elem #[.agg #[.pointer (some ⟨5,149,none⟩),.pointer (some a),.int .u64 150]]).run Tryz.prog W
   = .ok (.agg #[.pointer (some ⟨5,90,none⟩),.pointer (some p),.int .u64 409]) W:=by
 rw [rlm]
 simp only [Sem.run_bind,Tryz.parts149,Result.andThen]
 simp [ReflectliteValue.elem,loadVar,isAgg,underlying,Tryz.underlying149,ha,Result.andThen,Tryz.elemOf149,Tryz.mk90]
theorem rls (v x:Value):ReflectliteValue.set #[v,x]=(do
  let (some (dst,a,fl),some (src,b,_)):=(←ReflectliteValue.parts v,←ReflectliteValue.parts x)
   | unsupported (.noEntry "extern/(internal/reflectlite.Value).Set.zeroValue")
  if fl / ReflectliteValue.flagAddr % 2==0 then unsupported (.noEntry "extern/(internal/reflectlite.Value).Set.unaddressable")
  let val ←loadVar src b
  if ←Rtype.directlyAssignable dst src then storeVar dst a val
  else if ←Rtype.implements dst src then
   if (←Rtype.kind src)==20 then
    match val with
    | .nilIface=>unsupported (.noEntry "extern/reflectlite: a nil value of one interface type handed on as a value of another")
    | _=>storeVar dst a val
   else storeVar dst a (.iface src val)
  else panicString ("reflectlite.Set: value of type " ++ (←Rtype.spelt src) ++ " is not assignable to type " ++ (←Rtype.spelt dst))
  pure (.tuple #[])):=rfl
theorem Tryz.parts90a (a:Addr) (w:World):(ReflectliteValue.parts (.agg #[.pointer (some ⟨5,90,none⟩),.pointer (some a),.int .u64 409])).run Tryz.prog w=.ok (some (90,a,409)) w:=by kernel_rfl
theorem Tryz.parts90 (a:Addr) (w:World):(ReflectliteValue.parts (.agg #[.pointer (some ⟨5,90,none⟩),.pointer (some a),.int .u64 153])).run Tryz.prog w=.ok (some (90,a,153)) w:=by kernel_rfl
theorem Tryz.direct90 (w:World):(Rtype.directlyAssignable 90 90).run Tryz.prog w=.ok true w:=by kernel_rfl
theorem Tryz.sz90:(Tryz.prog.info? 90).map (·.size)=some 2:=by kernel_rfl
theorem Tryz.set90 (R b:Nat) (c d:Int) (o0 o1:Value) (W:World) (hb0:W.cell? ⟨b,0,none⟩=some (.int .i64 c)) (hb1:W.cell? ⟨b,1,none⟩=some (.int .i64 d)) (h0:W.cell? ⟨R,0,none⟩=some o0) (h1:W.cell? ⟨R,1,none⟩=some o1) (hf:∀ j,W.frozen? ⟨R,j,none⟩=false) :
  (ReflectliteValue.set #[.agg #[.pointer (some ⟨5,90,none⟩),.pointer (some ⟨R,0,none⟩),.int .u64 409],.agg #[.pointer (some ⟨5,90,none⟩),.pointer (some ⟨b,0,none⟩),.int .u64 153]]).run Tryz.prog W
   = .ok (.tuple #[]) ((W.setCell ⟨R,0,none⟩ (.int .i64 c)).setCell ⟨R,1,none⟩ (.int .i64 d)):=by
 have hl:=run_loadVar_mid (P:=Tryz.prog) W b 0 90 [.int .i64 c,.int .i64 d] _ (fun j v hj=>by
  rcases j with _|_|j
  ·simp at hj;subst hj;exact hb0
  ·simp at hj;subst hj;exact hb1
  ·simp at hj) Tryz.underlying90 rfl Tryz.sz90
 have hs:=run_storeVar_mid (P:=Tryz.prog) W R 0 90 #[.int .i64 c,.int .i64 d] (fun j hj=>by
  have hj':j<2:=hj
  rcases (show j=0∨j=1 by omega) with rfl|rfl
  ·rw [Nat.zero_add,h0];exact ⟨rfl,hf 0⟩
  ·rw [Nat.zero_add,h1];exact ⟨rfl,hf 1⟩) Tryz.sz90 (by simp [Value.oneCell'])
 rw [rls]
 simp only [Sem.run_bind,Tryz.parts90a,Tryz.parts90,Result.andThen]
 simp [ReflectliteValue.flagAddr,hl,Tryz.direct90,hs,Result.andThen,World.setCells]
theorem Tryz.assert238 (x:Value) (w:World):(Instr.typeAssert (.iface 146 x) 86 238 true).run Tryz.prog w=.ok (.tuple #[.nilIface,.bool false]) w:=
 run_typeAssert_lacksB Tryz.underlying238 (by kernel_rfl) (by kernel_rfl) x 86 w
theorem Tryz.assert241 (x:Value) (w:World):(Instr.typeAssert (.iface 146 x) 86 241 true).run Tryz.prog w=.ok (.tuple #[.iface 146 x,.bool true]) w:=
 run_typeAssert_hasB Tryz.underlying241 (by kernel_rfl) x 86 w
theorem Tryz.methodUnwrap (x:Value) (w:World):(Go.method 412 146 x "Unwrap").run Tryz.prog w=.ok (248,x) w:=by kernel_rfl
theorem unwrap_any (v:Wr) (c d:Int) (w:World):Calls Tryz.prog 248 #[.agg #[.int .i64 v.op,.string v.kind,.string v.name,.int .i64 v.seen,.string v.text,.string v.hold,.iface 90 (.agg #[.int .i64 c,.int .i64 d])]] w fun e w'=>e=.returned (.iface 90 (.agg #[.int .i64 c,.int .i64 d]))∧Below w.1.size w w':=by
 go_enter Tryz.func248,Tryz.ntmps248
 go_wp2
 go_ret
 exact ⟨rfl,below_alloc _ _⟩
end Go.Proofs.YtllmmkchokkaaaaGreatDoor
