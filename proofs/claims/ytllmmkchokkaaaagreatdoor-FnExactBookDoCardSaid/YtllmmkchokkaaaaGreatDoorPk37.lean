import Derived.Test.YtllmmkchokkaaaaGreatDoorPk36
import Derived.Test.YtllmmkchokkaaaaGreatDoorPk24
set_option maxRecDepth 100000
set_option maxHeartbeats 4000000
namespace Go.Proofs.YtllmmkchokkaaaaGreatDoor
open Go.RowKit Go.Extern.Stop Go.Stop Go.Extern
theorem as_any (v:Wr) (c d:Int) (R a:Nat) (o0 o1:Value) (w:World) (hR:R<w.1.size) (ha:a<w.1.size) (_hRa:¬R=a) (h0:w.cell? ⟨R,0,none⟩=some o0) (h1:w.cell? ⟨R,1,none⟩=some o1) (hf:∀ j,w.frozen? ⟨R,j,none⟩=false) (hp:w.cell? ⟨a,0,none⟩=some (.pointer (some ⟨R,0,none⟩))) :
  Calls Tryz.prog 165 #[.iface 146 (.agg #[.int .i64 v.op,.string v.kind,.string v.name,.int .i64 v.seen,.string v.text,.string v.hold,.iface 90 (.agg #[.int .i64 c,.int .i64 d])]),.iface 149 (.pointer (some ⟨R,0,none⟩)),.agg #[.pointer (some ⟨5,149,none⟩),.pointer (some ⟨a,0,none⟩),.int .u64 150],.iface 233 (.agg #[.pointer (some ⟨5,90,none⟩)])] w fun e w'=>e=.returned (.bool true)∧FrP (fun q=>q=R) w w'∧w'.cell? ⟨R,0,none⟩=some (.int .i64 c)∧w'.cell? ⟨R,1,none⟩=some (.int .i64 d):=by
 have B0:=below_alloc w (.cells #[.pointer (some ⟨5,149,none⟩),.pointer (some ⟨a,0,none⟩),.int .u64 150] 206)
 have h162:=@run_callFunc_extern Tryz.prog 162 _ (fun args=>ReflectliteValue.unpack (args.getD 0 (.tuple #[]))) Tryz.func162 (by kernel_rfl) (by kernel_rfl) (by kernel_rfl) (by kernel_rfl)
 have h189:=@run_callFunc_extern Tryz.prog 189 _ (ReflectliteType.typeOf) Tryz.func189 (by kernel_rfl) (by kernel_rfl) (by kernel_rfl) (by kernel_rfl)
 have h253:=@run_callFunc_extern Tryz.prog 253 _ (ReflectliteType.relation "AssignableTo" ReflectliteType.assignableTo) Tryz.func253 (by kernel_rfl) (by kernel_rfl) (by kernel_rfl) (by kernel_rfl)
 have h190:=@run_callFunc_extern Tryz.prog 190 _ (ReflectliteValue.method (ReflectliteValue.valueError "reflectlite.Value.Elem" 0) ReflectliteValue.elem) Tryz.func190 (by kernel_rfl) (by kernel_rfl) (by kernel_rfl) (by kernel_rfl)
 have h191:=@run_callFunc_extern Tryz.prog 191 _ (ReflectliteValue.set) Tryz.func191 (by kernel_rfl) (by kernel_rfl) (by kernel_rfl) (by kernel_rfl)
 have tO:=Tryz.typeOf146
 have tO2:=Tryz.typeOf90
 have mA:=Tryz.methodAssignableTo
 have a146:=Tryz.assignable146
 have a90:=Tryz.assignable90
 have s238:=Tryz.assert238
 have s241:=Tryz.assert241
 have mU:=Tryz.methodUnwrap
 have v90:=Tryz.valueOf90
 go_enter Tryz.func165,Tryz.ntmps165
 go_wp2
 refine wp_loop_rounds 2 ?_
 rw [rounds_succ]
 go_wp2_with fail
 refine (unwrap_any v c d _).mono ?_
 rintro e w1 ⟨rfl,hb1⟩
 have B1:=B0.trans (hb1.mono B0.size)
 have rb:=RowF.new (w:=w) (l:=[.pointer (some ⟨5,149,none⟩),.pointer (some ⟨a,0,none⟩),.int .u64 150]) (t:=206) hb1
 have y0:=rb.cell 0 (by simp)
 have y1:=rb.cell 1 (by simp)
 have y2:=rb.cell 2 (by simp)
 simp only [vec,List.getD_cons_zero,List.getD_cons_succ] at y0 y1 y2
 have zb:w.1.size<w1.1.size:=rb.lt
 have zR:R<w1.1.size:=by omega
 have hp1:=(B1.cell (p:=⟨a,0,none⟩) ha).trans hp
 have k0:=(B1.cell (p:=⟨R,0,none⟩) hR).trans h0
 have k1:=(B1.cell (p:=⟨R,1,none⟩) hR).trans h1
 have kf:=fun j=>(B1.frozen (p:=⟨R,j,none⟩) hR).trans (hf j)
 have el:=Tryz.elemV149 ⟨a,0,none⟩ ⟨R,0,none⟩ w1 hp1
 have BA:=below_alloc w1 (.cells #[.int .i64 c,.int .i64 d] 90)
 have st:=Tryz.set90 R w1.1.size c d o0 o1 (w1.alloc (.cells #[.int .i64 c,.int .i64 d] 90)) (new_cell rfl) (new_cell rfl) ((BA.cell (p:=⟨R,0,none⟩) zR).trans k0) ((BA.cell (p:=⟨R,1,none⟩) zR).trans k1) (fun j=>(BA.frozen (p:=⟨R,j,none⟩) zR).trans (kf j))
 have zS:R<((w1.setCell ⟨R,0,none⟩ (.int .i64 c)).setCell ⟨R,1,none⟩ (.int .i64 d)).1.size:=by simpa using zR
 have BS:=below_alloc ((w1.setCell ⟨R,0,none⟩ (.int .i64 c)).setCell ⟨R,1,none⟩ (.int .i64 d)) (.cells #[.int .i64 c,.int .i64 d] 90)
 have HFIN:=hid (show FrP (fun q=>q=R) w (((w1.setCell ⟨R,0,none⟩ (.int .i64 c)).setCell ⟨R,1,none⟩ (.int .i64 d)).alloc (.cells #[.int .i64 c,.int .i64 d] 90))∧(((w1.setCell ⟨R,0,none⟩ (.int .i64 c)).setCell ⟨R,1,none⟩ (.int .i64 d)).alloc (.cells #[.int .i64 c,.int .i64 d] 90)).cell? ⟨R,0,none⟩=some (.int .i64 c)∧(((w1.setCell ⟨R,0,none⟩ (.int .i64 c)).setCell ⟨R,1,none⟩ (.int .i64 d)).alloc (.cells #[.int .i64 c,.int .i64 d] 90)).cell? ⟨R,1,none⟩=some (.int .i64 d) from
  ⟨(((FrP.of_below B1).trans (FrP.setCell (P:=fun q=>q=R) (FrP.refl _ _) rfl _)).trans (FrP.setCell (P:=fun q=>q=R) (FrP.refl _ _) rfl _)).trans (FrP.of_below BS),
   (BS.cell (p:=⟨R,0,none⟩) zS).trans (by rw [World.cell?_setCell_other _ _ _ _ (by simp)];exact World.cell?_setCell_same _ _ _ k0),
   (BS.cell (p:=⟨R,1,none⟩) zS).trans (World.cell?_setCell_same _ _ _ (by rw [World.cell?_setCell_other _ _ _ _ (by simp)];exact k1))⟩)
 clear hb1 B0 B1 rb BS zS hp1 k0 k1 kf BA h0 h1 hf hp
 go_wp2
 rw [rounds_succ]
 go_wp2
 go_ret
 exact ⟨rfl,HFIN.out⟩
theorem asTop_any (v:Wr) (c d:Int) (R:Nat) (o0 o1:Value) (w:World) (hg:w.cell? ⟨0,0,none⟩=some (.iface 233 (.agg #[.pointer (some ⟨5,86,none⟩)]))) (hR:R<w.1.size) (h0:w.cell? ⟨R,0,none⟩=some o0) (h1:w.cell? ⟨R,1,none⟩=some o1) (hf:∀ j,w.frozen? ⟨R,j,none⟩=false) :
  Calls Tryz.prog 103 #[.iface 146 (.agg #[.int .i64 v.op,.string v.kind,.string v.name,.int .i64 v.seen,.string v.text,.string v.hold,.iface 90 (.agg #[.int .i64 c,.int .i64 d])]),.iface 149 (.pointer (some ⟨R,0,none⟩))] w fun e w'=>e=.returned (.bool true)∧FrP (fun q=>q=R) w w'∧w'.cell? ⟨R,0,none⟩=some (.int .i64 c)∧w'.cell? ⟨R,1,none⟩=some (.int .i64 d):=by
 have h162:=@run_callFunc_extern Tryz.prog 162 _ (fun args=>ReflectliteValue.unpack (args.getD 0 (.tuple #[]))) Tryz.func162 (by kernel_rfl) (by kernel_rfl) (by kernel_rfl) (by kernel_rfl)
 have h163:=@run_callFunc_extern Tryz.prog 163 _ (ReflectliteValue.methodAny (ReflectliteValue.valueError "reflectlite.Value.Type" 0) (fun t _ _ _=>ReflectliteType.toType t)) Tryz.func163 (by kernel_rfl) (by kernel_rfl) (by kernel_rfl) (by kernel_rfl)
 have h164:=@run_callFunc_extern Tryz.prog 164 _ (ReflectliteValue.method (ReflectliteValue.valueError "reflectlite.Value.IsNil" 0) ReflectliteValue.isNil) Tryz.func164 (by kernel_rfl) (by kernel_rfl) (by kernel_rfl) (by kernel_rfl)
 have h243:=@run_callFunc_extern Tryz.prog 243 _ (ReflectliteType.abiMethod fun t=>do pure (.int .u8 (←Rtype.kind t))) Tryz.func243 (by kernel_rfl) (by kernel_rfl) (by kernel_rfl) (by kernel_rfl)
 have h255:=@run_callFunc_extern Tryz.prog 255 _ (ReflectliteType.method ReflectliteType.elem) Tryz.func255 (by kernel_rfl) (by kernel_rfl) (by kernel_rfl) (by kernel_rfl)
 have h256:=@run_callFunc_extern Tryz.prog 256 _ (ReflectliteType.relation "Implements" ReflectliteType.implements_) Tryz.func256 (by kernel_rfl) (by kernel_rfl) (by kernel_rfl) (by kernel_rfl)
 have f6:=Tryz.valueOf149
 have f7:=Tryz.type149
 have mK:=Tryz.methodKind
 have mE:=Tryz.methodElem
 have mI:=Tryz.methodImplements
 have k149:=Tryz.kind149
 have k90:=Tryz.kind90
 have e149:=Tryz.elem149
 have i90:=Tryz.implements90
 have B2:Below w.1.size w ((w.alloc (.cells #[.pointer (some ⟨R,0,none⟩)] 149)).alloc (.cells #[.pointer (some ⟨5,149,none⟩),.pointer (some ⟨w.1.size,0,none⟩),.int .u64 150] 206)):=(below_alloc _ _).trans ((below_alloc _ _).mono (by simp))
 have hcl:((w.alloc (.cells #[.pointer (some ⟨R,0,none⟩)] 149)).alloc (.cells #[.pointer (some ⟨5,149,none⟩),.pointer (some ⟨w.1.size,0,none⟩),.int .u64 150] 206)).cell? ⟨w.1.size,0,none⟩=some (.pointer (some ⟨R,0,none⟩)):=((below_alloc (w.alloc (.cells #[.pointer (some ⟨R,0,none⟩)] 149)) (.cells #[.pointer (some ⟨5,149,none⟩),.pointer (some ⟨w.1.size,0,none⟩),.int .u64 150] 206)).cell (p:=⟨w.1.size,0,none⟩) (by simp)).trans (new_cell rfl)
 have n8:=Tryz.isNil149 ⟨w.1.size,0,none⟩ ⟨R,0,none⟩ ((w.alloc (.cells #[.pointer (some ⟨R,0,none⟩)] 149)).alloc (.cells #[.pointer (some ⟨5,149,none⟩),.pointer (some ⟨w.1.size,0,none⟩),.int .u64 150] 206)) hcl
 have hlt:0<w.1.size:=by omega
 have hg2:=(B2.cell (p:=⟨0,0,none⟩) hlt).trans hg
 have HAS:=hid (as_any v c d R w.1.size o0 o1 ((w.alloc (.cells #[.pointer (some ⟨R,0,none⟩)] 149)).alloc (.cells #[.pointer (some ⟨5,149,none⟩),.pointer (some ⟨w.1.size,0,none⟩),.int .u64 150] 206)) (Nat.lt_of_lt_of_le hR B2.size) (by simp;omega) (by omega) ((B2.cell (p:=⟨R,0,none⟩) hR).trans h0) ((B2.cell (p:=⟨R,1,none⟩) hR).trans h1) (fun j=>(B2.frozen (p:=⟨R,j,none⟩) hR).trans (hf j)) hcl)
 have HB2:=hid B2
 clear B2 hcl h0 h1 hf
 go_enter Tryz.func103,Tryz.ntmps103
 go_wp2_with fail
 refine HAS.out.mono ?_
 rintro e w3 ⟨rfl,hf3,q0,q1⟩
 have HFIN:=hid (show FrP (fun q=>q=R) w w3∧w3.cell? ⟨R,0,none⟩=some (.int .i64 c)∧w3.cell? ⟨R,1,none⟩=some (.int .i64 d) from ⟨(FrP.of_below HB2.out).trans hf3,q0,q1⟩)
 clear hf3 q0 q1
 go_wp2
 go_ret
 exact ⟨rfl,HFIN.out⟩
theorem refusalOf_any (v:Wr) (c d:Int) (w:World) (hg:w.cell? ⟨0,0,none⟩=some (.iface 233 (.agg #[.pointer (some ⟨5,86,none⟩)]))):Calls Tryz.prog 44 #[.iface 146 (.agg #[.int .i64 v.op,.string v.kind,.string v.name,.int .i64 v.seen,.string v.text,.string v.hold,.iface 90 (.agg #[.int .i64 c,.int .i64 d])])] w fun e w'=>e=.returned (.agg #[.int .i64 c,.int .i64 d])∧Below w.1.size w w':=by
 have hlt:0<w.1.size:=by
  rcases Nat.eq_zero_or_pos w.1.size with h0|h
  ·simp [World.cell?,h0] at hg
  ·exact h
 have B2:Below w.1.size w ((w.alloc (.cells #[.int .i64 0,.int .i64 0] 90)).alloc (.cells #[.int .i64 0,.int .i64 0] 90)):=(below_alloc _ _).trans ((below_alloc _ _).mono (by simp))
 have HAS:=hid (asTop_any v c d (w.1.size+1) (.int .i64 0) (.int .i64 0) ((w.alloc (.cells #[.int .i64 0,.int .i64 0] 90)).alloc (.cells #[.int .i64 0,.int .i64 0] 90)) ((B2.cell (p:=⟨0,0,none⟩) hlt).trans hg) (by simp) (new_cell (by simp)) (new_cell (by simp)) (fun j=>new_free (by simp)))
 clear B2 hg
 go_enter Tryz.func44,Tryz.ntmps44
 go_wp2_with fail
 refine HAS.out.mono ?_
 rintro e w3 ⟨rfl,hf3,q0,q1⟩
 have z3:w.1.size+1<w3.1.size:=by have:=hf3.size;simp at this;omega
 have p0:w3.cell? ⟨w.1.size,0,none⟩=some (.int .i64 0):=(hf3.cell (p:=⟨w.1.size,0,none⟩) (by simp;omega) (by simp)).trans (((below_alloc (w.alloc (.cells #[.int .i64 0,.int .i64 0] 90)) (.cells #[.int .i64 0,.int .i64 0] 90)).cell (p:=⟨w.1.size,0,none⟩) (by simp)).trans (new_cell rfl))
 have p1:w3.cell? ⟨w.1.size,1,none⟩=some (.int .i64 0):=(hf3.cell (p:=⟨w.1.size,1,none⟩) (by simp;omega) (by simp)).trans (((below_alloc (w.alloc (.cells #[.int .i64 0,.int .i64 0] 90)) (.cells #[.int .i64 0,.int .i64 0] 90)).cell (p:=⟨w.1.size,1,none⟩) (by simp)).trans (new_cell rfl))
 have pf:∀ j,w3.frozen? ⟨w.1.size,j,none⟩=false:=fun j=>(hf3.frozen (p:=⟨w.1.size,j,none⟩) (by simp;omega) (by simp)).trans (((below_alloc (w.alloc (.cells #[.int .i64 0,.int .i64 0] 90)) (.cells #[.int .i64 0,.int .i64 0] 90)).frozen (p:=⟨w.1.size,j,none⟩) (by simp)).trans (new_free rfl))
 have HB3:=hid (show Below w.1.size w w3 from ((below_alloc _ _).trans ((below_alloc _ _).mono (by simp))).trans (hf3.below (B:=w.1.size) (fun q hq e=>by omega) (by simp;omega)))
 clear hf3
 go_wp2
 refine bodyPost_ret (v:=.agg #[.int .i64 c,.int .i64 d]) (by simp [results,Tryz.results44,go_sem,p0,p1]) rfl ⟨rfl,?_⟩
 exact (HB3.out.setCell (Nat.le_refl _) _).setCell (Nat.le_refl _) _
end Go.Proofs.YtllmmkchokkaaaaGreatDoor
