import Derived.Test.YtllmmkchokkaaaaGreatDoorPk46
import Derived.Defers
import Derived.Recover
set_option maxRecDepth 100000
set_option maxHeartbeats 8000000
namespace Go.Proofs.YtllmmkchokkaaaaGreatDoor
open Go.RowKit Go.Maps
theorem Tryz.assert161 (x:Value) (w:World):(Instr.typeAssert (.iface 161 x) 20 161 true).run Tryz.prog w=.ok (.tuple #[x,.bool true]) w:=Zf
theorem Tryz.field90 (a b:Int) (X:World):(Instr.field 90 (.agg #[.int .i64 a,.int .i64 b]) 0).run Tryz.prog X=.ok (.int .i64 a) X:=Zf
def caReg5G (za:Nat) (cause:Value) (cd dd:Int) (B:Bk) (a1 a2 a3:Option Addr) (c1 c2 c3:Nat) (i:Nat) (u:Value) (_X:World):Prop:=
 match i with
 | 0=>u=.pointer (some ⟨za,1,none⟩)
 | 1=>u=cause
 | 2=>u=.agg #[.int .i64 cd,.int .i64 dd]
 | 3=>u=.int .i64 cd
 | 4=>u=.agg #[.int .i64 B.now,.int .i64 B.floor,.slice a1 B.on c1,.slice a2 B.hn c2,.slice a3 B.tn c3]
 | 5=>u=.agg #[.int .i64 cd,.int .i64 B.now,.int .i64 B.floor,.slice a1 B.on c1,.slice a2 B.hn c2,.slice a3 B.tn c3,.int .i64 0]
 | _=>True
theorem caReg5 (p2 p3 p5 p6 p7 p8 p9 p10 p11 p12 p13 p14 p15 p16 p23 p24 o0 o1 o2 o3 o4 o5:Value) (s0 z2 za:Nat) (cause:Value) (cd dd:Int) (B:Bk) (a1 a2 a3:Option Addr) (c1 c2 c3:Nat) (cz:Nat→Value) (W:World) (hbk:HoldN W s0 [.int .i64 B.now,.int .i64 B.floor,.slice a1 B.on c1,.slice a2 B.hn c2,.slice a3 B.tn c3]) (hs:s0<W.1.size) (hza:za<W.1.size) (hca:W.cell? ⟨za,1,none⟩=some cause) (hz2:RowF W z2 7 cz) (hcall:∀ X,Below W.1.size W X→Calls Tryz.prog 44 #[cause] X fun e w'=>e=.returned (.agg #[.int .i64 cd,.int .i64 dd])∧Below X.1.size X w') (Q:Exit→Act→World→Prop)
  (hQ:∀ (t:Nat→Value) X,FrP (fun q=>q=z2) W X∧RowF X z2 7 (vec [.int .i64 cd,.int .i64 B.now,.int .i64 B.floor,.slice a1 B.on c1,.slice a2 B.hn c2,.slice a3 B.tn c3,.int .i64 0])→Q .normal ⟨#[.pointer (some ⟨s0,0,none⟩),.pointer (some ⟨z2,0,none⟩),p2,p3,.pointer (some ⟨za,0,none⟩),p5,p6,p7,p8,p9,p10,p11,p12,p13,p14,p15,p16,t 0,t 1,t 2,t 3,t 4,t 5,p23,p24],[]⟩ X) :
  Code.wp Tryz.prog (Code.region 5 #[⟨some 17,.fieldAddr 161 (.tmp 4) 1,0, "l3_book_bundle.go:71",#[],none⟩,⟨some 18,.load 86 (.tmp 17),86, "l3_book_bundle.go:71",#[⟨0,.data⟩],none⟩,⟨some 19,.call ⟨.value (.func 44),#[.tmp 18],#[86]⟩,90, "l3_book_bundle.go:71",#[⟨1,.data⟩],none⟩,⟨some 20,.field 90 (.tmp 19) 0,3, "l3_book_bundle.go:71",#[⟨2,.data⟩],none⟩,⟨some 21,.load 35 (.tmp 0),35, "l3_book_bundle.go:71",#[],none⟩,⟨some 22,.build 37 #[(0,.tmp 20),(1,.tmp 21)],37, "l3_book_bundle.go:71",#[⟨3,.data⟩,⟨4,.data⟩],none⟩,⟨none,.store 37 (.tmp 1) (.tmp 22),0, "l3_book_bundle.go:71",#[⟨5,.data⟩,⟨2,.chain⟩,⟨0,.phase⟩,⟨1,.phase⟩,⟨2,.phase⟩,⟨3,.phase⟩,⟨4,.phase⟩,⟨5,.phase⟩],none⟩] true) Q ⟨#[.pointer (some ⟨s0,0,none⟩),.pointer (some ⟨z2,0,none⟩),p2,p3,.pointer (some ⟨za,0,none⟩),p5,p6,p7,p8,p9,p10,p11,p12,p13,p14,p15,p16,o0,o1,o2,o3,o4,o5,p23,p24],[]⟩ W:=by
 have HBK:=hid (fun (X:World) (hb:Below W.1.size W X)=>hbk.below hb hs)
 have HZ:=hid hz2
 have HCA:=hid hca
 have HCALL:=hid hcall
 clear hbk hz2 hca hcall
 refine regionH Zf 6 (fun t:Nat→Value=>#[.pointer (some ⟨s0,0,none⟩),.pointer (some ⟨z2,0,none⟩),p2,p3,.pointer (some ⟨za,0,none⟩),p5,p6,p7,p8,p9,p10,p11,p12,p13,p14,p15,p16,t 0,t 1,t 2,t 3,t 4,t 5,p23,p24]) (fun i=>[o0,o1,o2,o3,o4,o5].getD i undef) (caReg5G za cause cd dd B a1 a2 a3 c1 c2 c3) (fun a X=>∃ t:Nat→Value,a=⟨#[.pointer (some ⟨s0,0,none⟩),.pointer (some ⟨z2,0,none⟩),p2,p3,.pointer (some ⟨za,0,none⟩),p5,p6,p7,p8,p9,p10,p11,p12,p13,p14,p15,p16,t 0,t 1,t 2,t 3,t 4,t 5,p23,p24],[]⟩∧FrP (fun q=>q=z2) W X∧RowF X z2 7 (vec [.int .i64 cd,.int .i64 B.now,.int .i64 B.floor,.slice a1 B.on c1,.slice a2 B.hn c2,.slice a3 B.tn c3,.int .i64 0])) Zf Zf Zf (fun i u X Y _ h _=>h) rfl ?_ ?_ ?_
 ·intro i hi t X K hb hg hK
  have zX:=hb.size
  have hs2:=Nat.lt_of_lt_of_le hs zX
  have hz2:=Nat.lt_of_lt_of_le hza zX
  rcases (show i=0∨i=1∨i=2∨i=3∨i=4∨i=5 by omega) with rfl|rfl|rfl|rfl|rfl|rfl
  ·exact sg
  ·have ea:t 0=.pointer (some ⟨za,1,none⟩):=hg 0 (Wt rfl)
   have q1:=(hb.cell (p:=⟨za,1,none⟩) hza).trans HCA.out
   exact sg
  ·have e1:t 1=cause:=hg 1 (Wt rfl)
   refine wpOp_of rfl rfl ?_
   have HK:=hid hK
   clear hK hg
   go_simp
   go_at_call 44
   refine (HCALL.out X hb).mono ?_
   rintro r Y ⟨rfl,hbY⟩
   have h:=HK.out _ Y rfl hbY
   simpa [updT,e1] using h
  ·have ea:t 2=.agg #[.int .i64 cd,.int .i64 dd]:=hg 2 (Wt rfl)
   have hfd:=Tryz.field90 cd dd X
   exact sg
  ·have p0:=HBK.out X hb 0 Zd
   have p1:=HBK.out X hb 1 Zd
   have p2:=HBK.out X hb 2 Zd
   have p3:=HBK.out X hb 3 Zd
   have p4:=HBK.out X hb 4 Zd
   simp only [vec,List.getD_cons_zero,List.getD_cons_succ] at p0 p1 p2 p3 p4
   exact sg
  ·have ea:t 3=.int .i64 cd:=hg 3 (Wt rfl)
   have eb:t 4=.agg #[.int .i64 B.now,.int .i64 B.floor,.slice a1 B.on c1,.slice a2 B.hn c2,.slice a3 B.tn c3]:=hg 4 (Wt rfl)
   exact sg
 ·intro t X K hb hg hK
  have e5:t 5=.agg #[.int .i64 cd,.int .i64 B.now,.int .i64 B.floor,.slice a1 B.on c1,.slice a2 B.hn c2,.slice a3 B.tn c3,.int .i64 0]:=hg 5 Za
  have hx:=HZ.out.below hb HZ.out.lt
  have zl:=hx.lt
  have fz:=hx.free
  have r0:=hx.cell 0 Za
  have r1:=hx.cell 1 Za
  have r2:=hx.cell 2 Za
  have r3:=hx.cell 3 Za
  have r4:=hx.cell 4 Za
  have r5:=hx.cell 5 Za
  have r6:=hx.cell 6 Za
  have h:=hK ⟨#[.pointer (some ⟨s0,0,none⟩),.pointer (some ⟨z2,0,none⟩),p2,p3,.pointer (some ⟨za,0,none⟩),p5,p6,p7,p8,p9,p10,p11,p12,p13,p14,p15,p16,t 0,t 1,t 2,t 3,t 4,t 5,p23,p24],[]⟩ _ ⟨t,rfl,(FrP.of_below hb).trans (fr7 (w:=X) (z:=z2) (.int .i64 cd) (.int .i64 B.now) (.int .i64 B.floor) (.slice a1 B.on c1) (.slice a2 B.hn c2) (.slice a3 B.tn c3) (.int .i64 0)),row7 hx⟩
  refine wpOp_of rfl rfl ?_
  have H:=hid h
  clear hK hg h hx
  go_simp
  simpa [updT,e5] using H.out
 ·rintro a X ⟨t,rfl,hp⟩
  exact hQ t X hp
theorem catch_idle (q0 q1 q2:Value) (w:World) :
  CallsD Tryz.prog 112 #[q0,q1,q2] .returning w fun e u' w'=>e=.returned (.tuple #[])∧u'=.returning∧w'=w:=by
 refine callsD_of_wpS Tryz.func112 rfl fun c₀ cs hu=>?_
 simp only [Tryz.ntmps112,List.size_toArray,List.length_cons,List.length_nil,Nat.reduceAdd,Nat.reduceSub,Array.replicate_succ,Array.replicate_zero,List.push_toArray,List.append_toArray,List.nil_append,List.cons_append]
 apply wpS_seq
 apply wpS_region
 simp [wpOpsS,go_sem,recoverD,hu,Exit.thenS]
 refine wpS_of_wp ?_
 go_wp2
 cases c₀;simp_all [bodyPostS,results,Tryz.results112]
theorem catch_panic (s0 z2 z3 n:Nat) (ct:TypeId) (cv cause:Value) (cd dd:Int) (older:List PanicEntry) (B:Bk) (a1 a2 a3:Option Addr) (c1 c2 c3:Nat) (cz cy:Nat→Value) (w:World) (hcv:cause=.iface ct cv) (hbk:HoldN w s0 [.int .i64 B.now,.int .i64 B.floor,.slice a1 B.on c1,.slice a2 B.hn c2,.slice a3 B.tn c3]) (hs:s0<w.1.size) (hz2:RowF w z2 7 cz) (hz3:RowF w z3 1 cy) (h23:¬z2=z3) (_hs2:¬s0=z2) (hcall:∀ X,Below w.1.size w X→Calls Tryz.prog 44 #[cause] X fun e w'=>e=.returned (.agg #[.int .i64 cd,.int .i64 dd])∧Below X.1.size X w') :
  CallsD Tryz.prog 112 #[.pointer (some ⟨s0,0,none⟩),.pointer (some ⟨z2,0,none⟩),.pointer (some ⟨z3,0,none⟩)] (.panicking ({ v:=.iface 161 (.agg #[.int .i64 (n:Nat),cause]),recovered:=false } :: older)) w fun e u' w'=>
   e=.returned (.tuple #[])∧u'=.panicking ({ v:=.iface 161 (.agg #[.int .i64 (n:Nat),cause]),recovered:=true } :: older)∧FrP (fun q=>q=z2∨q=z3) w w'∧RowF w' z2 7 (vec [.int .i64 cd,.int .i64 B.now,.int .i64 B.floor,.slice a1 B.on c1,.slice a2 B.hn c2,.slice a3 B.tn c3,.int .i64 0])∧RowF w' z3 1 (vec [.int .i64 (n:Nat)]):=by
 have HBK:=hid hbk
 have HZ2:=hid hz2
 have HZ3:=hid hz3
 have HCALL:=hid hcall
 clear hbk hz2 hz3 hcall
 refine callsD_of_wpS Tryz.func112 rfl fun c₀ cs hu=>?_
 simp only [Tryz.ntmps112,List.size_toArray,List.length_cons,List.length_nil,Nat.reduceAdd,Nat.reduceSub,Array.replicate_succ,Array.replicate_zero,List.push_toArray,List.append_toArray,List.nil_append,List.cons_append]
 apply wpS_seq
 apply wpS_region
 simp [wpOpsS,go_sem,recoverD,hu,Exit.thenS]
 refine wpS_of_wp ?_
 subst hcv
 have ta:=Tryz.assert161
 go_wp2
 have zz:=HZ2.out.lt
 have zy:=HZ3.out.lt
 refine caReg5 _ _ _ _ _ _ _ _ _ _ _ _ _ _ _ _ _ _ _ _ _ _ s0 z2 w.1.size (.iface ct cv) cd dd B a1 a2 a3 c1 c2 c3 cz _ (HBK.out.below Zbu hs) Zc Zd (new_cell rfl) (HZ2.out.below Zbu zz) (fun X hb=>HCALL.out X ((below_alloc _ _).trans (hb.mono Zd))) _ ?_
 rintro t X ⟨hfX,hrX⟩
 have zX:=hfX.size
 simp only [World.size_alloc] at zX
 have k0:X.cell? ⟨w.1.size,0,none⟩=some (.int .i64 (n:Nat)):=(hfX.cell (p:=⟨w.1.size,0,none⟩) Zd (by show ¬w.1.size=z2;omega)).trans (new_cell rfl)
 have r3:=(HZ3.out.below (below_alloc w (.cells #[.int .i64 (n:Nat),.iface ct cv] 161)) zy).fr hfX (fun e=>h23 e.symm)
 have y0:=r3.cell 0 Za
 have yf:=r3.free
 have HR3:=hid (r3.set (o:=0) Za (.int .i64 (n:Nat)))
 have HRX:=hid (hrX.fr ((FrP.refl (fun q=>q=z3) X).setCell (p:=⟨z3,0,none⟩) rfl (.int .i64 (n:Nat))) h23)
 have HFX:=hid ((((FrP.of_below (below_alloc w _)).trans (hfX.mono (fun q e=>Or.inl e))).trans ((FrP.refl (fun q=>q=z2∨q=z3) X).setCell (p:=⟨z3,0,none⟩) (Or.inr rfl) (.int .i64 (n:Nat)))))
 clear r3 hfX hrX
 go_wp2
 exact ⟨rfl,_,rfl,_,results_none rfl _ _ _,rfl,rfl,HFX.out,HRX.out,HR3.out.congr (fun j hj=>by obtain rfl:j=0:=Za;rfl)⟩
end Go.Proofs.YtllmmkchokkaaaaGreatDoor
