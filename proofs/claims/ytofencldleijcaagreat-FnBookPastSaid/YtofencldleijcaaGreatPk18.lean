import Derived.Test.YtofencldleijcaaGreatPk04
import Derived.Test.YtofencldleijcaaGreatPk16
import Derived.Test.YtofencldleijcaaGreatPk17
set_option maxRecDepth 100000
set_option maxHeartbeats 4000000
namespace Go.Proofs.YtofencldleijcaaGreat
open Go.RowKit Go.Proofs.Tryz
def QH:List ByteArray:=[⟨#[98,101,114,116,104]⟩,⟨#[106,111,98]⟩,⟨#[97,46,98]⟩]
def Qw:List ByteArray:=[⟨#[120]⟩,⟨#[120,49]⟩,⟨#[121]⟩,⟨#[122,45,48]⟩]
theorem SL.mono2{w:World}{base base':Nat}{v:Value}{xs:List ByteArray}(h:SL w base v xs)(hb:base'<=base):SL w base' v xs:=by obtain⟨g,cap,e1,e2,e3,e4,e5,e6⟩:=h;exact⟨g,cap,e1,AG hb e2,e3,e4,e5,e6⟩
theorem SL.fr{w w':World}{base R:Nat}{v:Value}{xs:List ByteArray}(h:SL w base v xs)(hf:AB (λq=>q=R) w w')(hR:R<base):SL w' base v xs:=by obtain⟨g,cap,e1,e2,e3,e4,e5,e6⟩:=h;have hg:∀j,w'.cell? ⟨g,j,none⟩=w.cell? ⟨g,j,none⟩:=λj=>hf.cell (p:=⟨g,j,none⟩) e3 (λq=>by have q:g=R:=q;omega);have hz:∀j,w'.frozen? ⟨g,j,none⟩=w.frozen? ⟨g,j,none⟩:=λj=>hf.frozen (p:=⟨g,j,none⟩) e3 (λq=>by have q:g=R:=q;omega);exact⟨g,cap,e1,e2,Ad e3 hf.size,e4,λj hj=>by rw[hg,hz];exact e5 j hj,λj hj=>by rw[hg];exact e6 j hj⟩
theorem AM.fr2{w w':World}{R g m:Nat}{c:Nat->Value}(h:AM w g m c)(hf:AB (λq=>q=R) w w')(hR:¬g=R):AM w' g m c:=⟨Ad h.lt hf.size,λj=>by rw[hf.frozen (p:=⟨g,j,none⟩) h.lt hR];exact h.free j,λj hj=>by rw[hf.cell (p:=⟨g,j,none⟩) h.lt hR];exact h.cell j hj⟩
theorem AB.far{R:Nat}{W X:World}(h:AB (λq=>q=R) W X){z:Nat}(hz:W.1.size<=z)(o:Nat)(v:Value):AB (λq=>q=R) W (X.setCell ⟨z,o,none⟩ v):=H7 h (AO hz) v
theorem AB.far6{R:Nat}{W X:World}(h:AB (λq=>q=R) W X){z:Nat}(hz:W.1.size<=z)(a b c d e f:Value):AB (λq=>q=R) W ((((((X.setCell ⟨z,0,none⟩ a).setCell ⟨z,1,none⟩ b).setCell ⟨z,2,none⟩ c).setCell ⟨z,3,none⟩ d).setCell ⟨z,4,none⟩ e).setCell ⟨z,5,none⟩ f):=(((((h.far hz _ _).far hz _ _).far hz _ _).far hz _ _).far hz _ _).far hz _ _
theorem Rd.far{W X:World}{R:Nat}{ad:OA}{n cap p p':Nat}(hW:Rd W R ad n cap p)(hX:Rd X R ad n cap p'){z:Nat}(hz:W.1.size<=z)(o:Nat)(v:Value):Rd (X.setCell ⟨z,o,none⟩ v) R ad n cap p':=by
 have hR:=hW.lt;have ne:∀j,(⟨z,o,none⟩:Addr)≠⟨R,j,none⟩:=λj q=>by have:=congrArg Addr.block q;have this:z=R:=this;omega
 refine⟨?_,?_,?_,by rw[Bi];exact hX.lt,hX.n2,λi hi=>?_,λj s q=>hX.ns j s (by rw[Bn _ _ _ _ (ne j)]at q;exact q)⟩;.rw[Bn _ _ _ _ (ne 0)];exact hX.c0
 .rw[Bn _ _ _ _ (ne 1)];exact hX.c1
 .rw[World.frozen?_setCell];exact hX.f1
 .obtain⟨b,off,u,e1,e2,_⟩:=hW.bt i hi;obtain⟨b',off',u',f1,f2,f3,f4,f5,f6⟩:=hX.bt i hi;rw[e1]at f1;obtain⟨rfl,rfl⟩:b=b'/\off=off':=by simpa using f1
  exact⟨b,off,u',e1,by rw[Bi];exact f2,f3,by rw[Bn _ _ _ _ (λq=>by have:=congrArg Addr.block q;have this:z=b:=this;omega)];exact f4,f5,f6⟩
theorem Rd.far6{W X:World}{R:Nat}{ad:OA}{n cap p p':Nat}(hW:Rd W R ad n cap p)(hX:Rd X R ad n cap p'){z:Nat}(hz:W.1.size<=z)(a b c d e f:Value):Rd ((((((X.setCell ⟨z,0,none⟩ a).setCell ⟨z,1,none⟩ b).setCell ⟨z,2,none⟩ c).setCell ⟨z,3,none⟩ d).setCell ⟨z,4,none⟩ e).setCell ⟨z,5,none⟩ f) R ad n cap p':=hW.far (hW.far (hW.far (hW.far (hW.far (hW.far hX hz _ _) hz _ _) hz _ _) hz _ _) hz _ _) hz _ _
def aX (R:Nat)(W:World)(i:Nat)(v:Value)(X:World):Prop:=match i with
 |0=>v=.p R 0
 |1=>∃k:Nat,k<5/\v=.i k
 |2=>∃k:Nat,k<5/\v=.i (1+(k:Int))
 |3=>SL X W.1.size v QH
 |4=>v=.p R 0
 |5=>∃k:Nat,k<3/\v=.i k
 |6=>∃(g k:Nat)(s:ByteArray),v=.pointer (some ⟨g,k,none⟩)/\W.1.size<=g/\g<X.1.size/\s∈QH/\X.cell? ⟨g,k,none⟩=some (.s s)
 |7=>∃s:ByteArray,s∈QH/\v=.s s
 |8=>SL X W.1.size v Qw
 |9=>v=.p R 0
 |10=>∃k:Nat,k<4/\v=.i k
 |11=>∃(g k:Nat)(s:ByteArray),v=.pointer (some ⟨g,k,none⟩)/\W.1.size<=g/\g<X.1.size/\s∈Qw/\X.cell? ⟨g,k,none⟩=some (.s s)
 |12=>∃s:ByteArray,s∈Qw/\v=.s s
 |13=>∃(k:Nat)(s1 s2:ByteArray),k<5/\s1∈QH/\s2∈Qw/\v=.agg #[.i (1+(k:Int)),.s s1,.s s2,.i 0,.s ⟨#[]⟩,.s ⟨#[]⟩]
 |14=>∃z:Nat,v=.p z 0/\W.1.size<=z/\AM X z 6 (A7 [.i 0,.s ⟨#[]⟩,.s ⟨#[]⟩,.i 0,.s ⟨#[]⟩,.s ⟨#[]⟩])
 |_=>True
theorem Sv{P:Prop}(h:P:=by have h:=hK (.p R 0) X p' Bg Zb rfl (AB.refl _ _) hrd;refine Ar rfl rfl ?_;clear hK hg;go_simp;simpa[AN]using h):P:=h
theorem Wz{P:Prop}(h:P:=by obtain⟨g,k,s,e,a1,a2,a3,a4⟩:=h;exact⟨g,k,s,e,a1,Ad a2 hF.size,a3,(hF.cell (p:=⟨g,k,none⟩) a2 (λq=>by have q:g=R:=q;omega)).trans a4⟩):P:=h
theorem eK{p1 p2 p3 p4 p6 CU CS CQ Dl C6 Db C9 C7 Dj Dg Df Dk Dh De Dt Di Dy DB EF EI EK EL EJ EE Ej Ei EA EB Ew Ex EW FU FW FV FC FA Fz FT Fx Hl Hm Hn Hk Hj GL GN GX GT GY GP GZ GV GQ GS GR G4 IA It Iu GU GO G3 GM G5 Ic JD Jj Jk Je Jh Jg Iy Iq Is Iw Ir Iz Ip Ji En Ez Ec Ed Eb D9 Ea Em Ek FI FE FH FJ Fd Fg Fh Ff Fe Fi Ga F8 F9 Ig Ih Ib Ie In If:Value}{mk:(Nat->Value)->Array Value}(t0:Nat->Value)(R:Nat)(ad:OA)(nn cap p:Nat)(W:World)(hr:Rd W R ad nn cap p)(hp:p<=900000)(hmk:mk=λt=>#[.p R 0,p1,p2,p3,p4,t 14,p6,t 0,t 1,t 2,t 3,t 4,t 5,t 6,t 7,t 8,t 9,t 10,t 11,t 12,t 13,CU,CS,CQ,Dl,C6,Db,C9,C7,Dj,Dg,Df,Dk,Dh,De,Dt,Di,Dy,DB,EF,EI,EK,EL,EJ,EE,Ej,Ei,EA,EB,Ew,Ex,EW,FU,FW,FV,FC,FA,Fz,FT,Fx,Hl,Hm,Hn,Hk,Hj,GL,GN,GX,GT,GY,GP,GZ,GV,GQ,GS,GR,G4,IA,It,Iu,GU,GO,G3,GM,G5,Ic,JD,Jj,Jk,Je,Jh,Jg,Iy,Iq,Is,Iw,Ir,Iz,Ip,Ji,En,Ez,Ec,Ed,Eb,D9,Ea,Em,Ek,FI,FE,FH,FJ,Fd,Fg,Fh,Ff,Fe,Fi,Ga,F8,F9,Ig,Ih,Ib,Ie,In,If])(Q:Exit->Act->World->Prop)(hQ:∀(t:Nat->Value)(z k:Nat)(s1 s2:ByteArray)(pz:Nat) X,t 14=.p z 0->W.1.size<=z->k<5->s1∈QH->s2∈Qw->AM X z 6 (A7 [.i (1+(k:Int)),.s s1,.s s2,.i 0,.s ⟨#[]⟩,.s ⟨#[]⟩])->AB (λq=>q=R) W X->p<=pz->pz<=p+15->Rd X R ad nn cap pz->Q .normal ⟨mk t,[]⟩ X):Code.wp prog (rg Tryz.f13 1) Q ⟨mk t0,[]⟩ W:=by
 have hRW:=hr.lt;refine MM Ze 15 mk t0 R ad nn cap p (aX R W) (λa X=>∃(t:Nat->Value)(z k:Nat)(s1 s2:ByteArray)(pz:Nat),a=⟨mk t,[]⟩/\t 14=.p z 0/\W.1.size<=z/\k<5/\s1∈QH/\s2∈Qw/\AM X z 6 (A7 [.i (1+(k:Int)),.s s1,.s s2,.i 0,.s ⟨#[]⟩,.s ⟨#[]⟩])/\AB (λq=>q=R) W X/\p<=pz/\pz<=p+15/\Rd X R ad nn cap pz) Ze Ze Ze ?_ rfl hr ?_ ?_ ?_;all_goals subst hmk
 .intro i v X Y hi h hF hR hX;rcases(show i=0\/i=1\/i=2\/i=3\/i=4\/i=5\/i=6\/i=7\/i=8\/i=9\/i=10\/i=11\/i=12\/i=13\/i=14 by omega)with rfl|rfl|rfl|rfl|rfl|rfl|rfl|rfl|rfl|rfl|rfl|rfl|rfl|rfl|rfl;.exact h
  .exact h
  .exact h
  .exact h.fr hF Zb
  .exact h
  .exact h
  .exact Wz
  .exact h
  .exact h.fr hF Zb
  .exact h
  .exact h
  .exact Wz
  .exact h
  .exact h
  .obtain⟨z,e,a1,a2⟩:=h;exact⟨z,e,a1,a2.fr2 hF Zb⟩
 .intro i hi t X K p' hb hp1 hp2 hrd hg hK;rcases(show i=0\/i=1\/i=2\/i=3\/i=4\/i=5\/i=6\/i=7\/i=8\/i=9\/i=10\/i=11\/i=12\/i=13\/i=14 by omega)with rfl|rfl|rfl|rfl|rfl|rfl|rfl|rfl|rfl|rfl|rfl|rfl|rfl|rfl|rfl;.exact Sv
  .have e0:t 0=_:=hg 0 (BB rfl);refine Ar rfl rfl ?_;have HK:=Ag hK;have HR:=Ag hrd;clear hK hg hrd;go_simp;go_at_call 12;refine(BV R ad nn cap p' 5 X HR Zb Zb Zb).mono ?_;rintro r Y ⟨v,rfl,_,hv,hf,hr2⟩;have h:=HK (.i v) Y (p'+1) Zb Bg ⟨v,by have:=hv Zb;omega,rfl⟩ hf hr2;simpa[AN,e0]using h
  .obtain⟨k,hk,e1⟩:∃k:Nat,k<5/\t 1=.i k:=hg 1 (BB rfl);have hw:=AE (1+(k:Int)) ⟨Zb,Zb⟩;have h:=hK (.i (1+(k:Int))) X p' Bg Zb ⟨k,hk,rfl⟩ (AB.refl _ _) hrd;refine Ar rfl rfl ?_;clear hK hg;go_simp;simpa[AN,e1,hw]using h
  .have h:=hK (.l (some ⟨X.1.size,0,none⟩) 3 3) (X.alloc (.cells (IQ QH).toArray 9)) p' Bg Zb ((SL.new X QH).mono2 hb.size) (Ap EC) (hrd.below EC);refine Ar rfl rfl ?_;clear hK hg;go_simp;simpa[AN,IQ,QH]using h
  .exact Sv
  .have e4:t 4=_:=hg 4 (BB rfl);refine Ar rfl rfl ?_;have HK:=Ag hK;have HR:=Ag hrd;clear hK hg hrd;go_simp;go_at_call 12;refine(BV R ad nn cap p' 3 X HR Zb Zb Zb).mono ?_;rintro r Y ⟨v,rfl,_,hv,hf,hr2⟩;have h:=HK (.i v) Y (p'+1) Zb Bg ⟨v,by have:=hv Zb;omega,rfl⟩ hf hr2;simpa[AN,e4]using h
  .obtain⟨g,cp,e3,g1,g2,g3,g4,g5⟩:SL X W.1.size (t 3) QH:=hg 3 (BB rfl);obtain⟨k,hk,e5⟩:∃k:Nat,k<3/\t 5=.i k:=hg 5 (BB rfl);have hL:QH.length=3:=rfl;rw[hL]at e3;have h:=hK (.pointer (some ⟨g,k,none⟩)) X p' Bg Zb ⟨g,k,QH[k]'(by rw[hL];exact hk),rfl,g1,g2,GC _,g5 k (by rw[hL];exact hk)⟩ (AB.refl _ _) hrd;refine Ar rfl rfl ?_;clear hK hg;go_simp;rw[if_pos Zb,AZ];go_simp;simpa[AN,e3,e5]using h
  .obtain⟨g,k,s,e6,g1,g2,g3,g4⟩:∃(g k:Nat)(s:ByteArray),t 6=.pointer (some ⟨g,k,none⟩)/\W.1.size<=g/\g<X.1.size/\s∈QH/\X.cell? ⟨g,k,none⟩=some (.s s):=hg 6 (BB rfl);have h:=hK (.s s) X p' Bg Zb ⟨s,g3,rfl⟩ (AB.refl _ _) hrd;refine Ar rfl rfl ?_;clear hK hg;go_simp;simpa[AN,e6]using h
  .have h:=hK (.l (some ⟨X.1.size,0,none⟩) 4 4) (X.alloc (.cells (IQ Qw).toArray 9)) p' Bg Zb ((SL.new X Qw).mono2 hb.size) (Ap EC) (hrd.below EC);refine Ar rfl rfl ?_;clear hK hg;go_simp;simpa[AN,IQ,Qw]using h
  .exact Sv
  .have e9:t 9=_:=hg 9 (BB rfl);refine Ar rfl rfl ?_;have HK:=Ag hK;have HR:=Ag hrd;clear hK hg hrd;go_simp;go_at_call 12;refine(BV R ad nn cap p' 4 X HR Zb Zb Zb).mono ?_;rintro r Y ⟨v,rfl,_,hv,hf,hr2⟩;have h:=HK (.i v) Y (p'+1) Zb Bg ⟨v,by have:=hv Zb;omega,rfl⟩ hf hr2;simpa[AN,e9]using h
  .obtain⟨g,cp,e8,g1,g2,g3,g4,g5⟩:SL X W.1.size (t 8) Qw:=hg 8 (BB rfl);obtain⟨k,hk,e10⟩:∃k:Nat,k<4/\t 10=.i k:=hg 10 (BB rfl);have hL:Qw.length=4:=rfl;rw[hL]at e8;have h:=hK (.pointer (some ⟨g,k,none⟩)) X p' Bg Zb ⟨g,k,Qw[k]'(by rw[hL];exact hk),rfl,g1,g2,GC _,g5 k (by rw[hL];exact hk)⟩ (AB.refl _ _) hrd;refine Ar rfl rfl ?_;clear hK hg;go_simp;rw[if_pos Zb,AZ];go_simp;simpa[AN,e8,e10]using h
  .obtain⟨g,k,s,e11,g1,g2,g3,g4⟩:∃(g k:Nat)(s:ByteArray),t 11=.pointer (some ⟨g,k,none⟩)/\W.1.size<=g/\g<X.1.size/\s∈Qw/\X.cell? ⟨g,k,none⟩=some (.s s):=hg 11 (BB rfl);have h:=hK (.s s) X p' Bg Zb ⟨s,g3,rfl⟩ (AB.refl _ _) hrd;refine Ar rfl rfl ?_;clear hK hg;go_simp;simpa[AN,e11]using h
  .obtain⟨k,hk,e2⟩:∃k:Nat,k<5/\t 2=.i (1+(k:Int)):=hg 2 (BB rfl);obtain⟨s1,h1,e7⟩:∃s:ByteArray,s∈QH/\t 7=.s s:=hg 7 (BB rfl);obtain⟨s2,h2,e12⟩:∃s:ByteArray,s∈Qw/\t 12=.s s:=hg 12 (BB rfl);have h:=hK (.agg #[.i (1+(k:Int)),.s s1,.s s2,.i 0,.s ⟨#[]⟩,.s ⟨#[]⟩]) X p' Bg Zb ⟨k,s1,s2,hk,h1,h2,rfl⟩ (AB.refl _ _) hrd;refine Ar rfl rfl ?_;clear hK hg;go_simp;simpa[AN,e2,e7,e12]using h
  .have h:=hK (.p (X.1.size) 0) (X.alloc (.cells #[.i 0,.s ⟨#[]⟩,.s ⟨#[]⟩,.i 0,.s ⟨#[]⟩,.s ⟨#[]⟩] 36)) p' Bg Zb ⟨X.1.size,rfl,hb.size,AM.new (l:=[.i 0,.s ⟨#[]⟩,.s ⟨#[]⟩,.i 0,.s ⟨#[]⟩,.s ⟨#[]⟩]) (t:=36) Ck⟩ (Ap EC) (hrd.below EC);refine Ar rfl rfl ?_;clear hK hg;go_simp;simpa[AN]using h
 .intro t X K p' hb hp1 hp2 hrd hg hK;obtain⟨k,s1,s2,hk,h1,h2,e13⟩:∃(k:Nat)(s1 s2:ByteArray),k<5/\s1∈QH/\s2∈Qw/\t 13=.agg #[.i (1+(k:Int)),.s s1,.s s2,.i 0,.s ⟨#[]⟩,.s ⟨#[]⟩]:=hg 13 Zb;obtain⟨z,e14,hz,hrow⟩:∃z:Nat,t 14=.p z 0/\W.1.size<=z/\AM X z 6 (A7 [.i 0,.s ⟨#[]⟩,.s ⟨#[]⟩,.i 0,.s ⟨#[]⟩,.s ⟨#[]⟩]):=hg 14 Zb;have rf:=hrow.free;have rl:=hrow.lt;have r0:=hrow.cell 0 Zb;have r1:=hrow.cell 1 Zb;have r2:=hrow.cell 2 Zb;have r3:=hrow.cell 3 Zb;have r4:=hrow.cell 4 Zb;have r5:=hrow.cell 5 Zb;simp only[A7,Ae,Af]at r0 r1 r2 r3 r4 r5;have R6:=(((((hrow.set (o:=0) Zb (.i (1+(k:Int)))).set (o:=1) Zb (.s s1)).set (o:=2) Zb (.s s2)).set (o:=3) Zb (.i 0)).set (o:=4) Zb (.s ⟨#[]⟩)).set (o:=5) Zb (.s ⟨#[]⟩);have F6:=hb.far6 (z:=z) hz (.i (1+(k:Int))) (.s s1) (.s s2) (.i 0) (.s ⟨#[]⟩) (.s ⟨#[]⟩);have D6:=hr.far6 hrd (z:=z) hz (.i (1+(k:Int))) (.s s1) (.s s2) (.i 0) (.s ⟨#[]⟩) (.s ⟨#[]⟩);have h:=hK _ _ ⟨t,z,k,s1,s2,p',rfl,e14,hz,hk,h1,h2,⟨R6.lt,R6.free,λj hj=>by rw[R6.cell j hj];rcases(show j=0\/j=1\/j=2\/j=3\/j=4\/j=5 by omega)with rfl|rfl|rfl|rfl|rfl|rfl<;>rfl⟩,F6,hp1,hp2,D6⟩;have HK:=Ag h;clear hK hg hrow h R6 F6 D6;refine Ar rfl rfl ?_;go_simp;simpa[e13,e14]using HK.out
 .rintro a X ⟨t,z,k,s1,s2,pz,rfl,a1,a2,a3,a4,a5,a6,a7,a8,a9,a10⟩;exact hQ t z k s1 s2 pz X a1 a2 a3 a4 a5 a6 a7 a8 a9 a10
end Go.Proofs.YtofencldleijcaaGreat
