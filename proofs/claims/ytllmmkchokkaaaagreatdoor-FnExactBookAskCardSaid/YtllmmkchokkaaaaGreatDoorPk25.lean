import Derived.Test.YtllmmkchokkaaaaGreatDoorPk22
import Derived.Laws.EntriesVeiled
import Derived.Test.YtllmmkchokkaaaaGreatDoorPk13
import Derived.Test.YtllmmkchokkaaaaGreatDoorPk14
import Derived.Deep.MidRow
import Derived.WalkKit
import Derived.LaidEql
import Derived.Stop.Asserts
import Derived.RowKitTokens
import Derived.Test.YtllmmkchokkaaaaGreatDoorPk20
import Derived.Deep.Cut
import Derived.Deep.CutRange
set_option maxRecDepth 100000
set_option maxHeartbeats 4000000
namespace Go.Proofs.YtllmmkchokkaaaaGreatDoor
open Go.RowKit Go.Maps Go.Proofs.Tryz
theorem BH.up{w:World}{lo hi hi2:Nat}{ad:OA}{n:Nat}{x:Nat->Ob}(h:BH w lo hi ad n x)(hh:hi<=hi2):BH w lo hi2 ad n x:=λi hi'=>by obtain⟨b,off,ah,ch,e1,e2,e3,e4,e5⟩:=h i hi';exact⟨b,off,ah,ch,e1,e2,Aa e3 hh,e4,e5.mono Bj hh⟩
def ML(x:Nat->Ob)(ki na:ByteArray):Nat->Nat
 |0=>0
 |n+1=>if ML x ki na n=n/\GI x ki na n<0 then n+1 else ML x ki na n
theorem Vd(x:Nat->Ob)(ki na:ByteArray):∀n,ML x ki na n<=n/\(∀j,j<ML x ki na n->GI x ki na j<0)/\(ML x ki na n<n->¬GI x ki na (ML x ki na n)<0)
 |0=>⟨Aw _,λj hj=>absurd hj (Al _),λh=>absurd h (Al _)⟩
 |n+1=>by
  obtain⟨h1,h2,h3⟩:=Vd x ki na n;unfold ML;by_cases e:ML x ki na n=n/\GI x ki na n<0
  .rw[if_pos e];refine⟨Aw _,λj hj=>?_,λh=>absurd h (Bt _)⟩;rcases As j n with h|h;.exact h2 j Za
   .obtain rfl:j=n:=Za;exact e.2
  .rw[if_neg e];refine⟨Za,h2,λ_=>?_⟩;rcases As (ML x ki na n) n with h|h;.exact h3 h
   .have e1:ML x ki na n=n:=Za;rw[e1];exact λhx=>e ⟨e1,hx⟩
theorem rP{x:Nat->Ob}{ki na:ByteArray}{n i:Nat}(hi:i<=n)(h1:∀j,j<i->GI x ki na j<0)(h2:i<n->¬GI x ki na i<0):ML x ki na n=i:=by
 obtain⟨g1,g2,g3⟩:=Vd x ki na n;rcases DQ (ML x ki na n) i with h|h|h;.exact absurd (h1 _ h) (g3 Za)
 .exact h
 .exact absurd (g2 _ h) (h2 Za)
def EW (B:Bk)(v:Wr):Nat:=ML B.os v.kind v.name B.on
def JD (B:Bk)(v:Wr):Bool:=decide (EW B v<B.on)&&decide (GI B.os v.kind v.name (EW B v)=0)
theorem SD (B:Bk)(v:Wr)(ad:OA)(cap:Nat)(w:World)(lo hi:Nat)(hhi:hi<=w.1.size)(hc:BH w lo hi ad B.on B.os)(hok:Hp B v):Calls prog 96 #[.l ad B.on cap,.agg #[.s v.kind,.s v.name]] w λe w'=>e=.returned (.tuple #[.i (ML B.os v.kind v.name B.on:Nat),.bool (JD B v)])/\Below w.1.size w w':=by have hon:=hok.on;refine(TV B.on B.os ad cap v.kind v.name w lo hi hhi Za hc (fU hok)).mono ?_;rintro e w'⟨i,h1,h2,h3,rfl,hb⟩;have e1:ML B.os v.kind v.name B.on=i:=rP h1 h2 (λh=>by have:=h3 i Bj h;omega);refine⟨?_,hb⟩;unfold JD EW;rw[e1]
theorem Jm{B:Bk}{v:Wr}(hok:Hp B v):Ro B v (EW B v):=by
 obtain⟨h1,h2,h3⟩:=Vd B.os v.kind v.name B.on;refine⟨h1,h2,λj hj hn hx=>?_⟩;rcases Nat.eq_or_lt_of_le hj with e|e;.subst e;exact h3 hn hx
 .exact h3 (Nat.lt_trans e hn) (fU hok _ j e hn hx)
def lM (K Bw:Nat)(B:Bk)(y:Wr)(a1:OA)(c1:Nat)(_W:World)(i:Nat)(v:Value)(_X:World):Prop:=match i with
 |0=>v=.p K 0
 |1=>v=.p K 0
 |2=>v=.p K 2
 |3=>v=.l a1 B.on c1
 |4=>v=.p Bw 1
 |5=>v=.s y.kind
 |6=>v=.p Bw 2
 |7=>v=.s y.name
 |8=>v=.agg #[.s y.kind,.s y.name]
 |9=>v=.tuple #[.i (ML B.os y.kind y.name B.on:Nat),.bool (JD B y)]
 |10=>v=.tuple #[.i (ML B.os y.kind y.name B.on:Nat),.bool (JD B y)]
 |11=>v=.i (ML B.os y.kind y.name B.on:Nat)
 |12=>v=.bool (JD B y)
 |13=>v=.i (ML B.os y.kind y.name B.on:Nat)
 |14=>v=.bool (JD B y)
 |_=>True
theorem Pu{p1 p2 p4 p7 p8 p9 Eb EK FA EU E9 Ez EV Fa Fb E8 Fc FM FD Fo Fz Fp Ft FC Fw Fy Fs Fu Fx Fq FE EY EP FQ GP GO Gj Gk Gm Ir Iq Hu Hi Hh Hg:Value}{mk:(Nat->Value)->Array Value}(t0:Nat->Value)(K Bw:Nat)(B:Bk)(y:Wr)(a1:OA)(c1:Nat)(W:World)(hK:K<W.1.size)(hk:W.cell? ⟨K,2,none⟩=some (.slice a1 B.on c1))(hw:AH W Bw 6 (Bg [.i y.op,.s y.kind,.s y.name,.i y.seen,.s y.text,.s y.hold]))(ho:BH W 0 W.1.size a1 B.on B.os)(hok:Hp B y)(hmk:mk=λt=>#[.p K 0,p1,p2,.p Bw 0,p4,t 13,t 14,p7,p8,p9,Eb,t 10,t 0,t 1,t 2,t 3,t 4,t 5,t 6,t 7,t 8,t 9,t 11,t 12,EK,FA,EU,E9,Ez,EV,Fa,Fb,E8,Fc,FM,FD,Fo,Fz,Fp,Ft,FC,Fw,Fy,Fs,Fu,Fx,Fq,FE,EY,EP,FQ,GP,GO,Gj,Gk,Gm,Ir,Iq,Hu,Hi,Hh,Hg])(Q:Exit->Act->World->Prop)(hQ:∀(t:Nat->Value)X,Below W.1.size W X->Q .normal ⟨#[.p K 0,p1,p2,.p Bw 0,p4,.i (ML B.os y.kind y.name B.on:Nat),.bool (JD B y),p7,p8,p9,Eb,t 10,t 0,t 1,t 2,t 3,t 4,t 5,t 6,t 7,t 8,t 9,t 11,t 12,EK,FA,EU,E9,Ez,EV,Fa,Fb,E8,Fc,FM,FD,Fo,Fz,Fp,Ft,FC,Fw,Fy,Fs,Fu,Fx,Fq,FE,EY,EP,FQ,GP,GO,Gj,Gk,Gm,Ir,Iq,Hu,Hi,Hh,Hg],[]⟩ X):Code.wp prog (rg Tryz.f43 1) Q ⟨mk t0,[]⟩ W:=by
 refine OH Zc 15 mk t0 (lM K Bw B y a1 c1 W) Zc Zc ?_ rfl ?_ ?_;all_goals subst hmk
 .exact λ_ _ _ _ _ h _=>h
 .intro i hi t X KK hb hg hKK;rcases(show i=0\/i=1\/i=2\/i=3\/i=4\/i=5\/i=6\/i=7\/i=8\/i=9\/i=10\/i=11\/i=12\/i=13\/i=14 by omega)with rfl|rfl|rfl|rfl|rfl|rfl|rfl|rfl|rfl|rfl|rfl|rfl|rfl|rfl|rfl;.have h:=hKK (.p K 0) X rfl BF;refine Am rfl rfl ?_;clear hKK hg;go_simp;simpa[AF]using h
  .have e0:t 0=_:=hg 0 (AX rfl);have h:=hKK (.p K 0) X rfl BF;refine Am rfl rfl ?_;clear hKK hg;go_simp;simpa[AF,e0]using h
  .have e1:t 1=_:=hg 1 (AX rfl);have h:=hKK (.p K 2) X rfl BF;refine Am rfl rfl ?_;clear hKK hg;go_simp;simpa[AF,e1]using h
  .have e2:t 2=_:=hg 2 (AX rfl);have l0:=(hb.cell (p:=⟨K,2,none⟩) hK).trans hk;have zl:=Aa hK hb.size;have h:=hKK (.l a1 B.on c1) X rfl BF;refine Am rfl rfl ?_;clear hKK hg;go_simp;simpa[AF,e2]using h
  .have h:=hKK (.p Bw 1) X rfl BF;refine Am rfl rfl ?_;clear hKK hg;go_simp;simpa[AF]using h
  .have e4:t 4=_:=hg 4 (AX rfl);have l0:=(hb.cell (p:=⟨Bw,1,none⟩) hw.lt).trans (show W.cell? ⟨Bw,1,none⟩=some (.s y.kind)from hw.cell 1 Zf);have zl:=Aa hw.lt hb.size;have h:=hKK (.s y.kind) X rfl BF;refine Am rfl rfl ?_;clear hKK hg;go_simp;simpa[AF,e4]using h
  .have h:=hKK (.p Bw 2) X rfl BF;refine Am rfl rfl ?_;clear hKK hg;go_simp;simpa[AF]using h
  .have e6:t 6=_:=hg 6 (AX rfl);have l0:=(hb.cell (p:=⟨Bw,2,none⟩) hw.lt).trans (show W.cell? ⟨Bw,2,none⟩=some (.s y.name)from hw.cell 2 Zf);have zl:=Aa hw.lt hb.size;have h:=hKK (.s y.name) X rfl BF;refine Am rfl rfl ?_;clear hKK hg;go_simp;simpa[AF,e6]using h
  .have e5:t 5=_:=hg 5 (AX rfl);have e7:t 7=_:=hg 7 (AX rfl);have h:=hKK (.agg #[.s y.kind,.s y.name]) X rfl BF;refine Am rfl rfl ?_;clear hKK hg;go_simp;simpa[AF,e5,e7]using h
  .have e3:t 3=_:=hg 3 (AX rfl);have e8:t 8=_:=hg 8 (AX rfl);refine Am rfl rfl ?_;have HK:=Ai hKK;have HO:=Ai (ho.below hb Bj);clear hKK hg;go_simp;go_at_call 96;refine(SD B y a1 c1 X 0 W.1.size hb.size HO hok).mono ?_;rintro r Y⟨rfl,hbY⟩;have h:=HK _ Y rfl hbY;simpa[AF,e3,e8]using h
  .have e9:t 9=_:=hg 9 (AX rfl);have h:=hKK (.tuple #[.i (ML B.os y.kind y.name B.on:Nat),.bool (JD B y)]) X rfl BF;refine Am rfl rfl ?_;clear hKK hg;go_simp;simpa[AF,e9]using h
  .have e10:t 10=_:=hg 10 (AX rfl);have h:=hKK (.i (ML B.os y.kind y.name B.on:Nat)) X rfl BF;refine Am rfl rfl ?_;clear hKK hg;go_simp;simpa[AF,e10]using h
  .have e10:t 10=_:=hg 10 (AX rfl);have h:=hKK (.bool (JD B y)) X rfl BF;refine Am rfl rfl ?_;clear hKK hg;go_simp;simpa[AF,e10]using h
  .have e11:t 11=_:=hg 11 (AX rfl);have h:=hKK (.i (ML B.os y.kind y.name B.on:Nat)) X rfl BF;refine Am rfl rfl ?_;clear hKK hg;go_simp;simpa[AF,e11]using h
  .have e12:t 12=_:=hg 12 (AX rfl);have h:=hKK (.bool (JD B y)) X rfl BF;refine Am rfl rfl ?_;clear hKK hg;go_simp;simpa[AF,e12]using h
 .intro t X hb hG;have f13:t 13=.i (ML B.os y.kind y.name B.on:Nat):=hG 13 Za;have f14:t 14=.bool (JD B y):=hG 14 Za;dsimp only;rw[f13,f14];exact hQ t X hb
theorem Fg{X:World}{o:Obj}(K:Nat)(B:Bk)(v:Wr)(op:Int)(h:op=v.op):CK ((X.alloc (.cells #[.p K 0,.i op,.s v.kind,.s v.name,.i v.seen,.s v.text,.s v.hold,.i (ML B.os v.kind v.name B.on:Nat),.bool (JD B v)] 141)).alloc o) X.1.size K v (EW B v:Nat) (JD B v):=by
 subst h;have e:∀j,((X.alloc (.cells #[.p K 0,.i v.op,.s v.kind,.s v.name,.i v.seen,.s v.text,.s v.hold,.i (ML B.os v.kind v.name B.on:Nat),.bool (JD B v)] 141)).alloc o).cell? ⟨X.1.size,j,none⟩=#[.p K 0,.i v.op,.s v.kind,.s v.name,.i v.seen,.s v.text,.s v.hold,.i (ML B.os v.kind v.name B.on:Nat),.bool (JD B v)][j]?:=λj=>by rw[(Ae (X.alloc (.cells #[.p K 0,.i v.op,.s v.kind,.s v.name,.i v.seen,.s v.text,.s v.hold,.i (ML B.os v.kind v.name B.on:Nat),.bool (JD B v)] 141)) o).cell (p:=⟨X.1.size,j,none⟩) Ze];exact Cz rfl
 exact⟨e 0,e 1,e 2,e 3,e 4,e 5,e 6,e 7,e 8⟩
structure WS (w:World)(K g:Nat)(B:Bk)(v:Wr)(L:List EO)(a1:OA)(c1:Nat)(k1 k3 k4:Value):Prop where
 kr:AH w K 5 (Bg [.i B.now,k1,.l a1 B.on c1,k3,k4])row:XI w a1 g c1 L
 ol:L.map EO.ob=IL B.on B.os
 hold:∀e∈L,AB w 0 w.1.size e.A e.ob.hn e.ob.hs
 cap:∀e∈L,Du w e.ob.hn e.A e.C
 ok:Hp B v
theorem WS.dk{w X:World}{K g:Nat}{B:Bk}{v:Wr}{L:List EO}{a1:OA}{c1:Nat}{k1 k3 k4:Value}(h:WS w K g B v L a1 c1 k1 k3 k4)(hb:Below w.1.size w X){D:Nat}(hd:CK X D K v (EW B v:Nat) (JD B v))(hD:D<X.1.size):FO X D K g B v L a1 c1 (EW B v) (JD B v):=have r:=h.kr.below hb h.kr.lt
 ⟨hd,hD,r.lt,r.cell 0 Zb,r.cell 2 Zb,h.row.grow hb,h.ol,λe he=>((h.hold e he).below hb Bj).mono Bj hb.size,λe he=>(h.cap e he).grow hb.size,Jm h.ok,rfl,h.ok⟩
theorem WS.objs{w:World}{K g:Nat}{B:Bk}{v:Wr}{L:List EO}{a1:OA}{c1:Nat}{k1 k3 k4:Value}(h:WS w K g B v L a1 c1 k1 k3 k4):BH w 0 w.1.size a1 B.on B.os:=λi hi=>by
 have hlen:L.length=B.on:=by have:=congrArg List.length h.ol;simpa[IL]using this
 rcases h.row with⟨_,e2,_⟩|⟨e1,e2,_⟩;.rw[e2]at hlen;simp at hlen;omega
 .have h1:=e2.ob i Za;have h2:=h.hold _ (II (L:=L) (i:=i) Za);have h3:(Fm L i).ob=B.os i:=by have h4:=KY (L:=L) (i:=i) Za;rw[h.ol]at h4;simpa[IL,hi]using h4.symm
  rw[h3]at h1 h2;exact⟨g,0,_,_,e1,Ap _,e2.lt,by rw[Bc];exact h1,h2⟩
def Xy (B:Bk)(v:Wr)(L:List EO)(w X:World)(E:EO):Prop:=E.ob=C4 B v (BJ B v).ver/\(AB X 0 X.1.size E.A E.ob.hn E.ob.hs/\Du X E.ob.hn E.A E.C)/\(((v.op=2\/v.op=3)/\E.A=(Fm L (EW B v)).A/\E.C=(Fm L (EW B v)).C/\E.hb=(Fm L (EW B v)).hb)\/(¬v.op=2/\¬v.op=3/\w.1.size<=E.hb/\(E.ob.hn≠0->E.hb<X.1.size)/\AV X E.hb (E.hb+1) E.A E.ob.hn E.ob.hs))
theorem Xy.grow{B:Bk}{v:Wr}{L:List EO}{w X Y:World}{E:EO}(h:Xy B v L w X E)(hb:Below X.1.size X Y):Xy B v L w Y E:=by
 obtain⟨h1,h2,h3⟩:=h;refine⟨h1,⟨(h2.1.below hb Bj).mono Bj hb.size,h2.2.grow hb.size⟩,?_⟩;rcases h3 with h3|⟨q1,q2,q3,q4,q5⟩;.exact AD h3
 .exact Ax ⟨q1,q2,q3,λh0=>Aa (q4 h0) hb.size,q5.frP (Aq (P:=λ_=>False) hb) (λh0=>⟨id,q4 h0⟩)⟩
def G0 (B:Bk)(v:Wr)(L:List EO)(Pst:EO->World->World->Prop)(w:World)(e:Ending)(w':World):Prop:=(¬Bd B v=0/\e=.returned (.iface 146 (.agg #[.i v.op,.s v.kind,.s v.name,.i v.seen,.s v.text,.s v.hold,.iface 90 (.agg #[.i (Bd B v),.i (Gz B v)])]))/\Below w.1.size w w')\/(Bd B v=0/\e=.returned .nilIface/\∃E X,Below w.1.size w X/\Xy B v L w X E/\Pst E X w')
theorem O4{P:Prop}(h:P:=by
  have h1:=Fv.ok.now1;have hcc:Bd B v=0:=by unfold Bd;rw[if_pos hc,if_neg Za]
  have HE:=Ai (show Xy B v L w w9 E from⟨hE,hE2,by
   rcases hE3 with q|⟨q1,q2,q3,q4,q5⟩;.exact AD q
   .exact Ax ⟨q1,q2,AA Zd q3,q4,q5⟩⟩);have hm1:(B.now==1000000)=false:=by simpa using hm
  have Qf:=Ai hcc;clear hc hcc hm hov hE hE2 hE3 h1;go_wp2_with fail;refine(HP X.1.size _ E (K5.trans ((Ae w9 _).mono (Br zW9))) (DK9 _) zD9 (HE.grow (Ae w9 _)) Qf).mono ?_;rintro e w10 ⟨rfl,hst⟩;have FN:=Ai (show G0 B v L Pst w (.returned .nilIface) w10 from Ax ⟨Qf,rfl,E,_,K5.trans ((Ae w9 _).mono (Br zW9)),HE.grow (Ae w9 _),hst⟩);clear hst;go_wp2;go_ret;exact FN):P:=h
theorem NC{P:Prop}(h:P:=by go_wp2;go_ret;exact FN.out _ (by repeat(first|with_reducible exact K5.out|with_reducible refine AJ ?_ Zk _|with_reducible refine Ba ?_ Zk _))):P:=h
theorem Mn{P:Prop}(h:P:=by rw[hm]at kk0;clear hc hcc hm hov hE hE2 hE3;exact NC):P:=h
theorem qE (K g:Nat)(B:Bk)(v:Wr)(L:List EO)(a1:OA)(c1:Nat)(k1 k3 k4:Value)(Pst:EO->World->World->Prop)(w:World)(hin:WS w K g B v L a1 c1 k1 k3 k4)(hop:v.op=1)(hP:∀D X E,Below w.1.size w X->FO X D K g B v L a1 c1 (EW B v) (JD B v)->w.1.size<=D->Xy B v L w X E->Bd B v=0->Calls prog 102 #[.p D 0,oC E] X λe w'=>e=.returned (.tuple #[])/\Pst E X w'):Calls prog 43 #[.p K 0,.agg (vW v)] w (G0 B v L Pst w):=by
 have Fv:=Ai hin;have Gh:=Ai hop;have HP:=Ai hP;have zK:=hin.kr.lt;have hB:=Ae w (.cells (vW v) 40);have hk2:=hin.kr.cell 2 Zb;simp only[Bg,Af,Ag]at hk2;clear hin hop hP hk2;go_enter func43,ntmps43;go_wp2_with fail;refine Pu (λ_=>undef) K w.1.size B v a1 c1 _ Zd ((Fv.kr.below hB zK).cell 2 Zb) (AS (w:=w) (l:=[.i v.op,.s v.kind,.s v.name,.i v.seen,.s v.text,.s v.hold]) (t:=40) BF) ((Fv.objs.below hB Bj).up hB.size) Fv.ok rfl _ ?_;intro t X hbX;have rw0:=AS (w:=w) (l:=[.i v.op,.s v.kind,.s v.name,.i v.seen,.s v.text,.s v.hold]) (t:=40) hbX;have hbX':=hB.trans (hbX.mono Ze);have zX:w.1.size<X.1.size:=rw0.lt;rw[Gh.out]at rw0;have p0:=rw0.cell 0 Zf;have p1:=rw0.cell 1 Zf;have p2:=rw0.cell 2 Zf;have p3:=rw0.cell 3 Zf;have p4:=rw0.cell 4 Zf;have p5:=rw0.cell 5 Zf;simp only[Bg,Af,Ag]at p0 p1 p2 p3 p4 p5;have RW0:=Ai rw0;have Oy:=Ai hbX';clear hbX hbX' rw0 hB;go_wp2_with fail;have B2:=λo1 o2=>Oy.trans (((Ae X o1).trans ((Ae (X.alloc o1) o2).mono Ze)).mono (Br zX));refine(mT (Fv.dk (B2 _ _) (Fg K B v 1 Gh.symm) Zd) Gh).mono ?_;rintro e w9 ⟨hb9,hpost⟩;have z9:=hb9.size;have DK9:=Ai (λ(o:Obj)=>(Fv.dk (B2 _ _) (Fg K B v 1 Gh.symm) Zd).grow (hb9.trans ((Ae w9 o).mono hb9.size)));have zD9:w.1.size<=X.1.size:=Br zX;have K5:=Ai ((B2 _ _).trans (hb9.mono Zd));have r9:=(RW0.below (((Ae X _).trans ((Ae (X.alloc _) _).mono Ze)).trans (hb9.mono Zd)) RW0.lt);have kr9:=Fv.kr.below K5 zK;have zK9:K<w9.1.size:=kr9.lt;have zW9:w.1.size<w9.1.size:=r9.lt;clear p0 p1 p2 p3 p4 p5;have p0:=r9.cell 0 Zf;have p1:=r9.cell 1 Zf;have p2:=r9.cell 2 Zf;have p3:=r9.cell 3 Zf;have p4:=r9.cell 4 Zf;have p5:=r9.cell 5 Zf;simp only[Bg,Af,Ag]at p0 p1 p2 p3 p4 p5;have kk0:=kr9.cell 0 Zb;simp only[Bg,Af]at kk0;clear hb9 B2 r9 kr9;rcases hpost with⟨hc,rfl⟩|⟨hc,E,hE,rfl,hE2,hE3⟩
 .have hcc:Bd B v=CA B v:=if_neg hc;have FN:=Ai (show∀w',Below w.1.size w w'->G0 B v L Pst w (.returned (.iface 146 (.agg #[.i 1,.s v.kind,.s v.name,.i v.seen,.s v.text,.s v.hold,.iface 90 (.agg #[.i (CA B v),.i (Gz B v)])]))) w' from λw' hb=>AD ⟨by rw[hcc];exact hc,by rw[hcc,Gh.out],hb⟩);clear hc hcc;exact NC
 .have hov:Gz B v=0:=if_neg nH;by_cases hm:B.now=1000000
  .have hcc:Bd B v=8:=by unfold Bd;rw[if_pos hc,if_pos Za]
   have FN:=Ai (show∀w',Below w.1.size w w'->G0 B v L Pst w (.returned (.iface 146 (.agg #[.i 1,.s v.kind,.s v.name,.i v.seen,.s v.text,.s v.hold,.iface 90 (.agg #[.i 8,.i 0])]))) w' from λw' hb=>AD ⟨by rw[hcc];decide,by rw[hcc,Gh.out,hov],hb⟩);exact Mn
  .exact O4
theorem pC (K g:Nat)(B:Bk)(v:Wr)(L:List EO)(a1:OA)(c1:Nat)(k1 k3 k4:Value)(Pst:EO->World->World->Prop)(w:World)(hin:WS w K g B v L a1 c1 k1 k3 k4)(hop:v.op=2)(hP:∀D X E,Below w.1.size w X->FO X D K g B v L a1 c1 (EW B v) (JD B v)->w.1.size<=D->Xy B v L w X E->Bd B v=0->Calls prog 102 #[.p D 0,oC E] X λe w'=>e=.returned (.tuple #[])/\Pst E X w'):Calls prog 43 #[.p K 0,.agg (vW v)] w (G0 B v L Pst w):=by
 have Fv:=Ai hin;have Gh:=Ai hop;have HP:=Ai hP;have zK:=hin.kr.lt;have hB:=Ae w (.cells (vW v) 40);have hk2:=hin.kr.cell 2 Zb;simp only[Bg,Af,Ag]at hk2;clear hin hop hP hk2;go_enter func43,ntmps43;go_wp2_with fail;refine Pu (λ_=>undef) K w.1.size B v a1 c1 _ Zd ((Fv.kr.below hB zK).cell 2 Zb) (AS (w:=w) (l:=[.i v.op,.s v.kind,.s v.name,.i v.seen,.s v.text,.s v.hold]) (t:=40) BF) ((Fv.objs.below hB Bj).up hB.size) Fv.ok rfl _ ?_;intro t X hbX;have rw0:=AS (w:=w) (l:=[.i v.op,.s v.kind,.s v.name,.i v.seen,.s v.text,.s v.hold]) (t:=40) hbX;have hbX':=hB.trans (hbX.mono Ze);have zX:w.1.size<X.1.size:=rw0.lt;rw[Gh.out]at rw0;have p0:=rw0.cell 0 Zf;have p1:=rw0.cell 1 Zf;have p2:=rw0.cell 2 Zf;have p3:=rw0.cell 3 Zf;have p4:=rw0.cell 4 Zf;have p5:=rw0.cell 5 Zf;simp only[Bg,Af,Ag]at p0 p1 p2 p3 p4 p5;have RW0:=Ai rw0;have Oy:=Ai hbX';clear hbX hbX' rw0 hB;go_wp2_with fail;have B2:=λo1 o2=>Oy.trans (((Ae X o1).trans ((Ae (X.alloc o1) o2).mono Ze)).mono (Br zX));refine(kI (Fv.dk (B2 _ _) (Fg K B v 2 Gh.symm) Zd) Gh).mono ?_;rintro e w9 ⟨hb9,hpost⟩;have z9:=hb9.size;have DK9:=Ai (λ(o:Obj)=>(Fv.dk (B2 _ _) (Fg K B v 2 Gh.symm) Zd).grow (hb9.trans ((Ae w9 o).mono hb9.size)));have zD9:w.1.size<=X.1.size:=Br zX;have K5:=Ai ((B2 _ _).trans (hb9.mono Zd));have r9:=(RW0.below (((Ae X _).trans ((Ae (X.alloc _) _).mono Ze)).trans (hb9.mono Zd)) RW0.lt);have kr9:=Fv.kr.below K5 zK;have zK9:K<w9.1.size:=kr9.lt;have zW9:w.1.size<w9.1.size:=r9.lt;clear p0 p1 p2 p3 p4 p5;have p0:=r9.cell 0 Zf;have p1:=r9.cell 1 Zf;have p2:=r9.cell 2 Zf;have p3:=r9.cell 3 Zf;have p4:=r9.cell 4 Zf;have p5:=r9.cell 5 Zf;simp only[Bg,Af,Ag]at p0 p1 p2 p3 p4 p5;have kk0:=kr9.cell 0 Zb;simp only[Bg,Af]at kk0;clear hb9 B2 r9 kr9;rcases hpost with⟨hc,rfl⟩|⟨hc,E,hE,rfl,hE2,hE3⟩
 .have hcc:Bd B v=CA B v:=if_neg hc;have FN:=Ai (show∀w',Below w.1.size w w'->G0 B v L Pst w (.returned (.iface 146 (.agg #[.i 2,.s v.kind,.s v.name,.i v.seen,.s v.text,.s v.hold,.iface 90 (.agg #[.i (CA B v),.i (Gz B v)])]))) w' from λw' hb=>AD ⟨by rw[hcc];exact hc,by rw[hcc,Gh.out],hb⟩);clear hc hcc;exact NC
 .have hov:Gz B v=0:=if_neg nH;by_cases hm:B.now=1000000
  .have hcc:Bd B v=8:=by unfold Bd;rw[if_pos hc,if_pos Za]
   have FN:=Ai (show∀w',Below w.1.size w w'->G0 B v L Pst w (.returned (.iface 146 (.agg #[.i 2,.s v.kind,.s v.name,.i v.seen,.s v.text,.s v.hold,.iface 90 (.agg #[.i 8,.i 0])]))) w' from λw' hb=>AD ⟨by rw[hcc];decide,by rw[hcc,Gh.out,hov],hb⟩);exact Mn
  .exact O4
theorem qN (K g:Nat)(B:Bk)(v:Wr)(L:List EO)(a1:OA)(c1:Nat)(k1 k3 k4:Value)(Pst:EO->World->World->Prop)(w:World)(hin:WS w K g B v L a1 c1 k1 k3 k4)(hop:v.op=3)(hP:∀D X E,Below w.1.size w X->FO X D K g B v L a1 c1 (EW B v) (JD B v)->w.1.size<=D->Xy B v L w X E->Bd B v=0->Calls prog 102 #[.p D 0,oC E] X λe w'=>e=.returned (.tuple #[])/\Pst E X w'):Calls prog 43 #[.p K 0,.agg (vW v)] w (G0 B v L Pst w):=by
 have Fv:=Ai hin;have Gh:=Ai hop;have HP:=Ai hP;have zK:=hin.kr.lt;have hB:=Ae w (.cells (vW v) 40);have hk2:=hin.kr.cell 2 Zb;simp only[Bg,Af,Ag]at hk2;clear hin hop hP hk2;go_enter func43,ntmps43;go_wp2_with fail;refine Pu (λ_=>undef) K w.1.size B v a1 c1 _ Zd ((Fv.kr.below hB zK).cell 2 Zb) (AS (w:=w) (l:=[.i v.op,.s v.kind,.s v.name,.i v.seen,.s v.text,.s v.hold]) (t:=40) BF) ((Fv.objs.below hB Bj).up hB.size) Fv.ok rfl _ ?_;intro t X hbX;have rw0:=AS (w:=w) (l:=[.i v.op,.s v.kind,.s v.name,.i v.seen,.s v.text,.s v.hold]) (t:=40) hbX;have hbX':=hB.trans (hbX.mono Ze);have zX:w.1.size<X.1.size:=rw0.lt;rw[Gh.out]at rw0;have p0:=rw0.cell 0 Zf;have p1:=rw0.cell 1 Zf;have p2:=rw0.cell 2 Zf;have p3:=rw0.cell 3 Zf;have p4:=rw0.cell 4 Zf;have p5:=rw0.cell 5 Zf;simp only[Bg,Af,Ag]at p0 p1 p2 p3 p4 p5;have RW0:=Ai rw0;have Oy:=Ai hbX';clear hbX hbX' rw0 hB;go_wp2_with fail;have B2:=λo1 o2=>Oy.trans (((Ae X o1).trans ((Ae (X.alloc o1) o2).mono Ze)).mono (Br zX));refine(lI (Fv.dk (B2 _ _) (Fg K B v 3 Gh.symm) Zd) Gh).mono ?_;rintro e w9 ⟨hb9,hpost⟩;have z9:=hb9.size;have DK9:=Ai (λ(o:Obj)=>(Fv.dk (B2 _ _) (Fg K B v 3 Gh.symm) Zd).grow (hb9.trans ((Ae w9 o).mono hb9.size)));have zD9:w.1.size<=X.1.size:=Br zX;have K5:=Ai ((B2 _ _).trans (hb9.mono Zd));have r9:=(RW0.below (((Ae X _).trans ((Ae (X.alloc _) _).mono Ze)).trans (hb9.mono Zd)) RW0.lt);have kr9:=Fv.kr.below K5 zK;have zK9:K<w9.1.size:=kr9.lt;have zW9:w.1.size<w9.1.size:=r9.lt;clear p0 p1 p2 p3 p4 p5;have p0:=r9.cell 0 Zf;have p1:=r9.cell 1 Zf;have p2:=r9.cell 2 Zf;have p3:=r9.cell 3 Zf;have p4:=r9.cell 4 Zf;have p5:=r9.cell 5 Zf;simp only[Bg,Af,Ag]at p0 p1 p2 p3 p4 p5;have kk0:=kr9.cell 0 Zb;simp only[Bg,Af]at kk0;clear hb9 B2 r9 kr9;rcases hpost with⟨hc,rfl⟩|⟨hc,E,hE,rfl,hE2,hE3⟩
 .have hcc:Bd B v=CA B v:=if_neg hc;have FN:=Ai (show∀w',Below w.1.size w w'->G0 B v L Pst w (.returned (.iface 146 (.agg #[.i 3,.s v.kind,.s v.name,.i v.seen,.s v.text,.s v.hold,.iface 90 (.agg #[.i (CA B v),.i (Gz B v)])]))) w' from λw' hb=>AD ⟨by rw[hcc];exact hc,by rw[hcc,Gh.out],hb⟩);clear hc hcc;exact NC
 .have hov:Gz B v=0:=if_neg nH;by_cases hm:B.now=1000000
  .have hcc:Bd B v=8:=by unfold Bd;rw[if_pos hc,if_pos Za]
   have FN:=Ai (show∀w',Below w.1.size w w'->G0 B v L Pst w (.returned (.iface 146 (.agg #[.i 3,.s v.kind,.s v.name,.i v.seen,.s v.text,.s v.hold,.iface 90 (.agg #[.i 8,.i 0])]))) w' from λw' hb=>AD ⟨by rw[hcc];decide,by rw[hcc,Gh.out,hov],hb⟩);exact Mn
  .exact O4
theorem pT (K g:Nat)(B:Bk)(v:Wr)(L:List EO)(a1:OA)(c1:Nat)(k1 k3 k4:Value)(Pst:EO->World->World->Prop)(w:World)(hin:WS w K g B v L a1 c1 k1 k3 k4)(hop:v.op=4)(hP:∀D X E,Below w.1.size w X->FO X D K g B v L a1 c1 (EW B v) (JD B v)->w.1.size<=D->Xy B v L w X E->Bd B v=0->Calls prog 102 #[.p D 0,oC E] X λe w'=>e=.returned (.tuple #[])/\Pst E X w'):Calls prog 43 #[.p K 0,.agg (vW v)] w (G0 B v L Pst w):=by
 have Fv:=Ai hin;have Gh:=Ai hop;have HP:=Ai hP;have zK:=hin.kr.lt;have hB:=Ae w (.cells (vW v) 40);have hk2:=hin.kr.cell 2 Zb;simp only[Bg,Af,Ag]at hk2;clear hin hop hP hk2;go_enter func43,ntmps43;go_wp2_with fail;refine Pu (λ_=>undef) K w.1.size B v a1 c1 _ Zd ((Fv.kr.below hB zK).cell 2 Zb) (AS (w:=w) (l:=[.i v.op,.s v.kind,.s v.name,.i v.seen,.s v.text,.s v.hold]) (t:=40) BF) ((Fv.objs.below hB Bj).up hB.size) Fv.ok rfl _ ?_;intro t X hbX;have rw0:=AS (w:=w) (l:=[.i v.op,.s v.kind,.s v.name,.i v.seen,.s v.text,.s v.hold]) (t:=40) hbX;have hbX':=hB.trans (hbX.mono Ze);have zX:w.1.size<X.1.size:=rw0.lt;rw[Gh.out]at rw0;have p0:=rw0.cell 0 Zf;have p1:=rw0.cell 1 Zf;have p2:=rw0.cell 2 Zf;have p3:=rw0.cell 3 Zf;have p4:=rw0.cell 4 Zf;have p5:=rw0.cell 5 Zf;simp only[Bg,Af,Ag]at p0 p1 p2 p3 p4 p5;have RW0:=Ai rw0;have Oy:=Ai hbX';clear hbX hbX' rw0 hB;go_wp2_with fail;have B2:=λo1 o2=>Oy.trans (((Ae X o1).trans ((Ae (X.alloc o1) o2).mono Ze)).mono (Br zX));refine(j8 (Fv.dk (B2 _ _) (Fg K B v 4 Gh.symm) Zd) Gh).mono ?_;rintro e w9 ⟨hb9,hpost⟩;have z9:=hb9.size;have DK9:=Ai (λ(o:Obj)=>(Fv.dk (B2 _ _) (Fg K B v 4 Gh.symm) Zd).grow (hb9.trans ((Ae w9 o).mono hb9.size)));have zD9:w.1.size<=X.1.size:=Br zX;have K5:=Ai ((B2 _ _).trans (hb9.mono Zd));have r9:=(RW0.below (((Ae X _).trans ((Ae (X.alloc _) _).mono Ze)).trans (hb9.mono Zd)) RW0.lt);have kr9:=Fv.kr.below K5 zK;have zK9:K<w9.1.size:=kr9.lt;have zW9:w.1.size<w9.1.size:=r9.lt;clear p0 p1 p2 p3 p4 p5;have p0:=r9.cell 0 Zf;have p1:=r9.cell 1 Zf;have p2:=r9.cell 2 Zf;have p3:=r9.cell 3 Zf;have p4:=r9.cell 4 Zf;have p5:=r9.cell 5 Zf;simp only[Bg,Af,Ag]at p0 p1 p2 p3 p4 p5;have kk0:=kr9.cell 0 Zb;simp only[Bg,Af]at kk0;clear hb9 B2 r9 kr9;rcases hpost with⟨hc,rfl⟩|⟨hc,E,hE,rfl,hE2,hE3⟩
 .have hcc:Bd B v=CA B v:=if_neg hc;have FN:=Ai (show∀w',Below w.1.size w w'->G0 B v L Pst w (.returned (.iface 146 (.agg #[.i 4,.s v.kind,.s v.name,.i v.seen,.s v.text,.s v.hold,.iface 90 (.agg #[.i (CA B v),.i (Gz B v)])]))) w' from λw' hb=>AD ⟨by rw[hcc];exact hc,by rw[hcc,Gh.out],hb⟩);clear hc hcc;exact NC
 .have hov:Gz B v=0:=if_neg nH;by_cases hm:B.now=1000000
  .have hcc:Bd B v=8:=by unfold Bd;rw[if_pos hc,if_pos Za]
   have FN:=Ai (show∀w',Below w.1.size w w'->G0 B v L Pst w (.returned (.iface 146 (.agg #[.i 4,.s v.kind,.s v.name,.i v.seen,.s v.text,.s v.hold,.iface 90 (.agg #[.i 8,.i 0])]))) w' from λw' hb=>AD ⟨by rw[hcc];decide,by rw[hcc,Gh.out,hov],hb⟩);exact Mn
  .exact O4
theorem qZ (K g:Nat)(B:Bk)(v:Wr)(L:List EO)(a1:OA)(c1:Nat)(k1 k3 k4:Value)(Pst:EO->World->World->Prop)(w:World)(hin:WS w K g B v L a1 c1 k1 k3 k4)(hop:v.op=5)(hP:∀D X E,Below w.1.size w X->FO X D K g B v L a1 c1 (EW B v) (JD B v)->w.1.size<=D->Xy B v L w X E->Bd B v=0->Calls prog 102 #[.p D 0,oC E] X λe w'=>e=.returned (.tuple #[])/\Pst E X w'):Calls prog 43 #[.p K 0,.agg (vW v)] w (G0 B v L Pst w):=by
 have Fv:=Ai hin;have Gh:=Ai hop;have HP:=Ai hP;have zK:=hin.kr.lt;have hB:=Ae w (.cells (vW v) 40);have hk2:=hin.kr.cell 2 Zb;simp only[Bg,Af,Ag]at hk2;clear hin hop hP hk2;go_enter func43,ntmps43;go_wp2_with fail;refine Pu (λ_=>undef) K w.1.size B v a1 c1 _ Zd ((Fv.kr.below hB zK).cell 2 Zb) (AS (w:=w) (l:=[.i v.op,.s v.kind,.s v.name,.i v.seen,.s v.text,.s v.hold]) (t:=40) BF) ((Fv.objs.below hB Bj).up hB.size) Fv.ok rfl _ ?_;intro t X hbX;have rw0:=AS (w:=w) (l:=[.i v.op,.s v.kind,.s v.name,.i v.seen,.s v.text,.s v.hold]) (t:=40) hbX;have hbX':=hB.trans (hbX.mono Ze);have zX:w.1.size<X.1.size:=rw0.lt;rw[Gh.out]at rw0;have p0:=rw0.cell 0 Zf;have p1:=rw0.cell 1 Zf;have p2:=rw0.cell 2 Zf;have p3:=rw0.cell 3 Zf;have p4:=rw0.cell 4 Zf;have p5:=rw0.cell 5 Zf;simp only[Bg,Af,Ag]at p0 p1 p2 p3 p4 p5;have RW0:=Ai rw0;have Oy:=Ai hbX';clear hbX hbX' rw0 hB;go_wp2_with fail;have B2:=λo1 o2=>Oy.trans (((Ae X o1).trans ((Ae (X.alloc o1) o2).mono Ze)).mono (Br zX));refine(kK (Fv.dk (B2 _ _) (Fg K B v 5 Gh.symm) Zd) Gh).mono ?_;rintro e w9 ⟨hb9,hpost⟩;have z9:=hb9.size;have DK9:=Ai (λ(o:Obj)=>(Fv.dk (B2 _ _) (Fg K B v 5 Gh.symm) Zd).grow (hb9.trans ((Ae w9 o).mono hb9.size)));have zD9:w.1.size<=X.1.size:=Br zX;have K5:=Ai ((B2 _ _).trans (hb9.mono Zd));have r9:=(RW0.below (((Ae X _).trans ((Ae (X.alloc _) _).mono Ze)).trans (hb9.mono Zd)) RW0.lt);have kr9:=Fv.kr.below K5 zK;have zK9:K<w9.1.size:=kr9.lt;have zW9:w.1.size<w9.1.size:=r9.lt;clear p0 p1 p2 p3 p4 p5;have p0:=r9.cell 0 Zf;have p1:=r9.cell 1 Zf;have p2:=r9.cell 2 Zf;have p3:=r9.cell 3 Zf;have p4:=r9.cell 4 Zf;have p5:=r9.cell 5 Zf;simp only[Bg,Af,Ag]at p0 p1 p2 p3 p4 p5;have kk0:=kr9.cell 0 Zb;simp only[Bg,Af]at kk0;clear hb9 B2 r9 kr9;rcases hpost with⟨hc,rfl⟩|⟨hc,E,hE,rfl,hE2,hE3⟩
 .have hcc:Bd B v=CA B v:=if_neg hc;have FN:=Ai (show∀w',Below w.1.size w w'->G0 B v L Pst w (.returned (.iface 146 (.agg #[.i 5,.s v.kind,.s v.name,.i v.seen,.s v.text,.s v.hold,.iface 90 (.agg #[.i (CA B v),.i (Gz B v)])]))) w' from λw' hb=>AD ⟨by rw[hcc];exact hc,by rw[hcc,Gh.out],hb⟩);clear hc hcc;exact NC
 .have hov:Gz B v=0:=if_neg nH;by_cases hm:B.now=1000000
  .have hcc:Bd B v=8:=by unfold Bd;rw[if_pos hc,if_pos Za]
   have FN:=Ai (show∀w',Below w.1.size w w'->G0 B v L Pst w (.returned (.iface 146 (.agg #[.i 5,.s v.kind,.s v.name,.i v.seen,.s v.text,.s v.hold,.iface 90 (.agg #[.i 8,.i 0])]))) w' from λw' hb=>AD ⟨by rw[hcc];decide,by rw[hcc,Gh.out,hov],hb⟩);exact Mn
  .exact O4
end Go.Proofs.YtllmmkchokkaaaaGreatDoor
namespace Go.Proofs.YtllmmkchokkaaaaGreatDoor
open Go.RowKit Go.Maps Go.Proofs.Tryz
theorem NP (L:List EO)(k:Nat)(hk:k<=L.length):(CI L).take (k*7)=CI (L.take k):=by
 have h:CI L=CI (L.take k)++CI (L.drop k):=by rw[<-Fi,Jx]
 rw[h,List.take_append_of_le_length (by rw[GC,Db];omega),FG (by rw[GC,Db];omega)]
theorem NK (L:List EO)(k:Nat)(hk:k<=L.length):(CI L).drop (k*7)=CI (L.drop k):=by
 have h:CI L=CI (L.take k)++CI (L.drop k):=by rw[<-Fi,Jx]
 have hl:(CI (L.take k)).length=k*7:=by rw[GC,Db];omega
 rw[h,<-hl,List.drop_left]
theorem ZL (L:List EO)(k:Nat)(hk:k<L.length):Xg (CI L) k 7=CI (L.eraseIdx k):=by unfold Xg;rw[NP L k Za,NK L (k+1) hk,<-Fi,List.eraseIdx_eq_take_drop_succ]
theorem fK (L:List EO)(k:Nat)(e:EO)(hk:k<=L.length):Xe (CI L) (k*7) (Vr e)=CI (L.take k++e::L.drop k):=by unfold Xe;rw[NP L k hk,NK L k hk,List.append_assoc,Fi];rfl
theorem qG{w:World}{ad:OA}{g cap:Nat}{L:List EO}(h:XI w ad g cap L):DT w 7 ad g 0 L.length cap (CI L):=⟨GC L,PD L,by
  rcases h with⟨h1,h2,h3⟩|⟨h1,h2,h3⟩;.exact AD ⟨h1,by rw[h2];rfl,h3⟩
  .exact Ax ⟨h1,h3,h2.lt,λt u hu=>by rw[Bc];exact h2.cells hu⟩⟩
def jW (B:Bk)(E:EO):EO:=⟨⟨E.ob.kind,E.ob.name,B.now+1,E.ob.born,E.ob.text,E.ob.ending,E.ob.hn,E.ob.hs⟩,E.A,E.C,E.hb⟩
def L1 (B:Bk)(v:Wr)(L:List EO):List EO:=if JD B v then L.eraseIdx (EW B v)else L
def L2 (B:Bk)(v:Wr)(L:List EO)(E:EO):List EO:=if CS B v then L1 B v L else(L1 B v L).take (EW B v)++jW B E::(L1 B v L).drop (EW B v)
theorem XP (x:Ob)(ve:Int):CX ⟨x.kind,x.name,ve,x.born,x.text,x.ending,x.hn,x.hs⟩=CX x:=rfl
theorem Vf (B:Bk)(v:Wr)(a b:Int):CX (C4 B v a)=CX (C4 B v b):=by
 unfold C4;split;.rfl
 .split;.rfl
  .split;.rfl
   .split<;>rfl
theorem aZ{B:Bk}{v:Wr}(hf:Cw B.os v.kind v.name B.on=false)(hc:Bd B v=0):CS B v=false:=by
 have h0:CA B v=0:=by
  by_cases h:CA B v=0;.exact h
  .unfold Bd at hc;rw[if_neg h]at hc;exact absurd hc h
 have h1:v.op=1:=by
  by_cases h:v.op=1;.exact h
  .rw[(IQ hf h).1]at h0;cases h0
 unfold CS C7 C4;rw[if_pos h1];rfl
def jB (K:Nat)(B:Bk)(v:Wr)(L:List EO)(k1' k4:Value)(m:Nat)(ch:List Value)(E:EO)(X w':World):Prop:=S8 K E.ob B.now (CS B v) k1' k4 (L2 B v L E).length m (CI (L2 B v L E)) ch X w'
theorem pQ{w:World}{K g:Nat}{B:Bk}{v:Wr}{L:List EO}{a1:OA}{c1:Nat}{k1 k1' k3 k4:Value}{m:Nat}{ch:List Value}(hin:WS w K g B v L a1 c1 k1 k3 k4)(hgK:¬g=K)(hkeep:∀e∈L,∀X,AP (λq=>q=K) w X->AB X 0 X.1.size e.A e.ob.hn e.ob.hs)(TE:∀(E:EO)(X0 X:World)(gn:Bool)(A':OA)(C':Nat)(o:Value),Below w.1.size w X0->AP (λq=>q=K) X0 X->AH X K 5 (Bg [.i (B.now+1),k1,o,k3,k4])->Calls prog 161 #[.p K 0,.agg #[.i (B.now+1),.bool gn,.s E.ob.kind,.s E.ob.name,.i (B.now+1),.i E.ob.born,.s E.ob.text,.bool E.ob.ending,.l A' E.ob.hn C']] X λe w'=>e=.returned (.tuple #[])/\∃a4 c4,w'.ownsRow X.1.size 120 9 (.l a4 m c4) m (ch++[.i (B.now+1),.bool gn,.s E.ob.kind,.s E.ob.name,.i (B.now+1),.i E.ob.born,.s E.ob.text,.bool E.ob.ending,.l A' E.ob.hn C'])/\AH w' K 5 (Bg [.i (B.now+1),k1',o,.l a4 m c4,k4])/\AP (λq=>q=K) X w'):∀D X E,Below w.1.size w X->FO X D K g B v L a1 c1 (EW B v) (JD B v)->w.1.size<=D->Xy B v L w X E->Bd B v=0->Calls prog 102 #[.p D 0,oC E] X λe w'=>e=.returned (.tuple #[])/\jB K B v L k1' k4 m ch E X w':=by
 intro D X E hb hd hD hE hcode;have hok:=hin.ok;have hon:=hok.on;have hlen:=hd.len;have kr:=hin.kr.below hb hin.kr.lt;have zK:=hin.kr.lt;have hrow:=qG hd.row;rw[hlen]at hrow;have hEhn:(E.ob.hn:Int)<=1000:=by
  rw[hE.1];have h5:∀o:Ob,BJ B v=o->o.hn<=5:=λo ho=>by rw[<-ho];unfold BJ Cv;cases hx:JS B.os v.kind v.name B.on with
   |none=>exact Ap _
   |some i=>exact(hok.hold i (ND hx).1).1
  have h6:=h5 _ rfl;unfold C4;split;.dsimp only;split<;>omega
  .split;.dsimp only;omega
   .split;.dsimp only;omega
    .split<;>(dsimp only;omega)
 have hA:∀Y,AP (λq=>q=K) X Y->AB Y 0 Y.1.size E.A E.ob.hn E.ob.hs:=λY hf=>by
  obtain⟨h1,h2,h3⟩:=hE;rcases h3 with⟨q0,q1,q2,q3⟩|⟨q1,q2,q3,q4,q5⟩
  .have hfo:JD B v=true:=by cases hx:JD B v with
    |true=>rfl
    |false=>rw[hx]at hd;have:=(IQ hd.no.2 Za).1;unfold Bd at hcode;rw[this,if_neg Zb]at hcode;exact absurd hcode Zb
   rw[hfo]at hd;have hy:=hd.yes;have hm:=hd.cells.2.2.2;have h4:=hkeep _ hm Y ((Aq hb).trans hf);rw[hd.at hy.1,<-hy.2.1]at h4;rw[q1,h1];have e1:(C4 B v (BJ B v).ver).hn=(BJ B v).hn/\(C4 B v (BJ B v).ver).hs=(BJ B v).hs:=by rcases q0 with q|q<;>simp[C4,q]
   rw[e1.1,e1.2];exact h4
  .exact(q5.frP hf (λh0=>⟨Za,q4 h0⟩)).inW (λh0=>Aa (q4 h0) hf.size)
 have hst:CX ⟨E.ob.kind,E.ob.name,B.now+1,E.ob.born,E.ob.text,E.ob.ending,E.ob.hn,E.ob.hs⟩=!CS B v:=by rw[XP,hE.1];unfold CS C7;rw[Vf B v _ (B.now+1)];simp
 have hbK:¬g=K:=hgK;cases hfo:JD B v with
 |true=>have hd':=hd;rw[hfo]at hd';have hp:=hd'.yes.1;cases hgn:CS B v with
  |false=>
   rw[hgn]at hst;refine(rJ D K v (EW B v) E.ob E.A E.C B.now k1 k1' k3 k4 a1 g 0 B.on c1 (CI L) ch m X hd.hD Za hbK hd'.dk kr hrow hp Za hEhn hA hok.now0 hok.now1 hst (λY A' C' o hf hr=>TE E X Y false A' C' o hb hf hr)).mono ?_;rintro e w' ⟨rfl,hP⟩;refine⟨rfl,?_⟩;unfold jB L2 L1;rw[hgn,if_neg Zb,hfo,if_pos rfl];have hl1:(L.eraseIdx (EW B v)).length=B.on-1:=by rw[List.length_eraseIdx,if_pos Za,hlen]
   rw[ZL L _ Za]at hP;have h9:=fK (L.eraseIdx (EW B v)) (EW B v) (jW B E) Za;have hl2:((L.eraseIdx (EW B v)).take (EW B v)++jW B E::(L.eraseIdx (EW B v)).drop (EW B v)).length=B.on-1+1:=by simp[hl1];omega
   rw[<-h9,hl2];exact hP
  |true=>
   rw[hgn]at hst;refine(rK D K v (EW B v) E.ob E.A E.C B.now k1 k1' k3 k4 a1 g 0 B.on c1 (CI L) ch m X hd.hD Za hbK hd'.dk kr hrow hp Za hEhn hA hok.now0 hok.now1 hst (λY A' C' o hf hr=>TE E X Y true A' C' o hb hf hr)).mono ?_;rintro e w' ⟨rfl,hP⟩;refine⟨rfl,?_⟩;unfold jB L2 L1;rw[hgn,if_pos rfl,hfo,if_pos rfl];have hl1:(L.eraseIdx (EW B v)).length=B.on-1:=by rw[List.length_eraseIdx,if_pos Za,hlen]
   rw[ZL L _ Za]at hP;rw[hl1];exact hP
 |false=>
  have hd':=hd;rw[hfo]at hd';have hgn:=aZ hd'.no.2 hcode;rw[hgn]at hst;refine(pE D K v (EW B v) E.ob E.A E.C B.now k1 k1' k3 k4 a1 g 0 B.on c1 (CI L) ch m X hd.hD Za hbK hd'.dk kr hrow hd.pa.1 Za hEhn hA hok.now0 hok.now1 hst (λY A' C' o hf hr=>TE E X Y false A' C' o hb hf hr)).mono ?_;rintro e w' ⟨rfl,hP⟩;refine⟨rfl,?_⟩;unfold jB L2 L1;rw[hgn,if_neg Zb,hfo,if_neg Zb];have hpl:=hd.pa.1;have h9:=fK L (EW B v) (jW B E) Za;have hl2:(L.take (EW B v)++jW B E::L.drop (EW B v)).length=B.on+1:=by simp[hlen];omega
  rw[<-h9,hl2];exact hP
end Go.Proofs.YtllmmkchokkaaaaGreatDoor
namespace Go.Proofs.YtllmmkchokkaaaaGreatDoor
open Go.RowKit Go.Maps Go.Proofs.Tryz
/-! the objects behind a write,as a list -/
theorem aN (B:Bk)(v:Wr)(a b:Int):(⟨(C4 B v a).kind,(C4 B v a).name,b,(C4 B v a).born,(C4 B v a).text,(C4 B v a).ending,(C4 B v a).hn,(C4 B v a).hs⟩:Ob)=C4 B v b:=by
 unfold C4;split;.rfl
 .split;.rfl
  .split;.rfl
   .split<;>rfl
theorem fS{B:Bk}{v:Wr}{E:EO}{a:Int}(h:E.ob=C4 B v a):(jW B E).ob=C7 B v:=by unfold jW;dsimp only;rw[h];exact aN B v a _
theorem Mg (p:EO->Bool):∀(L:List EO)(k:Nat),k<L.length->(∀j,j<L.length->p (Fm L j)=!decide (j=k))->L.filter p=L.eraseIdx k
 |[],k,h,_=>absurd h (Al _)
 |e::L,0,_,h=>by
  have h0:p e=false:=by simpa[Fm]using h 0 Ze
  have h1:L.filter p=L:=List.filter_eq_self.2 λf hf=>by obtain⟨i,hi,rfl⟩:=Mi hf;have:=h (i+1) (by simpa using hi);simpa[Fm]using this
  rw[List.filter_cons_of_neg (by rw[h0];decide),h1];rfl
 |e::L,k+1,hk,h=>by
  have h0:p e=true:=by simpa[Fm]using h 0 Ze
  have h1:=Mg p L k (by simpa using hk) λj hj=>by have:=h (j+1) (by simpa using hj);simpa[Fm]using this
  rw[List.filter_cons_of_pos h0,h1];rfl
theorem TW{x z:Ob}(h1:x.kind.toList=z.kind.toList)(h2:x.name.toList=z.name.toList):DH x z=false:=by unfold DH;rw[if_pos h1];exact GJ h2
theorem Wq{B:Bk}{v:Wr}(hf:Cw B.os v.kind v.name B.on=true\/v.op=1):(C7 B v).kind=v.kind/\(C7 B v).name=v.name:=by
 by_cases h1:v.op=1;.unfold C7 C4;rw[if_pos h1];exact⟨rfl,rfl⟩
 .have hf:Cw B.os v.kind v.name B.on=true:=hf.resolve_right h1;have hk:(BJ B v).kind=v.kind/\(BJ B v).name=v.name:=by unfold BJ Cv;unfold Cw at hf;cases hx:JS B.os v.kind v.name B.on with
   |none=>rw[hx]at hf;cases hf
   |some i=>exact(ND hx).2
  unfold C7 C4;rw[if_neg h1];split;.exact hk
  .split;.exact hk
   .split<;>exact hk
theorem KB{B:Bk}{v:Wr}(hc:Bd B v=0):Cw B.os v.kind v.name B.on=true\/v.op=1:=by cases hf:Cw B.os v.kind v.name B.on with
 |true=>exact AD rfl
 |false=>
  refine Ax ?_;by_cases h:v.op=1;.exact h
  .have:=(IQ hf h).1;unfold Bd at hc;rw[this,if_neg Zb]at hc;exact absurd hc Zb
theorem pI{B:Bk}{v:Wr}{L:List EO}{E:EO}{a:Int}(hok:Hp B v)(hl:L.map EO.ob=IL B.on B.os)(hE:E.ob=C4 B v a)(hc:Bd B v=0):(L2 B v L E).map EO.ob=Rq (C7 B v) (CS B v) (IL B.on B.os):=by
 have hlen:L.length=B.on:=by have:=congrArg List.length hl;simpa[IL]using this
 have hat:∀i,i<B.on->(Fm L i).ob=B.os i:=λi hi=>by have h4:=KY (L:=L) (i:=i) Za;rw[hl]at h4;simpa[IL,hi]using h4.symm
 obtain⟨k1,k2⟩:=Wq (KB hc);have hpa:=Jm hok;have hbef:∀j,j<B.on->(DH (B.os j) (C7 B v)=true↔GI B.os v.kind v.name j<0):=λj _=>by rw[Q0 B.os v.kind v.name j (C7 B v) k1 k2];exact(Hv _ _).symm
 have hoth:∀j,j<B.on->Dt (C7 B v) (B.os j)=!decide (GI B.os v.kind v.name j=0):=λj _=>by unfold Dt;rw[<-Q0 B.os v.kind v.name j (C7 B v) k1 k2];simp
 have huniq:∀i j,i<j->j<B.on->GI B.os v.kind v.name i=0->¬GI B.os v.kind v.name j=0:=λi j h1 h2 h3 h4=>by have h5:=hok.asc i j h1 h2;have e3:=(Lx _ _ _ _).1 h3;have e4:=(Lx _ _ _ _).1 h4;rw[TW (by rw[e3.1,e4.1]) (by rw[e3.2,e4.2])]at h5;cases h5
 have hfl:sI (C7 B v) L=L1 B v L:=by unfold sI L1;cases hfo:JD B v with
  |true=>
   rw[if_pos rfl];unfold JD at hfo;rw[AG]at hfo;have h1:EW B v<B.on:=of_decide_eq_true hfo.1;have h2:GI B.os v.kind v.name (EW B v)=0:=of_decide_eq_true hfo.2;refine Mg _ L _ Za λj hj=>?_;rw[hat j Za,hoth j Za];congr 1;by_cases e:j=EW B v;.subst e;simp[h2]
   .have:¬GI B.os v.kind v.name j=0:=λh3=>by
     rcases Nat.lt_or_gt_of_ne e with q|q;.exact huniq j _ q h1 h3 h2
     .exact huniq _ j q Za h2 h3
    simp[e,this]
  |false=>
   rw[if_neg Zb];refine List.filter_eq_self.2 λf hf=>?_;obtain⟨i,hi,rfl⟩:=Mi hf;rw[hat i Za,hoth i Za];have:¬GI B.os v.kind v.name i=0:=λh3=>by
    have hfn:=Gw hok hpa;unfold JD at hfo;rw[if_neg (λq=>by simp[q.1,q.2]at hfo)]at hfn;have h4:=(Lx _ _ _ _).1 h3;have h5:∃k,JS B.os v.kind v.name (i+1)=some k:=by cases hx:JS B.os v.kind v.name i with
     |none=>exact⟨i,Mp hx h4⟩
     |some k=>exact⟨k,GU hx⟩
    obtain⟨k,hk⟩:=h5;rw[Pn hk (show i+1<=B.on by omega)]at hfn;cases hfn
   simp[this]
 have hpl:cA (C7 B v) L (EW B v):=by
  refine⟨by have:=hpa.1;omega,λj hj=>?_,λh=>?_⟩;.have h1:=hpa.1;rw[hat j Za,hbef j Za];exact hpa.2.1 j hj
  .rw[hat _ Za];cases hx:DH (B.os (EW B v)) (C7 B v)with
   |false=>rfl
   |true=>exact absurd ((hbef _ Za).1 hx) (hpa.2.2 _ Bj Za)
 have hEv:=fS hE;unfold L2 Rq;rw[<-hl];cases hg:CS B v with
 |true=>rw[if_pos rfl,if_pos rfl,<-hfl,WV]
 |false=>rw[if_neg Zb,if_neg Zb,<-hfl];have h1:=bH (o:=jW B E) (L:=L) (k:=EW B v) (by rw[hEv];exact hpl);rw[hEv]at h1;exact h1
theorem qA{B:Bk}{v:Wr}{L:List EO}{E:EO}{a:Int}(hok:Hp B v)(hl:L.map EO.ob=IL B.on B.os)(hE:E.ob=C4 B v a)(hc:Bd B v=0):(L2 B v L E).length=(FI B v).on/\∀i,i<(FI B v).on->(Fm (L2 B v L E) i).ob=(FI B v).os i:=by
 have h1:=pI hok hl hE hc;rw[<-Mx]at h1;have h2:(L2 B v L E).length=(FI B v).on:=by have:=congrArg List.length h1;simpa[IL,FI]using this
 refine⟨h2,λi hi=>?_⟩;have h4:=KY (L:=L2 B v L E) (i:=i) Za;rw[h1]at h4;have hi':i<(Ep B.on B.os (C7 B v) (CS B v)).m:=hi;simpa[IL,hi',FI]using h4.symm
end Go.Proofs.YtllmmkchokkaaaaGreatDoor
namespace Go.Proofs.YtllmmkchokkaaaaGreatDoor
open Go.RowKit Go.Maps Go.Proofs.Tryz
theorem aT{w:World}{base g cap:Nat}{L:List EO}(h:w.ownsRow base 118 7 (.l (some ⟨g,0,none⟩) L.length cap) L.length (CI L))(hg:g<w.1.size):MO w g L:=⟨hg,λj=>h.frozenAt j,λi hi=>by
  have hc:∀r,r<7->w.cell? ⟨g,i*7+r,none⟩=(Vr (Fm L i))[r]?:=λr hr=>by rw[h.cellAt (i*7+r) Za,Np L i r hi hr]
  exact⟨hc 0 Zb,hc 1 Zb,hc 2 Zb,hc 3 Zb,hc 4 Zb,hc 5 Zb,hc 6 Zb⟩⟩
theorem iE{w:World}{base e z n:Nat}{a:OA}{c:Nat}{xs:List Value}(h:w.ownsRow base e z (.l a n c) n xs):∃g,(0<n->a=some ⟨g,0,none⟩/\Value.ownBlock (.l a n c)=some g/\base<=g/\g<w.1.size):=by
 rcases h.2 with⟨_,e2⟩|⟨g,cap',cur,e1,e2,e3,e4⟩;.exact⟨0,λh0=>by omega⟩
 .cases e1;exact⟨g,λ_=>⟨rfl,rfl,e2,(Cj.1 e3).1⟩⟩
theorem eJ{c:Nat->Value}{i:Nat}{y:Ch}{A:OA}{C:Nat}(h:LB c i y A C):∀r,r<9->(c (i*9+r)).oneCell'=true:=λr hr=>by
 obtain⟨h0,h1,h2,h3,h4,h5,h6,h7,h8⟩:=h;rcases(show r=0\/r=1\/r=2\/r=3\/r=4\/r=5\/r=6\/r=7\/r=8 by omega)with rfl|rfl|rfl|rfl|rfl|rfl|rfl|rfl|rfl;.rw[Nat.add_zero,h0];rfl
 .rw[h1];rfl
 .rw[h2];rfl
 .rw[h3];rfl
 .rw[h4];rfl
 .rw[h5];rfl
 .rw[h6];rfl
 .rw[h7];rfl
 .rw[h8];rfl
theorem FY{m:Nat}{c:Nat->Value}{j:Nat}(h:j<m):(AI m c)[j]?=some (c j):=by simp[AI,h]
def RH (B:Bk)(c:Nat->Value)(nw:List Value):Nat->Value:=λj=>if j<(B.hn-Ck B)*9 then c (j+Ck B*9)else nw.getD (j-(B.hn-Ck B)*9) (.i 0)
theorem Vp (B:Bk)(c:Nat->Value)(nw:List Value)(hl:nw.length=9)(hcut:Ck B<=B.hn):(AI (B.hn*9) c).drop (Ck B*9)++nw=AI ((B.hn-Ck B+1)*9) (RH B c nw):=by
 have hd:((AI (B.hn*9) c).drop (Ck B*9)).length=(B.hn-Ck B)*9:=by rw[List.length_drop,Bl];omega
 refine List.ext_getElem? λj=>?_;rcases As j ((B.hn-Ck B)*9)with h|h;.rw[G4 Za,Ip,FY Za,FY Za];unfold RH;rw[if_pos h,Nat.add_comm]
 .rw[GG Za,hd];rcases As j ((B.hn-Ck B+1)*9)with h2|h2;.rw[FY h2];unfold RH;rw[if_neg Za,List.getD_eq_getElem?_getD];have:j-(B.hn-Ck B)*9<nw.length:=Za;rw[BK this];rfl
  .rw[CL Za,CL (by rw[Bl];omega)]
theorem fM{B:Bk}{c:Nat->Value}{nw:List Value}{i:Nat}{y:Ch}{A:OA}{C:Nat}(hi:i<B.hn-Ck B)(h:LB c (i+Ck B) y A C):LB (RH B c nw) i y A C:=by
 have e:∀r,r<9->RH B c nw (i*9+r)=c ((i+Ck B)*9+r):=λr hr=>by unfold RH;rw[if_pos Za,show i*9+r+Ck B*9=(i+Ck B)*9+r by omega]
 obtain⟨h0,h1,h2,h3,h4,h5,h6,h7,h8⟩:=h;exact⟨(e 0 Zb).trans h0,(e 1 Zb).trans h1,(e 2 Zb).trans h2,(e 3 Zb).trans h3,(e 4 Zb).trans h4,(e 5 Zb).trans h5,(e 6 Zb).trans h6,(e 7 Zb).trans h7,(e 8 Zb).trans h8⟩
theorem cG{B:Bk}{c:Nat->Value}{y:Ch}{A:OA}{C:Nat}:LB (RH B c [.i y.ver,.bool y.gone,.s y.ob.kind,.s y.ob.name,.i y.ob.ver,.i y.ob.born,.s y.ob.text,.bool y.ob.ending,.l A y.ob.hn C]) (B.hn-Ck B) y A C:=by
 have e:∀(nw:List Value) r,RH B c nw ((B.hn-Ck B)*9+r)=nw.getD r (.i 0):=λnw r=>by unfold RH;rw[if_neg Za,show(B.hn-Ck B)*9+r-(B.hn-Ck B)*9=r by omega]
 exact⟨e _ 0,e _ 1,e _ 2,e _ 3,e _ 4,e _ 5,e _ 6,e _ 7,e _ 8⟩
theorem D5.congr{w:World}{ad:OA}{g n m:Nat}{x y:Nat->Ob}{A:Nat->Option Addr}{C hb:Nat->Nat}(h:D5 w ad g n x A C hb)(hn:n=m)(he:∀i,i<m->x i=y i):D5 w ad g m y A C hb:=by subst hn;refine⟨h.addr,λh0=>?_,λi hi=>by rw[<-he i hi];exact h.hold i hi,λi hi h0=>h.hlt i hi (by rw[he i hi];exact h0),⟨λi hi h0=>h.ap.ne i hi (by rw[he i hi];exact h0),λi j hi hj h1 h2 e=>h.ap.inj i j hi hj (by rw[he i hi];exact h1) (by rw[he j hj];exact h2) e⟩⟩;obtain⟨c,r,hat⟩:=h.row h0;exact⟨c,r,λi hi=>by rw[<-he i hi];exact hat i hi⟩
theorem kT (B:Bk):Ck B<=B.hn:=by unfold Ck;split<;>omega
end Go.Proofs.YtllmmkchokkaaaaGreatDoor
namespace Go.Proofs.YtllmmkchokkaaaaGreatDoor
open Go.RowKit Go.Extern.Stop Go.Stop Go.Extern Go.Proofs.Tryz
theorem JV (t:Addr)(w:World):(ReflectliteValue.unpack (.iface 149 (.pointer (some t)))).run prog w=.ok (.agg #[.p 5 149,.p (w.1.size) 0,.int .u64 150]) (w.alloc (.cells #[.pointer (some t)] 149)):=Zc
theorem MU (a:Addr)(w:World):(ReflectliteValue.methodAny (ReflectliteValue.valueError "reflectlite.Value.Type" 0) (λt _ _ _=>ReflectliteType.toType t) #[.agg #[.p 5 149,.pointer (some a),.int .u64 150]]).run prog w=.ok (.iface 233 (.agg #[.p 5 149])) w:=Zc
theorem JU (h:Value)(w:World):(Go.method 412 233 (.agg #[h]) "Kind").run prog w=.ok (243,h) w:=Zc
theorem MX (w:World):((ReflectliteType.abiMethod λt=>(λa:Nat=>Value.int IntKind.u8 (a:Int))<$>Rtype.kind t) #[.p 5 149]).run prog w=.ok (.int .u8 22) w:=Zc
theorem N9 (w:World):((ReflectliteType.abiMethod λt=>(λa:Nat=>Value.int IntKind.u8 (a:Int))<$>Rtype.kind t) #[.p 5 90]).run prog w=.ok (.int .u8 25) w:=Zc
theorem yY (z:Sem Value)(f:TypeId->Addr->Nat->Nat->Sem Value)(v:Value):ReflectliteValue.method z f #[v]=(do match<-ReflectliteValue.parts v with|none=>z|some (t,a,fl)=>f t a fl (fl%32)):=rfl
theorem Ld (a:Addr)(w:World):(ReflectliteValue.parts (.agg #[.p 5 149,.pointer (some a),.int .u64 150])).run prog w=.ok (some (149,a,150)) w:=Zc
theorem Lg (a p:Addr)(W:World)(ha:W.cell? a=some (.pointer (some p))):(ReflectliteValue.method (ReflectliteValue.valueError "reflectlite.Value.IsNil" 0) ReflectliteValue.isNil #[.agg #[.p 5 149,.pointer (some a),.int .u64 150]]).run prog W=.ok (.bool false) W:=by rw[yY];simp only[K4,Ld,Result.andThen];simp[ReflectliteValue.isNil,loadVar,isAgg,underlying,underlying149,ha,Result.andThen]
theorem JW (h:Value)(w:World):(Go.method 412 233 (.agg #[h]) "Elem").run prog w=.ok (255,.agg #[h]) w:=Zc
theorem Gr (h:Value)(w:World):(Go.method 412 233 (.agg #[h]) "Implements").run prog w=.ok (256,.agg #[h]) w:=Zc
theorem FL (h:Value)(w:World):(Go.method 412 233 (.agg #[h]) "AssignableTo").run prog w=.ok (253,.agg #[h]) w:=Zc
theorem MV (w:World):(ReflectliteType.method ReflectliteType.elem #[.agg #[.p 5 149]]).run prog w=.ok (.iface 233 (.agg #[.p 5 90])) w:=Zc
theorem IU (w:World):(ReflectliteType.relation "Implements" ReflectliteType.implements_ #[.agg #[.p 5 90],.iface 233 (.agg #[.p 5 86])]).run prog w=.ok (.bool true) w:=Zc
theorem Lf (v:Value)(w:World):(ReflectliteType.typeOf #[.iface 90 v]).run prog w=.ok (.iface 233 (.agg #[.p 5 90])) w:=Zc
theorem P9 (v:Value)(w:World):(ReflectliteType.typeOf #[.iface 146 v]).run prog w=.ok (.iface 233 (.agg #[.p 5 146])) w:=Zc
theorem IR (w:World):(ReflectliteType.relation "AssignableTo" ReflectliteType.assignableTo #[.agg #[.p 5 90],.iface 233 (.agg #[.p 5 90])]).run prog w=.ok (.bool true) w:=Zc
theorem LX (w:World):(ReflectliteType.relation "AssignableTo" ReflectliteType.assignableTo #[.agg #[.p 5 146],.iface 233 (.agg #[.p 5 90])]).run prog w=.ok (.bool false) w:=Zc
theorem KI (a b:Int)(w:World):(ReflectliteValue.unpack (.iface 90 (.agg #[.i a,.i b]))).run prog w=.ok (.agg #[.p 5 90,.p (w.1.size) 0,.int .u64 153]) (w.alloc (.cells #[.i a,.i b] 90)):=Zc
theorem P8 (w:World):(Rtype.elem? 149).run prog w=.ok (some 90) w:=Zc
theorem Yz (p:Addr)(w:World):(ReflectliteValue.mk 90 p ReflectliteValue.flagAddr).run prog w=.ok (.agg #[.p 5 90,.pointer (some p),.int .u64 409]) w:=Zc
theorem Le (a p:Addr)(W:World)(ha:W.cell? a=some (.pointer (some p))):(ReflectliteValue.method (ReflectliteValue.valueError "reflectlite.Value.Elem" 0) ReflectliteValue.elem #[.agg #[.p 5 149,.pointer (some a),.int .u64 150]]).run prog W=.ok (.agg #[.p 5 90,.pointer (some p),.int .u64 409]) W:=by rw[yY];simp only[K4,Ld,Result.andThen];simp[ReflectliteValue.elem,loadVar,isAgg,underlying,underlying149,ha,Result.andThen,P8,Yz]
theorem bf (v x:Value):ReflectliteValue.set #[v,x]=(do
  let(some (dst,a,fl),some (src,b,_)):=(<-ReflectliteValue.parts v,<-ReflectliteValue.parts x)
   |unsupported (.noEntry "extern/(internal/reflectlite.Value).Set.zeroValue")
  if fl/ReflectliteValue.flagAddr%2==0 then unsupported (.noEntry "extern/(internal/reflectlite.Value).Set.unaddressable")
  let val<-loadVar src b if<-Rtype.directlyAssignable dst src then storeVar dst a val else if<-Rtype.implements dst src then
   if(<-Rtype.kind src)==20 then match val with
    |.nilIface=>unsupported (.noEntry "extern/reflectlite: a nil value of one interface type handed on as a value of another")
    |_=>storeVar dst a val else storeVar dst a (.iface src val)else panicString ("reflectlite.Set: value of type " ++(<-Rtype.spelt src)++ " is not assignable to type " ++(<-Rtype.spelt dst))
  pure (.tuple #[])):=rfl
theorem Qs (a:Addr)(w:World):(ReflectliteValue.parts (.agg #[.p 5 90,.pointer (some a),.int .u64 409])).run prog w=.ok (some (90,a,409)) w:=Zc
theorem St (a:Addr)(w:World):(ReflectliteValue.parts (.agg #[.p 5 90,.pointer (some a),.int .u64 153])).run prog w=.ok (some (90,a,153)) w:=Zc
theorem Qu (w:World):(Rtype.directlyAssignable 90 90).run prog w=.ok true w:=Zc
theorem Q5:(prog.info? 90).map (·.size)=some 2:=Zc
theorem P5 (R b:Nat)(c d:Int)(o0 o1:Value)(W:World)(hb0:W.cell? ⟨b,0,none⟩=some (.i c))(hb1:W.cell? ⟨b,1,none⟩=some (.i d))(h0:W.cell? ⟨R,0,none⟩=some o0)(h1:W.cell? ⟨R,1,none⟩=some o1)(hf:∀j,W.frozen? ⟨R,j,none⟩=false):(ReflectliteValue.set #[.agg #[.p 5 90,.p R 0,.int .u64 409],.agg #[.p 5 90,.p b 0,.int .u64 153]]).run prog W=.ok (.tuple #[]) ((W.setCell ⟨R,0,none⟩ (.i c)).setCell ⟨R,1,none⟩ (.i d)):=by
 have hl:=run_loadVar_mid (P:=prog) W b 0 90 [.i c,.i d] _ (λj v hj=>by
  rcases j with _|_|j;.simp at hj;subst hj;exact hb0
  .simp at hj;subst hj;exact hb1
  .simp at hj) underlying90 rfl Q5;have hs:=run_storeVar_mid (P:=prog) W R 0 90 #[.i c,.i d] (λj hj=>by
  have hj':j<2:=hj;rcases(show j=0\/j=1 by omega)with rfl|rfl;.rw[Bc,h0];exact⟨rfl,hf 0⟩
  .rw[Bc,h1];exact⟨rfl,hf 1⟩) Q5 mW;rw[bf];simp only[K4,Qs,St,Result.andThen];simp[ReflectliteValue.flagAddr,hl,Qu,hs,Result.andThen,World.setCells]
theorem P6 (x:Value)(w:World):(Instr.typeAssert (.iface 146 x) 86 238 true).run prog w=.ok (.tuple #[.nilIface,.bool false]) w:=run_typeAssert_lacksB underlying238 Zc Zc x 86 w
theorem P4 (x:Value)(w:World):(Instr.typeAssert (.iface 146 x) 86 241 true).run prog w=.ok (.tuple #[.iface 146 x,.bool true]) w:=run_typeAssert_hasB underlying241 Zc x 86 w
theorem MY (x:Value)(w:World):(Go.method 412 146 x "Unwrap").run prog w=.ok (248,x) w:=Zc
theorem U1 (v:Wr)(c d:Int)(w:World):Calls prog 248 #[.agg #[.i v.op,.s v.kind,.s v.name,.i v.seen,.s v.text,.s v.hold,.iface 90 (.agg #[.i c,.i d])]] w λe w'=>e=.returned (.iface 90 (.agg #[.i c,.i d]))/\Below w.1.size w w':=by go_enter func248,ntmps248;go_wp2;go_ret;exact⟨rfl,Ae _ _⟩
end Go.Proofs.YtllmmkchokkaaaaGreatDoor
namespace Go.Proofs.YtllmmkchokkaaaaGreatDoor
open Go.RowKit Go.Extern.Stop Go.Stop Go.Extern Go.Proofs.Tryz
theorem rS (v:Wr)(c d:Int)(R a:Nat)(o0 o1:Value)(w:World)(hR:R<w.1.size)(ha:a<w.1.size)(_hRa:¬R=a)(h0:w.cell? ⟨R,0,none⟩=some o0)(h1:w.cell? ⟨R,1,none⟩=some o1)(hf:∀j,w.frozen? ⟨R,j,none⟩=false)(hp:w.cell? ⟨a,0,none⟩=some (.p R 0)):Calls prog 165 #[.iface 146 (.agg #[.i v.op,.s v.kind,.s v.name,.i v.seen,.s v.text,.s v.hold,.iface 90 (.agg #[.i c,.i d])]),.iface 149 (.p R 0),.agg #[.p 5 149,.p a 0,.int .u64 150],.iface 233 (.agg #[.p 5 90])] w λe w'=>e=.returned (.bool true)/\AP (λq=>q=R) w w'/\w'.cell? ⟨R,0,none⟩=some (.i c)/\w'.cell? ⟨R,1,none⟩=some (.i d):=by
 have B0:=Ae w (.cells #[.p 5 149,.p a 0,.int .u64 150] 206);have h162:=@run_callFunc_extern prog 162 _ (λargs=>ReflectliteValue.unpack (args.getD 0 (.tuple #[]))) func162 Zc Zc Zc Zc;have h189:=@run_callFunc_extern prog 189 _ (ReflectliteType.typeOf) func189 Zc Zc Zc Zc;have h253:=@run_callFunc_extern prog 253 _ (ReflectliteType.relation "AssignableTo" ReflectliteType.assignableTo) func253 Zc Zc Zc Zc;have h190:=@run_callFunc_extern prog 190 _ (ReflectliteValue.method (ReflectliteValue.valueError "reflectlite.Value.Elem" 0) ReflectliteValue.elem) func190 Zc Zc Zc Zc;have h191:=@run_callFunc_extern prog 191 _ (ReflectliteValue.set) func191 Zc Zc Zc Zc;have tO:=P9;have tO2:=Lf;have mA:=FL;have a146:=LX;have a90:=IR;have s238:=P6;have s241:=P4;have mU:=MY;have v90:=KI;go_enter func165,ntmps165;go_wp2;refine wp_loop_rounds 2 ?_;rw[rounds_succ];go_wp2_with fail;refine(U1 v c d _).mono ?_;rintro e w1 ⟨rfl,hb1⟩;have B1:=B0.trans (hb1.mono B0.size);have rb:=AS (w:=w) (l:=[.p 5 149,.p a 0,.int .u64 150]) (t:=206) hb1;have y0:=rb.cell 0 Ze;have y1:=rb.cell 1 Ze;have y2:=rb.cell 2 Ze;simp only[Bg,Af,Ag]at y0 y1 y2;have zb:w.1.size<w1.1.size:=rb.lt;have zR:R<w1.1.size:=Za;have hp1:=(B1.cell (p:=⟨a,0,none⟩) ha).trans hp;have k0:=(B1.cell (p:=⟨R,0,none⟩) hR).trans h0;have k1:=(B1.cell (p:=⟨R,1,none⟩) hR).trans h1;have kf:=λj=>(B1.frozen (p:=⟨R,j,none⟩) hR).trans (hf j);have el:=Le ⟨a,0,none⟩ ⟨R,0,none⟩ w1 hp1;have BA:=Ae w1 (.cells #[.i c,.i d] 90);have st:=P5 R w1.1.size c d o0 o1 (w1.alloc (.cells #[.i c,.i d] 90)) (Cz rfl) (Cz rfl) ((BA.cell (p:=⟨R,0,none⟩) zR).trans k0) ((BA.cell (p:=⟨R,1,none⟩) zR).trans k1) (λj=>(BA.frozen (p:=⟨R,j,none⟩) zR).trans (kf j));have zS:R<((w1.setCell ⟨R,0,none⟩ (.i c)).setCell ⟨R,1,none⟩ (.i d)).1.size:=by simpa using zR
 have BS:=Ae ((w1.setCell ⟨R,0,none⟩ (.i c)).setCell ⟨R,1,none⟩ (.i d)) (.cells #[.i c,.i d] 90);have FN:=Ai (show AP (λq=>q=R) w (((w1.setCell ⟨R,0,none⟩ (.i c)).setCell ⟨R,1,none⟩ (.i d)).alloc (.cells #[.i c,.i d] 90))/\(((w1.setCell ⟨R,0,none⟩ (.i c)).setCell ⟨R,1,none⟩ (.i d)).alloc (.cells #[.i c,.i d] 90)).cell? ⟨R,0,none⟩=some (.i c)/\(((w1.setCell ⟨R,0,none⟩ (.i c)).setCell ⟨R,1,none⟩ (.i d)).alloc (.cells #[.i c,.i d] 90)).cell? ⟨R,1,none⟩=some (.i d)from⟨(((Aq B1).trans (AP.setCell (P:=λq=>q=R) (AP.refl _ _) rfl _)).trans (AP.setCell (P:=λq=>q=R) (AP.refl _ _) rfl _)).trans (Aq BS),(BS.cell (p:=⟨R,0,none⟩) zS).trans (by rw[Cq _ _ _ _ Ze];exact Ct _ _ _ k0),(BS.cell (p:=⟨R,1,none⟩) zS).trans (Ct _ _ _ (by rw[Cq _ _ _ _ Ze];exact k1))⟩);clear hb1 B0 B1 rb BS zS hp1 k0 k1 kf BA h0 h1 hf hp;go_wp2;rw[rounds_succ];go_wp2;go_ret;exact⟨rfl,FN⟩
theorem Yt (v:Wr)(c d:Int)(R:Nat)(o0 o1:Value)(w:World)(hg:w.cell? ⟨0,0,none⟩=some (.iface 233 (.agg #[.p 5 86])))(hR:R<w.1.size)(h0:w.cell? ⟨R,0,none⟩=some o0)(h1:w.cell? ⟨R,1,none⟩=some o1)(hf:∀j,w.frozen? ⟨R,j,none⟩=false):Calls prog 103 #[.iface 146 (.agg #[.i v.op,.s v.kind,.s v.name,.i v.seen,.s v.text,.s v.hold,.iface 90 (.agg #[.i c,.i d])]),.iface 149 (.p R 0)] w λe w'=>e=.returned (.bool true)/\AP (λq=>q=R) w w'/\w'.cell? ⟨R,0,none⟩=some (.i c)/\w'.cell? ⟨R,1,none⟩=some (.i d):=by have h162:=@run_callFunc_extern prog 162 _ (λargs=>ReflectliteValue.unpack (args.getD 0 (.tuple #[]))) func162 Zc Zc Zc Zc;have h163:=@run_callFunc_extern prog 163 _ (ReflectliteValue.methodAny (ReflectliteValue.valueError "reflectlite.Value.Type" 0) (λt _ _ _=>ReflectliteType.toType t)) func163 Zc Zc Zc Zc;have h164:=@run_callFunc_extern prog 164 _ (ReflectliteValue.method (ReflectliteValue.valueError "reflectlite.Value.IsNil" 0) ReflectliteValue.isNil) func164 Zc Zc Zc Zc;have h243:=@run_callFunc_extern prog 243 _ (ReflectliteType.abiMethod λt=>do pure (.int .u8 (<-Rtype.kind t))) func243 Zc Zc Zc Zc;have h255:=@run_callFunc_extern prog 255 _ (ReflectliteType.method ReflectliteType.elem) func255 Zc Zc Zc Zc;have h256:=@run_callFunc_extern prog 256 _ (ReflectliteType.relation "Implements" ReflectliteType.implements_) func256 Zc Zc Zc Zc;have f6:=JV;have f7:=MU;have mK:=JU;have mE:=JW;have mI:=Gr;have k149:=MX;have k90:=N9;have e149:=MV;have i90:=IU;have B2:Below w.1.size w ((w.alloc (.cells #[.p R 0] 149)).alloc (.cells #[.p 5 149,.p (w.1.size) 0,.int .u64 150] 206)):=(Ae _ _).trans ((Ae _ _).mono Ze);have hcl:((w.alloc (.cells #[.p R 0] 149)).alloc (.cells #[.p 5 149,.p (w.1.size) 0,.int .u64 150] 206)).cell? ⟨w.1.size,0,none⟩=some (.p R 0):=((Ae (w.alloc (.cells #[.p R 0] 149)) (.cells #[.p 5 149,.p (w.1.size) 0,.int .u64 150] 206)).cell (p:=⟨w.1.size,0,none⟩) Ze).trans (Cz rfl);have n8:=Lg ⟨w.1.size,0,none⟩ ⟨R,0,none⟩ ((w.alloc (.cells #[.p R 0] 149)).alloc (.cells #[.p 5 149,.p (w.1.size) 0,.int .u64 150] 206)) hcl;have hlt:0<w.1.size:=Za;have hg2:=(B2.cell (p:=⟨0,0,none⟩) hlt).trans hg;have KN:=Ai (rS v c d R w.1.size o0 o1 ((w.alloc (.cells #[.p R 0] 149)).alloc (.cells #[.p 5 149,.p (w.1.size) 0,.int .u64 150] 206)) (Aa hR B2.size) Zd Za ((B2.cell (p:=⟨R,0,none⟩) hR).trans h0) ((B2.cell (p:=⟨R,1,none⟩) hR).trans h1) (λj=>(B2.frozen (p:=⟨R,j,none⟩) hR).trans (hf j)) hcl);have Qw:=Ai B2;clear B2 hcl h0 h1 hf;go_enter func103,ntmps103;go_wp2_with fail;refine KN.mono ?_;rintro e w3 ⟨rfl,hf3,q0,q1⟩;have FN:=Ai (show AP (λq=>q=R) w w3/\w3.cell? ⟨R,0,none⟩=some (.i c)/\w3.cell? ⟨R,1,none⟩=some (.i d)from⟨(Aq Qw).trans hf3,q0,q1⟩);clear hf3 q0 q1;go_wp2;go_ret;exact⟨rfl,FN⟩
theorem Ql (v:Wr)(c d:Int)(w:World)(hg:w.cell? ⟨0,0,none⟩=some (.iface 233 (.agg #[.p 5 86]))):Calls prog 44 #[.iface 146 (.agg #[.i v.op,.s v.kind,.s v.name,.i v.seen,.s v.text,.s v.hold,.iface 90 (.agg #[.i c,.i d])])] w λe w'=>e=.returned (.agg #[.i c,.i d])/\Below w.1.size w w':=by
 have hlt:0<w.1.size:=by
  rcases AW w.1.size with h0|h;.simp[World.cell?,h0]at hg
  .exact h
 have B2:Below w.1.size w ((w.alloc (.cells #[.i 0,.i 0] 90)).alloc (.cells #[.i 0,.i 0] 90)):=(Ae _ _).trans ((Ae _ _).mono Ze);have KN:=Ai (Yt v c d (w.1.size+1) (.i 0) (.i 0) ((w.alloc (.cells #[.i 0,.i 0] 90)).alloc (.cells #[.i 0,.i 0] 90)) ((B2.cell (p:=⟨0,0,none⟩) hlt).trans hg) Ze (Cz Ze) (Cz Ze) (λj=>KD Ze));clear B2 hg;go_enter func44,ntmps44;go_wp2_with fail;refine KN.mono ?_;rintro e w3 ⟨rfl,hf3,q0,q1⟩;have z3:w.1.size+1<w3.1.size:=by have:=hf3.size;simp at this;omega
 have p0:w3.cell? ⟨w.1.size,0,none⟩=some (.i 0):=(hf3.cell (p:=⟨w.1.size,0,none⟩) Zd Ze).trans (((Ae (w.alloc (.cells #[.i 0,.i 0] 90)) (.cells #[.i 0,.i 0] 90)).cell (p:=⟨w.1.size,0,none⟩) Ze).trans (Cz rfl));have p1:w3.cell? ⟨w.1.size,1,none⟩=some (.i 0):=(hf3.cell (p:=⟨w.1.size,1,none⟩) Zd Ze).trans (((Ae (w.alloc (.cells #[.i 0,.i 0] 90)) (.cells #[.i 0,.i 0] 90)).cell (p:=⟨w.1.size,1,none⟩) Ze).trans (Cz rfl));have pf:∀j,w3.frozen? ⟨w.1.size,j,none⟩=false:=λj=>(hf3.frozen (p:=⟨w.1.size,j,none⟩) Zd Ze).trans (((Ae (w.alloc (.cells #[.i 0,.i 0] 90)) (.cells #[.i 0,.i 0] 90)).frozen (p:=⟨w.1.size,j,none⟩) Ze).trans (KD rfl));have E3:=Ai (show Below w.1.size w w3 from((Ae _ _).trans ((Ae _ _).mono Ze)).trans (hf3.below (B:=w.1.size) (λq hq e=>by omega) Zd));clear hf3;go_wp2;refine bodyPost_ret (v:=.agg #[.i c,.i d]) (by simp[results,results44,go_sem,p0,p1]) rfl ⟨rfl,?_⟩;exact(E3.setCell Bj _).setCell Bj _
end Go.Proofs.YtllmmkchokkaaaaGreatDoor
namespace Go.Proofs.YtllmmkchokkaaaaGreatDoor
open Go.RowKit Go.Proofs.Tryz
theorem VS{P:Prop}(h:P:=by
  by_cases hh:ho=⟨#[]⟩;.subst hh;go_enter func91,ntmps91;go_wp2;go_ret;exact⟨Av (by simp[Ew,LN]),An _ _⟩
  .have hhb:=Il hh;have hhl:=BR hh;have Hhh:=Ai hh;clear hh;go_enter func91,ntmps91;go_wp2;go_ret;exact⟨Av (by simp[Ew,LN,Hhh.out,BR Hhh.out]),An _ _⟩):P:=h
theorem UV{P:Prop}(h:P:=by
  by_cases ht:te=⟨#[]⟩;.subst ht;exact VS
  .have htb:=Il ht;have htl:=BR ht;have Hht:=Ai ht;clear ht;go_enter func91,ntmps91;go_wp2;go_ret;exact⟨Av (by simp[Ew,LN,Hht.out]),An _ _⟩):P:=h
theorem NZ (w:Wr)(W:World):Calls prog 91 #[.agg (vW w)] W λe w'=>e=.returned (.bool (Ew w))/\Below W.1.size W w':=by
 obtain⟨op,ki,na,se,te,ho⟩:=w;dsimp only[vW];by_cases h1:op=1
 .subst h1;by_cases hs:se=0;.subst hs;go_enter func91,ntmps91;go_wp2;go_ret;exact⟨Av (by simp[Ew]),An _ _⟩
  .have hsb:(se==0)=false:=by simp[hs]
   go_enter func91,ntmps91;go_wp2;go_ret;exact⟨Av (by simp[Ew,hs]),An _ _⟩
 by_cases h2:op=2
 .subst h2;exact VS
 by_cases h3:op=3
 .subst h3;exact UV
 by_cases h4:op=4
 .subst h4;exact UV
 by_cases h5:op=5
 .subst h5;exact UV
 have g1:(op==1)=false:=by simp[h1]
 have g2:(op==2)=false:=by simp[h2]
 have g3:(op==3)=false:=by simp[h3]
 have g4:(op==4)=false:=by simp[h4]
 have g5:(op==5)=false:=by simp[h5]
 have HH:=Ai (show Ew ⟨op,ki,na,se,te,ho⟩=false by simp[Ew,h1,h2,h3,h4,h5]);go_enter func91,ntmps91;go_wp2;go_ret;exact⟨Av HH.symm,An _ _⟩
theorem PE{P:Prop}(h:P:=by go_enter func41,ntmps41;go_wp2_with (go_at_call 90;refine(CC _ _ Zi).mono ?_;rintro e w1 ⟨rfl,rfl⟩;first|rw[nk]|rw[nn]|rw[nh]);go_ret;exact⟨Av HE.symm,An _ _⟩):P:=h
theorem K8 (w:Wr)(hf:Kq w)(W:World):Calls prog 41 #[.agg (vW w)] W λe w'=>e=.returned (.bool (Er w))/\Below W.1.size W w':=by obtain⟨op,ki,na,se,te,ho⟩:=w;have htx:=hf.t;dsimp only at htx⊢;cases nk:Bv ki with
 |false=>have HE:=Ai (show Er ⟨op,ki,na,se,te,ho⟩=false by simp[Er,Ed,nk]);exact PE
 |true=>cases nn:Bv na with
 |false=>have HE:=Ai (show Er ⟨op,ki,na,se,te,ho⟩=false by simp[Er,Ed,nn]);exact PE
 |true=>
 by_cases hs:0<=se;case neg=>have HE:=Ai (show Er ⟨op,ki,na,se,te,ho⟩=false by simp[Er,Ed,hs]);have hs2:se<0:=Za;exact PE
 by_cases ht:te.size<=300;case neg=>have HE:=Ai (show Er ⟨op,ki,na,se,te,ho⟩=false by simp[Er,Ed,ht]);have ht2:¬(te.size:Int)<=300:=Za;exact PE
 have ht2:(te.size:Int)<=300:=Za;by_cases hh:ho=⟨#[]⟩;.subst hh;have HE:=Ai (show Er ⟨op,ki,na,se,te,⟨#[]⟩⟩=Ew ⟨op,ki,na,se,te,⟨#[]⟩⟩by simp[Er,Ed,nk,nn,hs,ht,LN]);go_enter func41,ntmps41;go_wp2_with (first|(go_at_call 90;refine(CC _ _ Zi).mono ?_;rintro e w1 ⟨rfl,rfl⟩;first|rw[nk]|rw[nn]|rw[nh])|(go_at_call 91;refine(NZ ⟨op,ki,na,se,te,⟨#[]⟩⟩ _).mono ?_;rintro e w2 ⟨rfl,hb2⟩));go_ret;exact⟨Av HE.symm,(An _ _).trans (hb2.mono Ze)⟩
 .have hhb:=Il hh;have hhl:=BR hh;cases nh:Bv ho with
  |false=>have HE:=Ai (show Er ⟨op,ki,na,se,te,ho⟩=false by simp[Er,Ed,nh,LN,hh]);exact PE
  |true=>have HE:=Ai (show Er ⟨op,ki,na,se,te,ho⟩=Ew ⟨op,ki,na,se,te,ho⟩by simp[Er,Ed,nk,nn,hs,ht,nh]);go_enter func41,ntmps41;go_wp2_with (first|(go_at_call 90;refine(CC _ _ Zi).mono ?_;rintro e w1 ⟨rfl,rfl⟩;first|rw[nk]|rw[nn]|rw[nh])|(go_at_call 91;refine(NZ ⟨op,ki,na,se,te,ho⟩ _).mono ?_;rintro e w2 ⟨rfl,hb2⟩));go_ret;exact⟨Av HE.symm,(An _ _).trans (hb2.mono Ze)⟩
theorem mG{w:Wr}(h:DU w.op 1 5=false):Ew w=false:=by unfold DU at h;simp at h;unfold Ew;rw[if_neg Za,if_neg Za,if_neg Za,if_neg Za,if_neg Za]
theorem PR{P:Prop}(h:P:=by go_meet;exact⟨congrArg Value.bool (by first|(simp[Ed,nk,nn,hs,ht,LN,hh,nh];done)|(simp[Ed,nk,nn,hs,ht,LN,hh,nh];omega)|(simp[Ed,nk,nn,hs,ht,LN,hh,nh,BR hh];done)|(simp[Ed,nk,nn,hs,ht,LN,hh,nh,BR hh];omega)),rfl⟩):P:=h
theorem Pe{P:Prop}(h:P:=by go_meet;exact⟨congrArg Value.bool (by first|(simp[Ed,nk,nn,hs,ht,LN];done)|(simp[Ed,nk,nn,hs,ht,LN];omega)|(simp[Ed,nk,nn,hs,ht,LN,BR hh];done)|(simp[Ed,nk,nn,hs,ht,LN,BR hh];omega)),rfl⟩):P:=h
theorem Py{P:Prop}(h:P:=by go_meet;exact⟨congrArg Value.bool (by first|(simp[Ed,nk];done)|(simp[Ed,nk];omega)|(simp[Ed,nk,BR hh];done)|(simp[Ed,nk,BR hh];omega)),rfl⟩):P:=h
theorem Pr{P:Prop}(h:P:=by go_meet;exact⟨congrArg Value.bool (by first|(simp[Ed,nn];done)|(simp[Ed,nn];omega)|(simp[Ed,nn,BR hh];done)|(simp[Ed,nn,BR hh];omega)),rfl⟩):P:=h
theorem O9{P:Prop}(h:P:=by go_meet;exact⟨congrArg Value.bool (by first|(simp[Ed,hs];done)|(simp[Ed,hs];omega)|(simp[Ed,hs,BR hh];done)|(simp[Ed,hs,BR hh];omega)),rfl⟩):P:=h
theorem PX{P:Prop}(h:P:=by go_meet;exact⟨congrArg Value.bool (by first|(simp[Ed,ht];done)|(simp[Ed,ht];omega)|(simp[Ed,ht,BR hh];done)|(simp[Ed,ht,BR hh];omega)),rfl⟩):P:=h
theorem VQ{P:Prop}(h:P:=by go_wp2_with (first|(go_at_call 70;refine(Cf _ _ _ _).mono ?_;rintro e w1 ⟨rfl,rfl⟩;rw[show DU 1 1 5=true from rfl])|(go_at_call 110;refine(AZ _ _ Zi).mono ?_;rintro e w1 ⟨rfl,rfl⟩;first|rw[nk]|rw[nn]|rw[nh]));exact PR):P:=h
theorem Wa{P:Prop}(h:P:=by go_wp2_with (first|(go_at_call 70;refine(Cf _ _ _ _).mono ?_;rintro e w1 ⟨rfl,rfl⟩;rw[show DU 2 1 5=true from rfl])|(go_at_call 110;refine(AZ _ _ Zi).mono ?_;rintro e w1 ⟨rfl,rfl⟩;first|rw[nk]|rw[nn]|rw[nh]));exact PR):P:=h
theorem WR{P:Prop}(h:P:=by go_wp2_with (first|(go_at_call 70;refine(Cf _ _ _ _).mono ?_;rintro e w1 ⟨rfl,rfl⟩;rw[show DU 3 1 5=true from rfl])|(go_at_call 110;refine(AZ _ _ Zi).mono ?_;rintro e w1 ⟨rfl,rfl⟩;first|rw[nk]|rw[nn]|rw[nh]));exact PR):P:=h
theorem WB{P:Prop}(h:P:=by go_wp2_with (first|(go_at_call 70;refine(Cf _ _ _ _).mono ?_;rintro e w1 ⟨rfl,rfl⟩;rw[show DU 4 1 5=true from rfl])|(go_at_call 110;refine(AZ _ _ Zi).mono ?_;rintro e w1 ⟨rfl,rfl⟩;first|rw[nk]|rw[nn]|rw[nh]));exact PR):P:=h
theorem Wj{P:Prop}(h:P:=by go_wp2_with (first|(go_at_call 70;refine(Cf _ _ _ _).mono ?_;rintro e w1 ⟨rfl,rfl⟩;rw[show DU 5 1 5=true from rfl])|(go_at_call 110;refine(AZ _ _ Zi).mono ?_;rintro e w1 ⟨rfl,rfl⟩;first|rw[nk]|rw[nn]|rw[nh]));exact PR):P:=h
theorem OD{P:Prop}(h:P:=by go_wp2;go_ret;exact⟨Av (HE.trans (by simp[Ew,LN,hho])).symm,An _ _⟩):P:=h
theorem OL{P:Prop}(h:P:=by go_wp2;go_ret;exact⟨Av (HE.trans (by simp[Ew,LN])).symm,An _ _⟩):P:=h
theorem Sq{P:Prop}(h:P:=by go_wp2;go_ret;exact⟨Av (HE.trans (by simp[Ew,LN,hte])).symm,An _ _⟩):P:=h
theorem GX (w:Wr)(hf:Kq w)(W:World):Calls prog 74 #[.agg (vW w)] W λe w'=>e=.returned (.bool (Er w))/\Below W.1.size W w':=by obtain⟨op,ki,na,se,te,ho⟩:=w;have htx:=hf.t;dsimp only at htx⊢;cases hin:DU op 1 5 with
 |false=>have HE:=Ai (show Er ⟨op,ki,na,se,te,ho⟩=false by unfold Er;rw[mG (w:=⟨op,ki,na,se,te,ho⟩) hin];simp);go_enter func74,ntmps74;go_wp2_with (go_at_call 70;refine(Cf _ _ _ _).mono ?_;rintro e w1 ⟨rfl,rfl⟩;rw[hin]);go_ret;exact⟨Av HE.symm,An _ _⟩
 |true=>
 have hop:op=1\/op=2\/op=3\/op=4\/op=5:=by unfold DU at hin;simp at hin;omega
 clear hin;rcases hop with rfl|rfl|rfl|rfl|rfl
 .go_enter func74,ntmps74;go_upto_region 1 with fail;go_cut[42]from 5 to 94 (λs42 wx=>s42=.bool (!Ed ⟨1,ki,na,se,te,ho⟩)/\W.alloc (.cells #[.i 1,.s ki,.s na,.i se,.s te,.s ho] 40)=wx);case first=>cases nk:Bv ki with
   |false=>go_wp2_with (first|(go_at_call 70;refine(Cf _ _ _ _).mono ?_;rintro e w1 ⟨rfl,rfl⟩;rw[show DU 1 1 5=true from rfl])|(go_at_call 110;refine(AZ _ _ Zi).mono ?_;rintro e w1 ⟨rfl,rfl⟩;first|rw[nk]|rw[nn]|rw[nh]));exact Py
   |true=>cases nn:Bv na with
   |false=>go_wp2_with (first|(go_at_call 70;refine(Cf _ _ _ _).mono ?_;rintro e w1 ⟨rfl,rfl⟩;rw[show DU 1 1 5=true from rfl])|(go_at_call 110;refine(AZ _ _ Zi).mono ?_;rintro e w1 ⟨rfl,rfl⟩;first|rw[nk]|rw[nn]|rw[nh]));exact Pr
   |true=>
   by_cases hs:0<=se;case neg=>have hs2:se<0:=Za;go_wp2_with (first|(go_at_call 70;refine(Cf _ _ _ _).mono ?_;rintro e w1 ⟨rfl,rfl⟩;rw[show DU 1 1 5=true from rfl])|(go_at_call 110;refine(AZ _ _ Zi).mono ?_;rintro e w1 ⟨rfl,rfl⟩;first|rw[nk]|rw[nn]|rw[nh]));exact O9
   have hs2:¬se<0:=Za;by_cases ht:te.size<=300;case neg=>have ht2:(300:Int)<te.size:=Za;go_wp2_with (first|(go_at_call 70;refine(Cf _ _ _ _).mono ?_;rintro e w1 ⟨rfl,rfl⟩;rw[show DU 1 1 5=true from rfl])|(go_at_call 110;refine(AZ _ _ Zi).mono ?_;rintro e w1 ⟨rfl,rfl⟩;first|rw[nk]|rw[nn]|rw[nh]));exact PX
   have ht2:¬(300:Int)<te.size:=Za;by_cases hh:ho=⟨#[]⟩
   .subst hh;go_wp2_with (first|(go_at_call 70;refine(Cf _ _ _ _).mono ?_;rintro e w1 ⟨rfl,rfl⟩;rw[show DU 1 1 5=true from rfl])|(go_at_call 110;refine(AZ _ _ Zi).mono ?_;rintro e w1 ⟨rfl,rfl⟩;first|rw[nk]|rw[nn]|rw[nh]));exact Pe
   .have hhb:=Il hh;have hhl:=BR hh;cases nh:Bv ho with
    |false=>exact VQ
    |true=>exact VQ
  case rest=>obtain⟨rfl,rfl⟩:=hcut;cases hcm:Ed ⟨1,ki,na,se,te,ho⟩with
   |false=>have HE:=Ai (show Er ⟨1,ki,na,se,te,ho⟩=false by unfold Er;rw[hcm];rfl);go_wp2;go_ret;exact⟨Av HE.symm,An _ _⟩
   |true=>
    have CT:=Ai hcm;clear hcm;by_cases hs:se=0;.subst hs;have HE:=Ai (show Er ⟨1,ki,na,0,te,ho⟩=Ew ⟨1,ki,na,0,te,ho⟩by unfold Er;rw[CT.out];rfl);go_wp2;go_ret;exact⟨Av (HE.trans (by simp[Ew])).symm,An _ _⟩
    .have hsb:(se !=0)=true:=by simp[hs]
     have HE:=Ai (show Er ⟨1,ki,na,se,te,ho⟩=Ew ⟨1,ki,na,se,te,ho⟩by unfold Er;rw[CT.out];rfl);go_wp2;go_ret;exact⟨Av (HE.trans (by simp[Ew,hs])).symm,An _ _⟩
 .go_enter func74,ntmps74;go_upto_region 1 with fail;go_cut[42]from 5 to 94 (λs42 wx=>s42=.bool (!Ed ⟨2,ki,na,se,te,ho⟩)/\W.alloc (.cells #[.i 2,.s ki,.s na,.i se,.s te,.s ho] 40)=wx);case first=>cases nk:Bv ki with
   |false=>go_wp2_with (first|(go_at_call 70;refine(Cf _ _ _ _).mono ?_;rintro e w1 ⟨rfl,rfl⟩;rw[show DU 2 1 5=true from rfl])|(go_at_call 110;refine(AZ _ _ Zi).mono ?_;rintro e w1 ⟨rfl,rfl⟩;first|rw[nk]|rw[nn]|rw[nh]));exact Py
   |true=>cases nn:Bv na with
   |false=>go_wp2_with (first|(go_at_call 70;refine(Cf _ _ _ _).mono ?_;rintro e w1 ⟨rfl,rfl⟩;rw[show DU 2 1 5=true from rfl])|(go_at_call 110;refine(AZ _ _ Zi).mono ?_;rintro e w1 ⟨rfl,rfl⟩;first|rw[nk]|rw[nn]|rw[nh]));exact Pr
   |true=>
   by_cases hs:0<=se;case neg=>have hs2:se<0:=Za;go_wp2_with (first|(go_at_call 70;refine(Cf _ _ _ _).mono ?_;rintro e w1 ⟨rfl,rfl⟩;rw[show DU 2 1 5=true from rfl])|(go_at_call 110;refine(AZ _ _ Zi).mono ?_;rintro e w1 ⟨rfl,rfl⟩;first|rw[nk]|rw[nn]|rw[nh]));exact O9
   have hs2:¬se<0:=Za;by_cases ht:te.size<=300;case neg=>have ht2:(300:Int)<te.size:=Za;go_wp2_with (first|(go_at_call 70;refine(Cf _ _ _ _).mono ?_;rintro e w1 ⟨rfl,rfl⟩;rw[show DU 2 1 5=true from rfl])|(go_at_call 110;refine(AZ _ _ Zi).mono ?_;rintro e w1 ⟨rfl,rfl⟩;first|rw[nk]|rw[nn]|rw[nh]));exact PX
   have ht2:¬(300:Int)<te.size:=Za;by_cases hh:ho=⟨#[]⟩;.subst hh;go_wp2_with (first|(go_at_call 70;refine(Cf _ _ _ _).mono ?_;rintro e w1 ⟨rfl,rfl⟩;rw[show DU 2 1 5=true from rfl])|(go_at_call 110;refine(AZ _ _ Zi).mono ?_;rintro e w1 ⟨rfl,rfl⟩;first|rw[nk]|rw[nn]|rw[nh]));exact Pe
   .have hhb:=Il hh;have hhl:=BR hh;cases nh:Bv ho with
    |false=>exact Wa
    |true=>exact Wa
  case rest=>obtain⟨rfl,rfl⟩:=hcut;cases hcm:Ed ⟨2,ki,na,se,te,ho⟩with
   |false=>have HE:=Ai (show Er ⟨2,ki,na,se,te,ho⟩=false by unfold Er;rw[hcm];rfl);go_wp2;go_ret;exact⟨Av HE.symm,An _ _⟩
   |true=>
    have CT:=Ai hcm;clear hcm;by_cases hho:ho=⟨#[]⟩;.subst hho;have HE:=Ai (show Er ⟨2,ki,na,se,te,⟨#[]⟩⟩=Ew ⟨2,ki,na,se,te,⟨#[]⟩⟩by unfold Er;rw[CT.out];rfl);exact OL
    .have hhob:=Il hho;have hhoe:ho.toList.isEmpty=false:=by simp[BR hho]
     have hhol:=BR hho;have HE:=Ai (show Er ⟨2,ki,na,se,te,ho⟩=Ew ⟨2,ki,na,se,te,ho⟩by unfold Er;rw[CT.out];rfl);exact OD
 .go_enter func74,ntmps74;go_upto_region 1 with fail;go_cut[42]from 5 to 94 (λs42 wx=>s42=.bool (!Ed ⟨3,ki,na,se,te,ho⟩)/\W.alloc (.cells #[.i 3,.s ki,.s na,.i se,.s te,.s ho] 40)=wx);case first=>cases nk:Bv ki with
   |false=>go_wp2_with (first|(go_at_call 70;refine(Cf _ _ _ _).mono ?_;rintro e w1 ⟨rfl,rfl⟩;rw[show DU 3 1 5=true from rfl])|(go_at_call 110;refine(AZ _ _ Zi).mono ?_;rintro e w1 ⟨rfl,rfl⟩;first|rw[nk]|rw[nn]|rw[nh]));exact Py
   |true=>cases nn:Bv na with
   |false=>go_wp2_with (first|(go_at_call 70;refine(Cf _ _ _ _).mono ?_;rintro e w1 ⟨rfl,rfl⟩;rw[show DU 3 1 5=true from rfl])|(go_at_call 110;refine(AZ _ _ Zi).mono ?_;rintro e w1 ⟨rfl,rfl⟩;first|rw[nk]|rw[nn]|rw[nh]));exact Pr
   |true=>
   by_cases hs:0<=se;case neg=>have hs2:se<0:=Za;go_wp2_with (first|(go_at_call 70;refine(Cf _ _ _ _).mono ?_;rintro e w1 ⟨rfl,rfl⟩;rw[show DU 3 1 5=true from rfl])|(go_at_call 110;refine(AZ _ _ Zi).mono ?_;rintro e w1 ⟨rfl,rfl⟩;first|rw[nk]|rw[nn]|rw[nh]));exact O9
   have hs2:¬se<0:=Za;by_cases ht:te.size<=300;case neg=>have ht2:(300:Int)<te.size:=Za;go_wp2_with (first|(go_at_call 70;refine(Cf _ _ _ _).mono ?_;rintro e w1 ⟨rfl,rfl⟩;rw[show DU 3 1 5=true from rfl])|(go_at_call 110;refine(AZ _ _ Zi).mono ?_;rintro e w1 ⟨rfl,rfl⟩;first|rw[nk]|rw[nn]|rw[nh]));exact PX
   have ht2:¬(300:Int)<te.size:=Za;by_cases hh:ho=⟨#[]⟩;.subst hh;go_wp2_with (first|(go_at_call 70;refine(Cf _ _ _ _).mono ?_;rintro e w1 ⟨rfl,rfl⟩;rw[show DU 3 1 5=true from rfl])|(go_at_call 110;refine(AZ _ _ Zi).mono ?_;rintro e w1 ⟨rfl,rfl⟩;first|rw[nk]|rw[nn]|rw[nh]));exact Pe
   .have hhb:=Il hh;have hhl:=BR hh;cases nh:Bv ho with
    |false=>exact WR
    |true=>exact WR
  case rest=>obtain⟨rfl,rfl⟩:=hcut;cases hcm:Ed ⟨3,ki,na,se,te,ho⟩with
   |false=>have HE:=Ai (show Er ⟨3,ki,na,se,te,ho⟩=false by unfold Er;rw[hcm];rfl);go_wp2;go_ret;exact⟨Av HE.symm,An _ _⟩
   |true=>
    have CT:=Ai hcm;clear hcm;by_cases hte:te=⟨#[]⟩
    .subst hte;by_cases hho:ho=⟨#[]⟩
     .subst hho;have HE:=Ai (show Er ⟨3,ki,na,se,⟨#[]⟩,⟨#[]⟩⟩=Ew ⟨3,ki,na,se,⟨#[]⟩,⟨#[]⟩⟩by unfold Er;rw[CT.out];rfl);exact OL
     .have hhob:=Il hho;have hhoe:ho.toList.isEmpty=false:=by simp[BR hho]
      have hhol:=BR hho;have HE:=Ai (show Er ⟨3,ki,na,se,⟨#[]⟩,ho⟩=Ew ⟨3,ki,na,se,⟨#[]⟩,ho⟩by unfold Er;rw[CT.out];rfl);exact OD
    .have hteb:=Il hte;have htee:te.toList.isEmpty=false:=by simp[BR hte]
     have htel:=BR hte;have HE:=Ai (show Er ⟨3,ki,na,se,te,ho⟩=Ew ⟨3,ki,na,se,te,ho⟩by unfold Er;rw[CT.out];rfl);exact Sq
 .go_enter func74,ntmps74;go_upto_region 1 with fail;go_cut[42]from 5 to 94 (λs42 wx=>s42=.bool (!Ed ⟨4,ki,na,se,te,ho⟩)/\W.alloc (.cells #[.i 4,.s ki,.s na,.i se,.s te,.s ho] 40)=wx);case first=>cases nk:Bv ki with
   |false=>go_wp2_with (first|(go_at_call 70;refine(Cf _ _ _ _).mono ?_;rintro e w1 ⟨rfl,rfl⟩;rw[show DU 4 1 5=true from rfl])|(go_at_call 110;refine(AZ _ _ Zi).mono ?_;rintro e w1 ⟨rfl,rfl⟩;first|rw[nk]|rw[nn]|rw[nh]));exact Py
   |true=>cases nn:Bv na with
   |false=>go_wp2_with (first|(go_at_call 70;refine(Cf _ _ _ _).mono ?_;rintro e w1 ⟨rfl,rfl⟩;rw[show DU 4 1 5=true from rfl])|(go_at_call 110;refine(AZ _ _ Zi).mono ?_;rintro e w1 ⟨rfl,rfl⟩;first|rw[nk]|rw[nn]|rw[nh]));exact Pr
   |true=>
   by_cases hs:0<=se;case neg=>have hs2:se<0:=Za;go_wp2_with (first|(go_at_call 70;refine(Cf _ _ _ _).mono ?_;rintro e w1 ⟨rfl,rfl⟩;rw[show DU 4 1 5=true from rfl])|(go_at_call 110;refine(AZ _ _ Zi).mono ?_;rintro e w1 ⟨rfl,rfl⟩;first|rw[nk]|rw[nn]|rw[nh]));exact O9
   have hs2:¬se<0:=Za;by_cases ht:te.size<=300;case neg=>have ht2:(300:Int)<te.size:=Za;go_wp2_with (first|(go_at_call 70;refine(Cf _ _ _ _).mono ?_;rintro e w1 ⟨rfl,rfl⟩;rw[show DU 4 1 5=true from rfl])|(go_at_call 110;refine(AZ _ _ Zi).mono ?_;rintro e w1 ⟨rfl,rfl⟩;first|rw[nk]|rw[nn]|rw[nh]));exact PX
   have ht2:¬(300:Int)<te.size:=Za;by_cases hh:ho=⟨#[]⟩
   .subst hh;go_wp2_with (first|(go_at_call 70;refine(Cf _ _ _ _).mono ?_;rintro e w1 ⟨rfl,rfl⟩;rw[show DU 4 1 5=true from rfl])|(go_at_call 110;refine(AZ _ _ Zi).mono ?_;rintro e w1 ⟨rfl,rfl⟩;first|rw[nk]|rw[nn]|rw[nh]));exact Pe
   .have hhb:=Il hh;have hhl:=BR hh;cases nh:Bv ho with
    |false=>exact WB
    |true=>exact WB
  case rest=>obtain⟨rfl,rfl⟩:=hcut;cases hcm:Ed ⟨4,ki,na,se,te,ho⟩with
   |false=>have HE:=Ai (show Er ⟨4,ki,na,se,te,ho⟩=false by unfold Er;rw[hcm];rfl);go_wp2;go_ret;exact⟨Av HE.symm,An _ _⟩
   |true=>
    have CT:=Ai hcm;clear hcm;by_cases hte:te=⟨#[]⟩
    .subst hte;by_cases hho:ho=⟨#[]⟩;.subst hho;have HE:=Ai (show Er ⟨4,ki,na,se,⟨#[]⟩,⟨#[]⟩⟩=Ew ⟨4,ki,na,se,⟨#[]⟩,⟨#[]⟩⟩by unfold Er;rw[CT.out];rfl);exact OL
     .have hhob:=Il hho;have hhoe:ho.toList.isEmpty=false:=by simp[BR hho]
      have hhol:=BR hho;have HE:=Ai (show Er ⟨4,ki,na,se,⟨#[]⟩,ho⟩=Ew ⟨4,ki,na,se,⟨#[]⟩,ho⟩by unfold Er;rw[CT.out];rfl);exact OD
    .have hteb:=Il hte;have htee:te.toList.isEmpty=false:=by simp[BR hte]
     have htel:=BR hte;have HE:=Ai (show Er ⟨4,ki,na,se,te,ho⟩=Ew ⟨4,ki,na,se,te,ho⟩by unfold Er;rw[CT.out];rfl);exact Sq
 .go_enter func74,ntmps74;go_upto_region 1 with fail;go_cut[42]from 5 to 94 (λs42 wx=>s42=.bool (!Ed ⟨5,ki,na,se,te,ho⟩)/\W.alloc (.cells #[.i 5,.s ki,.s na,.i se,.s te,.s ho] 40)=wx);case first=>cases nk:Bv ki with
   |false=>go_wp2_with (first|(go_at_call 70;refine(Cf _ _ _ _).mono ?_;rintro e w1 ⟨rfl,rfl⟩;rw[show DU 5 1 5=true from rfl])|(go_at_call 110;refine(AZ _ _ Zi).mono ?_;rintro e w1 ⟨rfl,rfl⟩;first|rw[nk]|rw[nn]|rw[nh]));exact Py
   |true=>cases nn:Bv na with
   |false=>go_wp2_with (first|(go_at_call 70;refine(Cf _ _ _ _).mono ?_;rintro e w1 ⟨rfl,rfl⟩;rw[show DU 5 1 5=true from rfl])|(go_at_call 110;refine(AZ _ _ Zi).mono ?_;rintro e w1 ⟨rfl,rfl⟩;first|rw[nk]|rw[nn]|rw[nh]));exact Pr
   |true=>
   by_cases hs:0<=se;case neg=>have hs2:se<0:=Za;go_wp2_with (first|(go_at_call 70;refine(Cf _ _ _ _).mono ?_;rintro e w1 ⟨rfl,rfl⟩;rw[show DU 5 1 5=true from rfl])|(go_at_call 110;refine(AZ _ _ Zi).mono ?_;rintro e w1 ⟨rfl,rfl⟩;first|rw[nk]|rw[nn]|rw[nh]));exact O9
   have hs2:¬se<0:=Za;by_cases ht:te.size<=300;case neg=>have ht2:(300:Int)<te.size:=Za;go_wp2_with (first|(go_at_call 70;refine(Cf _ _ _ _).mono ?_;rintro e w1 ⟨rfl,rfl⟩;rw[show DU 5 1 5=true from rfl])|(go_at_call 110;refine(AZ _ _ Zi).mono ?_;rintro e w1 ⟨rfl,rfl⟩;first|rw[nk]|rw[nn]|rw[nh]));exact PX
   have ht2:¬(300:Int)<te.size:=Za;by_cases hh:ho=⟨#[]⟩
   .subst hh;go_wp2_with (first|(go_at_call 70;refine(Cf _ _ _ _).mono ?_;rintro e w1 ⟨rfl,rfl⟩;rw[show DU 5 1 5=true from rfl])|(go_at_call 110;refine(AZ _ _ Zi).mono ?_;rintro e w1 ⟨rfl,rfl⟩;first|rw[nk]|rw[nn]|rw[nh]));exact Pe
   .have hhb:=Il hh;have hhl:=BR hh;cases nh:Bv ho with
    |false=>exact Wj
    |true=>exact Wj
  case rest=>obtain⟨rfl,rfl⟩:=hcut;cases hcm:Ed ⟨5,ki,na,se,te,ho⟩with
   |false=>have HE:=Ai (show Er ⟨5,ki,na,se,te,ho⟩=false by unfold Er;rw[hcm];rfl);go_wp2;go_ret;exact⟨Av HE.symm,An _ _⟩
   |true=>
    have CT:=Ai hcm;clear hcm;by_cases hte:te=⟨#[]⟩
    .subst hte;by_cases hho:ho=⟨#[]⟩;.subst hho;have HE:=Ai (show Er ⟨5,ki,na,se,⟨#[]⟩,⟨#[]⟩⟩=Ew ⟨5,ki,na,se,⟨#[]⟩,⟨#[]⟩⟩by unfold Er;rw[CT.out];rfl);exact OL
     .have hhob:=Il hho;have hhoe:ho.toList.isEmpty=false:=by simp[BR hho]
      have hhol:=BR hho;have HE:=Ai (show Er ⟨5,ki,na,se,⟨#[]⟩,ho⟩=Ew ⟨5,ki,na,se,⟨#[]⟩,ho⟩by unfold Er;rw[CT.out];rfl);exact OD
    .have hteb:=Il hte;have htee:te.toList.isEmpty=false:=by simp[BR hte]
     have htel:=BR hte;have HE:=Ai (show Er ⟨5,ki,na,se,te,ho⟩=Ew ⟨5,ki,na,se,te,ho⟩by unfold Er;rw[CT.out];rfl);exact Sq
end Go.Proofs.YtllmmkchokkaaaaGreatDoor
namespace Go.Proofs.YtllmmkchokkaaaaGreatDoor
open Go.RowKit Go.Maps Go.Proofs.Tryz
theorem To{v:Wr}(h:Er v=true):v.op=1\/v.op=2\/v.op=3\/v.op=4\/v.op=5:=by
 unfold Er at h;rw[AG]at h;have h2:=h.2;unfold Ew at h2;split at h2;.exact AD ‹_›
 .split at h2;.exact Ax (AD ‹_›)
  .split at h2;.exact Ax (Ax (AD ‹_›))
   .split at h2;.exact Ax (Ax (Ax (AD ‹_›)))
    .split at h2;.exact Ax (Ax (Ax (Ax ‹_›)))
     .cases h2
theorem gK (K g:Nat)(B:Bk)(v:Wr)(L:List EO)(a1:OA)(c1:Nat)(k1 k3 k4:Value)(Pst:EO->World->World->Prop)(w:World)(hin:WS w K g B v L a1 c1 k1 k3 k4)(hP:∀D X E,Below w.1.size w X->FO X D K g B v L a1 c1 (EW B v) (JD B v)->w.1.size<=D->Xy B v L w X E->Bd B v=0->Calls prog 102 #[.p D 0,oC E] X λe w'=>e=.returned (.tuple #[])/\Pst E X w'):Calls prog 43 #[.p K 0,.agg (vW v)] w (G0 B v L Pst w):=by
 rcases To hin.ok.wr with h|h|h|h|h;.exact qE K g B v L a1 c1 k1 k3 k4 Pst w hin h hP
 .exact pC K g B v L a1 c1 k1 k3 k4 Pst w hin h hP
 .exact qN K g B v L a1 c1 k1 k3 k4 Pst w hin h hP
 .exact pT K g B v L a1 c1 k1 k3 k4 Pst w hin h hP
 .exact qZ K g B v L a1 c1 k1 k3 k4 Pst w hin h hP
end Go.Proofs.YtllmmkchokkaaaaGreatDoor
