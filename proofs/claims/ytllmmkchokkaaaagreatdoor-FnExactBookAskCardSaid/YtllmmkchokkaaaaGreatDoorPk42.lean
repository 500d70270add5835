import Derived.Test.YtllmmkchokkaaaaGreatDoorPk38
import Derived.Test.YtllmmkchokkaaaaGreatDoorPk25
import Derived.Defers
import Derived.Recover
set_option maxRecDepth 100000
set_option maxHeartbeats 8000000
namespace Go.Proofs.YtllmmkchokkaaaaGreatDoor
open Go.RowKit Go.Maps Go.Proofs.Tryz
theorem mJ{B:Bk}{v:Wr}(hok:Hp B v)(h:JD B v=true):EW B v<B.on/\BJ B v=B.os (EW B v):=by unfold JD at h;rw[AG]at h;have h1:EW B v<B.on:=of_decide_eq_true h.1;have h2:GI B.os v.kind v.name (EW B v)=0:=of_decide_eq_true h.2;refine⟨h1,?_⟩;have hfn:=Gw hok (Jm hok);rw[if_pos ⟨h1,h2⟩]at hfn;unfold BJ Cv;rw[hfn]
theorem pW{B:Bk}{v:Wr}(hok:Hp B v)(h:JD B v=false):BJ B v=oB:=by have hfn:=Gw hok (Jm hok);unfold JD at h;rw[if_neg (λq=>by simp[q.1,q.2]at h)]at hfn;unfold BJ Cv;rw[hfn]
theorem SJ (B:Bk)(v:Wr)(a1 a2 a3:OA)(c1 c2 c3:Nat)(w:World)(lo hi:Nat)(hhi:hi<=w.1.size)(hok:Hp B v)(hc:Bz w lo hi B a1 a2 a3):Calls prog 167 #[.agg (vB B a1 a2 a3 c1 c2 c3),.agg #[.s v.kind,.s v.name]] w λe w'=>e=.returned (.i (BJ B v).ver)/\Below w.1.size w w':=by
 have hB:Below w.1.size w ((w.alloc (.cells (vB B a1 a2 a3 c1 c2 c3) 35)).alloc (.cells #[.s v.kind,.s v.name] 139)):=(Ae _ _).alloc Ze _;have GN:=Ai hok;have HC:=Ai hc;have HB:=Ai hB;clear hok hc hB;go_enter func167,ntmps167;go_wp2_with fail;refine(SD B v a1 c1 _ lo hi Zd (HC.o.below HB hhi) GN).mono ?_;rintro e w1 ⟨rfl,hb1⟩;have Qb:=Ai (HB.trans (hb1.mono Zd));obtain⟨A0,_,_,_⟩:=Kl hb1;have q2:=A0 2;simp only[Ah,Ad,Ab]at q2;have z1:w.1.size+1<w1.1.size:=by have:=hb1.size;simp at this;omega
 clear A0 hb1;cases hfo:JD B v with
 |false=>have HE:=Ai (show(0:Int)=(BJ B v).ver by rw[pW GN.out hfo];rfl);clear q2;go_wp2;go_ret;exact⟨Bs HE,Qb⟩
 |true=>obtain⟨h1,h2⟩:=mJ GN hfo;obtain⟨b,off,ah,ch,he,hlo,hbh,hcx,_⟩:=HC.o (EW B v) h1;subst he;obtain⟨d0,d1,d2,d3,d4,d5,d6⟩:=hcx.below Qb Za;have HE:=Ai h2;have h100:=GN.on;have h1':ML B.os v.kind v.name B.on<B.on:=h1;unfold EW at d0 d1 d2 d3 d4 d5 d6;clear h1 h2 hcx;go_wp2;go_ret;exact⟨Bs (by rw[HE.out];rfl),Qb⟩
def jZ (y:Wt):Wr:=⟨3,y.kind,y.name,0,⟨#[]⟩,⟨#[]⟩⟩
theorem qT{B:Bk}{y:Wt}(hf:Cx B)(hv:Bi (Ht B) 7=true)(hy:PB y=true)(hz:PA y):Hp B (jZ y):=by
 unfold PB at hy;simp only[AG]at hy;refine eB hf hv ?_ ⟨hz.z0,hz.z1,by show((0:Nat):Int)<=_;omega,by show((0:Nat):Int)<=_;omega⟩;have e1:LN (⟨#[]⟩:ByteArray)=true:=by simp[LN]
 unfold Er Ed Ew jZ;simp[hy.1,hy.2.1,e1];exact Ap _
def lH (_s0 z:Nat)(B:Bk)(a1 a2 a3:OA)(c1 c2 c3:Nat)(y:Wt)(i:Nat)(u:Value)(_X:World):Prop:=match i with
 |0=>u=.agg (vB B a1 a2 a3 c1 c2 c3)
 |1=>u=.p z 0
 |2=>u=.s y.kind
 |3=>u=.p z 1
 |4=>u=.s y.name
 |5=>u=.agg #[.s y.kind,.s y.name]
 |6=>u=.i (BJ B (jZ y)).ver
 |7=>u=.p z 2
 |8=>u=.i y.ver
 |9=>u=.bool ((BJ B (jZ y)).ver !=y.ver)
 |_=>True
theorem UE{P:Prop}(h:P:=by have q0:=HY X hb 0 Ze;have q1:=HY X hb 1 Ze;have q2:=HY X hb 2 Ze;simp only[Bg,Af,Ag]at q0 q1 q2;exact sg):P:=h
theorem eF{P:Prop}(h:P:=by have p0:=Re X hb 0 Ze;have p1:=Re X hb 1 Ze;have p2:=Re X hb 2 Ze;have p3:=Re X hb 3 Ze;have p4:=Re X hb 4 Ze;simp only[Bg,Af,Ag]at p0 p1 p2 p3 p4;exact sg):P:=h
theorem qW (p0 p1 p3 p4 p6 p7 p8 p9 Eb Es Eh Ev EK FA EU E9 Ez o0 o1 o2 o3 o4 o5 o6 o7 o8 o9:Value)(s0 z:Nat)(B:Bk)(a1 a2 a3:OA)(c1 c2 c3:Nat)(y:Wt)(W:World)(hbk:Cl W s0 (GB B a1 a2 a3 c1 c2 c3))(hy:Cl W z [.s y.kind,.s y.name,.i y.ver])(hs:s0<W.1.size)(hz:z<W.1.size)(hin:Bz W 0 s0 B a1 a2 a3)(hok:Hp B (jZ y))(Q:Exit->Act->World->Prop)(hQ:∀(t:Nat->Value) X,Below W.1.size W X->Q .normal ⟨#[p0,p1,.pointer (some ⟨s0,0,none⟩),p3,p4,.pointer (some ⟨z,0,none⟩),p6,p7,p8,p9,Eb,Es,Eh,t 0,t 1,t 2,t 3,t 4,t 5,t 6,t 7,t 8,.bool ((BJ B (jZ y)).ver !=y.ver),Ev,EK,FA,EU,E9,Ez],[]⟩ X):Code.wp prog (Code.region 4 #[⟨some 13,.load 35 (.tmp 2),35, "l3_book_bundle.go:82",#[],none⟩,⟨some 14,.fieldAddr 158 (.tmp 5) 0,0, "l3_book_bundle.go:82",#[],none⟩,⟨some 15,.load 9 (.tmp 14),9, "l3_book_bundle.go:82",#[⟨1,.data⟩],none⟩,⟨some 16,.fieldAddr 158 (.tmp 5) 1,0, "l3_book_bundle.go:82",#[],none⟩,⟨some 17,.load 9 (.tmp 16),9, "l3_book_bundle.go:82",#[⟨3,.data⟩],none⟩,⟨some 18,.build 139 #[(0,.tmp 15),(1,.tmp 17)],139, "l3_book_bundle.go:82",#[⟨2,.data⟩,⟨4,.data⟩],none⟩,⟨some 19,.call ⟨.value (.func 167),#[.tmp 13,.tmp 18],#[35,139]⟩,3, "l3_book_bundle.go:82",#[⟨0,.data⟩,⟨5,.data⟩],none⟩,⟨some 20,.fieldAddr 158 (.tmp 5) 2,0, "l3_book_bundle.go:82",#[],none⟩,⟨some 21,.load 3 (.tmp 20),3, "l3_book_bundle.go:82",#[⟨7,.data⟩],none⟩,⟨some 22,.binOp .neq 3 (.tmp 19) (.tmp 21) 3,4, "l3_book_bundle.go:82",#[⟨6,.data⟩,⟨8,.data⟩],none⟩] true) Q ⟨#[p0,p1,.p s0 0,p3,p4,.p z 0,p6,p7,p8,p9,Eb,Es,Eh,o0,o1,o2,o3,o4,o5,o6,o7,o8,o9,Ev,EK,FA,EU,E9,Ez],[]⟩ W:=by
 have Re:=Ai (λ(X:World)(hb:Below W.1.size W X)=>hbk.below hb hs);have HY:=Ai (λ(X:World)(hb:Below W.1.size W X)=>hy.below hb hz);have Fv:=Ai (λ(X:World)(hb:Below W.1.size W X)=>hin.below hb Za);have GN:=Ai hok;clear hbk hy hin hok;refine OH Zc 10 (λt:Nat->Value=>#[p0,p1,.p s0 0,p3,p4,.p z 0,p6,p7,p8,p9,Eb,Es,Eh,t 0,t 1,t 2,t 3,t 4,t 5,t 6,t 7,t 8,t 9,Ev,EK,FA,EU,E9,Ez]) (λi=>[o0,o1,o2,o3,o4,o5,o6,o7,o8,o9].getD i undef) (lH s0 z B a1 a2 a3 c1 c2 c3 y) Zc Zc (λi u X Y _ h _=>h) rfl ?_ ?_
 .intro i hi t X K hb hg hK;have zX:=hb.size;have hs2:=Aa hs zX;have hz2:=Aa hz zX;rcases(show i=0\/i=1\/i=2\/i=3\/i=4\/i=5\/i=6\/i=7\/i=8\/i=9 by omega)with rfl|rfl|rfl|rfl|rfl|rfl|rfl|rfl|rfl|rfl;.exact eF
  .exact sg
  .have ea:t 1=_:=hg 1 (AX rfl);exact UE
  .exact sg
  .have ea:t 3=_:=hg 3 (AX rfl);exact UE
  .have ea:t 2=_:=hg 2 (AX rfl);have eb:t 4=_:=hg 4 (AX rfl);exact sg
  .have e0:t 0=_:=hg 0 (AX rfl);have e5:t 5=_:=hg 5 (AX rfl);refine Am rfl rfl ?_;have HK:=Ai hK;clear hK hg;go_simp;go_at_call 167;refine(SJ B (jZ y) a1 a2 a3 c1 c2 c3 X 0 s0 Za GN (Fv X hb)).mono ?_;rintro r Y ⟨rfl,hbY⟩;have h:=HK _ Y rfl hbY;simpa[AF,e0,e5]using h
  .exact sg
  .have ea:t 7=_:=hg 7 (AX rfl);exact UE
  .have ea:t 6=_:=hg 6 (AX rfl);have eb:t 8=_:=hg 8 (AX rfl);exact sg
 .intro t X hb hg;have e9:t 9=_:=hg 9 Za;have h:=hQ t X hb;rw[<-e9]at h;exact h
def bg (B:Bk)(x:Bu)(w:World)(e:Ending)(w':World):Prop:=Below w.1.size w w'/\((∃k,k<x.wn/\SS B x=k/\e=.panicked [{v:=.iface 161 (.agg #[.i (k:Nat),.iface 90 (.agg #[.i 9,.i 0])]),recovered:=false}])\/((∀j,j<x.wn->K1 B (x.ws j)=true)/\e=.returned (.tuple #[])))
theorem Qp (B:Bk)(x:Bu)(a1 a2 a3:OA)(c1 c2 c3:Nat)(ua ub:OA)(d1:Nat)(w:World)(hf:Cx B)(hv:Bi (Ht B) 7=true)(hu:Ek x)(hb:Pc x)(hbk:Bz w 0 w.1.size B a1 a2 a3)(hbu:CG w 0 w.1.size x ua ub):Calls prog 113 #[.agg (vB B a1 a2 a3 c1 c2 c3),.l ua x.wn d1] w λe w'=>bg B x w e w':=by
 have hq:Cl (w.alloc (.cells (vB B a1 a2 a3 c1 c2 c3) 35)) w.1.size (GB B a1 a2 a3 c1 c2 c3):=λj hj=>by rw[At];rcases(show j=0\/j=1\/j=2\/j=3\/j=4 by simp at hj;omega)with rfl|rfl|rfl|rfl|rfl<;>rfl
 have hB:=Ae w (.cells (vB B a1 a2 a3 c1 c2 c3) 35);have HF:=Ai hf;have HV:=Ai hv;have HU:=Ai hu;have HO:=Ai hb;have Re:=Ai hbk;have sE:=Ai hbu;clear hf hv hu hb hbk hbu;have hwn:=HO.wn;go_enter func113,ntmps113;go_upto_region 1 with fail;generalize w.alloc (.cells (vB B a1 a2 a3 c1 c2 c3) 35)=W1 at hq hB⊢;have HQ:=Ai hq;have HB:=Ai hB;clear hq hB;go_wp2;go_loopw[8](λi wr=>∃k:Nat,k<=x.wn/\i=.i k/\Hid (∀j,j<k->K1 B (x.ws j)=true)/\Hid (Cl wr w.1.size (GB B a1 a2 a3 c1 c2 c3))/\Hid (Below w.1.size w wr))(λi _=>x.wn-(intOf i).toNat);case atStart=>exact⟨0,Ap _,rfl,Ai (λj hj=>absurd hj (Al _)),HQ,HB⟩
 case round=>
  clear HQ HB;obtain⟨k,hk,rfl,HA,HQ,HB⟩:=hrel;by_cases hkn:k<x.wn
  .obtain⟨b,off,hu1,hlo,hbh,hcx⟩:=sE.wt k hkn;subst hu1;obtain⟨e0,e1,e2⟩:=hcx.below HB Za;clear hcx;have zb:=HB.size;have zq:w.1.size<wr.1.size:=MQ (HQ.out 0 Ze);go_wp2;have hy:Cl (wr.alloc (.cells #[.s (x.ws k).kind,.s (x.ws k).name,.i (x.ws k).ver] 158)) wr.1.size [.s (x.ws k).kind,.s (x.ws k).name,.i (x.ws k).ver]:=λj hj=>by rw[At];rcases(show j=0\/j=1\/j=2 by simp at hj;omega)with rfl|rfl|rfl<;>rfl
   have pB:=Ai (HQ.below (Ae wr (.cells #[.s (x.ws k).kind,.s (x.ws k).name,.i (x.ws k).ver] 158)) zq);have Qw:=Ai (HB.alloc zb (.cells #[.s (x.ws k).kind,.s (x.ws k).name,.i (x.ws k).ver] 158));have HY:=Ai hy;clear hy HQ HB e0 e1 e2;refine qW _ _ _ _ _ _ _ _ _ _ _ _ _ _ _ _ _ _ _ _ _ _ _ _ _ _ _ w.1.size wr.1.size B a1 a2 a3 c1 c2 c3 (x.ws k) _ pB HY Zd Ze (Re.below Qw Bj) (qT HF HV (HO.ws k hkn) (HU.ws k hkn)) _ ?_;intro t X hbX;have HQ:=Ai (pB.below hbX Zd);have HB:=Ai (Qw.trans (hbX.mono Qw.size));clear pB Qw hbX HY;by_cases hok:(BJ B (jZ (x.ws k))).ver=(x.ws k).ver
   .have HK:=Ai (show K1 B (x.ws k)=true from decide_eq_true hok);have hbn:((BJ B (jZ (x.ws k))).ver !=(x.ws k).ver)=false:=by simp[hok]
    clear hok;go_wp2;go_roundw;case rel=>exact⟨k+1,Za,by go_num,Ai (λj hj=>by
     rcases As j k with q|q;.exact HA j q
     .obtain rfl:j=k:=Za;exact HK),HQ,HB⟩
    case measure=>simp[intOf];omega
   .have HK:=Ai (show K1 B (x.ws k)=false from decide_eq_false hok);have hbn:((BJ B (jZ (x.ws k))).ver !=(x.ws k).ver)=true:=by simp[hok]
    clear hok;go_wp2;exact⟨rfl,HB,AD ⟨k,hkn,OG hkn HA HK,rfl⟩⟩
  .have hA1:=Ai (show∀j,j<x.wn->K1 B (x.ws j)=true from λj hj=>HA.out j Za);clear HA;go_wp2;exact bodyPost_end (results_none rfl _ _ _) rfl ⟨HB,Ax ⟨hA1,rfl⟩⟩
structure Se (w:World)(B:Bk)(p:Pl)(d1 d2 K:Nat):Prop where
 o:Du w B.on p.a1 d1
 h:Du w B.hn p.a2 d2
 os:∀i,i<B.on->Du w (B.os i).hn (p.A1 i) (p.C1 i)ak:∀b off,(p.a1=some ⟨b,off,none⟩\/p.a2=some ⟨b,off,none⟩)->off=0/\¬b=K
 fr:∀b,p.a1=some ⟨b,0,none⟩->∀j,w.frozen? ⟨b,j,none⟩=false
theorem ZT{w:World}{base z n b off:Nat}{e:TypeId}{c:Nat}{xs:List Value}(h:w.ownsRow base e z (.l (some ⟨b,off,none⟩) n c) n xs):off=0/\base<=b:=by
 rcases h.2 with⟨e1,e2⟩|⟨g,cap',cur,e1,e2,e3,e4,_⟩;.cases e1
 .cases e1;exact⟨rfl,e2⟩
theorem eY{w:World}{ad:OA}{g n cap K:Nat}{x:Nat->Ch}{A:Nat->Option Addr}{C hb:Nat->Nat}(h:EG w ad g n x A C hb)(hc:Du w n ad cap)(hk:∀b off,ad=some ⟨b,off,none⟩->off=0/\¬b=K)(_hg:0<n->¬g=K):∃(c:Nat->Value)(g':Nat),¬g'=K/\DT w 9 ad g' 0 n cap (AI (n*9) c)/\∀i,i<n->LB c i (x i) (A i) (C i):=by
 rcases AW n with h0|h0
 .subst h0;have hn:∀i,i<0->LB (λ_=>.i 0) i (x i) (A i) (C i):=λi hi=>absurd hi (Al _);rcases hc.2 with⟨e1,_,e3⟩|⟨b,off,e1,e2⟩;.exact⟨λ_=>.i 0,K+1,Za,⟨by simp[AI],λu hu=>by simp[AI]at hu,AD ⟨e1,rfl,e3⟩⟩,hn⟩
  .obtain⟨o1,o2⟩:=hk b off e1;subst o1;exact⟨λ_=>.i 0,b,o2,⟨by simp[AI],λu hu=>by simp[AI]at hu,Ax ⟨e1,Ap _,e2,λt u hu=>by simp[AI]at hu⟩⟩,hn⟩
 .obtain⟨c,r,hat⟩:=h.row h0;refine⟨c,g,(hk g 0 (h.addr h0)).2,⟨Bl _ _,λu hu=>?_,Ax ⟨h.addr h0,hc.1,r.lt,λt u hu=>?_⟩⟩,hat⟩
  .obtain⟨j,hj,rfl⟩:=Ey.1 hu;have hj':j<n*9:=by simpa using hj
   have:=eJ (hat (j/9) Za) (j%9) Za;rwa[show j/9*9+j%9=j by omega]at this
  .obtain⟨h1,rfl⟩:=Gd hu;rw[Bc];exact r.cell t h1
theorem dR{w0 X w':World}{K:Nat}{B:Bk}{v:Wr}{p:Pl}{E:EO}{c:Nat->Value}{k1':Value}{d3:Nat}(hat:CZ w0 B p)(hb:Below w0.1.size w0 X)(hnK:¬DS p B K)(hcp:∀i,i<B.on->Du w0 (B.os i).hn (p.A1 i) (p.C1 i))(hKX:K<X.1.size)(hok:Hp B v)(hc:Bd B v=0)(hch:∀i,i<B.hn->LB c i (B.hs i) (p.A2 i) (p.C2 i))(hE:Xy B v (DE B.on B.os p.A1 p.C1 p.h1) w0 X E)(hKE:E.ob.hn≠0->¬E.hb=K)(hP:S8 K E.ob B.now (CS B v) k1' (.l p.a3 B.tn d3) (L2 B v (DE B.on B.os p.A1 p.C1 p.h1) E).length (B.hn-Ck B+1) (CI (L2 B v (DE B.on B.os p.A1 p.C1 p.h1) E)) ((AI (B.hn*9) c).drop (Ck B*9)) X w'):∃(q:Pl)(c1' c2':Nat),AH w' K 5 (Bg [.i (B.now+1),k1',.l q.a1 (FI B v).on c1',.l q.a2 (FI B v).hn c2',.l q.a3 (FI B v).tn d3])/\CZ w' (FI B v) q/\(∀k,DS q (FI B v) k->DS p B k\/w0.1.size<=k)/\Se w' (FI B v) q c1' c2' K/\q.a3=p.a3:=by
 obtain⟨a1',c1',a2',c2',A',C',hb',ho1,ho2,hr,z1,z2,hs,hf,hd1,hd2⟩:=hP;have hEo:=hE.1;have hcut:=kT B;obtain⟨hro,hho,hne⟩:=WW hat.o;have hol:(DE B.on B.os p.A1 p.C1 p.h1).map EO.ob=IL B.on B.os:=PM _ _ _ _ _;obtain⟨hl2,he2⟩:=qA (L:=DE B.on B.os p.A1 p.C1 p.h1) hok hol hEo hc;have hx:(jW B E).ob=C7 B v:=fS hEo;have hwb:C7 B v=⟨E.ob.kind,E.ob.name,B.now+1,E.ob.born,E.ob.text,E.ob.ending,E.ob.hn,E.ob.hs⟩:=hx.symm;have hhn:(C7 B v).hn=E.ob.hn:=by rw[hwb]
 have F:AP (λq=>q=K) w0 w':=(Aq hb).trans hf;have z0:=hb.size;have hL:∀e,e∈DE B.on B.os p.A1 p.C1 p.h1->∃i,i<B.on/\e=⟨B.os i,p.A1 i,p.C1 i,p.h1 i⟩:=λe he=>by obtain⟨i,hi,rfl⟩:=Mi he;rw[GQ]at hi;exact⟨i,hi,Ho hi⟩
 have hho':Gp w' (DE B.on B.os p.A1 p.C1 p.h1):=hho.fr F (λe he h0 q=>by obtain⟨i,hi,rfl⟩:=hL e he;exact hnK (AD (Ax ⟨i,hi,h0,q.symm⟩)));have hsub:(L1 B v (DE B.on B.os p.A1 p.C1 p.h1)).Sublist (DE B.on B.os p.A1 p.C1 p.h1):=by
  unfold L1;split;.exact List.eraseIdx_sublist _ _
  .exact List.Sublist.refl _
 have hl1:Gp w' (L1 B v (DE B.on B.os p.A1 p.C1 p.h1)):=hho'.sub hsub;have hEv:AV w' E.hb (E.hb+1) E.A E.ob.hn E.ob.hs/\(E.ob.hn≠0->E.hb<X.1.size)/\(∀f,f∈L1 B v (DE B.on B.os p.A1 p.C1 p.h1)->E.ob.hn≠0->f.ob.hn≠0->E.hb≠f.hb)/\(E.ob.hn≠0->Qn p B E.hb\/w0.1.size<=E.hb):=by
  obtain⟨_,_,h3⟩:=hE;rcases h3 with⟨q0,q1,q2,q3⟩|⟨q1,q2,q3,q4,q5⟩
  .have hfi:Cw B.os v.kind v.name B.on=true:=(KB hc).resolve_right Za;have hpa:=Jm hok;have hfn:=Gw hok hpa;have hfo:EW B v<B.on/\GI B.os v.kind v.name (EW B v)=0:=by
    by_cases q:EW B v<B.on/\GI B.os v.kind v.name (EW B v)=0;.exact q
    .rw[if_neg q]at hfn;unfold Cw at hfi;rw[hfn]at hfi;cases hfi
   rw[if_pos hfo]at hfn;have hof:BJ B v=B.os (EW B v):=by unfold BJ Cv;rw[hfn]
   have hfb:JD B v=true:=by unfold JD;simp[hfo.1,hfo.2]
   have hix:=Ho (x:=B.os) (A:=p.A1) (C:=p.C1) (hb:=p.h1) hfo.1;rw[hix]at q1 q3;have e1:E.ob.hn=(B.os (EW B v)).hn/\E.ob.hs=(B.os (EW B v)).hs:=by rw[hEo,<-hof];rcases q0 with q|q<;>simp[C4,q]
   have hm:(⟨B.os (EW B v),p.A1 (EW B v),p.C1 (EW B v),p.h1 (EW B v)⟩:EO)∈DE B.on B.os p.A1 p.C1 p.h1:=by rw[<-hix];exact II (by rw[GQ];exact hfo.1)
   rw[q1,q3,e1.1,e1.2];refine⟨hho'.hold _ hm,λh0=>?_,λf hf h0 h1=>?_,λh0=>AD (Ax ⟨EW B v,hfo.1,h0,rfl⟩)⟩;.have:=hat.o.hlt _ hfo.1 h0;show p.h1 (EW B v)<_;omega
   .unfold L1 at hf;rw[if_pos hfb]at hf;obtain⟨j,hj,hjn,rfl⟩:=List.mem_eraseIdx_iff_getElem.1 hf;have hj':j<B.on:=by simpa[GQ]using hj
    rw[<-I0 hj,Ho hj']at h1⊢;exact λq=>hjn (hat.o.ap.inj j _ hj' hfo.1 h1 h0 q.symm)
  .refine⟨q5.frP hf (λh0=>⟨hKE h0,q4 h0⟩),q4,λf hf h0 h1=>?_,λ_=>Ax q3⟩;have:=hho.lt f (hsub.subset hf) h1;omega
 obtain⟨hE1,hE2,hE3,hE4⟩:=hEv;have hchar:∀e,e∈L2 B v (DE B.on B.os p.A1 p.C1 p.h1) E->e.ob.hn≠0->(Qn p B e.hb\/w0.1.size<=e.hb)/\e.hb<X.1.size:=λe he h0=>by
  have hold:∀f,f∈L1 B v (DE B.on B.os p.A1 p.C1 p.h1)->f.ob.hn≠0->(Qn p B f.hb\/w0.1.size<=f.hb)/\f.hb<X.1.size:=λf hf h1=>by obtain⟨i,hi,rfl⟩:=hL f (hsub.subset hf);have:=hat.o.hlt i hi h1;exact⟨AD (Ax ⟨i,hi,h1,rfl⟩),by show p.h1 i<_;omega⟩
  unfold L2 at he;split at he;.exact hold e he h0
  .rcases CJ.1 he with q|q;.exact hold e (Kb q) h0
   .rcases EI.1 q with q|q;.subst q;exact⟨hE4 h0,hE2 h0⟩
    .exact hold e (GF q) h0
 have hz:=hf.size;have hH2:Gp w' (L2 B v (DE B.on B.os p.A1 p.C1 p.h1) E):=by
  unfold L2;split;.exact hl1
  .refine YD (e:=jW B E) (by rw[Jx];exact hl1) hE1 (λh0=>?_) (λf hf h0 h1=>hE3 f (by rwa[Jx]at hf) h0 h1);have:=hE2 h0;show E.hb<_;omega
 obtain⟨g1,hg1⟩:=iE ho1;obtain⟨g2,hg2⟩:=iE ho2;have hg2:=hg2 Za;have nn:L2 B v (DE B.on B.os p.A1 p.C1 p.h1) E≠[]->0<(L2 B v (DE B.on B.os p.A1 p.C1 p.h1) E).length:=λh=>List.length_pos_iff.2 h;have hO:=fJ (w:=w') (ad:=a1') (g:=g1) (L:=L2 B v (DE B.on B.os p.A1 p.C1 p.h1) E) (λh=>(hg1 (nn h)).1) (λh=>by have q:=hg1 (nn h);have h9:=ho1;rw[q.1]at h9;exact aT h9 q.2.2.2) hH2 (λe he h0 q=>by have h1:=(hchar e he h0).2;have hpos:0<(L2 B v (DE B.on B.os p.A1 p.C1 p.h1) E).length:=List.length_pos_of_mem he;have h2:=(hg1 hpos).2.2.1;omega);have hO':=hO.congr hl2 he2;have hnw:([.i (B.now+1),.bool (CS B v),.s E.ob.kind,.s E.ob.name,.i (B.now+1),.i E.ob.born,.s E.ob.text,.bool E.ob.ending,.l A' E.ob.hn C']:List Value)=[.i (Dc B v).ver,.bool (Dc B v).gone,.s (Dc B v).ob.kind,.s (Dc B v).ob.name,.i (Dc B v).ob.ver,.i (Dc B v).ob.born,.s (Dc B v).ob.text,.bool (Dc B v).ob.ending,.l A' (Dc B v).ob.hn C']:=by simp only[Dc,hwb]
 rw[hnw,Vp B c _ rfl hcut]at ho2;have hr2:=hg2.1;have ho2':=ho2;rw[hr2]at ho2';have hC:EG w' a2' g2 (FI B v).hn (FI B v).hs (λi=>if i<B.hn-Ck B then p.A2 (i+Ck B)else A') (λi=>if i<B.hn-Ck B then p.C2 (i+Ck B)else C') (λi=>if i<B.hn-Ck B then p.h2 (i+Ck B)else hb'):=by
  have hm:(FI B v).hn=B.hn-Ck B+1:=rfl;have hsv:∀i,(FI B v).hs i=if i<B.hn-Ck B then B.hs (i+Ck B)else Dc B v:=λi=>rfl;refine⟨λ_=>hr2,λ_=>⟨_,JH ho2',λi hi=>?_⟩,λi hi=>?_,λi hi h0=>?_,⟨λi hi h0=>?_,λi j hi hj h0 h1 q=>?_⟩⟩
  .rw[hsv];rcases As i (B.hn-Ck B)with h|h
   .simp only[if_pos h];exact fM h (hch _ Za)
   .simp only[if_neg (L0.2 h)];obtain rfl:i=B.hn-Ck B:=Za;exact cG
  .rw[hsv];rcases As i (B.hn-Ck B)with h|h;.simp only[if_pos h];exact(hat.h.hold _ Za).frP F (λh0=>by have:=hat.h.hlt (i+Ck B) Za h0;exact⟨λq=>hnK (Ax (AD (Ax ⟨i+Ck B,Za,h0,q.symm⟩))),this⟩)
   .simp only[if_neg (L0.2 h)];have e1:(Dc B v).ob.hn=E.ob.hn/\(Dc B v).ob.hs=E.ob.hs:=by simp only[Dc,hwb];exact⟨trivial,trivial⟩
    rw[e1.1,e1.2];exact hs
  .rw[hsv]at h0;rcases As i (B.hn-Ck B)with h|h;.simp only[if_pos h]at h0⊢;exact Aa (hat.h.hlt _ Za h0) F.size
   .simp only[if_neg (L0.2 h)]at h0⊢;exact z2 (by rw[<-hhn];exact h0)
  .simp only[hsv]at h0;rcases As i (B.hn-Ck B)with h|h;.simp only[if_pos h]at h0⊢;have:=hat.h.hlt (i+Ck B) Za h0;omega
   .simp only[if_neg (L0.2 h)]at h0⊢;have:=(hd2 (by rw[<-hhn];exact h0)).2 g2 hg2.2.1;omega
  .simp only[hsv]at h0 h1;rcases As i (B.hn-Ck B)with h|h
   .rcases As j (B.hn-Ck B)with k|k;.simp only[if_pos h,if_pos k]at h0 h1 q;have:=hat.h.ap.inj _ _ Za Za h0 h1 q;omega
    .simp only[if_pos h,if_neg (L0.2 k)]at h0 h1 q;have:=hat.h.hlt (i+Ck B) Za h0;omega
   .rcases As j (B.hn-Ck B)with k|k;.simp only[if_neg (L0.2 h),if_pos k]at h0 h1 q;have:=hat.h.hlt (j+Ck B) Za h1;omega
    .omega
 have hT:Gn w' p.a3 p.g3 B.tn B.ts:=hat.t.fr F (λk hk e=>hnK (by have e':k=K:=e;rw[<-e'];exact Ax (Ax hk)));have c1:∀k,GA g1 (FI B v).on (λi=>((FI B v).os i).hn) (λi=>(Fm (L2 B v (DE B.on B.os p.A1 p.C1 p.h1) E) i).hb) k->(k=g1/\0<(FI B v).on)\/((Qn p B k\/w0.1.size<=k)/\k<X.1.size):=λk hk=>by
  rcases hk with⟨h0,rfl⟩|⟨i,hi,h0,rfl⟩;.exact AD ⟨rfl,h0⟩
  .have h0':((FI B v).os i).hn≠0:=h0;rw[<-he2 i hi]at h0';exact Ax (hchar _ (II Za) h0')
 have c2:∀k,GA g2 (FI B v).hn (λi=>((FI B v).hs i).ob.hn) (λi=>if i<B.hn-Ck B then p.h2 (i+Ck B)else hb') k->k=g2\/Vu p B k\/(k=hb'/\E.ob.hn≠0):=λk hk=>by
  rcases hk with⟨_,rfl⟩|⟨i,hi,h0,rfl⟩;.exact AD rfl
  .have hsv:(FI B v).hs i=if i<B.hn-Ck B then B.hs (i+Ck B)else Dc B v:=rfl;have h0:((FI B v).hs i).ob.hn≠0:=h0;rw[hsv]at h0;have hi':i<B.hn-Ck B+1:=hi;rcases As i (B.hn-Ck B)with h|h;.simp only[if_pos h]at h0⊢;exact Ax (AD (Ax ⟨i+Ck B,Za,h0,rfl⟩))
   .simp only[if_neg (L0.2 h)]at h0⊢;exact Ax (Ax ⟨trivial,by rw[<-hhn];exact h0⟩)
 have g1X:0<(FI B v).on->X.1.size<=g1/\Value.ownBlock (.l a1' (L2 B v (DE B.on B.os p.A1 p.C1 p.h1) E).length c1')=some g1:=λh=>by have q:=hg1 Za;exact⟨q.2.2.1,q.2.1⟩
 have hcl:∀f,f∈L1 B v (DE B.on B.os p.A1 p.C1 p.h1)->Du w' f.ob.hn f.A f.C:=λf hf=>by obtain⟨i,hi,rfl⟩:=hL f (hsub.subset hf);exact(hcp i hi).grow F.size
 have hc2:∀f,f∈L2 B v (DE B.on B.os p.A1 p.C1 p.h1) E->Du w' f.ob.hn f.A f.C:=λf hf'=>by
  unfold L2 at hf';split at hf';.exact hcl f hf'
  .rcases CJ.1 hf' with q|q;.exact hcl f (Kb q)
   .rcases EI.1 q with q|q;.subst q;exact hE.2.1.2.grow hf.size
    .exact hcl f (GF q)
 have hcx:Se w' (FI B v) ⟨a1',a2',p.a3,g1,g2,p.g3,λi=>(Fm (L2 B v (DE B.on B.os p.A1 p.C1 p.h1) E) i).A,λi=>(Fm (L2 B v (DE B.on B.os p.A1 p.C1 p.h1) E) i).C,λi=>(Fm (L2 B v (DE B.on B.os p.A1 p.C1 p.h1) E) i).hb,λi=>if i<B.hn-Ck B then p.A2 (i+Ck B)else A',λi=>if i<B.hn-Ck B then p.C2 (i+Ck B)else C',λi=>if i<B.hn-Ck B then p.h2 (i+Ck B)else hb'⟩ c1' c2' K:=by
  refine⟨?_,My ho2,λi hi=>?_,λb off q=>?_,λb q j=>?_⟩;.have:=My ho1;rw[hl2]at this;exact this
  .show Du w' ((FI B v).os i).hn (Fm (L2 B v (DE B.on B.os p.A1 p.C1 p.h1) E) i).A (Fm (L2 B v (DE B.on B.os p.A1 p.C1 p.h1) E) i).C;rw[<-he2 i hi];exact hc2 _ (II Za)
  .rcases q with q|q
   .have q':a1'=some ⟨b,off,none⟩:=q;rw[q']at ho1;obtain⟨e1,e2⟩:=ZT ho1;exact⟨e1,Za⟩
   .have q':a2'=some ⟨b,off,none⟩:=q;rw[q']at ho2;obtain⟨e1,e2⟩:=ZT ho2;exact⟨e1,Za⟩
  .have q':a1'=some ⟨b,0,none⟩:=q;rw[q']at ho1;exact ho1.frozenAt j
 rw[hl2]at hr;refine⟨⟨a1',a2',p.a3,g1,g2,p.g3,_,_,_,_,_,_⟩,c1',c2',hr,⟨hO',hC,hT,λk h1 h2=>?_,λk h1 h2=>?_,λk h1 h2=>?_⟩,λk h=>?_,hcx,rfl⟩
 .rcases c1 k h1 with⟨rfl,q⟩|⟨q1,q2⟩
  .have a:=g1X q;rcases c2 _ h2 with r|r|⟨r,r0⟩;.have:=hd1 _ g2 a.2 hg2.2.1;omega
   .have:=hat.h.blt r;omega
   .have:=(hd2 r0).1 _ a.2;omega
  .rcases c2 _ h2 with r|r|⟨r,r0⟩;.have:=hg2.2.2.1;omega
   .rcases q1 with q1|q1;.exact hat.d12 k q1 r
    .have:=hat.h.blt r;omega
   .omega
 .have h3:0<B.tn/\k=p.g3:=h2;have h4:=hat.t.blt h3;rcases c1 k h1 with⟨rfl,q⟩|⟨q1,q2⟩;.have a:=g1X q;omega
  .rcases q1 with q1|q1;.exact hat.d13 k q1 h3
   .omega
 .have h3:0<B.tn/\k=p.g3:=h2;have h4:=hat.t.blt h3;rcases c2 _ h1 with r|r|⟨r,r0⟩;.have:=hg2.2.2.1;omega
  .exact hat.d23 k r h3
  .omega
 .rcases h with h|h|h
  .rcases c1 k h with⟨rfl,q⟩|⟨q1,q2⟩;.have a:=g1X q;exact Ax Za
   .rcases q1 with q1|q1;.exact AD (AD q1)
    .exact Ax q1
  .rcases c2 _ h with r|r|⟨r,r0⟩;.have:=hg2.2.2.1;exact Ax Za
   .exact AD (Ax (AD r))
   .exact Ax Za
  .exact AD (Ax (Ax h))
theorem XJ (B:Bk)(v:Wr)(p:Pl)(d1 d2 d3:Nat)(W:World)(K:Nat)(hok:Hp B v)(hat:CZ W B p)(hcap:Se W B p d1 d2 K)(hnK:¬DS p B K)(hr:AH W K 5 (Bg (GB B p.a1 p.a2 p.a3 d1 d2 d3))):Calls prog 43 #[.p K 0,.agg (vW v)] W λe w'=>(¬Bd B v=0/\e=.returned (.iface 146 (.agg #[.i v.op,.s v.kind,.s v.name,.i v.seen,.s v.text,.s v.hold,.iface 90 (.agg #[.i (Bd B v),.i (Gz B v)])]))/\Below W.1.size W w')\/(Bd B v=0/\e=.returned .nilIface/\AP (λq=>q=K) W w'/\∃(q:Pl)(c1' c2':Nat),AH w' K 5 (Bg (GB (FI B v) q.a1 q.a2 q.a3 c1' c2' d3))/\CZ w' (FI B v) q/\Se w' (FI B v) q c1' c2' K/\(∀k,DS q (FI B v) k->DS p B k\/W.1.size<=k)/\q.a3=p.a3):=by
 have hatW:=hat;obtain⟨hro,hho,hne⟩:=WW hatW.o;obtain⟨c,gC,hgC,hrc',hch⟩:=eY hatW.h hcap.h (λb off q=>hcap.ak b off (Ax q)) (λh q=>hnK (Ax (AD (AD ⟨h,q.symm⟩))));have zK:=hr.lt;have hlen:(DE B.on B.os p.A1 p.C1 p.h1).length=B.on:=GQ _ _ _ _ _;have hL:∀e,e∈DE B.on B.os p.A1 p.C1 p.h1->∃i,i<B.on/\e=⟨B.os i,p.A1 i,p.C1 i,p.h1 i⟩:=λe he=>by obtain⟨i,hi,rfl⟩:=Mi he;rw[GQ]at hi;exact⟨i,hi,Ho hi⟩
 obtain⟨g1',hg1',hin'⟩:∃g,¬g=K/\WS W K g B v (DE B.on B.os p.A1 p.C1 p.h1) p.a1 d1 (.i B.floor) (.l p.a2 B.hn d2) (.l p.a3 B.tn d3):=by
  have hho1:∀e∈DE B.on B.os p.A1 p.C1 p.h1,AB W 0 W.1.size e.A e.ob.hn e.ob.hs:=λe he=>(hho.hold e he).inW (hho.lt e he);have hcp1:∀e∈DE B.on B.os p.A1 p.C1 p.h1,Du W e.ob.hn e.A e.C:=λe he=>by obtain⟨i,hi,rfl⟩:=hL e he;exact hcap.os i hi
  rcases hcap.o.2 with⟨e1,e2,e3⟩|⟨b,off,e1,e2⟩;.exact⟨K+1,Za,hr,AD ⟨e1,List.eq_nil_of_length_eq_zero (by rw[hlen];exact e2),e3⟩,PM _ _ _ _ _,hho1,hcp1,hok⟩
  .obtain⟨o1,o2⟩:=hcap.ak b off (AD e1);subst o1;refine⟨b,o2,hr,Ax ⟨e1,?_,by rw[hlen];exact hcap.o.1⟩,PM _ _ _ _ _,hho1,hcp1,hok⟩;rcases AW B.on with h0|h0;.have:DE B.on B.os p.A1 p.C1 p.h1=[]:=List.eq_nil_of_length_eq_zero (by rw[hlen];exact h0);rw[this];exact⟨e2,hcap.fr b e1,λi hi=>absurd hi (Al _)⟩
   .have:=hro (λq=>by rw[q]at hlen;simp at hlen;omega);rw[e1]at this;have e9:b=p.g1:=by have:=this.1;injection this with t;injection t
    rw[e9];exact this.2
 have hhn:=hok.hn;refine(gK K g1' B v _ p.a1 d1 _ _ _ (jB K B v (DE B.on B.os p.A1 p.C1 p.h1) (.i (FI B v).floor) (.l p.a3 B.tn d3) (B.hn-Ck B+1) ((AI (B.hn*9) c).drop (Ck B*9))) W hin' (pQ hin' hg1' (λe he X hf=>?_) ?_)).mono ?_
 .have h1:=hho.fr hf (λf hf' h0 q=>by obtain⟨i,hi,rfl⟩:=hL f hf';exact hnK (AD (Ax ⟨i,hi,h0,q.symm⟩)));exact(h1.hold e he).inW (h1.lt e he)
 .intro E X0 X gn A' C' o hb0 hf hrX;have hrcX:=(hrc'.grow hb0).fr hf hgC;by_cases h200:B.hn=200
  .have hcut:Ck B=1:=by unfold Ck;rw[if_pos h200]
   have hfl:(FI B v).floor=(B.hs 0).ver:=by unfold FI;simp[h200]
   rw[hcut,hfl];refine(XZ K ⟨B.now+1,gn,⟨E.ob.kind,E.ob.name,B.now+1,E.ob.born,E.ob.text,E.ob.ending,E.ob.hn,E.ob.hs⟩⟩ A' C' _ _ _ _ p.a2 gC 0 B.hn d2 (AI (B.hn*9) c) (B.hs 0).ver X hrX hrcX Za h200 ?_ (λq=>hgC q.symm)).mono (λe w' h=>h);rw[FY Za];have:=(hch 0 Za).1;rw[DF]at this;rw[this]
  .have hcut:Ck B=0:=by unfold Ck;rw[if_neg h200]
   have hfl:(FI B v).floor=B.floor:=by unfold FI;simp[h200]
   rw[hcut,hfl,DF,List.drop_zero,Nat.sub_zero];exact(jD K ⟨B.now+1,gn,⟨E.ob.kind,E.ob.name,B.now+1,E.ob.born,E.ob.text,E.ob.ending,E.ob.hn,E.ob.hs⟩⟩ A' C' _ _ _ _ p.a2 gC 0 B.hn d2 (AI (B.hn*9) c) X hrX hrcX Za h200).mono (λe w' h=>h)
 .rintro e w' (h|⟨hc,rfl,E,X,hbX,hE,hP⟩);.exact AD h
  .have zX:=hbX.size;have hKE:E.ob.hn≠0->¬E.hb=K:=λh0 q=>by
    obtain⟨h1,h2,h3⟩:=hE;rcases h3 with⟨q0,q1,q2,q3⟩|⟨q1,q2,q3,q4,q5⟩
    .have hfi:Cw B.os v.kind v.name B.on=true:=(KB hc).resolve_right Za;have hfn:=Gw hok (Jm hok);have hfo:EW B v<B.on/\GI B.os v.kind v.name (EW B v)=0:=by
      by_cases q:EW B v<B.on/\GI B.os v.kind v.name (EW B v)=0;.exact q
      .rw[if_neg q]at hfn;unfold Cw at hfi;rw[hfn]at hfi;cases hfi
     rw[if_pos hfo]at hfn;have hof:BJ B v=B.os (EW B v):=by unfold BJ Cv;rw[hfn]
     have e1:E.ob.hn=(B.os (EW B v)).hn:=by rw[h1,<-hof];rcases q0 with q|q<;>simp[C4,q]
     rw[Ho hfo.1]at q3;have q3':E.hb=p.h1 (EW B v):=q3;exact hnK (AD (Ax ⟨EW B v,hfo.1,by show(B.os (EW B v)).hn≠0;rw[<-e1];exact h0,by rw[<-q3'];exact q.symm⟩))
    .omega
   obtain⟨q,c1',c2',hr2,hat2,hbl,hcx,hq3⟩:=dR (w0:=W) hat hbX hnK hcap.os Za hok hc hch hE hKE hP;have hf:AP (λq=>q=K) X w':=by obtain⟨_,_,_,_,_,_,_,_,_,_,_,_,_,hf,_⟩:=hP;exact hf
   exact Ax ⟨hc,rfl,(Aq hbX).trans hf,q,c1',c2',hr2,hat2,hcx,hbl,hq3⟩
theorem Se.grow{w w':World}{B:Bk}{p:Pl}{d1 d2 K:Nat}(h:Se w B p d1 d2 K)(hb:Below w.1.size w w'):Se w' B p d1 d2 K:=⟨h.o.grow hb.size,h.h.grow hb.size,λi hi=>(h.os i hi).grow hb.size,h.ak,λb e j=>by
  rcases h.o.2 with⟨e1,_,_⟩|⟨b',off,e1,e2⟩;.rw[e1]at e;cases e
  .rw[e1]at e;cases e;exact(hb.frozen (p:=⟨b,j,none⟩) e2).trans (h.fr b e1 j)⟩
def NB (W:World)(K:Nat)(A3:OA)(D3:Nat)(Y:Bk):Prop:=∃(p:Pl)(d1 d2 d3:Nat),AH W K 5 (Bg (GB Y p.a1 p.a2 p.a3 d1 d2 d3))/\CZ W Y p/\Se W Y p d1 d2 K/\¬DS p Y K/\p.a3=A3/\d3=D3
theorem NB.grow{W W':World}{K:Nat}{A3:OA}{D3:Nat}{Y:Bk}(h:NB W K A3 D3 Y)(hb:Below W.1.size W W'):NB W' K A3 D3 Y:=by obtain⟨p,d1,d2,d3,h1,h2,h3,h4⟩:=h;exact⟨p,d1,d2,d3,h1.below hb h1.lt,h2.grow hb,h3.grow hb,h4⟩
def bb (B:Bk)(x:Bu)(A3:OA)(D3:Nat)(K:Nat)(w:World)(e:Ending)(w':World):Prop:=AP (λq=>q=K) w w'/\((∃k,k<x.rn/\(∀j,j<k->Ko B x j=true)/\¬Bd (Cd B x.rs k) (x.rs k)=0/\e=.panicked [{v:=.iface 161 (.agg #[.i (k:Nat),.iface 146 (.agg #[.i (x.rs k).op,.s (x.rs k).kind,.s (x.rs k).name,.i (x.rs k).seen,.s (x.rs k).text,.s (x.rs k).hold,.iface 90 (.agg #[.i (Bd (Cd B x.rs k) (x.rs k)),.i (Gz (Cd B x.rs k) (x.rs k))])])]),recovered:=false}])\/((∀j,j<x.rn->Ko B x j=true)/\e=.returned (.tuple #[])/\NB w' K A3 D3 (Cd B x.rs x.rn)))
theorem Px (B:Bk)(x:Bu)(A3:OA)(D3:Nat)(ua ub:OA)(d2 K s:Nat)(w:World)(hf:Cx B)(hv:Bi (Ht B) 7=true)(hu:Ek x)(hb:Pc x)(hbu:CG w 0 s x ua ub)(hsK:s<=K)(hK:K<w.1.size)(hn:NB w K A3 D3 B):Calls prog 114 #[.p K 0,.l ub x.rn d2] w λe w'=>bb B x A3 D3 K w e w':=by
 have HF:=Ai hf;have HV:=Ai hv;have HU:=Ai hu;have HO:=Ai hb;have sE:=Ai hbu;have HN:=Ai hn;clear hf hv hu hb hbu hn;have hrn:=HO.rn;go_enter func114,ntmps114;go_wp2;go_loopw[9](λi wr=>∃k:Nat,k<=x.rn/\i=.i k/\Hid (∀j,j<k->Ko B x j=true)/\Hid (AP (λq=>q=K) w wr)/\Hid (NB wr K A3 D3 (Cd B x.rs k)))(λi _=>x.rn-(intOf i).toNat);case atStart=>exact⟨0,Ap _,rfl,Ai (λj hj=>absurd hj (Al _)),Ai (AP.refl _ _),HN⟩
 case round=>
  clear HN;obtain⟨k,hk,rfl,HA,sP,HN⟩:=hrel;by_cases hkn:k<x.rn
  .obtain⟨b,off,hu1,hlo,hbh,hcx⟩:=sE.wr k hkn;subst hu1;have hbz:b<w.1.size:=Za;have cc:∀{j u},w.cell? ⟨b,j,none⟩=some u->wr.cell? ⟨b,j,none⟩=some u:=λ{j u}h=>(sP.cell (p:=⟨b,j,none⟩) hbz (by show¬b=K;omega)).trans h;have e0:=cc hcx.c0;have e1:=cc hcx.c1;have e2:=cc hcx.c2;have e3:=cc hcx.c3;have e4:=cc hcx.c4;have e5:=cc hcx.c5;have zr:=sP.size;have GN:=Ai (RT HF HV HU HO k hkn HA);clear hcx cc;go_wp2_with fail;obtain⟨p,g1,g2,g3,hrow,hat,hcap,hnK,hp3,hg3⟩:=HN.grow (Ae wr (.cells (vW (x.rs k)) 40));refine(XJ (Cd B x.rs k) (x.rs k) p g1 g2 g3 _ K GN hat hcap hnK hrow).mono ?_;rintro e w1 (⟨hc,rfl,hb1⟩|⟨hc,rfl,hf1,q,c1',c2',hr2,hat2,hcx2,hbl,hq3⟩);.have HC:=Ai hc;have FN:=Ai ((sP.trans (Aq (Ae wr _))).trans (Aq hb1));clear hc hb1 hrow hat hcap hnK hp3 hg3 e0 e1 e2 e3 e4 e5 HN;go_wp2;exact⟨rfl,FN,AD ⟨k,hkn,HA,HC,rfl⟩⟩
   .have HK:=Ai (show Ko B x k=true from decide_eq_true hc);have FN:=Ai ((sP.trans (Aq (Ae wr _))).trans hf1);have YH:=Ai (show NB w1 K A3 D3 (Cd B x.rs (k+1))from⟨q,c1',c2',g3,hr2,hat2,hcx2,λh=>(hbl K h).elim hnK (λh=>by simp at h;omega),hq3.trans hp3,hg3⟩);clear hc hf1 hr2 hat2 hcx2 hbl hq3 hrow hat hcap hnK hp3 hg3 e0 e1 e2 e3 e4 e5 HN;go_wp2;go_roundw;case rel=>exact⟨k+1,Za,by go_num,Ai (λj hj=>by
     rcases As j k with q|q;.exact HA j q
     .obtain rfl:j=k:=Za;exact HK),FN,YH⟩
    case measure=>simp[intOf];omega
  .have hA1:=Ai (show∀j,j<x.rn->Ko B x j=true from λj hj=>HA.out j Za);have YH:=Ai (show NB wr K A3 D3 (Cd B x.rs x.rn)by have:=HN.out;rwa[show k=x.rn by omega]at this);clear HA HN;go_wp2;exact bodyPost_end (results_none rfl _ _ _) rfl ⟨sP,Ax ⟨hA1,rfl,YH⟩⟩
theorem P7 (x:Value)(w:World):(Instr.typeAssert (.iface 161 x) 20 161 true).run prog w=.ok (.tuple #[x,.bool true]) w:=Zc
theorem Su (a b:Int)(X:World):(Instr.field 90 (.agg #[.i a,.i b]) 0).run prog X=.ok (.i a) X:=Zc
def mZ (za:Nat)(cause:Value)(cd dd:Int)(B:Bk)(a1 a2 a3:OA)(c1 c2 c3:Nat)(i:Nat)(u:Value)(_X:World):Prop:=match i with
 |0=>u=.p za 1
 |1=>u=cause
 |2=>u=.agg #[.i cd,.i dd]
 |3=>u=.i cd
 |4=>u=.agg (vB B a1 a2 a3 c1 c2 c3)
 |5=>u=.agg #[.i cd,.i B.now,.i B.floor,.l a1 B.on c1,.l a2 B.hn c2,.l a3 B.tn c3,.i 0]
 |_=>True
theorem rN (p2 p3 p5 p6 p7 p8 p9 Eb Es Eh El D8 Ej Ei Ev EK o0 o1 o2 o3 o4 o5:Value)(s0 z2 za:Nat)(cause:Value)(cd dd:Int)(B:Bk)(a1 a2 a3:OA)(c1 c2 c3:Nat)(cz:Nat->Value)(W:World)(hbk:Cl W s0 (GB B a1 a2 a3 c1 c2 c3))(hs:s0<W.1.size)(hza:za<W.1.size)(hca:W.cell? ⟨za,1,none⟩=some cause)(hz2:AH W z2 7 cz)(hcall:∀X,Below W.1.size W X->Calls prog 44 #[cause] X λe w'=>e=.returned (.agg #[.i cd,.i dd])/\Below X.1.size X w')(Q:Exit->Act->World->Prop)(hQ:∀(t:Nat->Value) X,AP (λq=>q=z2) W X/\AH X z2 7 (Bg [.i cd,.i B.now,.i B.floor,.l a1 B.on c1,.l a2 B.hn c2,.l a3 B.tn c3,.i 0])->Q .normal ⟨#[.p s0 0,.p z2 0,p2,p3,.p za 0,p5,p6,p7,p8,p9,Eb,Es,Eh,El,D8,Ej,Ei,t 0,t 1,t 2,t 3,t 4,t 5,Ev,EK],[]⟩ X):Code.wp prog (Code.region 5 #[⟨some 17,.fieldAddr 161 (.tmp 4) 1,0, "l3_book_bundle.go:71",#[],none⟩,⟨some 18,.load 86 (.tmp 17),86, "l3_book_bundle.go:71",#[⟨0,.data⟩],none⟩,⟨some 19,.call ⟨.value (.func 44),#[.tmp 18],#[86]⟩,90, "l3_book_bundle.go:71",#[⟨1,.data⟩],none⟩,⟨some 20,.field 90 (.tmp 19) 0,3, "l3_book_bundle.go:71",#[⟨2,.data⟩],none⟩,⟨some 21,.load 35 (.tmp 0),35, "l3_book_bundle.go:71",#[],none⟩,⟨some 22,.build 37 #[(0,.tmp 20),(1,.tmp 21)],37, "l3_book_bundle.go:71",#[⟨3,.data⟩,⟨4,.data⟩],none⟩,⟨none,.store 37 (.tmp 1) (.tmp 22),0, "l3_book_bundle.go:71",#[⟨5,.data⟩,⟨2,.chain⟩,⟨0,.phase⟩,⟨1,.phase⟩,⟨2,.phase⟩,⟨3,.phase⟩,⟨4,.phase⟩,⟨5,.phase⟩],none⟩] true) Q ⟨#[.p s0 0,.p z2 0,p2,p3,.p za 0,p5,p6,p7,p8,p9,Eb,Es,Eh,El,D8,Ej,Ei,o0,o1,o2,o3,o4,o5,Ev,EK],[]⟩ W:=by
 have Re:=Ai (λ(X:World)(hb:Below W.1.size W X)=>hbk.below hb hs);have HZ:=Ai hz2;have jP:=Ai hca;have ZE:=Ai hcall;clear hbk hz2 hca hcall;refine Et Zc 6 (λt:Nat->Value=>#[.p s0 0,.p z2 0,p2,p3,.p za 0,p5,p6,p7,p8,p9,Eb,Es,Eh,El,D8,Ej,Ei,t 0,t 1,t 2,t 3,t 4,t 5,Ev,EK]) (λi=>[o0,o1,o2,o3,o4,o5].getD i undef) (mZ za cause cd dd B a1 a2 a3 c1 c2 c3) (λa X=>∃t:Nat->Value,a=⟨#[.p s0 0,.p z2 0,p2,p3,.p za 0,p5,p6,p7,p8,p9,Eb,Es,Eh,El,D8,Ej,Ei,t 0,t 1,t 2,t 3,t 4,t 5,Ev,EK],[]⟩/\AP (λq=>q=z2) W X/\AH X z2 7 (Bg [.i cd,.i B.now,.i B.floor,.l a1 B.on c1,.l a2 B.hn c2,.l a3 B.tn c3,.i 0])) Zc Zc Zc (λi u X Y _ h _=>h) rfl ?_ ?_ ?_
 .intro i hi t X K hb hg hK;have zX:=hb.size;have hs2:=Aa hs zX;have hz2:=Aa hza zX;rcases(show i=0\/i=1\/i=2\/i=3\/i=4\/i=5 by omega)with rfl|rfl|rfl|rfl|rfl|rfl;.exact sg
  .have ea:t 0=_:=hg 0 (AX rfl);have q1:=(hb.cell (p:=⟨za,1,none⟩) hza).trans jP;exact sg
  .have e1:t 1=_:=hg 1 (AX rfl);refine Am rfl rfl ?_;have HK:=Ai hK;clear hK hg;go_simp;go_at_call 44;refine(ZE X hb).mono ?_;rintro r Y ⟨rfl,hbY⟩;have h:=HK _ Y rfl hbY;simpa[AF,e1]using h
  .have ea:t 2=_:=hg 2 (AX rfl);have hfd:=Su cd dd X;exact sg
  .exact eF
  .have ea:t 3=_:=hg 3 (AX rfl);have eb:t 4=_:=hg 4 (AX rfl);exact sg
 .intro t X K hb hg hK;have e5:t 5=_:=hg 5 Za;have hx:=HZ.below hb HZ.lt;have zl:=hx.lt;have fz:=hx.free;have r0:=hx.cell 0 Za;have r1:=hx.cell 1 Za;have r2:=hx.cell 2 Za;have r3:=hx.cell 3 Za;have r4:=hx.cell 4 Za;have r5:=hx.cell 5 Za;have r6:=hx.cell 6 Za;have h:=hK ⟨#[.p s0 0,.p z2 0,p2,p3,.p za 0,p5,p6,p7,p8,p9,Eb,Es,Eh,El,D8,Ej,Ei,t 0,t 1,t 2,t 3,t 4,t 5,Ev,EK],[]⟩ _ ⟨t,rfl,(Aq hb).trans (UI (w:=X) (z:=z2) (.i cd) (.i B.now) (.i B.floor) (.l a1 B.on c1) (.l a2 B.hn c2) (.l a3 B.tn c3) (.i 0)),Qo hx⟩;refine Am rfl rfl ?_;have H:=Ai h;clear hK hg h hx;go_simp;simpa[AF,e5]using H.out
 .rintro a X ⟨t,rfl,hp⟩;exact hQ t X hp
theorem UH (q0 q1 q2:Value)(w:World):CallsD prog 112 #[q0,q1,q2] .returning w λe u' w'=>e=.returned (.tuple #[])/\u'=.returning/\w'=w:=by refine callsD_of_wpS func112 rfl λc₀ cs hu=>?_;simp only[ntmps112,List.size_toArray,JO,List.length_nil,Nat.reduceAdd,Nat.reduceSub,Array.replicate_succ,Array.replicate_zero,List.push_toArray,List.append_toArray,KL,Ea];apply wpS_seq;apply wpS_region;simp[wpOpsS,go_sem,recoverD,hu,Exit.thenS];refine wpS_of_wp ?_;go_wp2;cases c₀;simp_all[bodyPostS,results,results112]
theorem NV (s0 z2 z3 n:Nat)(ct:TypeId)(cv cause:Value)(cd dd:Int)(older:List PanicEntry)(B:Bk)(a1 a2 a3:OA)(c1 c2 c3:Nat)(cz cy:Nat->Value)(w:World)(hcv:cause=.iface ct cv)(hbk:Cl w s0 (GB B a1 a2 a3 c1 c2 c3))(hs:s0<w.1.size)(hz2:AH w z2 7 cz)(hz3:AH w z3 1 cy)(h23:¬z2=z3)(_hs2:¬s0=z2)(hcall:∀X,Below w.1.size w X->Calls prog 44 #[cause] X λe w'=>e=.returned (.agg #[.i cd,.i dd])/\Below X.1.size X w'):CallsD prog 112 #[.p s0 0,.p z2 0,.p z3 0] (.panicking ({v:=.iface 161 (.agg #[.i (n:Nat),cause]),recovered:=false}::older)) w λe u' w'=>e=.returned (.tuple #[])/\u'=.panicking ({v:=.iface 161 (.agg #[.i (n:Nat),cause]),recovered:=true}::older)/\AP (λq=>q=z2\/q=z3) w w'/\AH w' z2 7 (Bg [.i cd,.i B.now,.i B.floor,.l a1 B.on c1,.l a2 B.hn c2,.l a3 B.tn c3,.i 0])/\AH w' z3 1 (Bg [.i (n:Nat)]):=by have Re:=Ai hbk;have yP:=Ai hz2;have yW:=Ai hz3;have ZE:=Ai hcall;clear hbk hz2 hz3 hcall;refine callsD_of_wpS func112 rfl λc₀ cs hu=>?_;simp only[ntmps112,List.size_toArray,JO,List.length_nil,Nat.reduceAdd,Nat.reduceSub,Array.replicate_succ,Array.replicate_zero,List.push_toArray,List.append_toArray,KL,Ea];apply wpS_seq;apply wpS_region;simp[wpOpsS,go_sem,recoverD,hu,Exit.thenS];refine wpS_of_wp ?_;subst hcv;have ta:=P7;go_wp2;have zz:=yP.lt;have zy:=yW.lt;refine rN _ _ _ _ _ _ _ _ _ _ _ _ _ _ _ _ _ _ _ _ _ _ s0 z2 w.1.size (.iface ct cv) cd dd B a1 a2 a3 c1 c2 c3 cz _ (Re.below FU hs) Zd Ze (Cz rfl) (yP.below FU zz) (λX hb=>ZE.out X ((Ae _ _).trans (hb.mono Ze))) _ ?_;rintro t X ⟨hfX,hrX⟩;have zX:=hfX.size;simp only[AE]at zX;have k0:X.cell? ⟨w.1.size,0,none⟩=some (.i (n:Nat)):=(hfX.cell (p:=⟨w.1.size,0,none⟩) Ze (by show¬w.1.size=z2;omega)).trans (Cz rfl);have r3:=(yW.below (Ae w (.cells #[.i (n:Nat),.iface ct cv] 161)) zy).fr hfX (λe=>h23 e.symm);have y0:=r3.cell 0 Za;have yf:=r3.free;have oY:=Ai (r3.set (o:=0) Za (.i (n:Nat)));have wN:=Ai (hrX.fr ((AP.refl (λq=>q=z3) X).setCell (p:=⟨z3,0,none⟩) rfl (.i (n:Nat))) h23);have af:=Ai ((((Aq (Ae w _)).trans (hfX.mono (λq e=>AD e))).trans ((AP.refl (λq=>q=z2\/q=z3) X).setCell (p:=⟨z3,0,none⟩) (Ax rfl) (.i (n:Nat)))));clear r3 hfX hrX;go_wp2;exact⟨rfl,_,rfl,_,results_none rfl _ _ _,rfl,rfl,af,wN,oY.congr (λj hj=>by obtain rfl:j=0:=Za;rfl)⟩
end Go.Proofs.YtllmmkchokkaaaaGreatDoor
