import Derived.Test.YtllmmkchokkaaaaGreatDoorPk20
import Derived.Test.YtllmmkchokkaaaaGreatDoorPk21
import Derived.Test.YtllmmkchokkaaaaGreatDoorPk14
set_option maxRecDepth 100000
set_option maxHeartbeats 8000000
namespace Go.Proofs.YtllmmkchokkaaaaGreatDoor
open Go.RowKit Go.Maps Go.Proofs.Tryz
theorem SG{w:World}{base e z n:Nat}{ad:OA}{cap:Nat}{xs:List Value}(h:w.ownsRow base e z (.l ad n cap) n xs)(h1:∀u∈xs,u.oneCell'=true):∃g,DT w z ad g 0 n cap xs/\(ad≠none->ad=some ⟨g,0,none⟩/\base<=g/\g<w.1.size/\∀j,w.frozen? ⟨g,j,none⟩=false):=by
 rcases h.2 with⟨e1,e2⟩|⟨g,cap',cur,e1,e2,e3,e4⟩;.cases e1;exact⟨0,⟨h.1,h1,AD ⟨rfl,e2,rfl⟩⟩,λq=>absurd rfl q⟩
 .cases e1;have hg:g<w.1.size:=(Cj.1 e3).1;refine⟨g,⟨h.1,h1,Ax ⟨rfl,e4.1,hg,λt u hu=>?_⟩⟩,λ_=>⟨rfl,e2,hg,λj=>h.frozenAt j⟩⟩;have ht:t<n*z:=by rw[<-h.1];exact(List.getElem?_eq_some_iff.1 hu).1
  rw[Bc,h.cellAt t ht];exact hu
theorem rO(v0 v1 v2 v3 v4 v:Value):∀j,j<5->Bg [v0,v,v2,v3,v4] j=D9 (Bg [v0,v1,v2,v3,v4]) 1 v j:=λj hj=>by rcases(show j=0\/j=1\/j=2\/j=3\/j=4 by omega)with rfl|rfl|rfl|rfl|rfl<;>rfl
theorem Ve(v0 v1 v2 v3 v4 v:Value):∀j,j<5->Bg [v,v1,v2,v3,v4] j=D9 (Bg [v0,v1,v2,v3,v4]) 0 v j:=λj hj=>by rcases(show j=0\/j=1\/j=2\/j=3\/j=4 by omega)with rfl|rfl|rfl|rfl|rfl<;>rfl
theorem cK(v0 v1 v2 v3 v4 v:Value):∀j,j<5->Bg [v0,v1,v2,v,v4] j=D9 (Bg [v0,v1,v2,v3,v4]) 3 v j:=eE v0 v1 v2 v3 v4 v
theorem jD(K:Nat)(x:Ch)(A:OA)(C:Nat)(v0 v1 v2 v4:Value)(a2:OA)(b off hn c2:Nat)(cs:List Value)(w:World)(hk:AH w K 5 (Bg [v0,v1,v2,.l a2 hn c2,v4]))(hc:DT w 9 a2 b off hn c2 cs)(hl:(hn:Int)<=100000)(h200:¬hn=200):Calls prog 161 #[.p K 0,.agg #[.i x.ver,.bool x.gone,.s x.ob.kind,.s x.ob.name,.i x.ob.ver,.i x.ob.born,.s x.ob.text,.bool x.ob.ending,.l A x.ob.hn C]] w λe w'=>e=.returned (.tuple #[])/\∃a4 c4,w'.ownsRow w.1.size 120 9 (.l a4 (hn+1) c4) (hn+1) (cs++[.i x.ver,.bool x.gone,.s x.ob.kind,.s x.ob.name,.i x.ob.ver,.i x.ob.born,.s x.ob.text,.bool x.ob.ending,.l A x.ob.hn C])/\AH w' K 5 (Bg [v0,v1,v2,.l a4 (hn+1) c4,v4])/\AP (λq=>q=K) w w':=by have hB:=Ae w (.cells #[.i x.ver,.bool x.gone,.s x.ob.kind,.s x.ob.name,.i x.ob.ver,.i x.ob.born,.s x.ob.text,.bool x.ob.ending,.l A x.ob.hn C] 120);have HC:=Ai (hc.grow hB);have zK:=hk.lt;have RK:=Ai (hk.below hB hk.lt);have hn1:((hn:Int)==200)=false:=Zd;have k0:=hk.cell 0 Zf;have k1:=hk.cell 1 Zf;have k2:=hk.cell 2 Zf;have k3:=hk.cell 3 Zf;have k4:=hk.cell 4 Zf;have kf:=hk.free;simp only[Bg,Af,Ag]at k0 k1 k2 k3 k4;have RK0:=Ai hk;clear hc hk hB h200;go_enter func161,ntmps161;go_wp2_with fail;refine(Tj a2 b off hn c2 hn cs x A C _ HC Bj Za).mono ?_;rintro r X⟨v3,rfl,hown,hbX⟩;obtain⟨a4,c4,rfl⟩:=DK hown;have hlen:=HC.len;rw[FG Za,List.drop_eq_nil_of_le Za,FP]at hown;have HO:=Ai hown;have RX:=Ai (RK.below hbX RK.lt);have BX:=Ai ((Ae w (.cells #[.i x.ver,.bool x.gone,.s x.ob.kind,.s x.ob.name,.i x.ob.ver,.i x.ob.born,.s x.ob.text,.bool x.ob.ending,.l A x.ob.hn C] 120)).trans (hbX.mono Ze));have zX:K<X.1.size:=RX.lt;clear k0 k1 k2 k3 k4 kf hown hbX;have k0:=RX.cell 0 Zf;have k1:=RX.cell 1 Zf;have k2:=RX.cell 2 Zf;have k3:=RX.cell 3 Zf;have k4:=RX.cell 4 Zf;have kf:=RX.free;simp only[Bg,Af,Ag]at k0 k1 k2 k3 k4;go_wp2;refine bodyPost_end (results_none rfl _ _ _) rfl ⟨rfl,a4,c4,?_,RX.vset Za (cK _ _ _ _ _ _),(Aq BX).trans (AP.setCell (P:=λq=>q=K) (AP.refl _ _) rfl _)⟩;exact CB (CD HO Ze) (P:=λq=>q=K) (AP.setCell (P:=λq=>q=K) (AP.refl _ _) rfl _) (λg hg e=>by have:=(HO.lt g hg).1;simp at this;omega)
theorem XZ (K:Nat)(x:Ch)(A:OA)(C:Nat)(v0 v1 v2 v4:Value)(a2:OA)(b off hn c2:Nat)(cs:List Value)(f0:Int)(w:World)(hk:AH w K 5 (Bg [v0,v1,v2,.l a2 hn c2,v4]))(hc:DT w 9 a2 b off hn c2 cs)(hl:(hn:Int)<=100000)(h200:hn=200)(hf0:cs[0]?=some (.i f0))(hKb:¬K=b):Calls prog 161 #[.p K 0,.agg #[.i x.ver,.bool x.gone,.s x.ob.kind,.s x.ob.name,.i x.ob.ver,.i x.ob.born,.s x.ob.text,.bool x.ob.ending,.l A x.ob.hn C]] w λe w'=>e=.returned (.tuple #[])/\∃a4 c4,w'.ownsRow w.1.size 120 9 (.l a4 (hn-1+1) c4) (hn-1+1) (cs.drop 9++[.i x.ver,.bool x.gone,.s x.ob.kind,.s x.ob.name,.i x.ob.ver,.i x.ob.born,.s x.ob.text,.bool x.ob.ending,.l A x.ob.hn C])/\AH w' K 5 (Bg [v0,.i f0,v2,.l a4 (hn-1+1) c4,v4])/\AP (λq=>q=K) w w':=by
 have hB:=Ae w (.cells #[.i x.ver,.bool x.gone,.s x.ob.kind,.s x.ob.name,.i x.ob.ver,.i x.ob.born,.s x.ob.text,.bool x.ob.ending,.l A x.ob.hn C] 120);have HC:=Ai (hc.grow hB);have zK:=hk.lt;have RK:=Ai (hk.below hB hk.lt);subst h200;obtain⟨rfl,hcap,zb,hcs⟩:a2=some ⟨b,off,none⟩/\200<=c2/\b<w.1.size/\∀t u,cs[t]?=some u->w.cell? ⟨b,off+t,none⟩=some u:=by
  rcases hc.src with⟨_,h,_⟩|h;.omega
  .exact h
 have hz:b<(w.alloc (.cells #[.i x.ver,.bool x.gone,.s x.ob.kind,.s x.ob.name,.i x.ob.ver,.i x.ob.born,.s x.ob.text,.bool x.ob.ending,.l A x.ob.hn C] 120)).1.size:=Zd;have f1:=hcs 0 _ hf0;rw[Nat.add_zero]at f1;have k0:=hk.cell 0 Zf;have k1:=hk.cell 1 Zf;have k2:=hk.cell 2 Zf;have k3:=hk.cell 3 Zf;have k4:=hk.cell 4 Zf;have kf:=hk.free;simp only[Bg,Af,Ag]at k0 k1 k2 k3 k4;have uE:=Ai hcs;have RK0:=Ai hk;clear hc hk hB hcs hf0;go_enter func161,ntmps161;go_wp2_with fail;have W2z:w.1.size<=((w.setCell ⟨K,1,none⟩ (.i f0)).alloc (.cells #[.i x.ver,.bool x.gone,.s x.ob.kind,.s x.ob.name,.i x.ob.ver,.i x.ob.born,.s x.ob.text,.bool x.ob.ending,.l A x.ob.hn C] 120)).1.size:=Ze;have F2:AP (λq=>q=K) w ((w.setCell ⟨K,1,none⟩ (.i f0)).alloc (.cells #[.i x.ver,.bool x.gone,.s x.ob.kind,.s x.ob.name,.i x.ob.ver,.i x.ob.born,.s x.ob.text,.bool x.ob.ending,.l A x.ob.hn C] 120)):=(AP.setCell (P:=λq=>q=K) (AP.refl _ _) rfl _).trans (Aq FU);have RC2:DT ((w.setCell ⟨K,1,none⟩ (.i f0)).alloc (.cells #[.i x.ver,.bool x.gone,.s x.ob.kind,.s x.ob.name,.i x.ob.ver,.i x.ob.born,.s x.ob.text,.bool x.ob.ending,.l A x.ob.hn C] 120)) 9 (some ⟨b,off+9,none⟩) b (off+9) 199 (c2-1) (cs.drop 9):=⟨by rw[List.length_drop,HC.len],λu hu=>HC.one u (GF hu),Ax ⟨rfl,Za,Za,λt u hu=>by rw[Ip]at hu;rw[Bf,F2.cell (p:=⟨b,off+(9+t),none⟩) zb (λe=>hKb e.symm)];exact uE _ u hu⟩⟩;have RK2:=Ai (show AH ((w.setCell ⟨K,1,none⟩ (.i f0)).alloc (.cells #[.i x.ver,.bool x.gone,.s x.ob.kind,.s x.ob.name,.i x.ob.ver,.i x.ob.born,.s x.ob.text,.bool x.ob.ending,.l A x.ob.hn C] 120)) K 5 (Bg [v0,.i f0,v2,.l (some ⟨b,off,none⟩) 200 c2,v4])from(RK0.vset Za (rO _ _ _ _ _ _)).below FU (by simpa using zK));refine(Tj (some ⟨b,off+9,none⟩) b (off+9) 199 (c2-1) 199 (cs.drop 9) x A C _ RC2 Bj Za).mono ?_;rintro r X⟨v3,rfl,hown,hbX⟩;obtain⟨a4,c4,rfl⟩:=DK hown;have hlen:=RC2.len;rw[show(cs.drop 9).take (199*9)=cs.drop 9 from FG Za,show(cs.drop 9).drop (199*9)=[]from List.drop_eq_nil_of_le Za,FP]at hown;have HO:=Ai hown;have RX:=Ai (RK2.below hbX RK2.lt);have BX:=Ai (F2.trans (Aq hbX));have zX:K<X.1.size:=RX.lt;clear k0 k1 k2 k3 k4 kf hown hbX RC2 F2 f1 hlen;have k0:=RX.cell 0 Zf;have k1:=RX.cell 1 Zf;have k2:=RX.cell 2 Zf;have k3:=RX.cell 3 Zf;have k4:=RX.cell 4 Zf;have kf:=RX.free;simp only[Bg,Af,Ag]at k0 k1 k2 k3 k4;go_wp2;refine bodyPost_end (results_none rfl _ _ _) rfl ⟨rfl,a4,c4,?_,RX.vset Za (cK _ _ _ _ _ _),BX.trans (AP.setCell (P:=λq=>q=K) (AP.refl _ _) rfl _)⟩;exact CB (CD HO W2z) (P:=λq=>q=K) (AP.setCell (P:=λq=>q=K) (AP.refl _ _) rfl _) (λg hg e=>by have:=(HO.lt g hg).1;simp at this;omega)
def lK (D K:Nat)(_y:Wr)(p:Nat)(_fo:Bool)(_k0 _k1 _k3 _k4:Value)(a1:OA)(_b _off n c1:Nat)(cs:List Value)(W:World)(i:Nat)(v:Value)(X:World):Prop:=match i with
 |0=>v=.p D 0
 |1=>v=.p D 0
 |2=>v=.p D 0
 |3=>v=.p K 0
 |4=>v=.p D 0
 |5=>v=.p D 0
 |6=>v=.p D 0
 |7=>v=.p K 0
 |8=>v=.p K 0
 |9=>v=.p K 2
 |10=>v=.l a1 n c1
 |11=>v=.p D 0
 |12=>v=.p D 0
 |13=>v=.p D 7
 |14=>v=.i (p:Nat)
 |15=>X.ownsRow W.1.size 118 7 v (n-1) (cs.take (p*7)++cs.drop ((p+1)*7))
 |16=>v=.p K 0
 |17=>v=.p K 2
 |_=>True
theorem LL{P:Prop}(h:P:=by have h:=hKK (.p D 0) X rfl BF;refine Am rfl rfl ?_;clear hKK hg;go_simp;simpa[AF]using h):P:=h
theorem U6{P:Prop}(h:P:=by have e2:t 2=_:=hg 2 (AX rfl);have l0:=(hb.cell (p:=⟨D,0,none⟩) hD).trans hd.c0;have zl:=Aa hD hb.size;have h:=hKK (.p K 0) X rfl BF;refine Am rfl rfl ?_;clear hKK hg;go_simp;simpa[AF,e2]using h):P:=h
theorem Wl{P:Prop}(h:P:=by have e9:t 9=_:=hg 9 (AX rfl);have l0:=(hb.cell (p:=⟨K,2,none⟩) hk.lt).trans (show W.cell? ⟨K,2,none⟩=some (.slice a1 n c1)from hk.cell 2 Zf);have zl:=Aa hk.lt hb.size;have h:=hKK (.l a1 n c1) X rfl BF;refine Am rfl rfl ?_;clear hKK hg;go_simp;simpa[AF,e9]using h):P:=h
theorem Rs{P:Prop}(h:P:=by have e0:t 0=_:=hg 0 (AX rfl);have h:=hKK (.p D 0) X rfl BF;refine Am rfl rfl ?_;clear hKK hg;go_simp;simpa[AF,e0]using h):P:=h
theorem Sk{P:Prop}(h:P:=by have e1:t 1=_:=hg 1 (AX rfl);have h:=hKK (.p D 0) X rfl BF;refine Am rfl rfl ?_;clear hKK hg;go_simp;simpa[AF,e1]using h):P:=h
theorem V4{P:Prop}(h:P:=by have e13:t 13=_:=hg 13 (AX rfl);have l0:=(hb.cell (p:=⟨D,7,none⟩) hD).trans hd.c7;have zl:=Aa hD hb.size;have h:=hKK (.i (p:Nat)) X rfl BF;refine Am rfl rfl ?_;clear hKK hg;go_simp;simpa[AF,e13]using h):P:=h
theorem Wg{P:Prop}(h:P:=by have e6:t 6=_:=hg 6 (AX rfl);have l0:=(hb.cell (p:=⟨D,0,none⟩) hD).trans hd.c0;have zl:=Aa hD hb.size;have h:=hKK (.p K 0) X rfl BF;refine Am rfl rfl ?_;clear hKK hg;go_simp;simpa[AF,e6]using h):P:=h
theorem WY{P:Prop}(h:P:=by have e11:t 11=_:=hg 11 (AX rfl);have h:=hKK (.p D 0) X rfl BF;refine Am rfl rfl ?_;clear hKK hg;go_simp;simpa[AF,e11]using h):P:=h
theorem VY{P:Prop}(h:P:=by have e12:t 12=_:=hg 12 (AX rfl);have h:=hKK (.p D 7) X rfl BF;refine Am rfl rfl ?_;clear hKK hg;go_simp;simpa[AF,e12]using h):P:=h
theorem dM{p1 p2 p3 p4 p5 p6 p7 p8 p9 Eb Es Eh El D8 Ej Ei EN EL EJ Ff Fe Fd Ev EK FA EU E9 Ez EV EY EP FQ GP GO Gj Gk Gm Ir Iq Hu Hi Hh Hg Iu Iv Iw Ic Ib H9 HJ IH ID IF IE IG IC I9 Ja Jt Js Jb:Value}{mk:(Nat->Value)->Array Value}(t0:Nat->Value)(D K:Nat)(y:Wr)(p:Nat)(fo:Bool)(k0 k1 k3 k4:Value)(a1:OA)(b off n c1:Nat)(cs:List Value)(W:World)(hD:D<W.1.size)(hd:CK W D K y (p:Nat) fo)(hk:AH W K 5 (Bg [k0,k1,.l a1 n c1,k3,k4]))(hc:DT W 7 a1 b off n c1 cs)(hp:p<n)(hl:(n:Int)<=100000)(hmk:mk=λt=>#[.p D 0,p1,p2,p3,p4,p5,p6,p7,p8,p9,Eb,Es,Eh,El,D8,Ej,Ei,EN,EL,EJ,Ff,Fe,Fd,Ev,EK,FA,EU,E9,Ez,EV,t 0,t 1,t 2,t 3,t 4,t 5,t 6,t 7,t 8,t 9,t 10,t 11,t 12,t 13,t 14,t 15,t 16,t 17,EY,EP,FQ,GP,GO,Gj,Gk,Gm,Ir,Iq,Hu,Hi,Hh,Hg,Iu,Iv,Iw,Ic,Ib,H9,HJ,IH,ID,IF,IE,IG,IC,I9,Ja,Jt,Js,Jb])(Q:Exit->Act->World->Prop)(hQ:∀(t:Nat->Value)(_v3:Value) X,(∃a4 c4,X.ownsRow W.1.size 118 7 (.l a4 (n-1) c4) (n-1) (cs.take (p*7)++cs.drop ((p+1)*7))/\AH X K 5 (Bg [k0,k1,.l a4 (n-1) c4,k3,k4])/\AP (λq=>q=K) W X)->Q .normal ⟨mk t,[]⟩ X):Code.wp prog (rg Tryz.f102 5) Q ⟨mk t0,[]⟩ W:=by
 refine Mq Zc 18 mk t0 (lK D K y p fo k0 k1 k3 k4 a1 b off n c1 cs W) (λa X=>∃(t:Nat->Value)(v3:Value),a=⟨mk t,[]⟩/\(∃a4 c4,X.ownsRow W.1.size 118 7 (.l a4 (n-1) c4) (n-1) (cs.take (p*7)++cs.drop ((p+1)*7))/\AH X K 5 (Bg [k0,k1,.l a4 (n-1) c4,k3,k4])/\AP (λq=>q=K) W X)) Zc Zc Zc ?_ rfl ?_ ?_ ?_;all_goals subst hmk
 .intro i v X Y hi h hb;rcases(show i=0\/i=1\/i=2\/i=3\/i=4\/i=5\/i=6\/i=7\/i=8\/i=9\/i=10\/i=11\/i=12\/i=13\/i=14\/i=15\/i=16\/i=17 by omega)with rfl|rfl|rfl|rfl|rfl|rfl|rfl|rfl|rfl|rfl|rfl|rfl|rfl|rfl|rfl|rfl|rfl|rfl;.exact h
  .exact h
  .exact h
  .exact h
  .exact h
  .exact h
  .exact h
  .exact h
  .exact h
  .exact h
  .exact h
  .exact h
  .exact h
  .exact h
  .exact h
  .exact DA h hb
  .exact h
  .exact h
 .intro i hi t X KK hb hg hKK;rcases(show i=0\/i=1\/i=2\/i=3\/i=4\/i=5\/i=6\/i=7\/i=8\/i=9\/i=10\/i=11\/i=12\/i=13\/i=14\/i=15\/i=16\/i=17 by omega)with rfl|rfl|rfl|rfl|rfl|rfl|rfl|rfl|rfl|rfl|rfl|rfl|rfl|rfl|rfl|rfl|rfl|rfl;.exact LL
  .exact Rs
  .exact Sk
  .exact U6
  .exact LL
  .have e4:t 4=_:=hg 4 (AX rfl);have h:=hKK (.p D 0) X rfl BF;refine Am rfl rfl ?_;clear hKK hg;go_simp;simpa[AF,e4]using h
  .have e5:t 5=_:=hg 5 (AX rfl);have h:=hKK (.p D 0) X rfl BF;refine Am rfl rfl ?_;clear hKK hg;go_simp;simpa[AF,e5]using h
  .exact Wg
  .have e7:t 7=_:=hg 7 (AX rfl);have h:=hKK (.p K 0) X rfl BF;refine Am rfl rfl ?_;clear hKK hg;go_simp;simpa[AF,e7]using h
  .have e8:t 8=_:=hg 8 (AX rfl);have h:=hKK (.p K 2) X rfl BF;refine Am rfl rfl ?_;clear hKK hg;go_simp;simpa[AF,e8]using h
  .exact Wl
  .exact LL
  .exact WY
  .exact VY
  .exact V4
  .have e10:t 10=_:=hg 10 (AX rfl);have e14:t 14=_:=hg 14 (AX rfl);refine Am rfl rfl ?_;have HK:=Ai hKK;have Da:=Ai (hc.grow hb);clear hKK hg;go_simp;go_at_call 159;refine(eT a1 b off n c1 p cs X Da hp Za).mono ?_;rintro r Y ⟨v,rfl,hown,hbY⟩;have h:=HK v Y (CD hown hb.size) hbY;simpa[AF,e10,e14]using h
  .have e3:t 3=_:=hg 3 (AX rfl);have h:=hKK (.p K 0) X rfl BF;refine Am rfl rfl ?_;clear hKK hg;go_simp;simpa[AF,e3]using h
  .have e16:t 16=_:=hg 16 (AX rfl);have h:=hKK (.p K 2) X rfl BF;refine Am rfl rfl ?_;clear hKK hg;go_simp;simpa[AF,e16]using h
 .intro t X KK hb hg hKK;have e17:t 17=_:=hg 17 Za;have hown:X.ownsRow W.1.size 118 7 (t 15) (n-1) (cs.take (p*7)++cs.drop ((p+1)*7)):=hg 15 Za;obtain⟨a4,c4,e8⟩:=DK hown;rw[e8]at hown;have hr:=hk.below hb hk.lt;have l2:=hr.cell 2 Zb;have lf:=hr.free;simp only[Bg,Af,Ag]at l2;have zl:K<X.1.size:=hr.lt;have zK:=hk.lt;have h:=hKK _ (X.setCell ⟨K,2,none⟩ (.l a4 (n-1) c4)) ⟨t,.tuple #[],rfl,a4,c4,CB hown (AP.setCell (P:=λq=>q=K) (AP.refl _ _) rfl _) (λg hg' e=>by have:=(hown.lt g hg').1;omega),hr.vset Za (Uw _ _ _ _ _ _),(Aq hb).trans (AP.setCell (P:=λq=>q=K) (AP.refl _ _) rfl _)⟩;refine Am rfl rfl ?_;clear hKK hg hr;go_simp;simpa[AF,e17,e8]using h
 .rintro a X ⟨t,v3,rfl,hp⟩;exact hQ t v3 X hp
def mD (D K:Nat)(_y:Wr)(p:Nat)(_fo:Bool)(_k0 _k1 _k3 _k4:Value)(a1:OA)(_b _off n c1:Nat)(cs:List Value)(x:Ob)(A:OA)(C _Bo:Nat)(W:World)(i:Nat)(v:Value)(X:World):Prop:=match i with
 |0=>v=.p D 0
 |1=>v=.p D 0
 |2=>v=.p D 0
 |3=>v=.p K 0
 |4=>v=.p D 0
 |5=>v=.p D 0
 |6=>v=.p D 0
 |7=>v=.p K 0
 |8=>v=.p K 0
 |9=>v=.p K 2
 |10=>v=.l a1 n c1
 |11=>v=.p D 0
 |12=>v=.p D 0
 |13=>v=.p D 7
 |14=>v=.i (p:Nat)
 |15=>v=.agg (vO x A C)
 |16=>X.ownsRow W.1.size 118 7 v (n+1) (cs.take (p*7)++[.s x.kind,.s x.name,.i x.ver,.i x.born,.s x.text,.bool x.ending,.l A x.hn C]++cs.drop (p*7))
 |17=>v=.p K 0
 |18=>v=.p K 2
 |_=>True
theorem cZ{P:Prop}(h:P:=by have l0:=(hb.cell (p:=⟨Bo,0,none⟩) hx.lt).trans (show W.cell? ⟨Bo,0,none⟩=some (.s x.kind)from hx.cell 0 Zf);have l1:=(hb.cell (p:=⟨Bo,1,none⟩) hx.lt).trans (show W.cell? ⟨Bo,1,none⟩=some (.s x.name)from hx.cell 1 Zf);have l2:=(hb.cell (p:=⟨Bo,2,none⟩) hx.lt).trans (show W.cell? ⟨Bo,2,none⟩=some (.i x.ver)from hx.cell 2 Zf);have l3:=(hb.cell (p:=⟨Bo,3,none⟩) hx.lt).trans (show W.cell? ⟨Bo,3,none⟩=some (.i x.born)from hx.cell 3 Zf);have l4:=(hb.cell (p:=⟨Bo,4,none⟩) hx.lt).trans (show W.cell? ⟨Bo,4,none⟩=some (.s x.text)from hx.cell 4 Zf);have l5:=(hb.cell (p:=⟨Bo,5,none⟩) hx.lt).trans (show W.cell? ⟨Bo,5,none⟩=some (.bool x.ending)from hx.cell 5 Zf);have l6:=(hb.cell (p:=⟨Bo,6,none⟩) hx.lt).trans (show W.cell? ⟨Bo,6,none⟩=some (.slice A x.hn C)from hx.cell 6 Zf);have zl:=Aa hx.lt hb.size;have h:=hKK (.agg (vO x A C)) X rfl BF;refine Am rfl rfl ?_;clear hKK hg;go_simp;simpa[AF]using h):P:=h
theorem gY{p1 p2 p4 p5 p6 p7 p8 p9 Eb Es Eh El D8 Ej Ei EN EL EJ Ff Fe Fd Ev EK FA EU E9 Ez EV Fa Fb E8 Fc FM FD Fo Fz Fp Ft FC Fw Fy Fs Fu Fx Fq FE EY EP IH ID IF IE IG IC I9 Ja Jt Js Jb:Value}{mk:(Nat->Value)->Array Value}(t0:Nat->Value)(D K:Nat)(y:Wr)(p:Nat)(fo:Bool)(k0 k1 k3 k4:Value)(a1:OA)(b off n c1:Nat)(cs:List Value)(x:Ob)(A:OA)(C Bo:Nat)(W:World)(hD:D<W.1.size)(hd:CK W D K y (p:Nat) fo)(hk:AH W K 5 (Bg [k0,k1,.l a1 n c1,k3,k4]))(hc:DT W 7 a1 b off n c1 cs)(hp:p<=n)(hl:(n:Int)<=100000)(hx:AH W Bo 7 (Bg [.s x.kind,.s x.name,.i x.ver,.i x.born,.s x.text,.bool x.ending,.l A x.hn C]))(hmk:mk=λt=>#[.p D 0,p1,p2,.p Bo 0,p4,p5,p6,p7,p8,p9,Eb,Es,Eh,El,D8,Ej,Ei,EN,EL,EJ,Ff,Fe,Fd,Ev,EK,FA,EU,E9,Ez,EV,Fa,Fb,E8,Fc,FM,FD,Fo,Fz,Fp,Ft,FC,Fw,Fy,Fs,Fu,Fx,Fq,FE,EY,EP,t 0,t 1,t 2,t 3,t 4,t 5,t 6,t 7,t 8,t 9,t 10,t 11,t 12,t 13,t 14,t 15,t 16,t 17,t 18,IH,ID,IF,IE,IG,IC,I9,Ja,Jt,Js,Jb])(Q:Exit->Act->World->Prop)(hQ:∀(t:Nat->Value)(_v3:Value) X,(∃a4 c4,X.ownsRow W.1.size 118 7 (.l a4 (n+1) c4) (n+1) (cs.take (p*7)++[.s x.kind,.s x.name,.i x.ver,.i x.born,.s x.text,.bool x.ending,.l A x.hn C]++cs.drop (p*7))/\AH X K 5 (Bg [k0,k1,.l a4 (n+1) c4,k3,k4])/\AP (λq=>q=K) W X)->Q .normal ⟨mk t,[]⟩ X):Code.wp prog (rg Tryz.f102 7) Q ⟨mk t0,[]⟩ W:=by
 refine Mq Zc 19 mk t0 (mD D K y p fo k0 k1 k3 k4 a1 b off n c1 cs x A C Bo W) (λa X=>∃(t:Nat->Value)(v3:Value),a=⟨mk t,[]⟩/\(∃a4 c4,X.ownsRow W.1.size 118 7 (.l a4 (n+1) c4) (n+1) (cs.take (p*7)++[.s x.kind,.s x.name,.i x.ver,.i x.born,.s x.text,.bool x.ending,.l A x.hn C]++cs.drop (p*7))/\AH X K 5 (Bg [k0,k1,.l a4 (n+1) c4,k3,k4])/\AP (λq=>q=K) W X)) Zc Zc Zc ?_ rfl ?_ ?_ ?_;all_goals subst hmk
 .intro i v X Y hi h hb;rcases(show i=0\/i=1\/i=2\/i=3\/i=4\/i=5\/i=6\/i=7\/i=8\/i=9\/i=10\/i=11\/i=12\/i=13\/i=14\/i=15\/i=16\/i=17\/i=18 by omega)with rfl|rfl|rfl|rfl|rfl|rfl|rfl|rfl|rfl|rfl|rfl|rfl|rfl|rfl|rfl|rfl|rfl|rfl|rfl;.exact h
  .exact h
  .exact h
  .exact h
  .exact h
  .exact h
  .exact h
  .exact h
  .exact h
  .exact h
  .exact h
  .exact h
  .exact h
  .exact h
  .exact h
  .exact h
  .exact DA h hb
  .exact h
  .exact h
 .intro i hi t X KK hb hg hKK;rcases(show i=0\/i=1\/i=2\/i=3\/i=4\/i=5\/i=6\/i=7\/i=8\/i=9\/i=10\/i=11\/i=12\/i=13\/i=14\/i=15\/i=16\/i=17\/i=18 by omega)with rfl|rfl|rfl|rfl|rfl|rfl|rfl|rfl|rfl|rfl|rfl|rfl|rfl|rfl|rfl|rfl|rfl|rfl|rfl;.exact LL
  .exact Rs
  .exact Sk
  .exact U6
  .exact LL
  .have e4:t 4=_:=hg 4 (AX rfl);have h:=hKK (.p D 0) X rfl BF;refine Am rfl rfl ?_;clear hKK hg;go_simp;simpa[AF,e4]using h
  .have e5:t 5=_:=hg 5 (AX rfl);have h:=hKK (.p D 0) X rfl BF;refine Am rfl rfl ?_;clear hKK hg;go_simp;simpa[AF,e5]using h
  .exact Wg
  .have e7:t 7=_:=hg 7 (AX rfl);have h:=hKK (.p K 0) X rfl BF;refine Am rfl rfl ?_;clear hKK hg;go_simp;simpa[AF,e7]using h
  .have e8:t 8=_:=hg 8 (AX rfl);have h:=hKK (.p K 2) X rfl BF;refine Am rfl rfl ?_;clear hKK hg;go_simp;simpa[AF,e8]using h
  .exact Wl
  .exact LL
  .exact WY
  .exact VY
  .exact V4
  .exact cZ
  .have e10:t 10=_:=hg 10 (AX rfl);have e14:t 14=_:=hg 14 (AX rfl);have e15:t 15=_:=hg 15 (AX rfl);refine Am rfl rfl ?_;have HK:=Ai hKK;have Da:=Ai (hc.grow hb);clear hKK hg;go_simp;go_at_call 160;refine(Z4 a1 b off n c1 p cs x A C X Da hp Za).mono ?_;rintro r Y ⟨v,rfl,hown,hbY⟩;have h:=HK v Y (CD hown hb.size) hbY;simpa[AF,e10,e14,e15]using h
  .have e3:t 3=_:=hg 3 (AX rfl);have h:=hKK (.p K 0) X rfl BF;refine Am rfl rfl ?_;clear hKK hg;go_simp;simpa[AF,e3]using h
  .have e17:t 17=_:=hg 17 (AX rfl);have h:=hKK (.p K 2) X rfl BF;refine Am rfl rfl ?_;clear hKK hg;go_simp;simpa[AF,e17]using h
 .intro t X KK hb hg hKK;have e18:t 18=_:=hg 18 Za;have hown:X.ownsRow W.1.size 118 7 (t 16) (n+1) (cs.take (p*7)++[.s x.kind,.s x.name,.i x.ver,.i x.born,.s x.text,.bool x.ending,.l A x.hn C]++cs.drop (p*7)):=hg 16 Za;obtain⟨a4,c4,e8⟩:=DK hown;rw[e8]at hown;have hr:=hk.below hb hk.lt;have l2:=hr.cell 2 Zb;have lf:=hr.free;simp only[Bg,Af,Ag]at l2;have zl:K<X.1.size:=hr.lt;have zK:=hk.lt;have h:=hKK _ (X.setCell ⟨K,2,none⟩ (.l a4 (n+1) c4)) ⟨t,.tuple #[],rfl,a4,c4,CB hown (AP.setCell (P:=λq=>q=K) (AP.refl _ _) rfl _) (λg hg' e=>by have:=(hown.lt g hg').1;omega),hr.vset Za (Uw _ _ _ _ _ _),(Aq hb).trans (AP.setCell (P:=λq=>q=K) (AP.refl _ _) rfl _)⟩;refine Am rfl rfl ?_;clear hKK hg hr;go_simp;simpa[AF,e18,e8]using h
 .rintro a X ⟨t,v3,rfl,hp⟩;exact hQ t v3 X hp
def mV (D K:Nat)(_y:Wr)(_p:Nat)(_fo gone:Bool)(x:Ob)(A:OA)(C Bo:Nat)(_T:World->Option Addr->Nat->World->Prop)(W:World)(i:Nat)(v:Value)(X:World):Prop:=match i with
 |0=>v=.p D 0
 |1=>v=.p D 0
 |2=>v=.p D 0
 |3=>v=.p K 0
 |4=>v=.p Bo 2
 |5=>v=.i x.ver
 |6=>v=.bool gone
 |7=>v=.agg (vO x A C)
 |8=>∃A' C' hb',v=.agg (vO x A' C')/\W.1.size<=hb'/\(x.hn≠0->hb'<X.1.size)/\AV X hb' (hb'+1) A' x.hn x.hs
 |9=>∃A' C' hb',v=.agg #[.i x.ver,.bool gone,.s x.kind,.s x.name,.i x.ver,.i x.born,.s x.text,.bool x.ending,.l A' x.hn C']/\W.1.size<=hb'/\(x.hn≠0->hb'<X.1.size)/\AV X hb' (hb'+1) A' x.hn x.hs
 |_=>True
theorem WP{P:Prop}(h:P:=by obtain⟨A',C',hb',e1,g1,g2,g3⟩:=h;exact⟨A',C',hb',e1,g1,λh0=>Aa (g2 h0) hb.size,g3.frP (Aq (P:=λ_=>False) hb) (λh0=>⟨id,g2 h0⟩)⟩):P:=h
theorem U5{p1 p2 p5 p6 p7 p8 p9 Eb Es Eh El D8 Ej Ei EN EL EJ Ff Fe Fd Ev EK FA EU E9 Ez EV Fa Fb E8 Fc FM FD Fo Fz Fp Ft FC Fw Fy Fs Fu Fx Fq FE EY EP FQ GP GO Gj Gk Gm Ir Iq Hu Hi Hh Hg Iu Iv Iw Ic Ib H9 HJ Jb:Value}{mk:(Nat->Value)->Array Value}(t0:Nat->Value)(D K:Nat)(y:Wr)(p:Nat)(fo gone:Bool)(x:Ob)(A:OA)(C Bo:Nat)(T:World->Option Addr->Nat->World->Prop)(W:World)(hD:D<W.1.size)(hd:CK W D K y (p:Nat) fo)(hx:AH W Bo 7 (Bg [.s x.kind,.s x.name,.i x.ver,.i x.born,.s x.text,.bool x.ending,.l A x.hn C]))(hl:(x.hn:Int)<=1000)(hc:AB W 0 W.1.size A x.hn x.hs)(ht:∀X A' C',Below W.1.size W X->Calls prog 161 #[.p K 0,.agg #[.i x.ver,.bool gone,.s x.kind,.s x.name,.i x.ver,.i x.born,.s x.text,.bool x.ending,.l A' x.hn C']] X λe w'=>e=.returned (.tuple #[])/\T X A' C' w')(hmk:mk=λt=>#[.p D 0,p1,p2,.p Bo 0,.bool gone,p5,p6,p7,p8,p9,Eb,Es,Eh,El,D8,Ej,Ei,EN,EL,EJ,Ff,Fe,Fd,Ev,EK,FA,EU,E9,Ez,EV,Fa,Fb,E8,Fc,FM,FD,Fo,Fz,Fp,Ft,FC,Fw,Fy,Fs,Fu,Fx,Fq,FE,EY,EP,FQ,GP,GO,Gj,Gk,Gm,Ir,Iq,Hu,Hi,Hh,Hg,Iu,Iv,Iw,Ic,Ib,H9,HJ,t 0,t 1,t 2,t 3,t 4,t 5,t 6,t 7,t 8,t 9,Jb])(Q:Exit->Act->World->Prop)(hQ:∀(t:Nat->Value)(v3:Value) X,(∃A' C' hb' X1,Below W.1.size W X1/\W.1.size<=hb'/\(x.hn≠0->hb'<X1.1.size)/\AV X1 hb' (hb'+1) A' x.hn x.hs/\T X1 A' C' X)->Q .normal ⟨#[.p D 0,p1,p2,.p Bo 0,.bool gone,p5,p6,p7,p8,p9,Eb,Es,Eh,El,D8,Ej,Ei,EN,EL,EJ,Ff,Fe,Fd,Ev,EK,FA,EU,E9,Ez,EV,Fa,Fb,E8,Fc,FM,FD,Fo,Fz,Fp,Ft,FC,Fw,Fy,Fs,Fu,Fx,Fq,FE,EY,EP,FQ,GP,GO,Gj,Gk,Gm,Ir,Iq,Hu,Hi,Hh,Hg,Iu,Iv,Iw,Ic,Ib,H9,HJ,t 0,t 1,t 2,t 3,t 4,t 5,t 6,t 7,t 8,t 9,v3],[]⟩ X):Code.wp prog (rg Tryz.f102 8) Q ⟨mk t0,[]⟩ W:=by
 refine Mq Zc 10 mk t0 (mV D K y p fo gone x A C Bo T W) (λa X=>∃(t:Nat->Value)(v3:Value),a=⟨#[.p D 0,p1,p2,.p Bo 0,.bool gone,p5,p6,p7,p8,p9,Eb,Es,Eh,El,D8,Ej,Ei,EN,EL,EJ,Ff,Fe,Fd,Ev,EK,FA,EU,E9,Ez,EV,Fa,Fb,E8,Fc,FM,FD,Fo,Fz,Fp,Ft,FC,Fw,Fy,Fs,Fu,Fx,Fq,FE,EY,EP,FQ,GP,GO,Gj,Gk,Gm,Ir,Iq,Hu,Hi,Hh,Hg,Iu,Iv,Iw,Ic,Ib,H9,HJ,t 0,t 1,t 2,t 3,t 4,t 5,t 6,t 7,t 8,t 9,v3],[]⟩/\(∃A' C' hb' X1,Below W.1.size W X1/\W.1.size<=hb'/\(x.hn≠0->hb'<X1.1.size)/\AV X1 hb' (hb'+1) A' x.hn x.hs/\T X1 A' C' X)) Zc Zc Zc ?_ rfl ?_ ?_ ?_;all_goals subst hmk
 .intro i v X Y hi h hb;rcases(show i=0\/i=1\/i=2\/i=3\/i=4\/i=5\/i=6\/i=7\/i=8\/i=9 by omega)with rfl|rfl|rfl|rfl|rfl|rfl|rfl|rfl|rfl|rfl;.exact h
  .exact h
  .exact h
  .exact h
  .exact h
  .exact h
  .exact h
  .exact h
  .exact WP
  .exact WP
 .intro i hi t X KK hb hg hKK;rcases(show i=0\/i=1\/i=2\/i=3\/i=4\/i=5\/i=6\/i=7\/i=8\/i=9 by omega)with rfl|rfl|rfl|rfl|rfl|rfl|rfl|rfl|rfl|rfl;.exact LL
  .exact Rs
  .exact Sk
  .exact U6
  .have h:=hKK (.p Bo 2) X rfl BF;refine Am rfl rfl ?_;clear hKK hg;go_simp;simpa[AF]using h
  .have e4:t 4=_:=hg 4 (AX rfl);have l0:=(hb.cell (p:=⟨Bo,2,none⟩) hx.lt).trans (show W.cell? ⟨Bo,2,none⟩=some (.i x.ver)from hx.cell 2 Zf);have zl:=Aa hx.lt hb.size;have h:=hKK (.i x.ver) X rfl BF;refine Am rfl rfl ?_;clear hKK hg;go_simp;simpa[AF,e4]using h
  .have h:=hKK (.bool gone) X rfl BF;refine Am rfl rfl ?_;clear hKK hg;go_simp;simpa[AF]using h
  .exact cZ
  .have e7:t 7=_:=hg 7 (AX rfl);refine Am rfl rfl ?_;have HK:=Ai hKK;have Da:=Ai (hc.below hb Bj);clear hKK hg;go_simp;go_at_call 150;refine(LU x A C X 0 W.1.size hb.size Za Da).mono ?_;rintro r Y ⟨A',C',hb',rfl,_,g1,g2,g3,hbY⟩;have h:=HK _ Y ⟨A',C',hb',rfl,AA hb.size g1,g2,g3⟩ hbY;simpa[AF,e7]using h
  .have e5:t 5=_:=hg 5 (AX rfl);have e6:t 6=_:=hg 6 (AX rfl);obtain⟨A',C',hb',e8,g1,g2,g3⟩:∃A' C' hb',t 8=.agg (vO x A' C')/\W.1.size<=hb'/\(x.hn≠0->hb'<X.1.size)/\AV X hb' (hb'+1) A' x.hn x.hs:=hg 8 (AX rfl);have h:=hKK (.agg #[.i x.ver,.bool gone,.s x.kind,.s x.name,.i x.ver,.i x.born,.s x.text,.bool x.ending,.l A' x.hn C']) X ⟨A',C',hb',rfl,g1,g2,g3⟩ BF;refine Am rfl rfl ?_;clear hKK hg;go_simp;simpa[AF,e5,e6,e8]using h
 .intro t X KK hb hg hKK;have e3:t 3=_:=hg 3 Za;obtain⟨A',C',hb',e9,g1,g2,g3⟩:∃A' C' hb',t 9=.agg #[.i x.ver,.bool gone,.s x.kind,.s x.name,.i x.ver,.i x.born,.s x.text,.bool x.ending,.l A' x.hn C']/\W.1.size<=hb'/\(x.hn≠0->hb'<X.1.size)/\AV X hb' (hb'+1) A' x.hn x.hs:=hg 9 Za;refine Am rfl rfl ?_;have HK:=Ai hKK;have HT:=Ai ht;clear hKK hg ht;go_simp;go_at_call 161;refine(HT X A' C' hb).mono ?_;rintro r Y ⟨rfl,hT⟩;have h:=HK ⟨#[.p D 0,p1,p2,.p Bo 0,.bool gone,p5,p6,p7,p8,p9,Eb,Es,Eh,El,D8,Ej,Ei,EN,EL,EJ,Ff,Fe,Fd,Ev,EK,FA,EU,E9,Ez,EV,Fa,Fb,E8,Fc,FM,FD,Fo,Fz,Fp,Ft,FC,Fw,Fy,Fs,Fu,Fx,Fq,FE,EY,EP,FQ,GP,GO,Gj,Gk,Gm,Ir,Iq,Hu,Hi,Hh,Hg,Iu,Iv,Iw,Ic,Ib,H9,HJ,t 0,t 1,t 2,t 3,t 4,t 5,t 6,t 7,t 8,t 9,(.tuple #[])],[]⟩ Y ⟨t,.tuple #[],rfl,A',C',hb',X,hb,g1,g2,g3,hT⟩;simpa[AF,e3,e9]using h
 .rintro a X ⟨t,v3,rfl,hp⟩;exact hQ t v3 X hp
theorem DT.fr{w w':World}{P:Nat->Prop}{z:Nat}{ad:OA}{b off n cap:Nat}{cs:List Value}(h:DT w z ad b off n cap cs)(hf:AP P w w')(hp:¬P b):DT w' z ad b off n cap cs:=⟨h.len,h.one,by
  rcases h.src with h1|⟨h1,h2,h3,h4⟩;.exact AD h1
  .exact Ax ⟨h1,h2,Aa h3 hf.size,λt u hu=>(hf.cell (p:=⟨b,off+t,none⟩) h3 hp).trans (h4 t u hu)⟩⟩
def Xe (cs:List Value)(k:Nat)(ce:List Value):List Value:=cs.take k++ce++cs.drop k
def Xg (cs:List Value)(k z:Nat):List Value:=cs.take (k*z)++cs.drop ((k+1)*z)
def S8 (K:Nat)(x:Ob)(now:Int)(gone:Bool)(k1' k4:Value)(n' m:Nat)(cs' ch:List Value)(w w':World):Prop:=∃a1' c1' a2' c2' A' C' hb',w'.ownsRow w.1.size 118 7 (.l a1' n' c1') n' cs'/\w'.ownsRow w.1.size 120 9 (.l a2' m c2') m (ch++[.i (now+1),.bool gone,.s x.kind,.s x.name,.i (now+1),.i x.born,.s x.text,.bool x.ending,.l A' x.hn C'])/\AH w' K 5 (Bg [.i (now+1),k1',.l a1' n' c1',.l a2' m c2',k4])/\w.1.size<=hb'/\(x.hn≠0->hb'<w'.1.size)/\AV w' hb' (hb'+1) A' x.hn x.hs/\AP (λq=>q=K) w w'/\(∀g g',Value.ownBlock (.l a1' n' c1')=some g->Value.ownBlock (.l a2' m c2')=some g'->g<g')/\(x.hn≠0->(∀g,Value.ownBlock (.l a1' n' c1')=some g->g<hb')/\(∀g,Value.ownBlock (.l a2' m c2')=some g->hb'<g))
theorem Ru{P:Prop}(h:P:=by clear ho6 hr6 hf6 g1 g2 g3 hbX;go_wp2;exact bodyPost_end (results_none rfl _ _ _) rfl ⟨rfl,HP⟩):P:=h
theorem rJ (D K:Nat)(y:Wr)(p:Nat)(x:Ob)(A:OA)(C:Nat)(now:Int)(k1 k1' k3 k4:Value)(a1:OA)(b off n c1:Nat)(cs ch:List Value)(m:Nat)(w:World)(hD:D<w.1.size)(hDK:¬D=K)(hbK:¬b=K)(hd:CK w D K y (p:Nat) true)(hk:AH w K 5 (Bg [.i now,k1,.l a1 n c1,k3,k4]))(hc:DT w 7 a1 b off n c1 cs)(hp:p<n)(hl:(n:Int)<=1000)(hx:(x.hn:Int)<=1000)(hA:∀X,AP (λq=>q=K) w X->AB X 0 X.1.size A x.hn x.hs)(h0:0<=now)(h1:now<=1000000)(hg:CX ⟨x.kind,x.name,now+1,x.born,x.text,x.ending,x.hn,x.hs⟩=true)(TE:∀(X:World)(A':OA)(C':Nat)(o:Value),AP (λq=>q=K) w X->AH X K 5 (Bg [.i (now+1),k1,o,k3,k4])->Calls prog 161 #[.p K 0,.agg #[.i (now+1),.bool false,.s x.kind,.s x.name,.i (now+1),.i x.born,.s x.text,.bool x.ending,.l A' x.hn C']] X λe w'=>e=.returned (.tuple #[])/\∃a4 c4,w'.ownsRow X.1.size 120 9 (.l a4 m c4) m (ch++[.i (now+1),.bool false,.s x.kind,.s x.name,.i (now+1),.i x.born,.s x.text,.bool x.ending,.l A' x.hn C'])/\AH w' K 5 (Bg [.i (now+1),k1',o,.l a4 m c4,k4])/\AP (λq=>q=K) X w'):Calls prog 102 #[.p D 0,.agg (vO x A C)] w λe w'=>e=.returned (.tuple #[])/\S8 K x now false k1' k4 (n-1+1) m (Xe (Xg cs p 7) (p*7) [.s x.kind,.s x.name,.i (now+1),.i x.born,.s x.text,.bool x.ending,.l A x.hn C]) ch w w':=by
 have zK:=hk.lt;have F1:AP (λq=>q=K) w ((w.setCell ⟨K,0,none⟩ (.i (now+1))).alloc (.cells #[.s x.kind,.s x.name,.i (now+1),.i x.born,.s x.text,.bool x.ending,.l A x.hn C] 118)):=(AP.setCell (P:=λq=>q=K) (AP.refl _ _) rfl _).trans (Aq FU);have hw:IntKind.i64.wrap (now+1)=now+1:=BV _ ⟨Za,Za⟩;have RK:=Ai (show AH ((w.setCell ⟨K,0,none⟩ (.i (now+1))).alloc (.cells #[.s x.kind,.s x.name,.i (now+1),.i x.born,.s x.text,.bool x.ending,.l A x.hn C] 118)) K 5 (Bg [.i (now+1),k1,.l a1 n c1,k3,k4])from(hk.vset Za (Ve _ _ _ _ _ _)).below FU (by simpa using zK));have DK1:=Ai (hd.fr F1 hD hDK);have RC1:=Ai (hc.fr F1 hbK);have nT:=Ai F1;have nP:=Ai TE;have HA:=Ai hA;have hd0:=hd.c0;have kk0:=hk.cell 0 Zf;have kk1:=hk.cell 1 Zf;have kk2:=hk.cell 2 Zf;have kk3:=hk.cell 3 Zf;have kk4:=hk.cell 4 Zf;have kkf:=hk.free;simp only[Bg,Af,Ag]at kk0 kk1 kk2 kk3 kk4;clear hk hc hd F1 TE hA;go_enter func102,ntmps102;go_wp2_with fail;refine(Gb ⟨x.kind,x.name,now+1,x.born,x.text,x.ending,x.hn,x.hs⟩ A C _ sL).mono ?_;rintro e w2 ⟨rfl,hb2⟩;rw[hg];have RX:=Ai (AS (w:=w.setCell ⟨K,0,none⟩ (.i (now+1))) (l:=[.s x.kind,.s x.name,.i (now+1),.i x.born,.s x.text,.bool x.ending,.l A x.hn C]) (t:=118) hb2);simp only[Az]at RX;have RK2:=Ai (RK.below hb2 RK.lt);have F2:=Ai (nT.trans (Aq hb2));have DK2:=Ai (DK1.grow hb2 Zd);have RC2:=Ai (RC1.grow hb2);have z2:w.1.size<w2.1.size:=RX.lt;have dk8:=DK2.c8;have zD2:D<w2.1.size:=Za;clear hb2 kk0 kk1 kk2 kk3 kk4 kkf hd0 RK DK1 RC1 nT;go_wp2_with fail;clear dk8;refine dM (λ_=>undef) D K y p true (.i (now+1)) k1 k3 k4 a1 b off n c1 cs w2 zD2 DK2 RK2 RC2 hp Za rfl _ ?_;rintro t v3 w3 ⟨a4,c4,hown,hr,hf⟩;have z3:=hf.size;have nO:=Ai (CD hown (show w.1.size<=_ by omega));have RK3:=Ai hr;have F3:=Ai (F2.trans hf);have DK3:=Ai (DK2.fr hf zD2 hDK);have RX3:=Ai (RX.fr hf Za);have zD3:D<w3.1.size:=Za;have dk8:=DK3.c8;clear hown hr hf;go_wp2_with fail;clear dk8;have hone:∀u∈cs.take (p*7)++cs.drop ((p+1)*7),u.oneCell'=true:=λu hu=>by
  rcases CJ.1 hu with h|h;.exact RC2.one u (Kb h)
  .exact RC2.one u (GF h)
 obtain⟨g4,RC3,_⟩:=SG nO hone;refine gY (λ_=>undef) D K y p true (.i (now+1)) k1 k3 k4 a4 g4 0 (n-1) c4 _ ⟨x.kind,x.name,now+1,x.born,x.text,x.ending,x.hn,x.hs⟩ A C w.1.size w3 zD3 DK3 RK3 RC3 Za Za RX3 rfl _ ?_;rintro t2 v5 w4 ⟨a5,c5,hown,hr,hf⟩;have z4:=hf.size;have j5:=Ai (CD hown (show w.1.size<=_ by omega));have RK4:=Ai hr;have F4:=Ai (F3.trans hf);have DK4:=Ai (DK3.fr hf zD3 hDK);have RX4:=Ai (RX3.fr hf Za);have zD4:D<w4.1.size:=Za;clear hown hr hf RC3;go_wp2_with fail;refine U5 (λ_=>undef) D K y p true false ⟨x.kind,x.name,now+1,x.born,x.text,x.ending,x.hn,x.hs⟩ A C w.1.size (λX A' C' w'=>∃a6 c6,w'.ownsRow X.1.size 120 9 (.l a6 m c6) m (ch++[.i (now+1),.bool false,.s x.kind,.s x.name,.i (now+1),.i x.born,.s x.text,.bool x.ending,.l A' x.hn C'])/\AH w' K 5 (Bg [.i (now+1),k1',.l a5 (n-1+1) c5,.l a6 m c6,k4])/\AP (λq=>q=K) X w') w4 zD4 DK4 RX4 sL (HA _ F4) (λX A' C' hbX=>nP.out X A' C' _ (F4.trans (Aq hbX)) (RK4.below hbX RK4.lt)) rfl _ ?_;rintro t3 v6 w5 ⟨A',C',hb',X1,hbX,g1,g2,g3,a6,c6,ho6,hr6,hf6⟩;have z5:=hbX.size;have z6:=hf6.size;have HP:=Ai (show S8 K x now false k1' k4 (n-1+1) m (Xe (Xg cs p 7) (p*7) [.s x.kind,.s x.name,.i (now+1),.i x.born,.s x.text,.bool x.ending,.l A x.hn C]) ch w w5 from⟨a5,c5,a6,c6,A',C',hb',CB (DA j5 hbX) hf6 (λg hg e=>by have:=(j5.lt g hg).1;omega),CD ho6 Za,hr6,Za,λh0=>Aa (g2 h0) hf6.size,g3.frP hf6 (λh0=>⟨Za,g2 h0⟩),(F4.trans (Aq hbX)).trans hf6,λg g' h h'=>by have:=(j5.lt g h).2;have:=(ho6.lt g' h').1;omega,λh0=>⟨λg h=>by have:=(j5.lt g h).2;omega,λg h=>by have:=(ho6.lt g h).1;have:=g2 h0;omega⟩⟩);exact Ru
theorem rK (D K:Nat)(y:Wr)(p:Nat)(x:Ob)(A:OA)(C:Nat)(now:Int)(k1 k1' k3 k4:Value)(a1:OA)(b off n c1:Nat)(cs ch:List Value)(m:Nat)(w:World)(hD:D<w.1.size)(hDK:¬D=K)(hbK:¬b=K)(hd:CK w D K y (p:Nat) true)(hk:AH w K 5 (Bg [.i now,k1,.l a1 n c1,k3,k4]))(hc:DT w 7 a1 b off n c1 cs)(hp:p<n)(hl:(n:Int)<=1000)(hx:(x.hn:Int)<=1000)(hA:∀X,AP (λq=>q=K) w X->AB X 0 X.1.size A x.hn x.hs)(h0:0<=now)(h1:now<=1000000)(hg:CX ⟨x.kind,x.name,now+1,x.born,x.text,x.ending,x.hn,x.hs⟩=false)(TE:∀(X:World)(A':OA)(C':Nat)(o:Value),AP (λq=>q=K) w X->AH X K 5 (Bg [.i (now+1),k1,o,k3,k4])->Calls prog 161 #[.p K 0,.agg #[.i (now+1),.bool true,.s x.kind,.s x.name,.i (now+1),.i x.born,.s x.text,.bool x.ending,.l A' x.hn C']] X λe w'=>e=.returned (.tuple #[])/\∃a4 c4,w'.ownsRow X.1.size 120 9 (.l a4 m c4) m (ch++[.i (now+1),.bool true,.s x.kind,.s x.name,.i (now+1),.i x.born,.s x.text,.bool x.ending,.l A' x.hn C'])/\AH w' K 5 (Bg [.i (now+1),k1',o,.l a4 m c4,k4])/\AP (λq=>q=K) X w'):
  Calls prog 102 #[.p D 0,.agg (vO x A C)] w λe w'=>e=.returned (.tuple #[])/\S8 K x now true k1' k4 (n-1) m (Xg cs p 7) ch w w':=by have zK:=hk.lt;have F1:AP (λq=>q=K) w ((w.setCell ⟨K,0,none⟩ (.i (now+1))).alloc (.cells #[.s x.kind,.s x.name,.i (now+1),.i x.born,.s x.text,.bool x.ending,.l A x.hn C] 118)):=(AP.setCell (P:=λq=>q=K) (AP.refl _ _) rfl _).trans (Aq FU);have hw:IntKind.i64.wrap (now+1)=now+1:=BV _ ⟨Za,Za⟩;have RK:=Ai (show AH ((w.setCell ⟨K,0,none⟩ (.i (now+1))).alloc (.cells #[.s x.kind,.s x.name,.i (now+1),.i x.born,.s x.text,.bool x.ending,.l A x.hn C] 118)) K 5 (Bg [.i (now+1),k1,.l a1 n c1,k3,k4])from(hk.vset Za (Ve _ _ _ _ _ _)).below FU (by simpa using zK));have DK1:=Ai (hd.fr F1 hD hDK);have RC1:=Ai (hc.fr F1 hbK);have nT:=Ai F1;have nP:=Ai TE;have HA:=Ai hA;have hd0:=hd.c0;have kk0:=hk.cell 0 Zf;have kk1:=hk.cell 1 Zf;have kk2:=hk.cell 2 Zf;have kk3:=hk.cell 3 Zf;have kk4:=hk.cell 4 Zf;have kkf:=hk.free;simp only[Bg,Af,Ag]at kk0 kk1 kk2 kk3 kk4;clear hk hc hd F1 TE hA;go_enter func102,ntmps102;go_wp2_with fail;refine(Gb ⟨x.kind,x.name,now+1,x.born,x.text,x.ending,x.hn,x.hs⟩ A C _ sL).mono ?_;rintro e w2 ⟨rfl,hb2⟩;rw[hg];have RX:=Ai (AS (w:=w.setCell ⟨K,0,none⟩ (.i (now+1))) (l:=[.s x.kind,.s x.name,.i (now+1),.i x.born,.s x.text,.bool x.ending,.l A x.hn C]) (t:=118) hb2);simp only[Az]at RX;have RK2:=Ai (RK.below hb2 RK.lt);have F2:=Ai (nT.trans (Aq hb2));have DK2:=Ai (DK1.grow hb2 Zd);have RC2:=Ai (RC1.grow hb2);have z2:w.1.size<w2.1.size:=RX.lt;have dk8:=DK2.c8;have zD2:D<w2.1.size:=Za;clear hb2 kk0 kk1 kk2 kk3 kk4 kkf hd0 RK DK1 RC1 nT;go_wp2_with fail;clear dk8;refine dM (λ_=>undef) D K y p true (.i (now+1)) k1 k3 k4 a1 b off n c1 cs w2 zD2 DK2 RK2 RC2 hp Za rfl _ ?_;rintro t v3 w3 ⟨a4,c4,hown,hr,hf⟩;have z3:=hf.size;have nO:=Ai (CD hown (show w.1.size<=_ by omega));have RK3:=Ai hr;have F3:=Ai (F2.trans hf);have DK3:=Ai (DK2.fr hf zD2 hDK);have RX3:=Ai (RX.fr hf Za);have zD3:D<w3.1.size:=Za;have dk8:=DK3.c8;clear hown hr hf;go_wp2_with fail;clear dk8;refine U5 (λ_=>undef) D K y p true true ⟨x.kind,x.name,now+1,x.born,x.text,x.ending,x.hn,x.hs⟩ A C w.1.size (λX A' C' w'=>∃a6 c6,w'.ownsRow X.1.size 120 9 (.l a6 m c6) m (ch++[.i (now+1),.bool true,.s x.kind,.s x.name,.i (now+1),.i x.born,.s x.text,.bool x.ending,.l A' x.hn C'])/\AH w' K 5 (Bg [.i (now+1),k1',.l a4 (n-1) c4,.l a6 m c6,k4])/\AP (λq=>q=K) X w') w3 zD3 DK3 RX3 sL (HA _ F3) (λX A' C' hbX=>nP.out X A' C' _ (F3.trans (Aq hbX)) (RK3.below hbX RK3.lt)) rfl _ ?_;rintro t3 v6 w5 ⟨A',C',hb',X1,hbX,g1,g2,g3,a6,c6,ho6,hr6,hf6⟩;have z5:=hbX.size;have z6:=hf6.size;have HP:=Ai (show S8 K x now true k1' k4 (n-1) m (Xg cs p 7) ch w w5 from⟨a4,c4,a6,c6,A',C',hb',CB (DA nO hbX) hf6 (λg hg e=>by have:=(nO.lt g hg).1;omega),CD ho6 Za,hr6,Za,λh0=>Aa (g2 h0) hf6.size,g3.frP hf6 (λh0=>⟨Za,g2 h0⟩),(F3.trans (Aq hbX)).trans hf6,λg g' h h'=>by have:=(nO.lt g h).2;have:=(ho6.lt g' h').1;omega,λh0=>⟨λg h=>by have:=(nO.lt g h).2;omega,λg h=>by have:=(ho6.lt g h).1;have:=g2 h0;omega⟩⟩);exact Ru
theorem pE (D K:Nat)(y:Wr)(p:Nat)(x:Ob)(A:OA)(C:Nat)(now:Int)(k1 k1' k3 k4:Value)(a1:OA)(b off n c1:Nat)(cs ch:List Value)(m:Nat)(w:World)(hD:D<w.1.size)(hDK:¬D=K)(hbK:¬b=K)(hd:CK w D K y (p:Nat) false)(hk:AH w K 5 (Bg [.i now,k1,.l a1 n c1,k3,k4]))(hc:DT w 7 a1 b off n c1 cs)(hp:p<=n)(hl:(n:Int)<=1000)(hx:(x.hn:Int)<=1000)(hA:∀X,AP (λq=>q=K) w X->AB X 0 X.1.size A x.hn x.hs)(h0:0<=now)(h1:now<=1000000)(hg:CX ⟨x.kind,x.name,now+1,x.born,x.text,x.ending,x.hn,x.hs⟩=true)(TE:∀(X:World)(A':OA)(C':Nat)(o:Value),AP (λq=>q=K) w X->AH X K 5 (Bg [.i (now+1),k1,o,k3,k4])->Calls prog 161 #[.p K 0,.agg #[.i (now+1),.bool false,.s x.kind,.s x.name,.i (now+1),.i x.born,.s x.text,.bool x.ending,.l A' x.hn C']] X λe w'=>e=.returned (.tuple #[])/\∃a4 c4,w'.ownsRow X.1.size 120 9 (.l a4 m c4) m (ch++[.i (now+1),.bool false,.s x.kind,.s x.name,.i (now+1),.i x.born,.s x.text,.bool x.ending,.l A' x.hn C'])/\AH w' K 5 (Bg [.i (now+1),k1',o,.l a4 m c4,k4])/\AP (λq=>q=K) X w'):
  Calls prog 102 #[.p D 0,.agg (vO x A C)] w λe w'=>e=.returned (.tuple #[])/\S8 K x now false k1' k4 (n+1) m (Xe cs (p*7) [.s x.kind,.s x.name,.i (now+1),.i x.born,.s x.text,.bool x.ending,.l A x.hn C]) ch w w':=by have zK:=hk.lt;have F1:AP (λq=>q=K) w ((w.setCell ⟨K,0,none⟩ (.i (now+1))).alloc (.cells #[.s x.kind,.s x.name,.i (now+1),.i x.born,.s x.text,.bool x.ending,.l A x.hn C] 118)):=(AP.setCell (P:=λq=>q=K) (AP.refl _ _) rfl _).trans (Aq FU);have hw:IntKind.i64.wrap (now+1)=now+1:=BV _ ⟨Za,Za⟩;have RK:=Ai (show AH ((w.setCell ⟨K,0,none⟩ (.i (now+1))).alloc (.cells #[.s x.kind,.s x.name,.i (now+1),.i x.born,.s x.text,.bool x.ending,.l A x.hn C] 118)) K 5 (Bg [.i (now+1),k1,.l a1 n c1,k3,k4])from(hk.vset Za (Ve _ _ _ _ _ _)).below FU (by simpa using zK));have DK1:=Ai (hd.fr F1 hD hDK);have RC1:=Ai (hc.fr F1 hbK);have nT:=Ai F1;have nP:=Ai TE;have HA:=Ai hA;have hd0:=hd.c0;have kk0:=hk.cell 0 Zf;have kk1:=hk.cell 1 Zf;have kk2:=hk.cell 2 Zf;have kk3:=hk.cell 3 Zf;have kk4:=hk.cell 4 Zf;have kkf:=hk.free;simp only[Bg,Af,Ag]at kk0 kk1 kk2 kk3 kk4;clear hk hc hd F1 TE hA;go_enter func102,ntmps102;go_wp2_with fail;refine(Gb ⟨x.kind,x.name,now+1,x.born,x.text,x.ending,x.hn,x.hs⟩ A C _ sL).mono ?_;rintro e w2 ⟨rfl,hb2⟩;rw[hg];have RX:=Ai (AS (w:=w.setCell ⟨K,0,none⟩ (.i (now+1))) (l:=[.s x.kind,.s x.name,.i (now+1),.i x.born,.s x.text,.bool x.ending,.l A x.hn C]) (t:=118) hb2);simp only[Az]at RX;have RK2:=Ai (RK.below hb2 RK.lt);have F2:=Ai (nT.trans (Aq hb2));have DK2:=Ai (DK1.grow hb2 Zd);have RC2:=Ai (RC1.grow hb2);have z2:w.1.size<w2.1.size:=RX.lt;have dk8:=DK2.c8;have zD2:D<w2.1.size:=Za;clear hb2 kk0 kk1 kk2 kk3 kk4 kkf hd0 RK DK1 RC1 nT;go_wp2_with fail;clear dk8;refine gY (λ_=>undef) D K y p false (.i (now+1)) k1 k3 k4 a1 b off n c1 cs ⟨x.kind,x.name,now+1,x.born,x.text,x.ending,x.hn,x.hs⟩ A C w.1.size w2 zD2 DK2 RK2 RC2 hp Za RX rfl _ ?_;rintro t2 v5 w4 ⟨a5,c5,hown,hr,hf⟩;have z4:=hf.size;have j5:=Ai (CD hown (show w.1.size<=_ by omega));have RK4:=Ai hr;have F4:=Ai (F2.trans hf);have DK4:=Ai (DK2.fr hf zD2 hDK);have RX4:=Ai (RX.fr hf Za);have zD4:D<w4.1.size:=Za;clear hown hr hf;go_wp2_with fail;refine U5 (λ_=>undef) D K y p false false ⟨x.kind,x.name,now+1,x.born,x.text,x.ending,x.hn,x.hs⟩ A C w.1.size (λX A' C' w'=>∃a6 c6,w'.ownsRow X.1.size 120 9 (.l a6 m c6) m (ch++[.i (now+1),.bool false,.s x.kind,.s x.name,.i (now+1),.i x.born,.s x.text,.bool x.ending,.l A' x.hn C'])/\AH w' K 5 (Bg [.i (now+1),k1',.l a5 (n+1) c5,.l a6 m c6,k4])/\AP (λq=>q=K) X w') w4 zD4 DK4 RX4 sL (HA _ F4) (λX A' C' hbX=>nP.out X A' C' _ (F4.trans (Aq hbX)) (RK4.below hbX RK4.lt)) rfl _ ?_;rintro t3 v6 w5 ⟨A',C',hb',X1,hbX,g1,g2,g3,a6,c6,ho6,hr6,hf6⟩;have z5:=hbX.size;have z6:=hf6.size;have HP:=Ai (show S8 K x now false k1' k4 (n+1) m (Xe cs (p*7) [.s x.kind,.s x.name,.i (now+1),.i x.born,.s x.text,.bool x.ending,.l A x.hn C]) ch w w5 from⟨a5,c5,a6,c6,A',C',hb',CB (DA j5 hbX) hf6 (λg hg e=>by have:=(j5.lt g hg).1;omega),CD ho6 Za,hr6,Za,λh0=>Aa (g2 h0) hf6.size,g3.frP hf6 (λh0=>⟨Za,g2 h0⟩),(F4.trans (Aq hbX)).trans hf6,λg g' h h'=>by have:=(j5.lt g h).2;have:=(ho6.lt g' h').1;omega,λh0=>⟨λg h=>by have:=(j5.lt g h).2;omega,λg h=>by have:=(ho6.lt g h).1;have:=g2 h0;omega⟩⟩);exact Ru
def Vr (e:EO):List Value:=[.s e.ob.kind,.s e.ob.name,.i e.ob.ver,.i e.ob.born,.s e.ob.text,.bool e.ob.ending,.l e.A e.ob.hn e.C]
def CI:List EO->List Value|[]=>[]|e::r=>Vr e++CI r
theorem Mr (e:EO):(Vr e).length=7:=rfl
theorem GC:∀L,(CI L).length=L.length*7
 |[]=>rfl
 |e::r=>by simp only[CI,List.length_append,Mr,GC r,JO];omega
theorem Fi:∀K L,CI (K++L)=CI K++CI L
 |[],_=>rfl
 |e::r,L=>by simp only[Ea,CI,Fi r L,List.append_assoc]
theorem PD:∀L,∀u∈CI L,u.oneCell'=true
 |[],u,h=>by cases h
 |e::r,u,h=>by
  rcases CJ.1 h with h1|h1;.simp[Vr]at h1;rcases h1 with rfl|rfl|rfl|rfl|rfl|rfl|rfl<;>rfl
  .exact PD r u h1
theorem Np:∀(L:List EO)(i r:Nat),i<L.length->r<7->(CI L)[i*7+r]?=(Vr (Fm L i))[r]?
 |[],i,_,h,_=>absurd h (Al _)
 |e::l,0,r,_,hr=>by rw[CI,G4 (by rw[Mr];omega),DF,Bc];rfl
 |e::l,i+1,r,h,hr=>by rw[CI,GG (by rw[Mr];omega),Mr,show(i+1)*7+r-7=i*7+r by omega,Np l i r (by simpa using h) hr];simp[Fm]
theorem MO.cells{w:World}{g:Nat}{L:List EO}(h:MO w g L){t:Nat}{u:Value}(hu:(CI L)[t]?=some u):w.cell? ⟨g,t,none⟩=some u:=by
 have ht:t<L.length*7:=by have:=(List.getElem?_eq_some_iff.1 hu).1;rw[GC]at this;exact this
 obtain⟨q,r,hr,rfl⟩:∃q r,r<7/\t=q*7+r:=⟨t/7,t%7,Za,Za⟩;have hi:q<L.length:=Za;obtain⟨c0,c1,c2,c3,c4,c5,c6⟩:=h.ob q hi;have hat:=Np L q r hi hr;rw[hu]at hat;rcases(show r=0\/r=1\/r=2\/r=3\/r=4\/r=5\/r=6 by omega)with rfl|rfl|rfl|rfl|rfl|rfl|rfl<;>simp only[Vr,Ad,Ab]at hat<;>rw[hat];.exact c0
 .exact c1
 .exact c2
 .exact c3
 .exact c4
 .exact c5
 .exact c6
def XI (w:World)(ad:OA)(g cap:Nat)(L:List EO):Prop:=(ad=none/\L=[]/\cap=0)\/(ad=some ⟨g,0,none⟩/\MO w g L/\L.length<=cap)
theorem XI.grow{w w':World}{ad:OA}{g cap:Nat}{L:List EO}(h:XI w ad g cap L)(hf:Below w.1.size w w'):XI w' ad g cap L:=by
 rcases h with h|⟨h1,h2,h3⟩;.exact AD h
 .exact Ax ⟨h1,h2.grow hf,h3⟩
def sI (o:Ob)(L:List EO):List EO:=L.filter (λe=>Dt o e.ob)
theorem KY{L:List EO}{i:Nat}(h:i<L.length):(L.map EO.ob)[i]?=some (Fm L i).ob:=by rw[I0 h];simp[h]
theorem WV (o:Ob)(L:List EO):(sI o L).map EO.ob=(L.map EO.ob).filter (Dt o):=by unfold sI;rw[List.filter_map];rfl
def cA (o:Ob)(L:List EO)(k:Nat):Prop:=k<=L.length/\(∀j,j<k->DH (Fm L j).ob o=true)/\(k<L.length->DH (Fm L k).ob o=false)
theorem bH{o:EO}{L:List EO}{k:Nat}(h:cA o.ob L k):((sI o.ob L).take k++o::(sI o.ob L).drop k).map EO.ob=Km o.ob (L.map EO.ob):=by
 obtain⟨h1,h2,h3⟩:=h;rw[PH o.ob (L.map EO.ob) k (by simpa using h1) (λj hj=>⟨_,KY Za,h2 j hj⟩) (λhk=>by
  have hk':k<L.length:=by simpa using hk
  exact⟨_,KY hk',h3 hk'⟩)];rw[List.map_append,Dn,List.map_take,List.map_drop,WV]
abbrev oC (e:EO):Value:=.agg (vO e.ob e.A e.C)
structure FO (w:World)(D K g:Nat)(B:Bk)(v:Wr)(L:List EO)(a1:OA)(c1 pl:Nat)(fo:Bool):Prop where
 dk:CK w D K v (pl:Nat) fo
 hD:D<w.1.size
 hK:K<w.1.size
 now:w.cell? ⟨K,0,none⟩=some (.i B.now)objs:w.cell? ⟨K,2,none⟩=some (.slice a1 B.on c1)row:XI w a1 g c1 L
 ol:L.map EO.ob=IL B.on B.os
 hold:∀e∈L,AB w 0 w.1.size e.A e.ob.hn e.ob.hs
 cap:∀e∈L,Du w e.ob.hn e.A e.C
 pa:Ro B v pl
 fo:fo=(decide (pl<B.on)&&decide (GI B.os v.kind v.name pl=0))ok:Hp B v
theorem FO.len{w:World}{D K g:Nat}{B:Bk}{v:Wr}{L:List EO}{a1:OA}{c1 pl:Nat}{fo:Bool}(h:FO w D K g B v L a1 c1 pl fo):L.length=B.on:=by have:=congrArg List.length h.ol;simpa[IL]using this
theorem FO.at{w:World}{D K g:Nat}{B:Bk}{v:Wr}{L:List EO}{a1:OA}{c1 pl:Nat}{fo:Bool}(h:FO w D K g B v L a1 c1 pl fo){i:Nat}(hi:i<B.on):(Fm L i).ob=B.os i:=by have h1:=KY (L:=L) (i:=i) (by rw[h.len];exact hi);rw[h.ol]at h1;simpa[IL,hi]using h1.symm
theorem FO.yes{w:World}{D K g:Nat}{B:Bk}{v:Wr}{L:List EO}{a1:OA}{c1 pl:Nat}(h:FO w D K g B v L a1 c1 pl true):pl<B.on/\BJ B v=B.os pl/\Cw B.os v.kind v.name B.on=true/\(B.os pl).kind=v.kind/\(B.os pl).name=v.name:=by
 have hf:=h.fo;have h1:pl<B.on/\GI B.os v.kind v.name pl=0:=by simpa using hf.symm
 have h2:=Gw h.ok h.pa;rw[if_pos h1]at h2;have h3:=(Lx _ _ _ _).1 h1.2;exact⟨h1.1,by unfold BJ Cv;rw[h2],by unfold Cw;rw[h2];rfl,h3.1,h3.2⟩
theorem FO.no{w:World}{D K g:Nat}{B:Bk}{v:Wr}{L:List EO}{a1:OA}{c1 pl:Nat}(h:FO w D K g B v L a1 c1 pl false):BJ B v=oB/\Cw B.os v.kind v.name B.on=false:=by
 have hf:=h.fo;have h1:¬(pl<B.on/\GI B.os v.kind v.name pl=0):=by rintro⟨h1,h2⟩;simp[h1,h2]at hf
 have h2:=Gw h.ok h.pa;rw[if_neg h1]at h2;exact⟨by unfold BJ Cv;rw[h2],by unfold Cw;rw[h2];rfl⟩
theorem FO.cells{w:World}{D K g:Nat}{B:Bk}{v:Wr}{L:List EO}{a1:OA}{c1 pl:Nat}(h:FO w D K g B v L a1 c1 pl true):a1=some ⟨g,0,none⟩/\g<w.1.size/\DC w g (pl*7) (BJ B v) (Fm L pl).A (Fm L pl).C/\Fm L pl∈L:=by
 have hy:=h.yes;have hlen:=h.len;rcases h.row with⟨_,hL,_⟩|⟨e1,e2,_⟩;.rw[hL]at hlen;simp at hlen;omega
 .have h1:=e2.ob pl Za;rw[h.at hy.1,<-hy.2.1]at h1;exact⟨e1,e2.lt,h1,II Za⟩
def Nt (B:Bk)(v:Wr)(L:List EO)(pl:Nat)(w:World)(e:Ending)(w':World):Prop:=Below w.1.size w w'/\((¬CA B v=0/\e=.returned (.tuple #[.agg #[.s ⟨#[]⟩,.s ⟨#[]⟩,.i 0,.i 0,.s ⟨#[]⟩,.bool false,.l none 0 0],.iface 90 (.agg #[.i (CA B v),.i (Gz B v)])]))\/(CA B v=0/\∃E:EO,E.ob=C4 B v (BJ B v).ver/\e=.returned (.tuple #[oC E,.nilIface])/\(AB w' 0 w'.1.size E.A E.ob.hn E.ob.hs/\Du w' E.ob.hn E.A E.C)/\(((v.op=2\/v.op=3)/\E.A=(Fm L pl).A/\E.C=(Fm L pl).C/\E.hb=(Fm L pl).hb)\/(¬v.op=2/\¬v.op=3/\w.1.size<=E.hb/\(E.ob.hn≠0->E.hb<w'.1.size)/\AV w' E.hb (E.hb+1) E.A E.ob.hn E.ob.hs))))
theorem IQ{B:Bk}{v:Wr}(h:Cw B.os v.kind v.name B.on=false)(h1:¬v.op=1):CA B v=3/\Gz B v=0:=by
 have:CA B v=3:=by unfold CA;rw[if_pos (by rw[h];simp[h1])]
 exact⟨this,by unfold Gz;rw[this];rfl⟩
theorem Tr{B:Bk}{v:Wr}(h:Cw B.os v.kind v.name B.on=true)(h1:v.op=1):CA B v=3/\Gz B v=0:=by
 have:CA B v=3:=by unfold CA;rw[if_pos (by rw[h];simp[h1])]
 exact⟨this,by unfold Gz;rw[this];rfl⟩
theorem Kz{B:Bk}{v:Wr}(h:Cw B.os v.kind v.name B.on=true)(h1:¬v.op=1)(h2:¬v.seen=0/\¬v.seen=(BJ B v).ver):CA B v=4/\Gz B v=(BJ B v).ver:=by
 have:CA B v=4:=by unfold CA;rw[if_neg (by rw[h];simp[h1]),if_pos h2]
 exact⟨this,by unfold Gz;rw[this];rfl⟩
theorem Sf{B:Bk}{v:Wr}(h:Cw B.os v.kind v.name B.on=true)(h1:¬v.op=1)(h2:¬(¬v.seen=0/\¬v.seen=(BJ B v).ver))(h3:(BJ B v).ending=true)(h5:¬v.op=5):CA B v=5/\Gz B v=0:=by
 have:CA B v=5:=by unfold CA;rw[if_neg (by rw[h];simp[h1]),if_neg h2,if_pos ⟨h3,h5⟩]
 exact⟨this,by unfold Gz;rw[this];rfl⟩
theorem Te{B:Bk}{v:Wr}(h:Cw B.os v.kind v.name B.on=true)(h1:¬v.op=1)(h2:¬(¬v.seen=0/\¬v.seen=(BJ B v).ver))(h3:¬((BJ B v).ending=true/\¬v.op=5)):CA B v=if v.op=4 then(if D2 (BJ B v).hn (BJ B v).hs v.hold=true then 6 else if 5<=(BJ B v).hn then 7 else 0)else if v.op=5 then(if D2 (BJ B v).hn (BJ B v).hs v.hold=true then 0 else 6)else 0:=by unfold CA;rw[if_neg (by rw[h];simp[h1]),if_neg h2,if_neg h3,if_neg h1]
theorem iB{B:Bk}{v:Wr}(h:Cw B.os v.kind v.name B.on=false)(hw:BJ B v=oB)(h1:v.op=1)(hs:v.seen=0):CA B v=if 100<=B.on then 7 else 0:=by unfold CA;rw[if_neg (by rw[h];simp[h1]),if_neg (λq=>q.1 hs),if_neg (by rw[hw];simp[oB]),if_pos h1]
theorem OB{B:Bk}{v:Wr}(h:¬CA B v=4):Gz B v=0:=if_neg h
theorem QH{w:World}{A:OA}{n C:Nat}{s:Nat->ByteArray}(h:AB w 0 w.1.size A n s)(hc:Du w n A C):∃b off,DT w 1 A b off n C (Bh n s):=by
 rcases hc.2 with⟨e1,e2,e3⟩|⟨b,off,e1,e2⟩;.exact⟨0,0,by rw[Ef,M5],JI _ _,AD ⟨e1,e2,e3⟩⟩
 .refine⟨b,off,by rw[Ef,M5],JI _ _,Ax ⟨e1,hc.1,e2,λt u hu=>?_⟩⟩;obtain⟨ht,rfl⟩:=MH hu;obtain⟨b',off',e',_,_,hcell⟩:=h t ht;rw[e1]at e';cases e';exact hcell
theorem My{w:World}{base z n:Nat}{e:TypeId}{a:OA}{c:Nat}{xs:List Value}(h:w.ownsRow base e z (.l a n c) n xs):Du w n a c:=by
 rcases h.2 with⟨e1,e2⟩|⟨g,cap',cur,e1,e2,e3,e4,_⟩;.cases e1;exact⟨Aw _,AD ⟨rfl,rfl,rfl⟩⟩
 .cases e1;exact⟨e4,Ax ⟨g,0,rfl,(Cj.1 e3).1⟩⟩
theorem TC{w:World}{base n:Nat}{a:OA}{c:Nat}{s:Nat->ByteArray}{xs:List Value}(h:w.ownsRow base 9 1 (.l a n c) n xs)(hx:xs=Bh n s):∃hb,base<=hb/\(n≠0->hb<w.1.size)/\AV w hb (hb+1) a n s:=by
 subst hx;rcases h.2 with⟨_,e2⟩|⟨g,cap',cur,e1,e2,e3,e4⟩;.subst e2;exact⟨base,Aw _,λq=>absurd rfl q,λi hi=>absurd hi (Al _)⟩
 .cases e1;refine⟨g,e2,λ_=>(Cj.1 e3).1,λi hi=>⟨g,0,rfl,Aw _,Bp _,?_,?_⟩⟩;.rw[Bc,h.cellAt i Za];exact De hi
  .exact h.frozenAt _
theorem iY (n:Nat)(s:Nat->ByteArray)(k:Nat)(a:ByteArray)(hk:k<=n):(Bh n s).take (k*1)++[.s a]++(Bh n s).drop (k*1)=Bh (n+1) (Nq s k a):=by
 refine List.ext_getElem? λj=>?_;rw[M5,List.append_assoc];have hl:=Ef n s;rcases As j k with h|h;.rw[G4 (by rw[Db];omega),List.getElem?_take,if_pos h,De Za,De Za];simp[Nq,h]
 .rw[GG (by rw[Db];omega),Db,hl,Nat.min_eq_left hk];rcases Nat.eq_or_lt_of_le h with h1|h1;.subst h1;rw[G2,De Za];simp[Nq]
  .obtain⟨d,rfl⟩:∃d,j=k+1+d:=⟨j-k-1,Za⟩;rw[show k+1+d-k=d+1 by omega];simp only[List.singleton_append,Ad];rw[Ip];rcases As (k+d) n with h2|h2;.rw[De h2,De Za];simp only[Nq];rw[if_neg Za,if_neg Za,show k+1+d-1=k+d by omega]
   .rw[CL Za,CL (by rw[Ef];omega)]
theorem ZR (n:Nat)(s:Nat->ByteArray)(k:Nat)(hk:k<n):(Bh n s).take (k*1)++(Bh n s).drop ((k+1)*1)=Bh (n-1) (JC s k):=by
 refine List.ext_getElem? λj=>?_;rw[M5,M5];have hl:=Ef n s;rcases As j k with h|h;.rw[G4 (by rw[Db];omega),List.getElem?_take,if_pos h,De Za,De Za];simp[JC,h]
 .rw[GG (by rw[Db];omega),Db,hl,Nat.min_eq_left Za,Ip];rcases As (k+1+(j-k)) n with h2|h2;.rw[De h2,De Za];simp only[JC];rw[if_neg Za,show k+1+(j-k)=j+1 by omega]
  .rw[CL Za,CL (by rw[Ef];omega)]
theorem AV.inW{w:World}{b:Nat}{A:OA}{n:Nat}{s:Nat->ByteArray}(h:AV w b (b+1) A n s)(hb:n≠0->b<w.1.size):AB w 0 w.1.size A n s:=λi hi=>by obtain⟨b',off,e1,e2,e3,e4,_⟩:=h i hi;have:=hb Za;exact⟨b',off,e1,Ap _,Za,e4⟩
theorem FO.grow{w:World}{D K g:Nat}{B:Bk}{v:Wr}{L:List EO}{a1:OA}{c1 pl:Nat}{fo:Bool}{w':World}(h:FO w D K g B v L a1 c1 pl fo)(hb:Below w.1.size w w'):FO w' D K g B v L a1 c1 pl fo:=⟨h.dk.grow hb h.hD,Aa h.hD hb.size,Aa h.hK hb.size,(hb.cell (p:=⟨K,0,none⟩) h.hK).trans h.now,(hb.cell (p:=⟨K,2,none⟩) h.hK).trans h.objs,h.row.grow hb,h.ol,λe he=>((h.hold e he).below hb Bj).mono Bj hb.size,λe he=>(h.cap e he).grow hb.size,h.pa,h.fo,h.ok⟩
theorem V8{w:World}{D K g:Nat}{B:Bk}{v:Wr}{L:List EO}{a1:OA}{c1 pl:Nat}(h:FO w D K g B v L a1 c1 pl false):Calls prog 157 #[.p D 0] w λe w'=>e=.returned (.tuple #[.agg #[.s ⟨#[]⟩,.s ⟨#[]⟩,.i 0,.i 0,.s ⟨#[]⟩,.bool false,.l none 0 0],.iface 90 (.agg #[.i 3,.i 0])])/\Below w.1.size w w':=TD D K v pl w h.hD h.dk
theorem Ms{w:World}{D K g:Nat}{B:Bk}{v:Wr}{L:List EO}{a1:OA}{c1 pl:Nat}(h:FO w D K g B v L a1 c1 pl true)(hs:¬v.seen=0/\¬v.seen=(BJ B v).ver):Calls prog 157 #[.p D 0] w λe w'=>e=.returned (.tuple #[.agg #[.s ⟨#[]⟩,.s ⟨#[]⟩,.i 0,.i 0,.s ⟨#[]⟩,.bool false,.l none 0 0],.iface 90 (.agg #[.i 4,.i (BJ B v).ver])])/\Below w.1.size w w':=by obtain⟨e1,e2,e3,_⟩:=h.cells;have ho:=h.objs;rw[e1]at ho;have hon:=h.ok.on;exact Pv D K v pl B.on (BJ B v) g (Fm L pl).A (Fm L pl).C c1 w e2 h.hD h.hK h.dk ho h.yes.1 Za e3 hs.1 hs.2
theorem PC{w:World}{D K g:Nat}{B:Bk}{v:Wr}{L:List EO}{a1:OA}{c1 pl:Nat}(h:FO w D K g B v L a1 c1 pl true)(hs:¬(¬v.seen=0/\¬v.seen=(BJ B v).ver)):Calls prog 157 #[.p D 0] w λe w'=>e=.returned (.tuple #[.agg #[.s (BJ B v).kind,.s (BJ B v).name,.i (BJ B v).ver,.i (BJ B v).born,.s (BJ B v).text,.bool (BJ B v).ending,.l (Fm L pl).A (BJ B v).hn (Fm L pl).C],.nilIface])/\Below w.1.size w w':=by obtain⟨e1,e2,e3,_⟩:=h.cells;have ho:=h.objs;rw[e1]at ho;have hon:=h.ok.on;exact TS D K v pl B.on (BJ B v) g (Fm L pl).A (Fm L pl).C c1 w e2 h.hD h.hK h.dk ho h.yes.1 Za e3 (by
  by_cases q:v.seen=0;.exact AD q
  .exact Ax (by
    by_cases r:v.seen=(BJ B v).ver;.exact r
    .exact absurd ⟨q,r⟩ hs))
theorem E5{B:Bk}{v:Wr}{L:List EO}{pl:Nat}{w:World}{f:FuncId}{D:Nat}{c d:Int}(h:Calls prog f #[.p D 0] w λe w'=>e=.returned (.tuple #[.agg #[.s ⟨#[]⟩,.s ⟨#[]⟩,.i 0,.i 0,.s ⟨#[]⟩,.bool false,.l none 0 0],.iface 90 (.agg #[.i c,.i d])])/\Below w.1.size w w')(hc:CA B v=c/\Gz B v=d)(h0:¬c=0):Calls prog f #[.p D 0] w (Nt B v L pl w):=h.mono λe w' ⟨h1,h2⟩=>⟨h2,AD ⟨by rw[hc.1];exact h0,by rw[h1,hc.1,hc.2]⟩⟩
theorem OU{w:World}{D K g:Nat}{B:Bk}{v:Wr}{L:List EO}{a1:OA}{c1 pl:Nat}(h:FO w D K g B v L a1 c1 pl true):AB w 0 w.1.size (Fm L pl).A (BJ B v).hn (BJ B v).hs/\Du w (BJ B v).hn (Fm L pl).A (Fm L pl).C/\(BJ B v).hn<=5/\EX (BJ B v).hn (BJ B v).hs:=by obtain⟨_,_,_,hm⟩:=h.cells;have hy:=h.yes;have e:=h.at hy.1;have h1:=h.hold _ hm;have h2:=h.cap _ hm;rw[e,<-hy.2.1]at h1 h2;have h3:=h.ok.hold pl hy.1;rw[<-hy.2.1]at h3;exact⟨h1,h2,h3.1,h3.2⟩
theorem Ww{P:Prop}(h:P:=by have h1:=((OU h).1.below hb Bj).mono Bj hb.size;simp only[C4,hop];exact⟨h1,(OU h).2.1.grow hb.size⟩):P:=h
theorem kI{w:World}{D K g:Nat}{B:Bk}{v:Wr}{L:List EO}{a1:OA}{c1 pl:Nat}{fo:Bool}(h:FO w D K g B v L a1 c1 pl fo)(hop:v.op=2):Calls prog 98 #[.p D 0] w (Nt B v L pl w):=by have n1:¬v.op=1:=Za;have n5:¬v.op=5:=Za;cases fo with
 |false=>exact E5 (LT D 3 0 w λo=>FK D 3 0 _ λo'=>V8 ((h.grow (Ae _ o)).grow (Ae _ o'))) (IQ h.no.2 n1) Zb
 |true=>
  have hy:=h.yes;by_cases hs:¬v.seen=0/\¬v.seen=(BJ B v).ver;.exact E5 (LT D 4 _ w λo=>FK D 4 _ _ λo'=>Ms ((h.grow (Ae _ o)).grow (Ae _ o')) hs) (Kz hy.2.2.1 n1 hs) Zb
  .by_cases he:(BJ B v).ending=true;.exact E5 (LT D 5 0 w λo=>Ky D (BJ B v) _ _ _ (λo'=>PC ((h.grow (Ae _ o)).grow (Ae _ o')) hs) he) (Sf hy.2.2.1 n1 hs he n5) Zb
   .have he':(BJ B v).ending=false:=by simpa using he
    have hc:=Te hy.2.2.1 n1 hs (λq=>he q.1);rw[if_neg Za,if_neg n5]at hc;refine(XU D K v pl true (BJ B v) (Fm L pl).A (Fm L pl).C w h.hD h.dk (λo=>LQ D (BJ B v) _ _ _ (λo'=>PC ((h.grow (Ae _ o)).grow (Ae _ o')) hs) he')).mono ?_;rintro e w' ⟨rfl,hb⟩;refine⟨hb,Ax ⟨hc,⟨C4 B v (BJ B v).ver,(Fm L pl).A,(Fm L pl).C,(Fm L pl).hb⟩,rfl,?_,?_,AD ⟨AD hop,rfl,rfl,rfl⟩⟩⟩;.simp only[C4,hop];rfl
    .exact Ww
theorem lI{w:World}{D K g:Nat}{B:Bk}{v:Wr}{L:List EO}{a1:OA}{c1 pl:Nat}{fo:Bool}(h:FO w D K g B v L a1 c1 pl fo)(hop:v.op=3):Calls prog 99 #[.p D 0] w (Nt B v L pl w):=by have n1:¬v.op=1:=Za;have n5:¬v.op=5:=Za;cases fo with
 |false=>exact E5 (RM D 3 0 w λo=>FK D 3 0 _ λo'=>V8 ((h.grow (Ae _ o)).grow (Ae _ o'))) (IQ h.no.2 n1) Zb
 |true=>
  have hy:=h.yes;by_cases hs:¬v.seen=0/\¬v.seen=(BJ B v).ver;.exact E5 (RM D 4 _ w λo=>FK D 4 _ _ λo'=>Ms ((h.grow (Ae _ o)).grow (Ae _ o')) hs) (Kz hy.2.2.1 n1 hs) Zb
  .by_cases he:(BJ B v).ending=true;.exact E5 (RM D 5 0 w λo=>Ky D (BJ B v) _ _ _ (λo'=>PC ((h.grow (Ae _ o)).grow (Ae _ o')) hs) he) (Sf hy.2.2.1 n1 hs he n5) Zb
   .have he':(BJ B v).ending=false:=by simpa using he
    have hc:=Te hy.2.2.1 n1 hs (λq=>he q.1);rw[if_neg Za,if_neg n5]at hc;refine(rF D K v pl true (BJ B v) (Fm L pl).A (Fm L pl).C w h.hD h.dk (λo=>LQ D (BJ B v) _ _ _ (λo'=>PC ((h.grow (Ae _ o)).grow (Ae _ o')) hs) he')).mono ?_;rintro e w' ⟨rfl,hb⟩;refine⟨hb,Ax ⟨hc,⟨C4 B v (BJ B v).ver,(Fm L pl).A,(Fm L pl).C,(Fm L pl).hb⟩,rfl,?_,?_,AD ⟨Ax hop,rfl,rfl,rfl⟩⟩⟩;.simp only[C4,hop];rfl
    .exact Ww
theorem mT{w:World}{D K g:Nat}{B:Bk}{v:Wr}{L:List EO}{a1:OA}{c1 pl:Nat}{fo:Bool}(h:FO w D K g B v L a1 c1 pl fo)(hop:v.op=1):Calls prog 97 #[.p D 0] w (Nt B v L pl w):=by cases fo with
 |true=>exact E5 (RL D K v pl w h.hD h.dk) (Tr h.yes.2.2.1 hop) Zb
 |false=>
  have hn:=h.no;have hs:v.seen=0:=by have:=h.ok.wr;unfold Er at this;rw[AG]at this;have h2:=this.2;unfold Ew at h2;rw[if_pos hop]at h2;exact of_decide_eq_true h2
  have hc:=iB hn.2 hn.1 hop hs;have hon:=h.ok.on;by_cases h100:B.on=100
  .rw[if_pos Za]at hc;exact E5 (Tn D K v pl a1 B.on c1 w h.hD h.hK h.dk h.objs h100) ⟨hc,OB nH⟩ Zb
  .rw[if_neg Za]at hc;by_cases hh:v.hold=⟨#[]⟩
   .refine(Vz D K v pl a1 B.on c1 B.now w h.hD h.hK h.dk h.objs h100 h.now h.ok.now0 h.ok.now1 hh).mono ?_;rintro e w' ⟨rfl,hb⟩;have e0:LN v.hold=true:=by simp[LN,hh]
    refine⟨hb,Ax ⟨hc,⟨C4 B v (BJ B v).ver,none,0,w.1.size⟩,rfl,?_,?_,Ax ⟨Za,Za,Aw _,λq=>?_,?_⟩⟩⟩;.simp only[C4,hop,hn.1,e0];rfl
    .simp only[C4,hop,e0];exact⟨λi hi=>absurd hi (Al _),Aw _,AD ⟨rfl,rfl,rfl⟩⟩
    .simp[C4,hop,e0]at q
    .simp only[C4,hop,e0];exact λi hi=>absurd hi (Al _)
   .refine(VM D K v pl a1 B.on c1 B.now w h.hD h.hK h.dk h.objs h100 h.now h.ok.now0 h.ok.now1 hh).mono ?_;rintro e w' ⟨b,rfl,z1,z2,hcell,hfr,hb⟩;have e0:LN v.hold=false:=by simp[LN,hh]
    have ho:AV w' b (b+1) (some ⟨b,0,none⟩) 1 (λ_=>v.hold):=λi hi=>by obtain rfl:i=0:=Za;exact⟨b,0,rfl,Aw _,Bp _,hcell,hfr⟩
    refine⟨hb,Ax ⟨hc,⟨C4 B v (BJ B v).ver,some ⟨b,0,none⟩,1,b⟩,rfl,?_,?_,Ax ⟨Za,Za,z1,λ_=>z2,?_⟩⟩⟩;.simp only[C4,hop,hn.1,e0];rfl
    .simp only[C4,hop,e0];exact⟨ho.inW (λ_=>z2),Aw _,Ax ⟨b,0,rfl,z2⟩⟩
    .simp only[C4,hop,e0];exact ho
theorem j8{w:World}{D K g:Nat}{B:Bk}{v:Wr}{L:List EO}{a1:OA}{c1 pl:Nat}{fo:Bool}(h:FO w D K g B v L a1 c1 pl fo)(hop:v.op=4):Calls prog 100 #[.p D 0] w (Nt B v L pl w):=by have n1:¬v.op=1:=Za;have n5:¬v.op=5:=Za;cases fo with
 |false=>exact E5 (Po D 3 0 w λo=>FK D 3 0 _ λo'=>V8 ((h.grow (Ae _ o)).grow (Ae _ o'))) (IQ h.no.2 n1) Zb
 |true=>
  have hy:=h.yes;by_cases hs:¬v.seen=0/\¬v.seen=(BJ B v).ver;.exact E5 (Po D 4 _ w λo=>FK D 4 _ _ λo'=>Ms ((h.grow (Ae _ o)).grow (Ae _ o')) hs) (Kz hy.2.2.1 n1 hs) Zb
  .by_cases he:(BJ B v).ending=true;.exact E5 (Po D 5 0 w λo=>Ky D (BJ B v) _ _ _ (λo'=>PC ((h.grow (Ae _ o)).grow (Ae _ o')) hs) he) (Sf hy.2.2.1 n1 hs he n5) Zb
   .have he':(BJ B v).ending=false:=by simpa using he
    have hc:=Te hy.2.2.1 n1 hs (λq=>he q.1);rw[if_pos hop]at hc;obtain⟨g1,g2,g3,g4⟩:=OU h;obtain⟨rb,ro,hrc⟩:=QH g1 g2;have HL:=λo=>LQ D (BJ B v) (Fm L pl).A (Fm L pl).C (w.alloc o) (λo'=>PC ((h.grow (Ae _ o)).grow (Ae _ o')) hs) he';cases hh:D2 (BJ B v).hn (BJ B v).hs v.hold with
    |true=>rw[if_pos hh]at hc;exact E5 (aH D K v pl true (BJ B v) _ rb ro _ w h.hD h.dk HL Za g1 g4 hrc hh) ⟨hc,OB nH⟩ Zb
    |false=>
     rw[if_neg (by rw[hh];decide)]at hc;by_cases h5:(BJ B v).hn=5;.rw[if_pos Za]at hc;exact E5 (Xj D K v pl true (BJ B v) _ rb ro _ w h.hD h.dk HL Za g1 g4 hrc hh h5) ⟨hc,OB nH⟩ Zb
     .rw[if_neg Za]at hc;refine(kA D K v pl true (BJ B v) _ rb ro _ w h.hD h.dk HL Za g1 g4 hrc hh h5).mono ?_;rintro e w' ⟨a4,c4,rfl,hown,hb⟩;obtain⟨hb4,z1,z2,ho⟩:=TC hown (iY _ _ _ _ (I5 _ _ _).1);refine⟨hb,Ax ⟨hc,⟨C4 B v (BJ B v).ver,a4,c4,hb4⟩,rfl,?_,?_,Ax ⟨Za,Za,z1,λ_=>z2 Za,?_⟩⟩⟩;.simp only[C4,hop];rfl
      .simp only[C4,hop];exact⟨ho.inW (λ_=>z2 Za),My hown⟩
      .simp only[C4,hop];exact ho
theorem kK{w:World}{D K g:Nat}{B:Bk}{v:Wr}{L:List EO}{a1:OA}{c1 pl:Nat}{fo:Bool}(h:FO w D K g B v L a1 c1 pl fo)(hop:v.op=5):Calls prog 101 #[.p D 0] w (Nt B v L pl w):=by have n1:¬v.op=1:=Za;cases fo with
 |false=>exact E5 (QY D 3 0 w λo=>V8 (h.grow (Ae _ o))) (IQ h.no.2 n1) Zb
 |true=>
  have hy:=h.yes;by_cases hs:¬v.seen=0/\¬v.seen=(BJ B v).ver;.exact E5 (QY D 4 _ w λo=>Ms (h.grow (Ae _ o)) hs) (Kz hy.2.2.1 n1 hs) Zb
  .have hc:=Te hy.2.2.1 n1 hs (λq=>q.2 hop);rw[if_neg Za,if_pos hop]at hc;obtain⟨g1,g2,g3,g4⟩:=OU h;obtain⟨rb,ro,hrc⟩:=QH g1 g2;have HL:=λo=>PC (h.grow (Ae _ o)) hs;cases hh:D2 (BJ B v).hn (BJ B v).hs v.hold with
   |false=>rw[if_neg (by rw[hh];decide)]at hc;exact E5 (Yw D K v pl true (BJ B v) _ rb ro _ w h.hD h.dk HL Za g1 g4 hrc hh) ⟨hc,OB nH⟩ Zb
   |true=>
    rw[if_pos hh]at hc;have hk:DY (BJ B v).hs v.hold (BJ B v).hn<(BJ B v).hn:=by rw[UW g4,AG]at hh;exact of_decide_eq_true hh.1
    refine(gF D K v pl true (BJ B v) _ rb ro _ w h.hD h.dk HL Za g1 g4 hrc hh hk).mono ?_;rintro e w' ⟨a4,c4,rfl,hown,hb⟩;obtain⟨hb4,z1,z2,ho⟩:=TC hown (ZR _ _ _ hk);refine⟨hb,Ax ⟨hc,⟨C4 B v (BJ B v).ver,a4,c4,hb4⟩,rfl,?_,?_,Ax ⟨Za,Za,z1,λq=>z2 ?_,?_⟩⟩⟩;.simp only[C4,hop];rfl
    .simp only[C4,hop];exact⟨ho.inW z2,My hown⟩
    .simpa[C4,hop]using q
    .simp only[C4,hop];exact ho
theorem gO{P:Prop}(h:P:=by go_wp2;refine bodyPost_ret (v:=.tuple #[.agg #[.i 0,.bool false,.s ⟨#[]⟩,.s ⟨#[]⟩,.i 0,.i 0,.s ⟨#[]⟩,.bool false,.l none 0 0],.i 3]) xN rfl ⟨rfl,by repeat(first|with_reducible exact HB.out|with_reducible refine AJ ?_ Zk _|with_reducible refine Ba ?_ Zk _|with_reducible refine Bb ?_)⟩):P:=h
theorem Vg (B:Bk)(v:Wr)(a1 a2 a3:OA)(c1 c2 c3:Nat)(o:Ob)(w:World)(hok:Hp B v)(hc:BH w 0 w.1.size a1 B.on B.os)(ho:Cv B.os v.kind v.name B.on=o)(_hol:(o.hn:Int)<=5)(ht:Cw B.os v.kind v.name B.on=true)(hop:v.op=1):Calls prog 75 #[.agg (vB B a1 a2 a3 c1 c2 c3),.agg (vW v)] w λe w'=>e=.returned (.tuple #[.agg #[.i 0,.bool false,.s ⟨#[]⟩,.s ⟨#[]⟩,.i 0,.i 0,.s ⟨#[]⟩,.bool false,.l none 0 0],.i 3])/\Below w.1.size w w':=by
 have B3:∀o1 o2 o3,Below w.1.size w (((w.alloc o1).alloc o2).alloc o3):=λo1 o2 o3=>(((Ak _ _).alloc Bj _).alloc Ze _).alloc Zd _;have E3:=Ai B3;have GN:=Ai hok;have HC:=Ai hc;have HO:=Ai ho;have hn0:=hok.now0;have hn1:=hok.now1;have hon:(B.on:Int)<=100:=by have:=hok.on;omega
 clear hok hc ho B3;have HT:=Ai ht;have Gh:=Ai hop;clear ht hop;go_enter func75,ntmps75;go_wp2_with fail;refine(BQ B.now B.floor B.on B.os a1 a2 a3 c1 B.hn c2 B.tn c3 v.kind v.name _ 0 w.1.size Zd Za GN.fit.os (HC.below (E3 _ _ _) Bj)).mono ?_;rintro e w1 ⟨A,C,rfl,hcap,hst,hb1⟩;rw[HO.out]at hcap hst;rw[HO.out,HT.out];have z1:w.1.size+1+1<w1.1.size:=by have:=hb1.size;simp at this;omega
 have zA:w.1.size<w1.1.size:=Za;have zB:w.1.size+1<w1.1.size:=Za;obtain⟨X0,X1,X2,Y1,Y2⟩:=BE hb1;have b0:=X0 0;have b1:=X0 1;have b2:=X0 2;have b3:=X0 3;have b4:=X0 4;have p0:=X1 0;have p1:=X1 1;have p2:=X1 2;have p3:=X1 3;have p4:=X1 4;have p5:=X1 5;have r0:=X2 0;have r1:=X2 1;have r2:=X2 2;have r3:=X2 3;have r4:=X2 4;have r5:=X2 5;have r6:=X2 6;have r7:=X2 7;have r8:=X2 8;simp only[Ah,Ad,Ab]at b0 b1 b2 b3 b4 p0 p1 p2 p3 p4 p5 r0 r1 r2 r3 r4 r5 r6 r7 r8;have HB:=Ai ((E3 _ _ _).trans (hb1.mono Zd));have Da:=Ai hst;clear X0 X1 X2 hb1 hst;rw[Gh.out]at p0;exact gO
theorem XW (B:Bk)(v:Wr)(a1 a2 a3:OA)(c1 c2 c3:Nat)(o:Ob)(w:World)(hok:Hp B v)(hc:BH w 0 w.1.size a1 B.on B.os)(ho:Cv B.os v.kind v.name B.on=o)(_hol:(o.hn:Int)<=5)(ht:Cw B.os v.kind v.name B.on=false)(hop:¬v.op=1):Calls prog 75 #[.agg (vB B a1 a2 a3 c1 c2 c3),.agg (vW v)] w λe w'=>e=.returned (.tuple #[.agg #[.i 0,.bool false,.s ⟨#[]⟩,.s ⟨#[]⟩,.i 0,.i 0,.s ⟨#[]⟩,.bool false,.l none 0 0],.i 3])/\Below w.1.size w w':=by
 have B3:∀o1 o2 o3,Below w.1.size w (((w.alloc o1).alloc o2).alloc o3):=λo1 o2 o3=>(((Ak _ _).alloc Bj _).alloc Ze _).alloc Zd _;have E3:=Ai B3;have GN:=Ai hok;have HC:=Ai hc;have HO:=Ai ho;have hn0:=hok.now0;have hn1:=hok.now1;have hon:(B.on:Int)<=100:=by have:=hok.on;omega
 clear hok hc ho B3;have HT:=Ai ht;have hop1:(v.op==1)=false:=by simpa using hop
 clear ht hop;go_enter func75,ntmps75;go_wp2_with fail;refine(BQ B.now B.floor B.on B.os a1 a2 a3 c1 B.hn c2 B.tn c3 v.kind v.name _ 0 w.1.size Zd Za GN.fit.os (HC.below (E3 _ _ _) Bj)).mono ?_;rintro e w1 ⟨A,C,rfl,hcap,hst,hb1⟩;rw[HO.out]at hcap hst;rw[HO.out,HT.out];have z1:w.1.size+1+1<w1.1.size:=by have:=hb1.size;simp at this;omega
 have zA:w.1.size<w1.1.size:=Za;have zB:w.1.size+1<w1.1.size:=Za;obtain⟨X0,X1,X2,Y1,Y2⟩:=BE hb1;have b0:=X0 0;have b1:=X0 1;have b2:=X0 2;have b3:=X0 3;have b4:=X0 4;have p0:=X1 0;have p1:=X1 1;have p2:=X1 2;have p3:=X1 3;have p4:=X1 4;have p5:=X1 5;have r0:=X2 0;have r1:=X2 1;have r2:=X2 2;have r3:=X2 3;have r4:=X2 4;have r5:=X2 5;have r6:=X2 6;have r7:=X2 7;have r8:=X2 8;simp only[Ah,Ad,Ab]at b0 b1 b2 b3 b4 p0 p1 p2 p3 p4 p5 r0 r1 r2 r3 r4 r5 r6 r7 r8;have HB:=Ai ((E3 _ _ _).trans (hb1.mono Zd));have Da:=Ai hst;clear X0 X1 X2 hb1 hst;exact gO
theorem xT (B:Bk)(v:Wr)(a1 a2 a3:OA)(c1 c2 c3:Nat)(o:Ob)(w:World)(hok:Hp B v)(hc:BH w 0 w.1.size a1 B.on B.os)(ho:Cv B.os v.kind v.name B.on=o)(_hol:(o.hn:Int)<=5)(ht:Cw B.os v.kind v.name B.on=true)(hop:¬v.op=1)(hs:¬v.seen=0)(hv:¬v.seen=o.ver):Calls prog 75 #[.agg (vB B a1 a2 a3 c1 c2 c3),.agg (vW v)] w λe w'=>e=.returned (.tuple #[.agg #[.i 0,.bool false,.s ⟨#[]⟩,.s ⟨#[]⟩,.i 0,.i 0,.s ⟨#[]⟩,.bool false,.l none 0 0],.i 4])/\Below w.1.size w w':=by
 have B3:∀o1 o2 o3,Below w.1.size w (((w.alloc o1).alloc o2).alloc o3):=λo1 o2 o3=>(((Ak _ _).alloc Bj _).alloc Ze _).alloc Zd _;have E3:=Ai B3;have GN:=Ai hok;have HC:=Ai hc;have HO:=Ai ho;have hn0:=hok.now0;have hn1:=hok.now1;have hon:(B.on:Int)<=100:=by have:=hok.on;omega
 clear hok hc ho B3;have HT:=Ai ht;have hop1:(v.op==1)=false:=by simpa using hop
 have hs1:(v.seen !=0)=true:=by simpa using hs
 have hv1:(v.seen !=o.ver)=true:=by simpa using hv
 clear ht hop hs hv;go_enter func75,ntmps75;go_wp2_with fail;refine(BQ B.now B.floor B.on B.os a1 a2 a3 c1 B.hn c2 B.tn c3 v.kind v.name _ 0 w.1.size Zd Za GN.fit.os (HC.below (E3 _ _ _) Bj)).mono ?_;rintro e w1 ⟨A,C,rfl,hcap,hst,hb1⟩;rw[HO.out]at hcap hst;rw[HO.out,HT.out];have z1:w.1.size+1+1<w1.1.size:=by have:=hb1.size;simp at this;omega
 have zA:w.1.size<w1.1.size:=Za;have zB:w.1.size+1<w1.1.size:=Za;obtain⟨X0,X1,X2,Y1,Y2⟩:=BE hb1;have b0:=X0 0;have b1:=X0 1;have b2:=X0 2;have b3:=X0 3;have b4:=X0 4;have p0:=X1 0;have p1:=X1 1;have p2:=X1 2;have p3:=X1 3;have p4:=X1 4;have p5:=X1 5;have r0:=X2 0;have r1:=X2 1;have r2:=X2 2;have r3:=X2 3;have r4:=X2 4;have r5:=X2 5;have r6:=X2 6;have r7:=X2 7;have r8:=X2 8;simp only[Ah,Ad,Ab]at b0 b1 b2 b3 b4 p0 p1 p2 p3 p4 p5 r0 r1 r2 r3 r4 r5 r6 r7 r8;have HB:=Ai ((E3 _ _ _).trans (hb1.mono Zd));have Da:=Ai hst;clear X0 X1 X2 hb1 hst;go_wp2;refine bodyPost_ret (v:=.tuple #[.agg #[.i 0,.bool false,.s ⟨#[]⟩,.s ⟨#[]⟩,.i 0,.i 0,.s ⟨#[]⟩,.bool false,.l none 0 0],.i 4]) xN rfl ⟨rfl,by repeat(first|with_reducible exact HB.out|with_reducible refine AJ ?_ Zk _|with_reducible refine Ba ?_ Zk _|with_reducible refine Bb ?_)⟩
theorem ZX{P:Prop}(h:P:=by go_wp2;refine bodyPost_ret (v:=.tuple #[.agg #[.i 0,.bool false,.s ⟨#[]⟩,.s ⟨#[]⟩,.i 0,.i 0,.s ⟨#[]⟩,.bool false,.l none 0 0],.i 5]) xN rfl ⟨rfl,by repeat(first|with_reducible exact HB.out|with_reducible refine AJ ?_ Zk _|with_reducible refine Ba ?_ Zk _|with_reducible refine Bb ?_)⟩):P:=h
theorem xI (B:Bk)(v:Wr)(a1 a2 a3:OA)(c1 c2 c3:Nat)(o:Ob)(w:World)(hok:Hp B v)(hc:BH w 0 w.1.size a1 B.on B.os)(ho:Cv B.os v.kind v.name B.on=o)(_hol:(o.hn:Int)<=5)(ht:Cw B.os v.kind v.name B.on=true)(hop:¬v.op=1)(hop5:¬v.op=5)(hsv:v.seen=0\/(¬v.seen=0/\v.seen=o.ver))(he:o.ending=true):Calls prog 75 #[.agg (vB B a1 a2 a3 c1 c2 c3),.agg (vW v)] w λe w'=>e=.returned (.tuple #[.agg #[.i 0,.bool false,.s ⟨#[]⟩,.s ⟨#[]⟩,.i 0,.i 0,.s ⟨#[]⟩,.bool false,.l none 0 0],.i 5])/\Below w.1.size w w':=by
 have B3:∀o1 o2 o3,Below w.1.size w (((w.alloc o1).alloc o2).alloc o3):=λo1 o2 o3=>(((Ak _ _).alloc Bj _).alloc Ze _).alloc Zd _;have E3:=Ai B3;have GN:=Ai hok;have HC:=Ai hc;have HO:=Ai ho;have hn0:=hok.now0;have hn1:=hok.now1;have hon:(B.on:Int)<=100:=by have:=hok.on;omega
 clear hok hc ho B3;have HT:=Ai ht;have HE:=Ai he;have hop1:(v.op==1)=false:=by simpa using hop
 have hop2:(v.op !=5)=true:=by simpa using hop5
 clear ht hop hop5 he;have Up:=Ai hsv;clear hsv;go_enter func75,ntmps75;go_wp2_with fail;refine(BQ B.now B.floor B.on B.os a1 a2 a3 c1 B.hn c2 B.tn c3 v.kind v.name _ 0 w.1.size Zd Za GN.fit.os (HC.below (E3 _ _ _) Bj)).mono ?_;rintro e w1 ⟨A,C,rfl,hcap,hst,hb1⟩;rw[HO.out]at hcap hst;rw[HO.out,HT.out];have z1:w.1.size+1+1<w1.1.size:=by have:=hb1.size;simp at this;omega
 have zA:w.1.size<w1.1.size:=Za;have zB:w.1.size+1<w1.1.size:=Za;obtain⟨X0,X1,X2,Y1,Y2⟩:=BE hb1;have b0:=X0 0;have b1:=X0 1;have b2:=X0 2;have b3:=X0 3;have b4:=X0 4;have p0:=X1 0;have p1:=X1 1;have p2:=X1 2;have p3:=X1 3;have p4:=X1 4;have p5:=X1 5;have r0:=X2 0;have r1:=X2 1;have r2:=X2 2;have r3:=X2 3;have r4:=X2 4;have r5:=X2 5;have r6:=X2 6;have r7:=X2 7;have r8:=X2 8;simp only[Ah,Ad,Ab]at b0 b1 b2 b3 b4 p0 p1 p2 p3 p4 p5 r0 r1 r2 r3 r4 r5 r6 r7 r8;have HB:=Ai ((E3 _ _ _).trans (hb1.mono Zd));have Da:=Ai hst;clear X0 X1 X2 hb1 hst;unfold vO;rw[HE.out];rcases Up.out with hs|⟨hs0,hs⟩;.rw[hs]at p3;clear hs;exact ZX
 .rw[hs]at p3;have hsb:(o.ver !=0)=true:=by rw[<-hs];simpa using hs0
  clear hs hs0;exact ZX
theorem Dw{w1 w':World}{lo:Nat}{A:OA}{n:Nat}{s:Nat->ByteArray}(h:AV w1 lo w1.1.size A n s)(hf:AP (λq=>q<lo) w1 w'):AB w' 0 w'.1.size A n s:=λi hi=>by obtain⟨b,off,e1,e2,e3,e4,_⟩:=h i hi;exact⟨b,off,e1,Ap _,Aa e3 hf.size,(hf.cell (p:=⟨b,off+i,none⟩) e3 (by show¬b<lo;omega)).trans e4⟩
theorem eK{U:World}{a:ByteArray}{t:TypeId}{k:Nat}(h:k=U.1.size):AB (U.alloc (.cells #[.s a] t)) 0 (U.alloc (.cells #[.s a] t)).1.size (some ⟨k,0,none⟩) 1 (λ_=>a):=λi hi=>by subst h;obtain rfl:i=0:=Za;exact⟨U.1.size,0,rfl,Ap _,Ze,Cz rfl⟩
def On (B:Bk)(v:Wr)(w:World)(e:Ending)(w':World):Prop:=Below w.1.size w w'/\((¬Bd B v=0/\e=.returned (.tuple #[.agg #[.i 0,.bool false,.s ⟨#[]⟩,.s ⟨#[]⟩,.i 0,.i 0,.s ⟨#[]⟩,.bool false,.l none 0 0],.i (Bd B v)]))\/(Bd B v=0/\∃A C,e=.returned (.tuple #[.agg #[.i (Dc B v).ver,.bool (Dc B v).gone,.s (Dc B v).ob.kind,.s (Dc B v).ob.name,.i (Dc B v).ob.ver,.i (Dc B v).ob.born,.s (Dc B v).ob.text,.bool (Dc B v).ob.ending,.l A (Dc B v).ob.hn C],.i 0])/\AB w' 0 w'.1.size A (Dc B v).ob.hn (Dc B v).ob.hs))
theorem UK{P:Prop}(h:P:=by
  have hcc:Bd B v=8:=by unfold Bd;rw[if_pos Uo.out,if_pos hm]
  have FN:=Ai (show∀w',Below w.1.size w w'->On B v w (.returned (.tuple #[.agg #[.i 0,.bool false,.s ⟨#[]⟩,.s ⟨#[]⟩,.i 0,.i 0,.s ⟨#[]⟩,.bool false,.l none 0 0],.i 8])) w' from λw' hb=>⟨hb,AD ⟨by rw[hcc];decide,by rw[hcc]⟩⟩);clear hcc;go_wp2;refine bodyPost_ret (v:=.tuple #[.agg #[.i 0,.bool false,.s ⟨#[]⟩,.s ⟨#[]⟩,.i 0,.i 0,.s ⟨#[]⟩,.bool false,.l none 0 0],.i 8]) Zu rfl (FN.out _ (by repeat(first|with_reducible exact HB.out|with_reducible refine AJ ?_ Zk _|with_reducible refine Ba ?_ Zk _|with_reducible refine Bb ?_)))):P:=h
theorem dG{P:Prop}(h:P:=by
  by_cases hm:1000000<=B.now;.exact UK
  .have hcc:Bd B v=0:=by unfold Bd;rw[if_pos Uo.out,if_neg hm]
   have Qf:=Ai hcc;have hm2:B.now<1000000:=Za;clear hcc hm;go_wp2;refine bodyPost_ret (v:=.tuple #[.agg #[.i (B.now+1),.bool false,.s o.kind,.s o.name,.i (B.now+1),.i o.born,.s v.text,.bool false,.l A o.hn C],.i 0]) Zu rfl ⟨by repeat(first|with_reducible exact HB.out|with_reducible refine AJ ?_ Zk _|with_reducible refine Ba ?_ Zk _|with_reducible refine Bb ?_),Ax ⟨Qf.out,A,C,?_,?_⟩⟩;.rw[HV.out]
   .rw[HN.out];exact Dw Da.out (by repeat(first|with_reducible exact AP.refl _ _|with_reducible refine Io ?_ (by(show _<=_\/_<_);simp only[];omega) _|with_reducible refine AP.trans ?_ (Aq FU)))):P:=h
theorem tM (B:Bk)(v:Wr)(a1 a2 a3:OA)(c1 c2 c3:Nat)(o:Ob)(w:World)(hok:Hp B v)(hc:BH w 0 w.1.size a1 B.on B.os)(ho:Cv B.os v.kind v.name B.on=o)(_hol:(o.hn:Int)<=5)(ht:Cw B.os v.kind v.name B.on=true)(hop:v.op=2)(hoc:CA B v=0)(hsv:v.seen=0\/(¬v.seen=0/\v.seen=o.ver))(he:o.ending=false)(hv:∀(A:OA)(C:Nat),(.agg #[.i (B.now+1),.bool false,.s o.kind,.s o.name,.i (B.now+1),.i o.born,.s v.text,.bool false,.l A o.hn C]:Value)=.agg #[.i (Dc B v).ver,.bool (Dc B v).gone,.s (Dc B v).ob.kind,.s (Dc B v).ob.name,.i (Dc B v).ob.ver,.i (Dc B v).ob.born,.s (Dc B v).ob.text,.bool (Dc B v).ob.ending,.l A (Dc B v).ob.hn C])(hh:∀(W:World)(A:OA),AB W 0 W.1.size A (Dc B v).ob.hn (Dc B v).ob.hs=AB W 0 W.1.size A (o.hn) (o.hs)):Calls prog 75 #[.agg (vB B a1 a2 a3 c1 c2 c3),.agg (vW v)] w λe w'=>On B v w e w':=by
 have B3:∀o1 o2 o3,Below w.1.size w (((w.alloc o1).alloc o2).alloc o3):=λo1 o2 o3=>(((Ak _ _).alloc Bj _).alloc Ze _).alloc Zd _;have E3:=Ai B3;have GN:=Ai hok;have HC:=Ai hc;have HO:=Ai ho;have hn0:=hok.now0;have hn1:=hok.now1;have hon:(B.on:Int)<=100:=by have:=hok.on;omega
 have WZ:=Ai hon;clear hok hc ho B3;have HT:=Ai ht;have Gh:=Ai hop;have Uo:=Ai hoc;have HV:=Ai hv;have HN:=Ai hh;clear ht hop hoc hv hh;have HE:=Ai he;clear he;have Up:=Ai hsv;clear hsv;go_enter func75,ntmps75;go_wp2_with fail;refine(BQ B.now B.floor B.on B.os a1 a2 a3 c1 B.hn c2 B.tn c3 v.kind v.name _ 0 w.1.size Zd Yv GN.fit.os (HC.below (E3 _ _ _) Bj)).mono ?_;rintro e w1 ⟨A,C,rfl,hcap,hst,hb1⟩;rw[HO.out]at hcap hst;rw[HO.out,HT.out];have z1:w.1.size+1+1<w1.1.size:=by have:=hb1.size;simp at this;omega
 have zA:w.1.size<w1.1.size:=Za;have zB:w.1.size+1<w1.1.size:=Za;have zA2:w.1.size<w1.1.size+1:=Za;have zA3:w.1.size<w1.1.size+1+1:=Za;have zB2:w.1.size+1<w1.1.size+1:=Za;have zB3:w.1.size+1<w1.1.size+1+1:=Za;have zC2:w.1.size+1+1<w1.1.size+1:=Za;have zC3:w.1.size+1+1<w1.1.size+1+1:=Za;obtain⟨X0,X1,X2,Y1,Y2⟩:=BE hb1;have b0:=X0 0;have b1:=X0 1;have b2:=X0 2;have b3:=X0 3;have b4:=X0 4;have p0:=X1 0;have p1:=X1 1;have p2:=X1 2;have p3:=X1 3;have p4:=X1 4;have p5:=X1 5;have r0:=X2 0;have r1:=X2 1;have r2:=X2 2;have r3:=X2 3;have r4:=X2 4;have r5:=X2 5;have r6:=X2 6;have r7:=X2 7;have r8:=X2 8;simp only[Ah,Ad,Ab]at b0 b1 b2 b3 b4 p0 p1 p2 p3 p4 p5 r0 r1 r2 r3 r4 r5 r6 r7 r8;have HB:=Ai ((E3 _ _ _).trans (hb1.mono Zd));have Da:=Ai hst;clear X0 X1 X2 hb1 hst;have hw:IntKind.i64.wrap (B.now+1)=B.now+1:=BV _ ⟨Za,Za⟩;simp only[AE]at Da;rw[Gh.out]at p0;unfold vO;rw[HE.out];rcases Up.out with hs|⟨hs0,hs⟩;.rw[hs]at p3;clear hs;exact dG
 .rw[hs]at p3;have hsb:(o.ver !=0)=true:=by rw[<-hs];simpa using hs0
  clear hs hs0;exact dG
theorem fZ{P:Prop}(h:P:=by
  by_cases hm:1000000<=B.now;.exact UK
  .have hcc:Bd B v=0:=by unfold Bd;rw[if_pos Uo.out,if_neg hm]
   have Qf:=Ai hcc;have hm2:B.now<1000000:=Za;clear hcc hm;go_wp2;refine bodyPost_ret (v:=.tuple #[.agg #[.i (B.now+1),.bool ((o.hn:Int)==0),.s o.kind,.s o.name,.i (B.now+1),.i o.born,.s o.text,.bool true,.l A o.hn C],.i 0]) Zu rfl ⟨by repeat(first|with_reducible exact HB.out|with_reducible refine AJ ?_ Zk _|with_reducible refine Ba ?_ Zk _|with_reducible refine Bb ?_),Ax ⟨Qf.out,A,C,?_,?_⟩⟩;.rw[HV.out]
   .rw[HN.out];exact Dw Da.out (by repeat(first|with_reducible exact AP.refl _ _|with_reducible refine Io ?_ (by(show _<=_\/_<_);simp only[];omega) _|with_reducible refine AP.trans ?_ (Aq FU)))):P:=h
theorem tZ (B:Bk)(v:Wr)(a1 a2 a3:OA)(c1 c2 c3:Nat)(o:Ob)(w:World)(hok:Hp B v)(hc:BH w 0 w.1.size a1 B.on B.os)(ho:Cv B.os v.kind v.name B.on=o)(_hol:(o.hn:Int)<=5)(ht:Cw B.os v.kind v.name B.on=true)(hop:v.op=3)(hoc:CA B v=0)(hsv:v.seen=0\/(¬v.seen=0/\v.seen=o.ver))(he:o.ending=false)(hv:∀(A:OA)(C:Nat),(.agg #[.i (B.now+1),.bool ((o.hn:Int)==0),.s o.kind,.s o.name,.i (B.now+1),.i o.born,.s o.text,.bool true,.l A o.hn C]:Value)=.agg #[.i (Dc B v).ver,.bool (Dc B v).gone,.s (Dc B v).ob.kind,.s (Dc B v).ob.name,.i (Dc B v).ob.ver,.i (Dc B v).ob.born,.s (Dc B v).ob.text,.bool (Dc B v).ob.ending,.l A (Dc B v).ob.hn C])(hh:∀(W:World)(A:OA),AB W 0 W.1.size A (Dc B v).ob.hn (Dc B v).ob.hs=AB W 0 W.1.size A (o.hn) (o.hs)):Calls prog 75 #[.agg (vB B a1 a2 a3 c1 c2 c3),.agg (vW v)] w λe w'=>On B v w e w':=by
 have B3:∀o1 o2 o3,Below w.1.size w (((w.alloc o1).alloc o2).alloc o3):=λo1 o2 o3=>(((Ak _ _).alloc Bj _).alloc Ze _).alloc Zd _;have E3:=Ai B3;have GN:=Ai hok;have HC:=Ai hc;have HO:=Ai ho;have hn0:=hok.now0;have hn1:=hok.now1;have hon:(B.on:Int)<=100:=by have:=hok.on;omega
 have WZ:=Ai hon;clear hok hc ho B3;have HT:=Ai ht;have Gh:=Ai hop;have Uo:=Ai hoc;have HV:=Ai hv;have HN:=Ai hh;clear ht hop hoc hv hh;have HE:=Ai he;clear he;have Up:=Ai hsv;clear hsv;go_enter func75,ntmps75;go_wp2_with fail;refine(BQ B.now B.floor B.on B.os a1 a2 a3 c1 B.hn c2 B.tn c3 v.kind v.name _ 0 w.1.size Zd Yv GN.fit.os (HC.below (E3 _ _ _) Bj)).mono ?_;rintro e w1 ⟨A,C,rfl,hcap,hst,hb1⟩;rw[HO.out]at hcap hst;rw[HO.out,HT.out];have z1:w.1.size+1+1<w1.1.size:=by have:=hb1.size;simp at this;omega
 have zA:w.1.size<w1.1.size:=Za;have zB:w.1.size+1<w1.1.size:=Za;have zA2:w.1.size<w1.1.size+1:=Za;have zA3:w.1.size<w1.1.size+1+1:=Za;have zB2:w.1.size+1<w1.1.size+1:=Za;have zB3:w.1.size+1<w1.1.size+1+1:=Za;have zC2:w.1.size+1+1<w1.1.size+1:=Za;have zC3:w.1.size+1+1<w1.1.size+1+1:=Za;obtain⟨X0,X1,X2,Y1,Y2⟩:=BE hb1;have b0:=X0 0;have b1:=X0 1;have b2:=X0 2;have b3:=X0 3;have b4:=X0 4;have p0:=X1 0;have p1:=X1 1;have p2:=X1 2;have p3:=X1 3;have p4:=X1 4;have p5:=X1 5;have r0:=X2 0;have r1:=X2 1;have r2:=X2 2;have r3:=X2 3;have r4:=X2 4;have r5:=X2 5;have r6:=X2 6;have r7:=X2 7;have r8:=X2 8;simp only[Ah,Ad,Ab]at b0 b1 b2 b3 b4 p0 p1 p2 p3 p4 p5 r0 r1 r2 r3 r4 r5 r6 r7 r8;have HB:=Ai ((E3 _ _ _).trans (hb1.mono Zd));have Da:=Ai hst;clear X0 X1 X2 hb1 hst;have hw:IntKind.i64.wrap (B.now+1)=B.now+1:=BV _ ⟨Za,Za⟩;simp only[AE]at Da;rw[Gh.out]at p0;unfold vO;rw[HE.out];rcases Up.out with hs|⟨hs0,hs⟩;.rw[hs]at p3;clear hs;exact fZ
 .rw[hs]at p3;have hsb:(o.ver !=0)=true:=by rw[<-hs];simpa using hs0
  clear hs hs0;exact fZ
theorem pS (B:Bk)(v:Wr)(a1 a2 a3:OA)(c1 c2 c3:Nat)(o:Ob)(w:World)(hok:Hp B v)(hc:BH w 0 w.1.size a1 B.on B.os)(ho:Cv B.os v.kind v.name B.on=o)(_hol:(o.hn:Int)<=5)(ht:Cw B.os v.kind v.name B.on=false)(hop:v.op=1)(hoc:CA B v=0)(hs:v.seen=0)(he:o.ending=false)(hh0:v.hold=⟨#[]⟩)(h100:¬100<=B.on)(hv:(.agg #[.i (B.now+1),.bool false,.s v.kind,.s v.name,.i (B.now+1),.i (B.now+1),.s v.text,.bool false,.l none 0 0]:Value)=.agg #[.i (Dc B v).ver,.bool (Dc B v).gone,.s (Dc B v).ob.kind,.s (Dc B v).ob.name,.i (Dc B v).ob.ver,.i (Dc B v).ob.born,.s (Dc B v).ob.text,.bool (Dc B v).ob.ending,.l none (Dc B v).ob.hn 0])(hh:∀(W:World)(A:OA),AB W 0 W.1.size A (Dc B v).ob.hn (Dc B v).ob.hs=AB W 0 W.1.size A (0) (λ_=>v.hold)):Calls prog 75 #[.agg (vB B a1 a2 a3 c1 c2 c3),.agg (vW v)] w λe w'=>On B v w e w':=by
 have B3:∀o1 o2 o3,Below w.1.size w (((w.alloc o1).alloc o2).alloc o3):=λo1 o2 o3=>(((Ak _ _).alloc Bj _).alloc Ze _).alloc Zd _;have E3:=Ai B3;have GN:=Ai hok;have HC:=Ai hc;have HO:=Ai ho;have hn0:=hok.now0;have hn1:=hok.now1;have hon:(B.on:Int)<=100:=by have:=hok.on;omega
 have WZ:=Ai hon;clear hok hc ho B3;have HT:=Ai ht;have Gh:=Ai hop;have Uo:=Ai hoc;have HV:=Ai hv;have HN:=Ai hh;clear ht hop hoc hv hh;have HE:=Ai he;have HS:=Ai hs;have HH:=Ai hh0;have h100i:(B.on:Int)<100:=Za;clear he hs hh0 h100 hon;go_enter func75,ntmps75;go_wp2_with fail;refine(BQ B.now B.floor B.on B.os a1 a2 a3 c1 B.hn c2 B.tn c3 v.kind v.name _ 0 w.1.size Zd Yv GN.fit.os (HC.below (E3 _ _ _) Bj)).mono ?_;rintro e w1 ⟨A,C,rfl,hcap,hst,hb1⟩;rw[HO.out]at hcap hst;rw[HO.out,HT.out];have z1:w.1.size+1+1<w1.1.size:=by have:=hb1.size;simp at this;omega
 have zA:w.1.size<w1.1.size:=Za;have zB:w.1.size+1<w1.1.size:=Za;have zA2:w.1.size<w1.1.size+1:=Za;have zA3:w.1.size<w1.1.size+1+1:=Za;have zB2:w.1.size+1<w1.1.size+1:=Za;have zB3:w.1.size+1<w1.1.size+1+1:=Za;have zC2:w.1.size+1+1<w1.1.size+1:=Za;have zC3:w.1.size+1+1<w1.1.size+1+1:=Za;obtain⟨X0,X1,X2,Y1,Y2⟩:=BE hb1;have b0:=X0 0;have b1:=X0 1;have b2:=X0 2;have b3:=X0 3;have b4:=X0 4;have p0:=X1 0;have p1:=X1 1;have p2:=X1 2;have p3:=X1 3;have p4:=X1 4;have p5:=X1 5;have r0:=X2 0;have r1:=X2 1;have r2:=X2 2;have r3:=X2 3;have r4:=X2 4;have r5:=X2 5;have r6:=X2 6;have r7:=X2 7;have r8:=X2 8;simp only[Ah,Ad,Ab]at b0 b1 b2 b3 b4 p0 p1 p2 p3 p4 p5 r0 r1 r2 r3 r4 r5 r6 r7 r8;have HB:=Ai ((E3 _ _ _).trans (hb1.mono Zd));have Da:=Ai hst;clear X0 X1 X2 hb1 hst;have hw:IntKind.i64.wrap (B.now+1)=B.now+1:=BV _ ⟨Za,Za⟩;simp only[AE]at Da;rw[Gh.out]at p0;unfold vO;rw[HE.out];rw[HS.out]at p3;rw[HH.out]at p5;by_cases hm:1000000<=B.now;.exact UK
 .have hcc:Bd B v=0:=by unfold Bd;rw[if_pos Uo.out,if_neg hm]
  have Qf:=Ai hcc;have hm2:B.now<1000000:=Za;clear hcc hm;go_wp2;refine bodyPost_ret (v:=.tuple #[.agg #[.i (B.now+1),.bool false,.s v.kind,.s v.name,.i (B.now+1),.i (B.now+1),.s v.text,.bool false,.l none 0 0],.i 0]) Zu rfl ⟨by repeat(first|with_reducible exact HB.out|with_reducible refine AJ ?_ Zk _|with_reducible refine Ba ?_ Zk _|with_reducible refine Bb ?_),Ax ⟨Qf.out,none,0,?_,?_⟩⟩;.rw[HV.out]
  .rw[HN.out];exact(λi hi=>absurd hi (Al _))
theorem rC (B:Bk)(v:Wr)(a1 a2 a3:OA)(c1 c2 c3:Nat)(o:Ob)(w:World)(hok:Hp B v)(hc:BH w 0 w.1.size a1 B.on B.os)(ho:Cv B.os v.kind v.name B.on=o)(_hol:(o.hn:Int)<=5)(ht:Cw B.os v.kind v.name B.on=false)(hop:v.op=1)(hoc:CA B v=0)(hs:v.seen=0)(he:o.ending=false)(hh0:¬v.hold=⟨#[]⟩)(h100:¬100<=B.on)(hv:∀(A:OA)(C:Nat),(.agg #[.i (B.now+1),.bool false,.s v.kind,.s v.name,.i (B.now+1),.i (B.now+1),.s v.text,.bool false,.l A 1 C]:Value)=.agg #[.i (Dc B v).ver,.bool (Dc B v).gone,.s (Dc B v).ob.kind,.s (Dc B v).ob.name,.i (Dc B v).ob.ver,.i (Dc B v).ob.born,.s (Dc B v).ob.text,.bool (Dc B v).ob.ending,.l A (Dc B v).ob.hn C])(hh:∀(W:World)(A:OA),AB W 0 W.1.size A (Dc B v).ob.hn (Dc B v).ob.hs=AB W 0 W.1.size A (1) (λ_=>v.hold)):Calls prog 75 #[.agg (vB B a1 a2 a3 c1 c2 c3),.agg (vW v)] w λe w'=>On B v w e w':=by
 have B3:∀o1 o2 o3,Below w.1.size w (((w.alloc o1).alloc o2).alloc o3):=λo1 o2 o3=>(((Ak _ _).alloc Bj _).alloc Ze _).alloc Zd _;have E3:=Ai B3;have GN:=Ai hok;have HC:=Ai hc;have HO:=Ai ho;have hn0:=hok.now0;have hn1:=hok.now1;have hon:(B.on:Int)<=100:=by have:=hok.on;omega
 have WZ:=Ai hon;clear hok hc ho B3;have HT:=Ai ht;have Gh:=Ai hop;have Uo:=Ai hoc;have HV:=Ai hv;have HN:=Ai hh;clear ht hop hoc hv hh;have HE:=Ai he;have HS:=Ai hs;have hhe:v.hold.toList.isEmpty=false:=by simpa using BR hh0
 have h100i:(B.on:Int)<100:=Za;clear he hs hh0 h100 hon;go_enter func75,ntmps75;go_wp2_with fail;refine(BQ B.now B.floor B.on B.os a1 a2 a3 c1 B.hn c2 B.tn c3 v.kind v.name _ 0 w.1.size Zd Yv GN.fit.os (HC.below (E3 _ _ _) Bj)).mono ?_;rintro e w1 ⟨A,C,rfl,hcap,hst,hb1⟩;rw[HO.out]at hcap hst;rw[HO.out,HT.out];have z1:w.1.size+1+1<w1.1.size:=by have:=hb1.size;simp at this;omega
 have zA:w.1.size<w1.1.size:=Za;have zB:w.1.size+1<w1.1.size:=Za;have zA2:w.1.size<w1.1.size+1:=Za;have zA3:w.1.size<w1.1.size+1+1:=Za;have zB2:w.1.size+1<w1.1.size+1:=Za;have zB3:w.1.size+1<w1.1.size+1+1:=Za;have zC2:w.1.size+1+1<w1.1.size+1:=Za;have zC3:w.1.size+1+1<w1.1.size+1+1:=Za;obtain⟨X0,X1,X2,Y1,Y2⟩:=BE hb1;have b0:=X0 0;have b1:=X0 1;have b2:=X0 2;have b3:=X0 3;have b4:=X0 4;have p0:=X1 0;have p1:=X1 1;have p2:=X1 2;have p3:=X1 3;have p4:=X1 4;have p5:=X1 5;have r0:=X2 0;have r1:=X2 1;have r2:=X2 2;have r3:=X2 3;have r4:=X2 4;have r5:=X2 5;have r6:=X2 6;have r7:=X2 7;have r8:=X2 8;simp only[Ah,Ad,Ab]at b0 b1 b2 b3 b4 p0 p1 p2 p3 p4 p5 r0 r1 r2 r3 r4 r5 r6 r7 r8;have HB:=Ai ((E3 _ _ _).trans (hb1.mono Zd));have Da:=Ai hst;clear X0 X1 X2 hb1 hst;have hw:IntKind.i64.wrap (B.now+1)=B.now+1:=BV _ ⟨Za,Za⟩;simp only[AE]at Da;rw[Gh.out]at p0;unfold vO;rw[HE.out];rw[HS.out]at p3;by_cases hm:1000000<=B.now
 .have hcc:Bd B v=8:=by unfold Bd;rw[if_pos Uo.out,if_pos hm]
  have FN:=Ai (show∀w',Below w.1.size w w'->On B v w (.returned (.tuple #[.agg #[.i 0,.bool false,.s ⟨#[]⟩,.s ⟨#[]⟩,.i 0,.i 0,.s ⟨#[]⟩,.bool false,.l none 0 0],.i 8])) w' from λw' hb=>⟨hb,AD ⟨by rw[hcc];decide,by rw[hcc]⟩⟩);clear hcc;go_wp2;refine bodyPost_ret (v:=.tuple #[.agg #[.i 0,.bool false,.s ⟨#[]⟩,.s ⟨#[]⟩,.i 0,.i 0,.s ⟨#[]⟩,.bool false,.l none 0 0],.i 8]) xS rfl (FN.out _ (by repeat(first|with_reducible exact HB.out|with_reducible refine AJ ?_ Zk _|with_reducible refine Ba ?_ Zk _|with_reducible refine Bb ?_)))
 .have hcc:Bd B v=0:=by unfold Bd;rw[if_pos Uo.out,if_neg hm]
  have Qf:=Ai hcc;have hm2:B.now<1000000:=Za;clear hcc hm;go_wp2;refine bodyPost_ret (v:=.tuple #[.agg #[.i (B.now+1),.bool false,.s v.kind,.s v.name,.i (B.now+1),.i (B.now+1),.s v.text,.bool false,.l (some ⟨w1.1.size+1+1,0,none⟩) 1 1],.i 0]) xS rfl ⟨by repeat(first|with_reducible exact HB.out|with_reducible refine AJ ?_ Zk _|with_reducible refine Ba ?_ Zk _|with_reducible refine Bb ?_),Ax ⟨Qf.out,(some ⟨w1.1.size+1+1,0,none⟩),1,?_,?_⟩⟩;.rw[HV.out]
  .rw[HN.out];exact(eK Ze)
theorem hU{P:Prop}(h:P:=by go_wp2;refine bodyPost_ret (v:=.tuple #[.agg #[.i 0,.bool false,.s ⟨#[]⟩,.s ⟨#[]⟩,.i 0,.i 0,.s ⟨#[]⟩,.bool false,.l none 0 0],.i 7]) Zu rfl ⟨rfl,by repeat(first|with_reducible exact HB.out|with_reducible refine AJ ?_ Zk _|with_reducible refine Ba ?_ Zk _|with_reducible refine Bb ?_)⟩):P:=h
theorem pO (B:Bk)(v:Wr)(a1 a2 a3:OA)(c1 c2 c3:Nat)(o:Ob)(w:World)(hok:Hp B v)(hc:BH w 0 w.1.size a1 B.on B.os)(ho:Cv B.os v.kind v.name B.on=o)(_hol:(o.hn:Int)<=5)(ht:Cw B.os v.kind v.name B.on=false)(hop:v.op=1)(hs:v.seen=0)(he:o.ending=false)(h100:100<=B.on):Calls prog 75 #[.agg (vB B a1 a2 a3 c1 c2 c3),.agg (vW v)] w λe w'=>e=.returned (.tuple #[.agg #[.i 0,.bool false,.s ⟨#[]⟩,.s ⟨#[]⟩,.i 0,.i 0,.s ⟨#[]⟩,.bool false,.l none 0 0],.i 7])/\Below w.1.size w w':=by
 have B3:∀o1 o2 o3,Below w.1.size w (((w.alloc o1).alloc o2).alloc o3):=λo1 o2 o3=>(((Ak _ _).alloc Bj _).alloc Ze _).alloc Zd _;have E3:=Ai B3;have GN:=Ai hok;have HC:=Ai hc;have HO:=Ai ho;have hn0:=hok.now0;have hn1:=hok.now1;have hon:(B.on:Int)<=100:=by have:=hok.on;omega
 have WZ:=Ai hon;clear hok hc ho B3;have HT:=Ai ht;have Gh:=Ai hop;have HE:=Ai he;have HS:=Ai hs;have h100i:(100:Int)<=B.on:=Za;clear ht hop he hs h100 hon;go_enter func75,ntmps75;go_wp2_with fail;refine(BQ B.now B.floor B.on B.os a1 a2 a3 c1 B.hn c2 B.tn c3 v.kind v.name _ 0 w.1.size Zd Yv GN.fit.os (HC.below (E3 _ _ _) Bj)).mono ?_;rintro e w1 ⟨A,C,rfl,hcap,hst,hb1⟩;rw[HO.out]at hcap hst;rw[HO.out,HT.out];have z1:w.1.size+1+1<w1.1.size:=by have:=hb1.size;simp at this;omega
 have zA:w.1.size<w1.1.size:=Za;have zB:w.1.size+1<w1.1.size:=Za;have zA2:w.1.size<w1.1.size+1:=Za;have zA3:w.1.size<w1.1.size+1+1:=Za;have zB2:w.1.size+1<w1.1.size+1:=Za;have zB3:w.1.size+1<w1.1.size+1+1:=Za;have zC2:w.1.size+1+1<w1.1.size+1:=Za;have zC3:w.1.size+1+1<w1.1.size+1+1:=Za;obtain⟨X0,X1,X2,Y1,Y2⟩:=BE hb1;have b0:=X0 0;have b1:=X0 1;have b2:=X0 2;have b3:=X0 3;have b4:=X0 4;have p0:=X1 0;have p1:=X1 1;have p2:=X1 2;have p3:=X1 3;have p4:=X1 4;have p5:=X1 5;have r0:=X2 0;have r1:=X2 1;have r2:=X2 2;have r3:=X2 3;have r4:=X2 4;have r5:=X2 5;have r6:=X2 6;have r7:=X2 7;have r8:=X2 8;simp only[Ah,Ad,Ab]at b0 b1 b2 b3 b4 p0 p1 p2 p3 p4 p5 r0 r1 r2 r3 r4 r5 r6 r7 r8;have HB:=Ai ((E3 _ _ _).trans (hb1.mono Zd));have Da:=Ai hst;clear X0 X1 X2 hb1 hst;have hw:IntKind.i64.wrap (B.now+1)=B.now+1:=BV _ ⟨Za,Za⟩;rw[Gh.out]at p0;unfold vO;rw[HE.out];rw[HS.out]at p3;by_cases hhe:v.hold.toList.isEmpty=true;.exact hU
 .have hhe':v.hold.toList.isEmpty=false:=by simpa using hhe
  clear hhe;go_wp2;refine bodyPost_ret (v:=.tuple #[.agg #[.i 0,.bool false,.s ⟨#[]⟩,.s ⟨#[]⟩,.i 0,.i 0,.s ⟨#[]⟩,.bool false,.l none 0 0],.i 7]) xS rfl ⟨rfl,by repeat(first|with_reducible exact HB.out|with_reducible refine AJ ?_ Zk _|with_reducible refine Ba ?_ Zk _|with_reducible refine Bb ?_)⟩
theorem gQ{P:Prop}(h:P:=by go_wp2_with fail;refine(Jo o.hn o.hs A C v.hold _ 0 _ Za (Dw Da.out Zh)).mono ?_;rintro e w2 ⟨rfl,rfl⟩;rw[HH.out];go_wp2;refine bodyPost_ret (v:=.tuple #[.agg #[.i 0,.bool false,.s ⟨#[]⟩,.s ⟨#[]⟩,.i 0,.i 0,.s ⟨#[]⟩,.bool false,.l none 0 0],.i 6]) Zu rfl ⟨rfl,by repeat(first|with_reducible exact HB.out|with_reducible refine AJ ?_ Zk _|with_reducible refine Ba ?_ Zk _|with_reducible refine Bb ?_)⟩):P:=h
theorem R8{P:Prop}(h:P:=by
  rcases Up.out with hs|⟨hs0,hs⟩;.rw[hs]at p3;clear hs;exact gQ
  .rw[hs]at p3;have hsb:(o.ver !=0)=true:=by rw[<-hs];simpa using hs0
   clear hs hs0;exact gQ):P:=h
theorem rI (B:Bk)(v:Wr)(a1 a2 a3:OA)(c1 c2 c3:Nat)(o:Ob)(w:World)(hok:Hp B v)(hc:BH w 0 w.1.size a1 B.on B.os)(ho:Cv B.os v.kind v.name B.on=o)(hol:(o.hn:Int)<=5)(ht:Cw B.os v.kind v.name B.on=true)(hop:v.op=4)(hsv:v.seen=0\/(¬v.seen=0/\v.seen=o.ver))(he:o.ending=false)(hh:D2 o.hn o.hs v.hold=true):Calls prog 75 #[.agg (vB B a1 a2 a3 c1 c2 c3),.agg (vW v)] w λe w'=>e=.returned (.tuple #[.agg #[.i 0,.bool false,.s ⟨#[]⟩,.s ⟨#[]⟩,.i 0,.i 0,.s ⟨#[]⟩,.bool false,.l none 0 0],.i 6])/\Below w.1.size w w':=by
 have B3:∀o1 o2 o3,Below w.1.size w (((w.alloc o1).alloc o2).alloc o3):=λo1 o2 o3=>(((Ak _ _).alloc Bj _).alloc Ze _).alloc Zd _;have E3:=Ai B3;have GN:=Ai hok;have HC:=Ai hc;have HO:=Ai ho;have hn0:=hok.now0;have hn1:=hok.now1;have hon:(B.on:Int)<=100:=by have:=hok.on;omega
 have WZ:=Ai hon;clear hok hc ho B3;have HT:=Ai ht;have Gh:=Ai hop;clear ht hop;have HE:=Ai he;clear he;have Up:=Ai hsv;clear hsv;have HH:=Ai hh;clear hh;go_enter func75,ntmps75;go_wp2_with fail;refine(BQ B.now B.floor B.on B.os a1 a2 a3 c1 B.hn c2 B.tn c3 v.kind v.name _ 0 w.1.size Zd Yv GN.fit.os (HC.below (E3 _ _ _) Bj)).mono ?_;rintro e w1 ⟨A,C,rfl,hcap,hst,hb1⟩;rw[HO.out]at hcap hst;rw[HO.out,HT.out];have z1:w.1.size+1+1<w1.1.size:=by have:=hb1.size;simp at this;omega
 have zA:w.1.size<w1.1.size:=Za;have zB:w.1.size+1<w1.1.size:=Za;have zA2:w.1.size<w1.1.size+1:=Za;have zA3:w.1.size<w1.1.size+1+1:=Za;have zB2:w.1.size+1<w1.1.size+1:=Za;have zB3:w.1.size+1<w1.1.size+1+1:=Za;have zC2:w.1.size+1+1<w1.1.size+1:=Za;have zC3:w.1.size+1+1<w1.1.size+1+1:=Za;obtain⟨X0,X1,X2,Y1,Y2⟩:=BE hb1;have b0:=X0 0;have b1:=X0 1;have b2:=X0 2;have b3:=X0 3;have b4:=X0 4;have p0:=X1 0;have p1:=X1 1;have p2:=X1 2;have p3:=X1 3;have p4:=X1 4;have p5:=X1 5;have r0:=X2 0;have r1:=X2 1;have r2:=X2 2;have r3:=X2 3;have r4:=X2 4;have r5:=X2 5;have r6:=X2 6;have r7:=X2 7;have r8:=X2 8;simp only[Ah,Ad,Ab]at b0 b1 b2 b3 b4 p0 p1 p2 p3 p4 p5 r0 r1 r2 r3 r4 r5 r6 r7 r8;have HB:=Ai ((E3 _ _ _).trans (hb1.mono Zd));have Da:=Ai hst;clear X0 X1 X2 hb1 hst;have hw:IntKind.i64.wrap (B.now+1)=B.now+1:=BV _ ⟨Za,Za⟩;simp only[AE]at Da;rw[Gh.out]at p0;unfold vO;rw[HE.out];exact R8
theorem WT{P:Prop}(h:P:=by go_wp2_with fail;refine(Jo o.hn o.hs A C v.hold _ 0 _ Za (Dw Da.out Zh)).mono ?_;rintro e w2 ⟨rfl,rfl⟩;rw[HH.out];exact hU):P:=h
theorem pV (B:Bk)(v:Wr)(a1 a2 a3:OA)(c1 c2 c3:Nat)(o:Ob)(w:World)(hok:Hp B v)(hc:BH w 0 w.1.size a1 B.on B.os)(ho:Cv B.os v.kind v.name B.on=o)(hol:(o.hn:Int)<=5)(ht:Cw B.os v.kind v.name B.on=true)(hop:v.op=4)(hsv:v.seen=0\/(¬v.seen=0/\v.seen=o.ver))(he:o.ending=false)(hh:D2 o.hn o.hs v.hold=false)(h5:(5:Int)<=o.hn):Calls prog 75 #[.agg (vB B a1 a2 a3 c1 c2 c3),.agg (vW v)] w λe w'=>e=.returned (.tuple #[.agg #[.i 0,.bool false,.s ⟨#[]⟩,.s ⟨#[]⟩,.i 0,.i 0,.s ⟨#[]⟩,.bool false,.l none 0 0],.i 7])/\Below w.1.size w w':=by
 have B3:∀o1 o2 o3,Below w.1.size w (((w.alloc o1).alloc o2).alloc o3):=λo1 o2 o3=>(((Ak _ _).alloc Bj _).alloc Ze _).alloc Zd _;have E3:=Ai B3;have GN:=Ai hok;have HC:=Ai hc;have HO:=Ai ho;have hn0:=hok.now0;have hn1:=hok.now1;have hon:(B.on:Int)<=100:=by have:=hok.on;omega
 have WZ:=Ai hon;clear hok hc ho B3;have HT:=Ai ht;have Gh:=Ai hop;clear ht hop;have HE:=Ai he;clear he;have Up:=Ai hsv;clear hsv;have HH:=Ai hh;clear hh;go_enter func75,ntmps75;go_wp2_with fail;refine(BQ B.now B.floor B.on B.os a1 a2 a3 c1 B.hn c2 B.tn c3 v.kind v.name _ 0 w.1.size Zd Yv GN.fit.os (HC.below (E3 _ _ _) Bj)).mono ?_;rintro e w1 ⟨A,C,rfl,hcap,hst,hb1⟩;rw[HO.out]at hcap hst;rw[HO.out,HT.out];have z1:w.1.size+1+1<w1.1.size:=by have:=hb1.size;simp at this;omega
 have zA:w.1.size<w1.1.size:=Za;have zB:w.1.size+1<w1.1.size:=Za;have zA2:w.1.size<w1.1.size+1:=Za;have zA3:w.1.size<w1.1.size+1+1:=Za;have zB2:w.1.size+1<w1.1.size+1:=Za;have zB3:w.1.size+1<w1.1.size+1+1:=Za;have zC2:w.1.size+1+1<w1.1.size+1:=Za;have zC3:w.1.size+1+1<w1.1.size+1+1:=Za;obtain⟨X0,X1,X2,Y1,Y2⟩:=BE hb1;have b0:=X0 0;have b1:=X0 1;have b2:=X0 2;have b3:=X0 3;have b4:=X0 4;have p0:=X1 0;have p1:=X1 1;have p2:=X1 2;have p3:=X1 3;have p4:=X1 4;have p5:=X1 5;have r0:=X2 0;have r1:=X2 1;have r2:=X2 2;have r3:=X2 3;have r4:=X2 4;have r5:=X2 5;have r6:=X2 6;have r7:=X2 7;have r8:=X2 8;simp only[Ah,Ad,Ab]at b0 b1 b2 b3 b4 p0 p1 p2 p3 p4 p5 r0 r1 r2 r3 r4 r5 r6 r7 r8;have HB:=Ai ((E3 _ _ _).trans (hb1.mono Zd));have Da:=Ai hst;clear X0 X1 X2 hb1 hst;have hw:IntKind.i64.wrap (B.now+1)=B.now+1:=BV _ ⟨Za,Za⟩;simp only[AE]at Da;rw[Gh.out]at p0;unfold vO;rw[HE.out];rcases Up.out with hs|⟨hs0,hs⟩;.rw[hs]at p3;clear hs;exact WT
 .rw[hs]at p3;have hsb:(o.ver !=0)=true:=by rw[<-hs];simpa using hs0
  clear hs hs0;exact WT
theorem qF (B:Bk)(v:Wr)(a1 a2 a3:OA)(c1 c2 c3:Nat)(o:Ob)(w:World)(hok:Hp B v)(hc:BH w 0 w.1.size a1 B.on B.os)(ho:Cv B.os v.kind v.name B.on=o)(hol:(o.hn:Int)<=5)(ht:Cw B.os v.kind v.name B.on=true)(hop:v.op=5)(hsv:v.seen=0\/(¬v.seen=0/\v.seen=o.ver))(hh:D2 o.hn o.hs v.hold=false):Calls prog 75 #[.agg (vB B a1 a2 a3 c1 c2 c3),.agg (vW v)] w λe w'=>e=.returned (.tuple #[.agg #[.i 0,.bool false,.s ⟨#[]⟩,.s ⟨#[]⟩,.i 0,.i 0,.s ⟨#[]⟩,.bool false,.l none 0 0],.i 6])/\Below w.1.size w w':=by
 have B3:∀o1 o2 o3,Below w.1.size w (((w.alloc o1).alloc o2).alloc o3):=λo1 o2 o3=>(((Ak _ _).alloc Bj _).alloc Ze _).alloc Zd _;have E3:=Ai B3;have GN:=Ai hok;have HC:=Ai hc;have HO:=Ai ho;have hn0:=hok.now0;have hn1:=hok.now1;have hon:(B.on:Int)<=100:=by have:=hok.on;omega
 have WZ:=Ai hon;clear hok hc ho B3;have HT:=Ai ht;have Gh:=Ai hop;clear ht hop;have Up:=Ai hsv;clear hsv;have HH:=Ai hh;clear hh;go_enter func75,ntmps75;go_wp2_with fail;refine(BQ B.now B.floor B.on B.os a1 a2 a3 c1 B.hn c2 B.tn c3 v.kind v.name _ 0 w.1.size Zd Yv GN.fit.os (HC.below (E3 _ _ _) Bj)).mono ?_;rintro e w1 ⟨A,C,rfl,hcap,hst,hb1⟩;rw[HO.out]at hcap hst;rw[HO.out,HT.out];have z1:w.1.size+1+1<w1.1.size:=by have:=hb1.size;simp at this;omega
 have zA:w.1.size<w1.1.size:=Za;have zB:w.1.size+1<w1.1.size:=Za;have zA2:w.1.size<w1.1.size+1:=Za;have zA3:w.1.size<w1.1.size+1+1:=Za;have zB2:w.1.size+1<w1.1.size+1:=Za;have zB3:w.1.size+1<w1.1.size+1+1:=Za;have zC2:w.1.size+1+1<w1.1.size+1:=Za;have zC3:w.1.size+1+1<w1.1.size+1+1:=Za;obtain⟨X0,X1,X2,Y1,Y2⟩:=BE hb1;have b0:=X0 0;have b1:=X0 1;have b2:=X0 2;have b3:=X0 3;have b4:=X0 4;have p0:=X1 0;have p1:=X1 1;have p2:=X1 2;have p3:=X1 3;have p4:=X1 4;have p5:=X1 5;have r0:=X2 0;have r1:=X2 1;have r2:=X2 2;have r3:=X2 3;have r4:=X2 4;have r5:=X2 5;have r6:=X2 6;have r7:=X2 7;have r8:=X2 8;simp only[Ah,Ad,Ab]at b0 b1 b2 b3 b4 p0 p1 p2 p3 p4 p5 r0 r1 r2 r3 r4 r5 r6 r7 r8;have HB:=Ai ((E3 _ _ _).trans (hb1.mono Zd));have Da:=Ai hst;clear X0 X1 X2 hb1 hst;have hw:IntKind.i64.wrap (B.now+1)=B.now+1:=BV _ ⟨Za,Za⟩;simp only[AE]at Da;rw[Gh.out]at p0;unfold vO;cases hE:o.ending;.clear hE;exact R8
 .clear hE;exact R8
end Go.Proofs.YtllmmkchokkaaaaGreatDoor
