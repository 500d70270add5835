import Derived.Test.YtllmmkchokkaaaaGreatDoorPk37
import Derived.Test.YtllmmkchokkaaaaGreatDoorPk38
import Derived.Test.YtllmmkchokkaaaaGreatDoorPk14
set_option maxRecDepth 100000
set_option maxHeartbeats 4000000
namespace Go.Proofs.YtllmmkchokkaaaaGreatDoor
open Go.RowKit Go.Maps Go.Proofs.Tryz
theorem L3.low{w w':World}{B:Nat}(h:L3 w)(hb:Below B w w')(hB:2<B):L3 w':=by unfold L3 Lib.TabIs World.var? at*;rw[show prog.globalNamed OS=some 2 by kernel_rfl]at h⊢;simp only[Option.bind_some]at h⊢;rw[hb.block 2 hB];exact h
theorem L3.lt{w:World}(h:L3 w):2<w.1.size:=by
 rcases As 2 w.1.size with q|q;.exact q
 .unfold L3 Lib.TabIs World.var? at h;rw[show prog.globalNamed OS=some 2 by kernel_rfl]at h;simp only[Option.bind_some]at h;rw[Cs q]at h;cases h
theorem AP.belowAll{W X:World}(h:AP (λ_=>False) W X):Below W.1.size W X:=h.below (λ_ _ e=>e) Bj
def lB (T C:Nat)(k:Ti)(c:Ca)(u1 u2:OA)(d1 d2:Nat)(nb:Bool)(_W:World)(i:Nat)(v:Value)(_X:World):Prop:=match i with
 |0=>v=.p C 2
 |1=>v=.agg (vU c.bu u1 u2 d1 d2)
 |2=>v=.s (He c.bu)
 |3=>v=.p T 2
 |4=>v=.s k.print
 |5=>v=.bool nb
 |_=>True
def lG (_T _C:Nat)(_k:Ti)(_c:Ca)(_u1 _u2:OA)(_d1 _d2:Nat)(_nb:Bool)(_W:World)(i _q:Nat):Prop:=match i with
 |_=>False
theorem Lw{P:Prop}(h:P:=by have h:=hK _ X rfl hEX (AP.refl _ _);refine Am rfl rfl ?_;clear hK hg;go_simp;simpa[AF]using h):P:=h
theorem bF{P:Prop}(h:P:=by have zC:=Aa hC hb.size;have h:=hK _ X rfl hEX (AP.refl _ _);refine Am rfl rfl ?_;clear hK hg;go_simp;simpa[AF,e0]using h):P:=h
theorem gZ{p0 p1 p4 p5 p6 p7 p8 p9 Eb EN EL EJ Ff Fe Fd:Value}{mk:(Nat->Value)->Array Value}(t0:Nat->Value)(T C:Nat)(k:Ti)(c:Ca)(u1 u2:OA)(d1 d2:Nat)(nb:Bool)(W:World)(hC:C<W.1.size)(_cC0:W.cell? ⟨C,0,none⟩=some (.s c.client))(_cC1:W.cell? ⟨C,1,none⟩=some (.i c.num))(cC2:W.cell? ⟨C,2,none⟩=some (.slice u1 c.bu.wn d1))(cC3:W.cell? ⟨C,3,none⟩=some (.slice u2 c.bu.rn d2))(hT:T<W.1.size)(cT2:W.cell? ⟨T,2,none⟩=some (.s k.print))(lo hi:Nat)(hhi:hi<=W.1.size)(hu:Ek c.bu)(hp:Jg c.bu)(ht:L3 W)(hin:CG W lo hi c.bu u1 u2)(hnb:(!((He c.bu).toList==k.print.toList))=nb)(hmk:mk=λt=>#[p0,p1,.p T 0,.p C 0,p4,p5,p6,p7,p8,p9,Eb,t 0,t 1,t 2,t 3,t 4,t 5,EN,EL,EJ,Ff,Fe,Fd])(Q:Exit->Act->World->Prop)(hQ:∀(t:Nat->Value) X,AP (λ_q=>False) W X->((t 5)=.bool nb)->Q .normal ⟨mk t,[]⟩ X):Code.wp prog (rg Tryz.f120 3) Q ⟨mk t0,[]⟩ W:=by
 refine GM Zc 6 mk t0 (λX=>True) (lB T C k c u1 u2 d1 d2 nb W) (lG T C k c u1 u2 d1 d2 nb W) (λq=>False) Zc Zc rfl trivial ?_ ?_ ?_ ?_;all_goals subst hmk
 .exact λi q h=>h
 .intro i j v X Y hi7 hj7 hij hEX h hf;rcases(show j=0\/j=1\/j=2\/j=3\/j=4\/j=5 by omega)with rfl|rfl|rfl|rfl|rfl|rfl;.exact h
  .exact h
  .exact h
  .exact h
  .exact h
  .exact h
 .intro i hi7 t X K hb hEX hg hK;rcases(show i=0\/i=1\/i=2\/i=3\/i=4\/i=5 by omega)with rfl|rfl|rfl|rfl|rfl|rfl;.exact Lw
  .have e0:t 0=_:=hg 0 (AX rfl);have l2:=(hb.cell (p:=⟨C,2,none⟩) hC (λe=>e)).trans cC2;have l3:=(hb.cell (p:=⟨C,3,none⟩) hC (λe=>e)).trans cC3;exact bF
  .have e1:t 1=_:=hg 1 (AX rfl);refine Am rfl rfl ?_;have HK:=Ai hK;clear hK hg;go_simp;go_at_call 173;refine(K6 c.bu u1 u2 d1 d2 X lo hi (AA hhi hb.size) hu hp (ht.below (hb.below (λ_ _ e=>e) Bj)) (hin.below (hb.below (λ_ _ e=>e) Bj) hhi)).mono ?_;rintro r Y ⟨rfl,hbY⟩;have h:=HK _ Y rfl (trivial) (Aq hbY);simpa[AF,e1]using h
  .exact Lw
  .have e3:t 3=_:=hg 3 (AX rfl);have l2:=(hb.cell (p:=⟨T,2,none⟩) hT (λe=>e)).trans cT2;have zT:=Aa hT hb.size;have h:=hK _ X rfl hEX (AP.refl _ _);refine Am rfl rfl ?_;clear hK hg;go_simp;simpa[AF,e3]using h
  .have e2:t 2=_:=hg 2 (AX rfl);have e4:t 4=_:=hg 4 (AX rfl);have h:=hK _ X rfl hEX (AP.refl _ _);refine Am rfl rfl ?_;clear hK hg;go_simp;simpa[AF,e2,e4]using h
 .intro t X hb hEX hg;exact hQ t X hb (hg 5 Za)
def lO (C D A:Nat)(c:Ca)(s:Sa)(u1 u2:OA)(d1 d2:Nat)(_W:World)(i:Nat)(v:Value)(X:World):Prop:=match i with
 |0=>v=.p C 0
 |1=>v=.s c.client
 |2=>v=.p C 1
 |3=>v=.i c.num
 |4=>v=.p C 2
 |5=>v=.agg (vU c.bu u1 u2 d1 d2)
 |6=>v=.s (He c.bu)
 |7=>v=.p D 0
 |8=>v=.i s.code
 |9=>v=.p D 1
 |10=>v=.i s.ver
 |11=>v=.agg #[.s c.client,.i c.num,.s (He c.bu),.i s.code,.i s.ver]
 |12=>AH X A 5 (Bg [.s c.client,.i c.num,.s (He c.bu),.i s.code,.i s.ver])
 |_=>True
def WN (_C _D A:Nat)(_c:Ca)(_s:Sa)(_u1 _u2:OA)(_d1 _d2:Nat)(_W:World)(i q:Nat):Prop:=match i with
 |12=>q=A
 |_=>False
theorem rH{p0 p1:Value}{mk:(Nat->Value)->Array Value}(t0:Nat->Value)(C D A:Nat)(c:Ca)(s:Sa)(u1 u2:OA)(d1 d2:Nat)(W:World)(hC:C<W.1.size)(cC0:W.cell? ⟨C,0,none⟩=some (.s c.client))(cC1:W.cell? ⟨C,1,none⟩=some (.i c.num))(cC2:W.cell? ⟨C,2,none⟩=some (.slice u1 c.bu.wn d1))(cC3:W.cell? ⟨C,3,none⟩=some (.slice u2 c.bu.rn d2))(hD:D<W.1.size)(cD0:W.cell? ⟨D,0,none⟩=some (.i s.code))(cD1:W.cell? ⟨D,1,none⟩=some (.i s.ver))(hA:∃q,AH W A 5 q)(hAC:C<A)(hAD:D<A)(lo hi:Nat)(hhi:hi<=W.1.size)(hu:Ek c.bu)(hp:Jg c.bu)(ht:L3 W)(hin:CG W lo hi c.bu u1 u2)(hiA:hi<=A)(hA2:2<A)(hmk:mk=λt=>#[p0,p1,.p C 0,.p D 0,.p A 0,t 0,t 1,t 2,t 3,t 4,t 5,t 6,t 7,t 8,t 9,t 10,t 11])(Q:Exit->Act->World->Prop)(hQ:∀(t:Nat->Value) X,AP (λq=>q=A) W X->(AH X A 5 (Bg [.s c.client,.i c.num,.s (He c.bu),.i s.code,.i s.ver]))->Q .normal ⟨mk t,[]⟩ X):Code.wp prog (rg Tryz.f123 1) Q ⟨mk t0,[]⟩ W:=by
 refine GM Zc 13 mk t0 (λX=>∃q,AH X A 5 q) (lO C D A c s u1 u2 d1 d2 W) (WN C D A c s u1 u2 d1 d2 W) (λq=>q=A) Zc Zc rfl (by obtain⟨q,r⟩:=hA;exact⟨q,r.below (Bb (Ak W.1.size W)) r.lt⟩) ?_ ?_ ?_ ?_;all_goals subst hmk
 .intro i q h;unfold WN at h;split at h<;>first|exact h.elim|simp[h]
 .intro i j v X Y hi7 hj7 hij hEX h hf;rcases(show j=0\/j=1\/j=2\/j=3\/j=4\/j=5\/j=6\/j=7\/j=8\/j=9\/j=10\/j=11\/j=12 by omega)with rfl|rfl|rfl|rfl|rfl|rfl|rfl|rfl|rfl|rfl|rfl|rfl|rfl;.exact h
  .exact h
  .exact h
  .exact h
  .exact h
  .exact h
  .exact h
  .exact h
  .exact h
  .exact h
  .exact h
  .exact h
  .rcases(show i=0\/i=1\/i=2\/i=3\/i=4\/i=5\/i=6\/i=7\/i=8\/i=9\/i=10\/i=11\/i=12 by omega)with rfl|rfl|rfl|rfl|rfl|rfl|rfl|rfl|rfl|rfl|rfl|rfl|rfl<;>first|exact absurd rfl hij|exact h.fr hf (λe=>False.elim e)|exact h.fr hf (λe=>by have e':_=_:=e;omega)
 .intro i hi7 t X K hb hEX hg hK;rcases(show i=0\/i=1\/i=2\/i=3\/i=4\/i=5\/i=6\/i=7\/i=8\/i=9\/i=10\/i=11\/i=12 by omega)with rfl|rfl|rfl|rfl|rfl|rfl|rfl|rfl|rfl|rfl|rfl|rfl|rfl;.exact Lw
  .have e0:t 0=_:=hg 0 (AX rfl);have l0:=(hb.cell (p:=⟨C,0,none⟩) hC (λe=>by have e':C=A:=e;omega)).trans cC0;exact bF
  .exact Lw
  .have e2:t 2=_:=hg 2 (AX rfl);have l1:=(hb.cell (p:=⟨C,1,none⟩) hC (λe=>by have e':C=A:=e;omega)).trans cC1;have zC:=Aa hC hb.size;have h:=hK _ X rfl hEX (AP.refl _ _);refine Am rfl rfl ?_;clear hK hg;go_simp;simpa[AF,e2]using h
  .exact Lw
  .have e4:t 4=_:=hg 4 (AX rfl);have l2:=(hb.cell (p:=⟨C,2,none⟩) hC (λe=>by have e':C=A:=e;omega)).trans cC2;have l3:=(hb.cell (p:=⟨C,3,none⟩) hC (λe=>by have e':C=A:=e;omega)).trans cC3;have zC:=Aa hC hb.size;have h:=hK _ X rfl hEX (AP.refl _ _);refine Am rfl rfl ?_;clear hK hg;go_simp;simpa[AF,e4]using h
  .have e5:t 5=_:=hg 5 (AX rfl);refine Am rfl rfl ?_;have HK:=Ai hK;clear hK hg;go_simp;go_at_call 173;refine(K6 c.bu u1 u2 d1 d2 X lo hi (AA hhi hb.size) hu hp (ht.low (hb.below (B:=A) (λq hq e=>by have e':q=A:=e;omega) (by obtain⟨q,r⟩:=hA;exact Br r.lt)) hA2) (hin.below (hb.below (B:=hi) (λq hq e=>by have e':q=A:=e;omega) hhi) Bj)).mono ?_;rintro r Y ⟨rfl,hbY⟩;have h:=HK _ Y rfl (by obtain⟨q,r⟩:=hEX;exact⟨q,r.below hbY r.lt⟩) (Aq hbY);simpa[AF,e5]using h
  .exact Lw
  .have e7:t 7=_:=hg 7 (AX rfl);have l0:=(hb.cell (p:=⟨D,0,none⟩) hD (λe=>by have e':D=A:=e;omega)).trans cD0;have zD:=Aa hD hb.size;have h:=hK _ X rfl hEX (AP.refl _ _);refine Am rfl rfl ?_;clear hK hg;go_simp;simpa[AF,e7]using h
  .exact Lw
  .have e9:t 9=_:=hg 9 (AX rfl);have l1:=(hb.cell (p:=⟨D,1,none⟩) hD (λe=>by have e':D=A:=e;omega)).trans cD1;have zD:=Aa hD hb.size;have h:=hK _ X rfl hEX (AP.refl _ _);refine Am rfl rfl ?_;clear hK hg;go_simp;simpa[AF,e9]using h
  .have e1:t 1=_:=hg 1 (AX rfl);have e3:t 3=_:=hg 3 (AX rfl);have e6:t 6=_:=hg 6 (AX rfl);have e8:t 8=_:=hg 8 (AX rfl);have e10:t 10=_:=hg 10 (AX rfl);have h:=hK _ X rfl hEX (AP.refl _ _);refine Am rfl rfl ?_;clear hK hg;go_simp;simpa[AF,e1,e3,e6,e8,e10]using h
  .have e11:t 11=_:=hg 11 (AX rfl);obtain⟨q,r⟩:=hEX;have k0:=r.cell 0 Za;have k1:=r.cell 1 Za;have k2:=r.cell 2 Za;have k3:=r.cell 3 Za;have k4:=r.cell 4 Za;have kf:=r.free;have kz:=r.lt;have h:=hK undef (((((X.setCell ⟨A,0,none⟩ (.s c.client)).setCell ⟨A,1,none⟩ (.i c.num)).setCell ⟨A,2,none⟩ (.s (He c.bu))).setCell ⟨A,3,none⟩ (.i s.code)).setCell ⟨A,4,none⟩ (.i s.ver)) (MI r) ⟨_,MI r⟩ (Nz _ _ _ _ _);refine Am rfl rfl ?_;clear hK hg;go_simp;simpa[AF,e11]using h
 .intro t X hb hEX hg;exact hQ t X hb (hg 12 Za)
def ED (k:Ti)(c:Ca):Sa:=if c.num<k.num then⟨8,0,false⟩else if He c.bu=k.print then⟨k.code,k.ver,true⟩else⟨7,0,false⟩
theorem UA{Q:Ending->World->Prop}{tmps:Array Value}{W:World}{B:Nat}{u0 u1 u2:Value}(hs:AH W B 3 (Bg [u0,u1,u2]))(h4:tmps[4]?.getD undef=.p B 0)(hQ:Q (.returned (.agg #[u0,u1,u2])) W):bodyPost prog Tryz.f120 Q .ret ⟨tmps,[]⟩ W:=by obtain⟨e0,e1,e2⟩:=ZU hs;exact bodyPost_ret (v:=.agg #[u0,u1,u2]) (by simp only[results,results120];simp[go_sem,h4,e0,e1,e2]) rfl hQ
theorem qH{Q:Ending->World->Prop}{tmps:Array Value}{W:World}{B:Nat}{v0 v1 v2 v3 v4:Value}(hs:AH W B 5 (Bg [v0,v1,v2,v3,v4]))(h4:tmps[4]?.getD undef=.p B 0)(hQ:Q (.returned (.agg #[v0,v1,v2,v3,v4])) W):bodyPost prog Tryz.f123 Q .ret ⟨tmps,[]⟩ W:=by obtain⟨e0,e1,e2,e3,e4⟩:=YP hs;exact bodyPost_ret (v:=.agg #[v0,v1,v2,v3,v4]) (by simp only[results,results123];simp[go_sem,h4,e0,e1,e2,e3,e4]) rfl hQ
theorem P2 (k:Ti)(c:Ca)(u1 u2:OA)(d1 d2:Nat)(w:World)(lo hi:Nat)(hhi:hi<=w.1.size)(hu:Ek c.bu)(hp:Jg c.bu)(ht:L3 w)(hin:CG w lo hi c.bu u1 u2):Calls prog 120 #[.agg (vT k),.agg (vC c u1 u2 d1 d2)] w λe w'=>e=.returned (.agg (vS (ED k c)))/\Below w.1.size w w':=by
 have B3:Below w.1.size w (((w.alloc (.cells (vT k) 130)).alloc (.cells (vC c u1 u2 d1 d2) 70)).alloc (.cells #[.i 0,.i 0,.bool false] 66)):=(((Ak _ _).alloc Bj _).alloc Ze _).alloc Zd _;by_cases h1:c.num<k.num
 .have HS:=Ai (show ED k c=⟨8,0,false⟩by unfold ED;rw[if_pos h1]);rw[HS.out];have oY:Hid (AH (((w.alloc (.cells (vT k) 130)).alloc (.cells (vC c u1 u2 d1 d2) 70)).alloc (.cells #[.i 8,.i 0,.bool false] 66)) (w.1.size+1+1) 3 (Bg [.i 8,.i 0,.bool false])):=Ai (by have r:=AS (w:=((w.alloc (.cells (vT k) 130)).alloc (.cells (vC c u1 u2 d1 d2) 70))) (l:=[.i 8,.i 0,.bool false]) (t:=66) BF;simpa using r);clear B3;go_enter func120,ntmps120;go_wp2;exact UA oY rfl ⟨rfl,(((Ak _ _).alloc Bj _).alloc Ze _).alloc Zd _⟩
 .have hn:∀o,(o=0\/o=1\/o=2\/o=3\/o=4)->True:=λ_ _=>trivial;clear hn;have hc:∀j,(((w.alloc (.cells (vT k) 130)).alloc (.cells (vC c u1 u2 d1 d2) 70)).alloc (.cells #[.i 0,.i 0,.bool false] 66)).cell? ⟨w.1.size+1,j,none⟩=((vC c u1 u2 d1 d2):Array Value)[j]?:=λj=>by rw[Ar _ _ _ Ze];have:=At (w.alloc (.cells (vT k) 130)) (vC c u1 u2 d1 d2) 70 j;simp
  have hk:∀j,(((w.alloc (.cells (vT k) 130)).alloc (.cells (vC c u1 u2 d1 d2) 70)).alloc (.cells #[.i 0,.i 0,.bool false] 66)).cell? ⟨w.1.size,j,none⟩=((vT k):Array Value)[j]?:=λj=>by rw[Ar _ _ _ Zd,Ar _ _ _ Ze];exact At w (vT k) 130 j
  have hr:AH (((w.alloc (.cells (vT k) 130)).alloc (.cells (vC c u1 u2 d1 d2) 70)).alloc (.cells #[.i 0,.i 0,.bool false] 66)) (w.1.size+1+1) 3 (Bg [.i 0,.i 0,.bool false]):=by have r:=AS (w:=((w.alloc (.cells (vT k) 130)).alloc (.cells (vC c u1 u2 d1 d2) 70))) (l:=[.i 0,.i 0,.bool false]) (t:=66) BF;simpa using r
  have hz:w.1.size+1+1<(((w.alloc (.cells (vT k) 130)).alloc (.cells (vC c u1 u2 d1 d2) 70)).alloc (.cells #[.i 0,.i 0,.bool false] 66)).1.size:=Ze;have HT:=Ai (ht.below B3);have HI:=Ai (hin.below B3 hhi);have HH:hi<=(((w.alloc (.cells (vT k) 130)).alloc (.cells (vC c u1 u2 d1 d2) 70)).alloc (.cells #[.i 0,.i 0,.bool false] 66)).1.size:=AA hhi B3.size;obtain⟨nb,hnb⟩:∃nb,(!((He c.bu).toList==k.print.toList))=nb:=⟨_,rfl⟩;have HS:Hid (ED k c=if nb then⟨7,0,false⟩else⟨k.code,k.ver,true⟩):=Ai (by
   unfold ED;rw[if_neg h1,<-hnb];by_cases he:He c.bu=k.print;.rw[if_pos he,he];simp
   .rw[if_neg he,RN he];rfl);cases nb with
  |true=>rw[HS.out,if_pos rfl];go_enter func120,ntmps120;go_upto_region 1 with fail;generalize(((w.alloc (.cells (vT k) 130)).alloc (.cells (vC c u1 u2 d1 d2) 70)).alloc (.cells #[.i 0,.i 0,.bool false] 66))=W1 at B3 hc hk hr hz HT HI HH⊢;have c0:=hc 0;have c1:=hc 1;have c2:=hc 2;have c3:=hc 3;have k1:=hk 1;have k2:=hk 2;have k3:=hk 3;have k4:=hk 4;simp only[Ah,Ad,Ab]at c0 c1 c2 c3 k1 k2 k3 k4;have HR:=Ai hr;have HB:=Ai B3;clear hc hk hr B3;go_wp2;refine gZ (λ_=>undef) w.1.size (w.1.size+1) k c u1 u2 d1 d2 true W1 Za c0 c1 c2 c3 Za k2 lo hi HH hu hp HT HI hnb rfl _ ?_;intro t X hX ht5;rw[ht5];clear ht5;have HX:=Ai hX.belowAll;have zX:=hX.size;have Qx:=Ai (HR.below HX HR.lt);have k3':=(HX.cell (p:=⟨w.1.size,3,none⟩) Zg).trans k3;have k4':=(HX.cell (p:=⟨w.1.size,4,none⟩) Zg).trans k4;obtain⟨r0,r1,r2⟩:=ZU Qx;have rf:=Qx.free;have rz:=Qx.lt;clear c0 c1 c2 c3 k1 k2 k3 k4 hX;have hbw:=HB.size;go_wp2;have F3:=Rm (w:=X) (z:=w.1.size+1+1) (.i 7) (.i 0) (.bool false);have R3:=Oh (u0:=(.i 7)) (u1:=(.i 0)) (u2:=(.bool false)) Qx;exact UA R3 rfl ⟨rfl,(HB.trans (HX.mono hbw)).trans (F3.below (λq hq e=>by have e':q=w.1.size+1+1:=e;omega) Za)⟩
  |false=>rw[HS.out,if_neg Zb];go_enter func120,ntmps120;go_upto_region 1 with fail;generalize(((w.alloc (.cells (vT k) 130)).alloc (.cells (vC c u1 u2 d1 d2) 70)).alloc (.cells #[.i 0,.i 0,.bool false] 66))=W1 at B3 hc hk hr hz HT HI HH⊢;have c0:=hc 0;have c1:=hc 1;have c2:=hc 2;have c3:=hc 3;have k1:=hk 1;have k2:=hk 2;have k3:=hk 3;have k4:=hk 4;simp only[Ah,Ad,Ab]at c0 c1 c2 c3 k1 k2 k3 k4;have HR:=Ai hr;have HB:=Ai B3;clear hc hk hr B3;go_wp2;refine gZ (λ_=>undef) w.1.size (w.1.size+1) k c u1 u2 d1 d2 false W1 Za c0 c1 c2 c3 Za k2 lo hi HH hu hp HT HI hnb rfl _ ?_;intro t X hX ht5;rw[ht5];clear ht5;have HX:=Ai hX.belowAll;have zX:=hX.size;have Qx:=Ai (HR.below HX HR.lt);have k3':=(HX.cell (p:=⟨w.1.size,3,none⟩) Zg).trans k3;have k4':=(HX.cell (p:=⟨w.1.size,4,none⟩) Zg).trans k4;obtain⟨r0,r1,r2⟩:=ZU Qx;have rf:=Qx.free;have rz:=Qx.lt;clear c0 c1 c2 c3 k1 k2 k3 k4 hX;have hbw:=HB.size;go_wp2;have F3:=Rm (w:=X) (z:=w.1.size+1+1) (.i k.code) (.i k.ver) (.bool true);have R3:=Oh (u0:=(.i k.code)) (u1:=(.i k.ver)) (u2:=(.bool true)) Qx;exact UA R3 rfl ⟨rfl,(HB.trans (HX.mono hbw)).trans (F3.below (λq hq e=>by have e':q=w.1.size+1+1:=e;omega) Za)⟩
theorem R9 (s:Sa)(c:Ca)(u1 u2:OA)(d1 d2:Nat)(w:World)(lo hi:Nat)(hhi:hi<=w.1.size)(hu:Ek c.bu)(hp:Jg c.bu)(ht:L3 w)(hin:CG w lo hi c.bu u1 u2):Calls prog 123 #[.agg (vC c u1 u2 d1 d2),.agg (vS s)] w λe w'=>e=.returned (.agg #[.s c.client,.i c.num,.s (He c.bu),.i s.code,.i s.ver])/\Below w.1.size w w':=by
 have B3:Below w.1.size w (((w.alloc (.cells (vC c u1 u2 d1 d2) 70)).alloc (.cells (vS s) 66)).alloc (.cells #[.s ⟨#[]⟩,.i 0,.s ⟨#[]⟩,.i 0,.i 0] 130)):=(((Ak _ _).alloc Bj _).alloc Ze _).alloc Zd _;have hc:∀j,(((w.alloc (.cells (vC c u1 u2 d1 d2) 70)).alloc (.cells (vS s) 66)).alloc (.cells #[.s ⟨#[]⟩,.i 0,.s ⟨#[]⟩,.i 0,.i 0] 130)).cell? ⟨w.1.size,j,none⟩=((vC c u1 u2 d1 d2):Array Value)[j]?:=λj=>by rw[Ar _ _ _ Zd,Ar _ _ _ Ze];exact At w (vC c u1 u2 d1 d2) 70 j
 have hd:∀j,(((w.alloc (.cells (vC c u1 u2 d1 d2) 70)).alloc (.cells (vS s) 66)).alloc (.cells #[.s ⟨#[]⟩,.i 0,.s ⟨#[]⟩,.i 0,.i 0] 130)).cell? ⟨w.1.size+1,j,none⟩=((vS s):Array Value)[j]?:=λj=>by rw[Ar _ _ _ Ze];have:=At (w.alloc (.cells (vC c u1 u2 d1 d2) 70)) (vS s) 66 j;simp
 have hr:AH (((w.alloc (.cells (vC c u1 u2 d1 d2) 70)).alloc (.cells (vS s) 66)).alloc (.cells #[.s ⟨#[]⟩,.i 0,.s ⟨#[]⟩,.i 0,.i 0] 130)) (w.1.size+1+1) 5 (Bg [.s ⟨#[]⟩,.i 0,.s ⟨#[]⟩,.i 0,.i 0]):=by have r:=AS (w:=((w.alloc (.cells (vC c u1 u2 d1 d2) 70)).alloc (.cells (vS s) 66))) (l:=[.s ⟨#[]⟩,.i 0,.s ⟨#[]⟩,.i 0,.i 0]) (t:=130) BF;simpa using r
 have hz:w.1.size+1+1<(((w.alloc (.cells (vC c u1 u2 d1 d2) 70)).alloc (.cells (vS s) 66)).alloc (.cells #[.s ⟨#[]⟩,.i 0,.s ⟨#[]⟩,.i 0,.i 0] 130)).1.size:=Ze;have HT:=Ai (ht.below B3);have HI:=Ai (hin.below B3 hhi);have HH:hi<=(((w.alloc (.cells (vC c u1 u2 d1 d2) 70)).alloc (.cells (vS s) 66)).alloc (.cells #[.s ⟨#[]⟩,.i 0,.s ⟨#[]⟩,.i 0,.i 0] 130)).1.size:=AA hhi B3.size;go_enter func123,ntmps123;go_upto_region 1 with fail;generalize(((w.alloc (.cells (vC c u1 u2 d1 d2) 70)).alloc (.cells (vS s) 66)).alloc (.cells #[.s ⟨#[]⟩,.i 0,.s ⟨#[]⟩,.i 0,.i 0] 130))=W1 at B3 hc hd hr hz HT HI HH⊢;have c0:=hc 0;have c1:=hc 1;have c2:=hc 2;have c3:=hc 3;have k0:=hd 0;have k1:=hd 1;simp only[Ah,Ad,Ab]at c0 c1 c2 c3 k0 k1;have HR:=Ai hr;have HB:=Ai B3;clear hc hd hr B3;refine rH (λ_=>undef) w.1.size (w.1.size+1) (w.1.size+1+1) c s u1 u2 d1 d2 W1 Za c0 c1 c2 c3 Za k0 k1 ⟨_,HR⟩ Za Za lo hi HH hu hp HT HI Za (by have:=ht.lt;omega) rfl _ ?_;intro t X hX hrX;have hbw:=HB.size;have HX:=Ai (HB.trans (hX.below (λq hq e=>by have e':q=w.1.size+1+1:=e;omega) hbw));have wN:=Ai hrX;clear hX hrX c0 c1 c2 c3 k0 k1;go_wp2;exact qH wN rfl ⟨rfl,HX⟩
end Go.Proofs.YtllmmkchokkaaaaGreatDoor
