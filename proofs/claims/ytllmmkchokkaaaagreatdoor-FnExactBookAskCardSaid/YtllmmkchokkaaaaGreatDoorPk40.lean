import Derived.Test.YtllmmkchokkaaaaGreatDoorPk19
import Derived.Test.YtllmmkchokkaaaaGreatDoorPk37
import Derived.Test.YtllmmkchokkaaaaGreatDoorPk22
set_option maxRecDepth 100000
set_option maxHeartbeats 4000000
namespace Go.Proofs.YtllmmkchokkaaaaGreatDoor
open Go.RowKit Go.Maps Go.Proofs.Tryz
theorem Yc (n:Nat)(w:World)(hn:(n:Int)<=1099511627776):Calls prog 198 #[.l none 0 0,.i n] w λe w'=>∃v,e=.returned v/\w'.ownsRow w.1.size 130 5 v 0 []/\Below w.1.size w w':=by
 rcases AW n with h00|h0;.subst h00;go_enter func198,ntmps198;go_wp2;go_ret;exact⟨_,rfl,⟨rfl,AD ⟨rfl,rfl⟩⟩,Ak _ _⟩
 obtain⟨i0,hi0,hz0,hz1,hz2⟩:=info_parts DO;have hrz:∀ty,∃G cur,n<=G/\G<=maxLen/\cur.size=G*5/\(Builtin.append_ #[33,3] ty #[.l none 0 0,.i (n:Int)]).run prog w=.ok (.l (some ⟨w.1.size,0,none⟩) n G) (w.drew.alloc (.cells cur 130)):=λty=>by have h:=Lib.run_append_grow_zeros w 33 3 ty 130 i0 _ .i64 .i64 underlying33 underlying3 hi0 hz0 none 0 0 [] (run_firstCells_none w.drew i0.size 0 0 0) n h0 Za Za Za Sx (growslice_fits Za Sx);rw[Bc]at h;refine⟨_,_,grownCap_ge w _ _ _,grownCap_le_maxLen w n 0 130 Zn,?_,h⟩;have hG:=grownCap_ge w n 0 130;simp only[I8,Builtin.zeroCells,Array.size_map,Ox];simp[Value.cells];omega
 obtain⟨G,cur,hG1,hG2,hcur,hap⟩:=hrz 33;have h63:(G:Int)<=9223372036854775807:=by unfold maxLen at hG2;omega
 have HC:=Ai hcur;have HG:=Ai hG2;have oZ:=Ai hap;clear hap;clear hcur hG2 hrz hi0 hz0 hz1 hz2;go_enter func198,ntmps198;go_wp2_with (at_builtin;go_must(refine DD rfl _ _ 33 3 rfl _ _ _ rfl rfl oZ ?_));go_ret;exact⟨_,rfl,CE (base:=w.1.size) (e:=130) (size:=5) w.drew cur G Bj HG HC,((Ak _ _).drew).alloc Bj _⟩
theorem NR (q:Nat)(A:Nat->Option Addr)(M C:Nat->Nat)(news:Nat->List Value)(b:Nat)(w:World)(hb:b<w.1.size)(hq:(q:Int)<=1000)(hcell:∀j,j<q->w.cell? ⟨b,j,none⟩=some (.slice (A j) (M j) (C j)))(hsrc:lJ w 5 q A M C news)(hs1:(AN M q:Int)<=1099511627776):Calls prog 174 #[.l (some ⟨b,0,none⟩) q q] w λe w'=>∃v,e=.returned v/\w'.ownsRow w.1.size 130 5 v (AN M q) (DN news q)/\Below w.1.size w w':=by
 obtain⟨i0,hi0,hz0,hz1,hz2⟩:=info_parts DO;have HC:=Ai hcell;have HS:=Ai hsrc;have hmo:∀k,k<=q->AN M k<=AN M q:=λk hk=>DX M hk;have HM:=Ai hmo;clear hcell hsrc hmo;go_enter func174,ntmps174;go_wp2;go_loopw[3,5,11](λs _ i wr=>∃k:Nat,k<=q/\i=.i k/\s=.i (AN M k:Nat)/\wr=w)(λ_ _ i _=>q-(intOf i).toNat);case atStart=>exact⟨0,Ap _,rfl,rfl,rfl⟩
 case round=>
  obtain⟨k,hk,rfl,rfl,rfl⟩:=hrel;by_cases hkq:k<q
  .have c0:=HC k hkq;have hm:=HM (k+1) hkq;have hms:AN M (k+1)=AN M k+M k:=rfl;rw[hms]at hm;have hkz:(k:Int)<q:=Za;clear hms;go_wp2;go_roundw;case rel=>exact⟨k+1,hkq,by go_num,congrArg (Value.int .i64) (by show(_:Int)=((AN M k+M k:Nat):Int);omega),trivial⟩
   case measure=>simp[intOf];omega
  .obtain rfl:k=q:=Za;have hs2:¬(AN M k:Int)<0:=Za;go_wp2_with (go_at_call 198;go_must(refine(Yc (AN M k) _ hs1).mono ?_;rintro e w1 ⟨v1,rfl,hown1,hb1⟩));have Oz:=Ai hown1;clear hown1;obtain⟨W0,hW0⟩:∃W0,W0=wr:=⟨_,rfl⟩;subst hW0;go_loopw[6,8,27](λv _ i wr=>∃j:Nat,j<=k/\i=.i j/\Hid (wr.ownsRow W0.1.size 130 5 v (AN M j) (DN news j))/\Below W0.1.size W0 wr)(λ_ _ i _=>k-(intOf i).toNat);case atStart=>exact⟨0,Ap _,rfl,Oz,hb1⟩
   case round=>
    clear Oz hb1 hkq;obtain⟨j,hj,rfl,Gi,hbr⟩:=hrel;by_cases hjk:j<k
    .have c0:=(hbr.cell (p:=⟨b,j,none⟩) hb).trans (HC j hjk);have hm:=HM (j+1) hjk;have hms:AN M (j+1)=AN M j+M j:=rfl;rw[hms]at hm;have wE:=Ai hms;have hjz:(j:Int)<k:=Za;have hbw:b<wr.1.size:=Aa hb hbr.size;clear hms;rcases HS.src j hjk with⟨hA,hM0,hC0⟩|⟨sb,off,hA,hsb,hcs⟩
     .rw[hA,hM0,hC0]at c0;have hnil:news j=[]:=It.1 (by rw[HS.len j hjk,hM0,DF]);have HN:=Ai hnil;have W3:=Ai hM0;clear hA hM0 hC0 hnil;go_wp2_with (at_builtin;go_must(refine wpList_append_own_none rfl _ _ 33 rfl W0.1.size 130 i0 5 underlying33 hi0 _ (AN M j) (DN news j) rfl Gi rfl ?_));go_roundw;case rel=>exact⟨j+1,hjk,by go_num,(show Hid _ from by show wr.ownsRow W0.1.size 130 5 _ (AN M j+M j) (DN news j++news j);rw[HN.out,W3.out,FP];exact Gi),hbr⟩
      case measure=>simp[intOf];omega
     .rw[hA]at c0;have oR:=Ai (show∀t u,(news j)[t]?=some u->wr.cell? ((⟨sb,off,none⟩:Addr).add t)=some u from λt u h=>by rw[Addr.add_lit];exact(hbr.cell (p:=⟨sb,off+t,none⟩) hsb).trans (hcs t u h));clear hcs hA;go_wp2_with (at_builtin;go_must(refine wpList_append_own_at _ rfl _ _ 33 rfl W0.1.size 130 i0 _ 5 56 underlying33 hi0 hz0 hz1 hz2 rfl Zb _ (AN M j) (DN news j) rfl Gi ⟨sb,off,none⟩ (M j) (C j) (news j) rfl (HS.len j hjk) oR (HS.one j hjk) Zn Za hbr.size ?_;intro v' w2 hown2 hgrow2 hnil2 hat2;clear hnil2 hat2));have B2:Below W0.1.size W0 w2:=hbr.trans ((Cn hgrow2).below (λq hq e=>by have:=(Gi.lt q e).1;omega) hbr.size);have Um:Hid (w2.ownsRow W0.1.size 130 5 v' (AN M (j+1)) (DN news (j+1))):=hown2;clear hown2 hgrow2;go_wp2;go_roundw;case rel=>exact⟨j+1,hjk,by go_num,Um,B2⟩
      case measure=>simp[intOf];omega
    .obtain rfl:j=k:=Za;go_wp2;go_ret;exact⟨_,rfl,Gi,hbr⟩
def gL (ad:OA)(b off n cap k:Nat)(cs:List Value)(x:Ti)(W:World)(i:Nat)(v:Value)(X:World):Prop:=match i with
 |0=>v=.l ad n cap
 |1=>v=.i k
 |2=>v=.l ad k cap
 |3=>v=.agg (vT x)
 |4=>∃b1,v=.l (some ⟨b1,0,none⟩) 1 1/\b1<X.1.size/\CH X b1 (vT x)
 |5=>v=.l ad n cap
 |6=>v=.i k
 |7=>v=.l (Is ad b off cap k 5) (n-k) (cap-k)
 |8=>∃b3 b1,v=.l (some ⟨b3,0,none⟩) 3 3/\b3<X.1.size/\b1<X.1.size/\CH X b1 (vT x)/\CH X b3 #[.l ad k cap,.l (some ⟨b1,0,none⟩) 1 1,.l (Is ad b off cap k 5) (n-k) (cap-k)]
 |9=>X.ownsRow W.1.size 130 5 v (n+1) (cs.take (k*5)++(nV x)++cs.drop (k*5))
 |_=>True
theorem kR{p3 p4 p6:Value}{mk:(Nat->Value)->Array Value}(t0:Nat->Value)(ad:OA)(b off n cap k:Nat)(cs:List Value)(x:Ti)(W:World)(hst:DT W 5 ad b off n cap cs)(hk:k<=n)(hl:(n:Int)<=1099511627775)(bx:Nat)(hbx:CH W bx (vT x))(hb0:bx<W.1.size)(hmk:mk=λt=>#[.l ad n cap,.i k,.agg (vT x),p3,p4,.p bx 0,p6,t 0,t 1,t 2,t 3,t 4,t 5,t 6,t 7,t 8,t 9])(Q:Exit->Act->World->Prop)(hQ:∀(t:Nat->Value)(vv:Value) X,Below W.1.size W X->X.ownsRow W.1.size 130 5 vv (n+1) (cs.take (k*5)++(nV x)++cs.drop (k*5))->Q .normal ⟨#[.l ad n cap,.i k,.agg (vT x),p3,p4,.p bx 0,vv,t 0,t 1,t 2,t 3,t 4,t 5,t 6,t 7,t 8,t 9],[]⟩ X):Code.wp prog (rg Tryz.f122 1) Q ⟨mk t0,[]⟩ W:=by
 refine Et Zc 10 mk t0 (gL ad b off n cap k cs x W) (λa X=>∃(t:Nat->Value)(vv:Value),a=⟨#[.l ad n cap,.i k,.agg (vT x),p3,p4,.p bx 0,vv,t 0,t 1,t 2,t 3,t 4,t 5,t 6,t 7,t 8,t 9],[]⟩/\Below W.1.size W X/\X.ownsRow W.1.size 130 5 vv (n+1) (cs.take (k*5)++(nV x)++cs.drop (k*5))) Zc Zc Zc ?_ rfl ?_ ?_ ?_;all_goals subst hmk
 .intro i v X Y hi h hb;rcases(show i=0\/i=1\/i=2\/i=3\/i=4\/i=5\/i=6\/i=7\/i=8\/i=9 by omega)with rfl|rfl|rfl|rfl|rfl|rfl|rfl|rfl|rfl|rfl;.exact h
  .exact h
  .exact h
  .exact h
  .obtain⟨b1,e1,e2,e3⟩:=h;exact⟨b1,e1,Aa e2 hb.size,e3.below hb e2⟩
  .exact h
  .exact h
  .exact h
  .obtain⟨b3,b1,e1,e2,e3,e4,e5⟩:=h;exact⟨b3,b1,e1,Aa e2 hb.size,Aa e3 hb.size,e4.below hb e3,e5.below hb e2⟩
  .exact DA h hb
 .intro i hi t X K hb hg hK;rcases(show i=0\/i=1\/i=2\/i=3\/i=4\/i=5\/i=6\/i=7\/i=8\/i=9 by omega)with rfl|rfl|rfl|rfl|rfl|rfl|rfl|rfl|rfl|rfl;.exact sg
  .exact sg
  .have e0:t 0=_:=hg 0 (AX rfl);have e1:t 1=_:=hg 1 (AX rfl);have h:=hK _ X rfl BF;refine Am rfl rfl ?_;clear hK hg;rcases hst.src with⟨rfl,rfl,rfl⟩|⟨rfl,hc,_,_⟩;.obtain rfl:k=0:=Za;go_simp;simpa[AF,e0,e1]using h
   .have hkc:k<=cap:=AA hk hc;go_simp;simpa[AF,e0,e1]using h
  .have HB:=hbx.below hb hb0;have q0:=HB 0;have q1:=HB 1;have q2:=HB 2;have q3:=HB 3;have q4:=HB 4;simp only[Ah,Ad,Ab]at q0 q1 q2 q3 q4;have hbX:bx<X.1.size:=Aa hb0 hb.size;have h:=hK _ X rfl BF;refine Am rfl rfl ?_;clear hK hg HB;go_simp;exact h
  .have e3:t 3=_:=hg 3 (AX rfl);have h:=hK (.l (some ⟨X.1.size,0,none⟩) 1 1) (X.alloc (.cells (vT x) 130)) ⟨X.1.size,rfl,Ze,Dk X _ 130⟩ FU;refine Am rfl rfl ?_;clear hK hg;go_simp;simpa[AF,e3]using h
  .exact sg
  .exact sg
  .have e5:t 5=_:=hg 5 (AX rfl);have e6:t 6=_:=hg 6 (AX rfl);have h:=hK _ X rfl BF;refine Am rfl rfl ?_;clear hK hg;unfold Is at h;rcases hst.src with⟨rfl,rfl,rfl⟩|⟨rfl,hc,_,_⟩;.obtain rfl:k=0:=Za;go_simp;simpa[AF,e5,e6]using h
   .by_cases hck:cap=k;.subst hck;rw[if_pos rfl,show n-cap=0 by omega,G2]at h;go_simp;simpa[AF,e5,e6]using h
    .rw[if_neg hck]at h;go_simp;simpa[AF,e5,e6]using h
  .have e2:t 2=_:=hg 2 (AX rfl);obtain⟨b1,e4,z1,h1⟩:∃b1,t 4=.l (some ⟨b1,0,none⟩) 1 1/\b1<X.1.size/\CH X b1 (vT x):=hg 4 (AX rfl);have e7:t 7=_:=hg 7 (AX rfl);have hB:=Ae X (.cells #[.l ad k cap,.l (some ⟨b1,0,none⟩) 1 1,.l (Is ad b off cap k 5) (n-k) (cap-k)] 33);have h:=hK (.l (some ⟨X.1.size,0,none⟩) 3 3) _ ⟨X.1.size,b1,rfl,Ze,Aa z1 hB.size,h1.below hB z1,Dk X _ 33⟩ hB;refine Am rfl rfl ?_;clear hK hg;go_simp;simpa[AF,e2,e4,e7]using h
  .obtain⟨b3,b1,e8,z3,z1,h1,h3⟩:∃b3 b1,t 8=.l (some ⟨b3,0,none⟩) 3 3/\b3<X.1.size/\b1<X.1.size/\CH X b1 (vT x)/\CH X b3 #[.l ad k cap,.l (some ⟨b1,0,none⟩) 1 1,.l (Is ad b off cap k 5) (n-k) (cap-k)]:=hg 8 (AX rfl);refine Am rfl rfl ?_;have HK:=Ai hK;have Da:=Ai (hst.grow ((hb)));have H1:=Ai h1;have H3:=Ai h3;clear hK hg h1 h3;go_simp;go_at_call 174;refine(NR 3 (λj=>match j with|0=>ad|1=>some ⟨b1,0,none⟩|_=>Is ad b off cap k 5) (λj=>match j with|0=>k|1=>1|_=>n-k) (λj=>match j with|0=>cap|1=>1|_=>cap-k) (λj=>match j with|0=>cs.take (k*5)|1=>(nV x)|_=>cs.drop (k*5)) b3 X z3 Za (λj hj=>?_) ⟨λj hj=>?_,λj hj=>?_,λj hj=>?_⟩ uK).mono ?_
   .rcases(show j=0\/j=1\/j=2 by omega)with rfl|rfl|rfl;.exact H3 0
    .exact H3 1
    .exact H3 2
   .rcases(show j=0\/j=1\/j=2 by omega)with rfl|rfl|rfl;.exact(Da.take hk).1
    .rfl
    .exact(Da.drop hk).1
   .rcases(show j=0\/j=1\/j=2 by omega)with rfl|rfl|rfl;.exact(Da.take hk).2.1
    .intro u hu;simp at hu;rcases hu with rfl|rfl|rfl|rfl|rfl<;>rfl
    .exact(Da.drop hk).2.1
   .rcases(show j=0\/j=1\/j=2 by omega)with rfl|rfl|rfl;.exact(Da.take hk).2.2
    .refine Ax ⟨b1,0,rfl,z1,λt u hu=>?_⟩;rw[Bc,H1.out t,<-hu];simp
    .exact(Da.drop hk).2.2
   .rintro r Y ⟨v,rfl,hown,hbY⟩;have hs:k+1+(n-k)=n+1:=Za;rw[fN,VV]at hown;have hown2:Y.ownsRow X.1.size 130 5 v (n+1) (cs.take (k*5)++(nV x)++cs.drop (k*5)):=by rw[<-hs];exact hown
    have h:=HK v Y (CD hown2 hb.size) hbY;simpa[AF,e8,e8]using h
 .intro t X K hb hg hK;have h:=hK ⟨#[.l ad n cap,.i k,.agg (vT x),p3,p4,.p bx 0,t 9,t 0,t 1,t 2,t 3,t 4,t 5,t 6,t 7,t 8,t 9],[]⟩ X ⟨t,t 9,rfl,hb,hg 9 Za⟩;refine Am rfl rfl ?_;clear hK hg;go_simp;exact h
 .rintro a X ⟨t,vv,rfl,hb,ho⟩;exact hQ t vv X hb ho
theorem cE (ad:OA)(b off n cap k:Nat)(cs:List Value)(x:Ti)(w:World)(hst:DT w 5 ad b off n cap cs)(hk:k<=n)(hl:(n:Int)<=1099511627775):Calls prog 122 #[.l ad n cap,.i k,.agg (vT x)] w λr w'=>∃v,r=.returned v/\w'.ownsRow w.1.size 130 5 v (n+1) (cs.take (k*5)++(nV x)++cs.drop (k*5))/\Below w.1.size w w':=by have hB:=Ae w (.cells (vT x) 130);have Da:=Ai (hst.grow hB);have HX:=Ai (Dk w (vT x) 130);clear hst;go_enter func122,ntmps122;go_wp2_with fail;refine kR (λ_=>undef) ad b off n cap k cs x _ (by exact Da) hk hl w.1.size (by exact HX) Ze rfl _ ?_;intro t v X hbX hown;have HO:=Ai (CD hown (show w.1.size<=_ by simp));have hBX:Below w.1.size w X:=hB.trans (hbX.mono Ze);clear hown hbX;go_wp2;go_ret;exact⟨_,rfl,HO,hBX⟩
def bO (ad:OA)(b off n cap k:Nat)(cs:List Value)(W:World)(i:Nat)(v:Value)(X:World):Prop:=match i with
 |0=>v=.l ad n cap
 |1=>v=.i k
 |2=>v=.l ad k cap
 |3=>v=.l ad n cap
 |4=>v=.i k
 |5=>v=.i ((k:Int)+1)
 |6=>v=.l (Is ad b off cap (k+1) 5) (n-(k+1)) (cap-(k+1))
 |7=>∃b3,v=.l (some ⟨b3,0,none⟩) 2 2/\b3<X.1.size/\CH X b3 #[.l ad k cap,.l (Is ad b off cap (k+1) 5) (n-(k+1)) (cap-(k+1))]
 |8=>X.ownsRow W.1.size 130 5 v (n-1) (cs.take (k*5)++cs.drop ((k+1)*5))
 |_=>True
theorem kF{p2 p3 p4:Value}{mk:(Nat->Value)->Array Value}(t0:Nat->Value)(ad:OA)(b off n cap k:Nat)(cs:List Value)(W:World)(hst:DT W 5 ad b off n cap cs)(hk:k<n)(hl:(n:Int)<=1099511627775)(hmk:mk=λt=>#[.l ad n cap,.i k,p2,p3,p4,t 0,t 1,t 2,t 3,t 4,t 5,t 6,t 7,t 8])(Q:Exit->Act->World->Prop)(hQ:∀(t:Nat->Value)(vv:Value) X,Below W.1.size W X->X.ownsRow W.1.size 130 5 vv (n-1) (cs.take (k*5)++cs.drop ((k+1)*5))->Q .normal ⟨#[.l ad n cap,.i k,p2,p3,vv,t 0,t 1,t 2,t 3,t 4,t 5,t 6,t 7,t 8],[]⟩ X):Code.wp prog (rg Tryz.f121 1) Q ⟨mk t0,[]⟩ W:=by
 refine Et Zc 9 mk t0 (bO ad b off n cap k cs W) (λa X=>∃(t:Nat->Value)(vv:Value),a=⟨#[.l ad n cap,.i k,p2,p3,vv,t 0,t 1,t 2,t 3,t 4,t 5,t 6,t 7,t 8],[]⟩/\Below W.1.size W X/\X.ownsRow W.1.size 130 5 vv (n-1) (cs.take (k*5)++cs.drop ((k+1)*5))) Zc Zc Zc ?_ rfl ?_ ?_ ?_;all_goals subst hmk
 .intro i v X Y hi h hb;rcases(show i=0\/i=1\/i=2\/i=3\/i=4\/i=5\/i=6\/i=7\/i=8 by omega)with rfl|rfl|rfl|rfl|rfl|rfl|rfl|rfl|rfl;.exact h
  .exact h
  .exact h
  .exact h
  .exact h
  .exact h
  .exact h
  .obtain⟨b3,e1,e2,e3⟩:=h;exact⟨b3,e1,Aa e2 hb.size,e3.below hb e2⟩
  .exact DA h hb
 .intro i hi t X K hb hg hK;rcases(show i=0\/i=1\/i=2\/i=3\/i=4\/i=5\/i=6\/i=7\/i=8 by omega)with rfl|rfl|rfl|rfl|rfl|rfl|rfl|rfl|rfl;.exact sg
  .exact sg
  .have e0:t 0=_:=hg 0 (AX rfl);have e1:t 1=_:=hg 1 (AX rfl);have h:=hK _ X rfl BF;refine Am rfl rfl ?_;clear hK hg;rcases hst.src with⟨_,h0,_⟩|⟨rfl,hc,_,_⟩;.omega
   .have hkc:k<=cap:=Za;go_simp;simpa[AF,e0,e1]using h
  .exact sg
  .exact sg
  .have e4:t 4=_:=hg 4 (AX rfl);have hk2:(k:Int)+1<=1099511627776:=Za;have hw:IntKind.i64.wrap ((k:Int)+1)=(k:Int)+1:=BV _ ⟨Za,Za⟩;have h:=hK _ X rfl BF;refine Am rfl rfl ?_;clear hK hg;go_simp;simpa[AF,e4,hw]using h
  .have e3:t 3=_:=hg 3 (AX rfl);have e5:t 5=_:=hg 5 (AX rfl);have h:=hK _ X rfl BF;refine Am rfl rfl ?_;clear hK hg;unfold Is at h;rcases hst.src with⟨_,h0,_⟩|⟨rfl,hc,_,_⟩;.omega
   .have hk3:(k:Int)+1<=cap:=Za;have hk4:((k:Int)+1).toNat=k+1:=Za;have hk5:(0:Int)<=(k:Int)+1:=Za;have hk6:(k:Int)+1<=(n:Int):=Za;by_cases hck:cap=k+1
    .subst hck;rw[if_pos rfl,show n-(k+1)=0 by omega,G2]at h;go_simp;simpa[AF,e3,e5,hk4,hk5,hk6]using h
    .rw[if_neg hck]at h;go_simp;simpa[AF,e3,e5,hk4,hk5,hk6]using h
  .have e2:t 2=_:=hg 2 (AX rfl);have e6:t 6=_:=hg 6 (AX rfl);have hB:=Ae X (.cells #[.l ad k cap,.l (Is ad b off cap (k+1) 5) (n-(k+1)) (cap-(k+1))] 33);have h:=hK (.l (some ⟨X.1.size,0,none⟩) 2 2) _ ⟨X.1.size,rfl,Ze,Dk X _ 33⟩ hB;refine Am rfl rfl ?_;clear hK hg;go_simp;simpa[AF,e2,e6]using h
  .obtain⟨b3,e7,z3,h3⟩:∃b3,t 7=.l (some ⟨b3,0,none⟩) 2 2/\b3<X.1.size/\CH X b3 #[.l ad k cap,.l (Is ad b off cap (k+1) 5) (n-(k+1)) (cap-(k+1))]:=hg 7 (AX rfl);refine Am rfl rfl ?_;have HK:=Ai hK;have Da:=Ai (hst.grow ((hb)));have H3:=Ai h3;clear hK hg h3;go_simp;go_at_call 174;refine(NR 2 (λj=>match j with|0=>ad|_=>Is ad b off cap (k+1) 5) (λj=>match j with|0=>k|_=>n-(k+1)) (λj=>match j with|0=>cap|_=>cap-(k+1)) (λj=>match j with|0=>cs.take (k*5)|_=>cs.drop ((k+1)*5)) b3 X z3 Za (λj hj=>?_) ⟨λj hj=>?_,λj hj=>?_,λj hj=>?_⟩ xX).mono ?_
   .rcases(show j=0\/j=1 by omega)with rfl|rfl;.exact H3 0
    .exact H3 1
   .rcases(show j=0\/j=1 by omega)with rfl|rfl;.exact(Da.take (Br hk)).1
    .exact(Da.drop (k:=k+1) hk).1
   .rcases(show j=0\/j=1 by omega)with rfl|rfl;.exact(Da.take (Br hk)).2.1
    .exact(Da.drop (k:=k+1) hk).2.1
   .rcases(show j=0\/j=1 by omega)with rfl|rfl;.exact(Da.take (Br hk)).2.2
    .exact(Da.drop (k:=k+1) hk).2.2
   .rintro r Y ⟨v,rfl,hown,hbY⟩;have hs:k+(n-(k+1))=n-1:=Za;rw[lX,ZP]at hown;have hown2:Y.ownsRow X.1.size 130 5 v (n-1) (cs.take (k*5)++cs.drop ((k+1)*5)):=by rw[<-hs];exact hown
    have h:=HK v Y (CD hown2 hb.size) hbY;simpa[AF,e7,e7]using h
 .intro t X K hb hg hK;have h:=hK ⟨#[.l ad n cap,.i k,p2,p3,t 8,t 0,t 1,t 2,t 3,t 4,t 5,t 6,t 7,t 8],[]⟩ X ⟨t,t 8,rfl,hb,hg 8 Za⟩;refine Am rfl rfl ?_;clear hK hg;go_simp;exact h
 .rintro a X ⟨t,vv,rfl,hb,ho⟩;exact hQ t vv X hb ho
theorem fT (ad:OA)(b off n cap k:Nat)(cs:List Value)(w:World)(hst:DT w 5 ad b off n cap cs)(hk:k<n)(hl:(n:Int)<=1099511627775):Calls prog 121 #[.l ad n cap,.i k] w λr w'=>∃v,r=.returned v/\w'.ownsRow w.1.size 130 5 v (n-1) (cs.take (k*5)++cs.drop ((k+1)*5))/\Below w.1.size w w':=by have Da:=Ai hst;clear hst;go_enter func121,ntmps121;go_wp2_with fail;refine kF (λ_=>undef) ad b off n cap k cs _ (by exact Da) hk hl rfl _ ?_;intro t v X hbX hown;have HO:=Ai hown;have hBX:=Ai hbX;clear hown hbX;go_wp2;go_ret;exact⟨_,rfl,HO,hBX⟩
theorem B8.cells{W:World}{lo hi:Nat}{ad:OA}{n:Nat}{x:Nat->Ti}(h:B8 W lo hi ad n x):BP W lo hi ad (n*5) (FT x):=by
 refine⟨λj hj=>?_,λj _=>GL x j⟩;obtain⟨b,off,e1,e2,e3,e4⟩:=h (j/5) Za;obtain⟨t0,t1,t2,t3,t4⟩:=gG x (j/5);refine⟨b,off,e1,e2,e3,?_⟩;rcases(show j%5=0\/j%5=1\/j%5=2\/j%5=3\/j%5=4 by omega)with r|r|r|r|r;.rw[show j=j/5*5 by omega,t0];exact e4.c0
 .rw[show j=j/5*5+1 by omega,t1,<-Bf];exact e4.c1
 .rw[show j=j/5*5+2 by omega,t2,<-Bf];exact e4.c2
 .rw[show j=j/5*5+3 by omega,t3,<-Bf];exact e4.c3
 .rw[show j=j/5*5+4 by omega,t4,<-Bf];exact e4.c4
theorem V7{W:World}{lo hi:Nat}{ad:OA}{n:Nat}{x:Nat->Ti}(h:BP W lo hi ad (n*5) (FT x)):B8 W lo hi ad n x:=λi hi'=>by
 obtain⟨t0,t1,t2,t3,t4⟩:=gG x i;obtain⟨b,off,e1,e2,e3,f0⟩:=h.at_ (i*5) Za;have g:∀r,r<5->W.cell? ⟨b,off+(i*5+r),none⟩=some (FT x (i*5+r)):=λr hr=>by obtain⟨b',off',q1,_,_,q⟩:=h.at_ (i*5+r) Za;rw[e1]at q1;cases q1;exact q
 refine⟨b,off,e1,e2,e3,⟨by rw[f0,t0],?_,?_,?_,?_⟩⟩;.rw[Bf,g 1 Za,t1]
 .rw[Bf,g 2 Za,t2]
 .rw[Bf,g 3 Za,t3]
 .rw[Bf,g 4 Za,t4]
theorem B8.frLo{w w':World}{lo hi hi':Nat}{ad:OA}{n:Nat}{x:Nat->Ti}{P:Nat->Prop}(h:B8 w lo hi ad n x)(hf:AP P w w')(hP:∀q,lo<=q->¬P q)(hz:hi<=w.1.size)(hh:hi<=hi'):B8 w' lo hi' ad n x:=λi hi'=>by obtain⟨b,off,e1,e2,e3,e4⟩:=h i hi';have c:∀{j u},w.cell? ⟨b,j,none⟩=some u->w'.cell? ⟨b,j,none⟩=some u:=λ{j u}q=>(hf.cell (p:=⟨b,j,none⟩) Zj (hP b e2)).trans q;exact⟨b,off,e1,e2,Za,⟨c e4.c0,c e4.c1,c e4.c2,c e4.c3,c e4.c4⟩⟩
theorem B8.dn{w:World}{lo lo' hi:Nat}{ad:OA}{n:Nat}{x:Nat->Ti}(h:B8 w lo hi ad n x)(hl:lo'<=lo):B8 w lo' hi ad n x:=λi hi'=>by obtain⟨b,off,e1,e2,e3,e4⟩:=h i hi';exact⟨b,off,e1,Za,e3,e4⟩
theorem B8.rowC{W:World}{lo hi:Nat}{ad:OA}{n cap:Nat}{x:Nat->Ti}(h:B8 W lo hi ad n x)(hc:Du W n ad cap):∃b off,DT W 5 ad b off n cap (AI (n*5) (FT x)):=by
 have hs:=h.cells;have h1:∀u∈AI (n*5) (FT x),u.oneCell'=true:=λu hu=>by obtain⟨j,_,rfl⟩:=Ey.1 hu;exact GL x j
 rcases hc.2 with⟨e1,e2,e3⟩|⟨b,off,e1,e2⟩;.exact⟨0,0,Bl _ _,h1,AD ⟨e1,e2,e3⟩⟩
 .refine⟨b,off,Bl _ _,h1,Ax ⟨e1,hc.1,e2,λt u hu=>?_⟩⟩;obtain⟨ht,rfl⟩:=Gd hu;obtain⟨b',off',q1,_,_,q⟩:=hs.at_ t ht;rw[e1]at q1;cases q1;exact q
theorem Pp{w:World}{base n cap:Nat}{ad:OA}{x:Nat->Ti}(h:w.ownsRow base 130 5 (.l ad n cap) n (AI (n*5) (FT x))):B8 w base w.1.size ad n x/\Du w n ad cap:=by
 refine⟨V7 ⟨λj hj=>?_,λj _=>GL x j⟩,My h⟩;obtain⟨g,hr,hg⟩:=SG h (λu hu=>by obtain⟨j,_,rfl⟩:=Ey.1 hu;exact GL x j);rcases hr.src with⟨_,e2,_⟩|⟨e1,_,e3,e4⟩;.subst e2;simp at hj
 .obtain⟨_,q2,q3,_⟩:=hg (by rw[e1];simp);exact⟨g,0,e1,q2,q3,e4 j _ (FY hj)⟩
theorem Ks{m:Nat}{c d:Nat->Value}(h:∀j,j<m->c j=d j):AI m c=AI m d:=by unfold AI;exact List.map_congr_left (λj hj=>h j (by simpa using hj))
theorem K7{m k:Nat}{c:Nat->Value}(h:k<=m):(AI m c).take k=AI k c:=by unfold AI;rw[<-List.map_take,List.take_range,Nat.min_eq_left h]
theorem La{m k:Nat}{c:Nat->Value}(_h:k<=m):(AI m c).drop k=AI (m-k) (λj=>c (k+j)):=by
 apply List.ext_getElem;.simp[AI]
 .intro j h1 h2;rw[List.getElem_drop,Dd,Dd]
theorem US (x:Nat->Ti)(k j:Nat):FT x (k*5+j)=FT (λi=>x (k+i)) j:=by unfold FT;rw[show(k*5+j)%5=j%5 by omega,show(k*5+j)/5=k+j/5 by omega]
theorem m6 (t:Ti):(nV t)=AI (1*5) (FT λ_=>t):=rfl
def T4 (x:Nat->Ti)(k:Nat):Nat->Ti:=λi=>if i<k then x i else x (i+1)
def Oj (x:Nat->Ti)(k:Nat)(t:Ti):Nat->Ti:=λi=>if i<k then x i else if i=k then t else x (i-1)
theorem fY (x:Nat->Ti)(n k:Nat)(t:Ti)(hk:k<=n):(AI (n*5) (FT x)).take (k*5)++(nV t)++(AI (n*5) (FT x)).drop (k*5)=AI ((n+1)*5) (FT (Oj x k t)):=by
 rw[K7 (CQ 5 hk),La (CQ 5 hk),m6,Hm,Hm,show k*5+1*5+(n*5-k*5)=(n+1)*5 by omega];refine Ks (λj _=>?_);have e1:=MA x (λ_=>t) k (λi=>if i<k then x i else t) (λi=>rfl) j;have e2:=MA (λi=>if i<k then x i else t) (λi=>x (k+i)) (k+1) (Oj x k t) (λi=>by
  unfold Oj;by_cases h1:i<k;.rw[if_pos h1,if_pos Za,if_pos h1]
  .rw[if_neg h1];by_cases h2:i=k;.rw[if_pos h2,if_pos Za,if_neg h1]
   .rw[if_neg h2,if_neg Za,show k+(i-(k+1))=i-1 by omega]) j;rw[<-e2];unfold Dh;rw[show(k+1)*5=k*5+1*5 by omega];split;.rw[<-e1]
 .exact US x k _
theorem cT (x:Nat->Ti)(n k:Nat)(hk:k<n):(AI (n*5) (FT x)).take (k*5)++(AI (n*5) (FT x)).drop ((k+1)*5)=AI ((n-1)*5) (FT (T4 x k)):=by
 rw[K7 (CQ 5 (Br hk)),La (CQ 5 hk),Hm,show k*5+(n*5-(k+1)*5)=(n-1)*5 by omega];refine Ks (λj _=>?_);have e2:=MA x (λi=>x (k+1+i)) k (T4 x k) (λi=>by
  unfold T4;by_cases h1:i<k;.rw[if_pos h1,if_pos h1]
  .rw[if_neg h1,if_neg h1,show k+1+(i-k)=i+1 by omega]) j;rw[<-e2];unfold Dh;split;.rfl
 .exact US x (k+1) _
theorem Tw (n:Nat)(x:Nat->Ti)(ad:OA)(cap k:Nat)(t:Ti)(w:World)(lo hi:Nat)(hc:B8 w lo hi ad n x)(hg:Du w n ad cap)(hk:k<=n)(hl:(n:Int)<=1000):Calls prog 122 #[.l ad n cap,.i k,.agg (vT t)] w λe w'=>∃ad' cap',e=.returned (.l ad' (n+1:Nat) cap')/\B8 w' w.1.size w'.1.size ad' (n+1) (Oj x k t)/\Below w.1.size w w':=by obtain⟨b,off,hr⟩:=hc.rowC hg;refine(cE ad b off n cap k _ t w hr hk Za).mono ?_;rintro e w' ⟨v,rfl,ho,hb⟩;rw[fY x n k t hk]at ho;obtain⟨ad',cap',rfl⟩:=DK ho;exact⟨ad',cap',rfl,(Pp ho).1,hb⟩
theorem Th (n:Nat)(x:Nat->Ti)(ad:OA)(cap k:Nat)(w:World)(lo hi:Nat)(hc:B8 w lo hi ad n x)(hg:Du w n ad cap)(hk:k<n)(hl:(n:Int)<=1000):Calls prog 121 #[.l ad n cap,.i k] w λe w'=>∃ad' cap',e=.returned (.l ad' (n-1:Nat) cap')/\B8 w' w.1.size w'.1.size ad' (n-1) (T4 x k)/\Du w' (n-1) ad' cap'/\Below w.1.size w w':=by obtain⟨b,off,hr⟩:=hc.rowC hg;refine(fT ad b off n cap k _ w hr hk Za).mono ?_;rintro e w' ⟨v,rfl,ho,hb⟩;rw[cT x n k hk]at ho;obtain⟨ad',cap',rfl⟩:=DK ho;exact⟨ad',cap',rfl,(Pp ho).1,(Pp ho).2,hb⟩
theorem Yo (x:Nat->Ti)(k:Nat)(t:Ti):Oj (T4 x k) k t=No x k true t:=by
 funext i;unfold Oj T4 No;by_cases h1:i<k;.rw[if_pos h1,if_pos h1,if_pos h1]
 .rw[if_neg h1,if_neg h1];by_cases h2:i=k;.rw[if_pos h2,if_pos h2]
  .rw[if_neg h2,if_neg h2,if_neg Za,show i-1+1=i by omega];rfl
theorem lT{P:Program}{id:Nat}{ops:Array Oper}{Q:Exit->Act->World->Prop}{a0:Act}{W:World}(hm:P.follows .mixedOrders=true)(n a b s1 s2 m1 m2 v1 v2:Nat)(mk:(Nat->Value)->Array Value)(t0:Nat->Value)(G:Nat->Value->World->Prop)(B1 B2:Nat->Value->World->Prop)(hn:ops.size=n)(hd:(¬a=b/\¬a=s1/\¬a=s2/\¬b=s1/\¬b=s2/\¬s1=s2)/\(¬v1=a/\¬v1=b/\¬v1=s1/\¬v1=s2)/\(¬v2=a/\¬v2=b/\¬v2=s1/\¬v2=s2)/\a<n/\b<n/\s1<n/\s2<n/\v1<n/\v2<n)(hord:((List.range ops.size).all λi=>match ops[i]? with|some o=>o.after.all (λe=>!(Region.binds .any e)||decide (e.on<i))|none=>true)=true)(w1:BU ops s1 a/\BU ops s1 v1)(w2:BU ops s2 b/\BU ops s2 v2)(st:∀i v X Y,i<n->G i v X->Below X.1.size X Y->G i v Y)(stS:∀i v X Y z,i<n->G i v X->KP X z->AP (λq=>q=z) X Y->G i v Y)(st1:∀z v X Y,B1 z v X->z<X.1.size->Below X.1.size X Y->B1 z v Y)(st1S:∀z v X Y y,B1 z v X->z<X.1.size->¬z=y->KP X y->AP (λq=>q=y) X Y->B1 z v Y)(st2:∀z v X Y,B2 z v X->z<X.1.size->Below X.1.size X Y->B2 z v Y)(st2S:∀z v X Y y,B2 z v X->z<X.1.size->¬z=y->KP X y->AP (λq=>q=y) X Y->B2 z v Y)(h0:a0=⟨mk t0,[]⟩)(sg:∀i,i<n->¬i=a->¬i=b->¬i=s1->¬i=s2->∀(t:Nat->Value) X K,Below W.1.size W X->(∀j,BU ops i j->¬j=a->¬j=b->¬j=s1->¬j=s2->G j (t j) X)->(∀v Y,G i v Y->Below X.1.size X Y->K ⟨mk (AF t i v),[]⟩ Y)->wpOp P ops Q i K ⟨mk t,[]⟩ X)(sa:∀(t:Nat->Value) X K,(∀Y,Bo Y X.1.size m1->Below X.1.size X Y->K ⟨mk (AF t a (.p (X.1.size) 0)),[]⟩ Y)->wpOp P ops Q a K ⟨mk t,[]⟩ X)(sb:∀(t:Nat->Value) X K,(∀Y,Bo Y X.1.size m2->Below X.1.size X Y->K ⟨mk (AF t b (.p (X.1.size) 0)),[]⟩ Y)->wpOp P ops Q b K ⟨mk t,[]⟩ X)(ss1:∀(t:Nat->Value) X K z,t a=.p z 0->Bo X z m1->G v1 (t v1) X->(∀v Y,B1 z (t v1) Y->Bo Y z m1->AP (λq=>q=z) X Y->K ⟨mk (AF t s1 v),[]⟩ Y)->wpOp P ops Q s1 K ⟨mk t,[]⟩ X)(ss2:∀(t:Nat->Value) X K z,t b=.p z 0->Bo X z m2->G v2 (t v2) X->(∀v Y,B2 z (t v2) Y->Bo Y z m2->AP (λq=>q=z) X Y->K ⟨mk (AF t s2 v),[]⟩ Y)->wpOp P ops Q s2 K ⟨mk t,[]⟩ X)(hfin:∀t X z y,Below W.1.size W X->t a=.p z 0->t b=.p y 0->W.1.size<=z->W.1.size<=y->¬z=y->Bo X z m1->Bo X y m2->B1 z (t v1) X->B2 y (t v2) X->Q .normal ⟨mk t,[]⟩ X):(Code.region id ops true).wp P Q a0 W:=by
 obtain⟨⟨ab,a1',a2',b1',b2',s12⟩,⟨va,vb,vs1,vs2⟩,⟨ua,ub,us1,us2⟩,la,lb,ls1,ls2,lv1,lv2⟩:=hd;have hlt:∀i j,BU ops i j->i<n->j<i:=λi j hj hi=>by obtain⟨o,ho,e,he,hbd,rfl⟩:=hj;have h1:=BO.1 hord i (by rw[hn];simpa using hi);simp only[ho]at h1;have h2:=(Bn.1 h1) e he;rw[hbd]at h2;simpa using h2
 refine Mw hm n mk t0 (λf t X=>Below W.1.size W X/\(∀i,i<n->¬i=a->¬i=b->¬i=s1->¬i=s2->f i=true->G i (t i) X)/\(f a=true->∃z,t a=.p z 0/\W.1.size<=z/\Bo X z m1/\(f s1=true->B1 z (t v1) X))/\(f b=true->∃z,t b=.p z 0/\W.1.size<=z/\Bo X z m2/\(f s2=true->B2 z (t v2) X))/\(f a=true->f b=true->¬t a=t b)) hn hord h0 ?_ ?_ ?_
 .intro f hf;exact⟨(Ak _ _).drew,λi _ _ _ _ _ h=>by(rw[hf]at h;cases h),λh=>by(rw[hf]at h;cases h),λh=>by(rw[hf]at h;cases h),λh=>by(rw[hf]at h;cases h)⟩
 .rintro i hi f t X K ⟨hA,hG,h1,h2,hD⟩ hfi hwi hcl hK;by_cases e1:i=a
  .subst e1;have fs:f s1=false:=by cases q:f s1 with
    |false=>rfl
    |true=>rw[hcl s1 i w1.1 q]at hfi;cases hfi
   refine sa t X K (λY hB hY=>hK _ Y (λg gi gj=>⟨hA.trans (hY.mono hA.size),λj hj q1 q2 q3 q4 h=>?_,λ_=>⟨X.1.size,by rw[Ce],hA.size,hB,λh=>?_⟩,λh=>?_,λ_ h=>?_⟩));.rw[AK q1];rw[gj j q1]at h;exact st j _ X Y hj (hG j hj q1 q2 q3 q4 h) hY
   .rw[gj s1 (λq=>a1' q.symm),fs]at h;cases h
   .rw[gj b (λq=>ab q.symm)]at h;obtain⟨z,k1,k2,k3,k4⟩:=h2 h;rw[AK (λq=>ab q.symm),AK ua];exact⟨z,k1,k2,k3.fr (Aq (P:=λ_=>False) hY) (λq=>q),λq=>st2 z _ X Y (k4 (by rw[gj s2 (λq=>a2' q.symm)]at q;exact q)) k3.lt hY⟩
   .rw[gj b (λq=>ab q.symm)]at h;obtain⟨z,k1,k2,k3,k4⟩:=h2 h;rw[Ce,AK (λq=>ab q.symm),k1];intro q;have:=k3.lt;injection q with q;injection q with q;injection q with q;omega
  by_cases e2:i=b
  .subst e2;have fs:f s2=false:=by cases q:f s2 with
    |false=>rfl
    |true=>rw[hcl s2 i w2.1 q]at hfi;cases hfi
   refine sb t X K (λY hB hY=>hK _ Y (λg gi gj=>⟨hA.trans (hY.mono hA.size),λj hj q1 q2 q3 q4 h=>?_,λh=>?_,λ_=>⟨X.1.size,by rw[Ce],hA.size,hB,λh=>?_⟩,λh _=>?_⟩));.rw[AK q2];rw[gj j q2]at h;exact st j _ X Y hj (hG j hj q1 q2 q3 q4 h) hY
   .rw[gj a ab]at h;obtain⟨z,k1,k2,k3,k4⟩:=h1 h;rw[AK ab,AK vb];exact⟨z,k1,k2,k3.fr (Aq (P:=λ_=>False) hY) (λq=>q),λq=>st1 z _ X Y (k4 (by rw[gj s1 (λq=>b1' q.symm)]at q;exact q)) k3.lt hY⟩
   .rw[gj s2 (λq=>b2' q.symm),fs]at h;cases h
   .rw[gj a ab]at h;obtain⟨z,k1,k2,k3,k4⟩:=h1 h;rw[Ce,AK ab,k1];intro q;have:=k3.lt;injection q with q;injection q with q;injection q with q;omega
  by_cases e3:i=s1
  .subst e3;obtain⟨z,k1,k2,k3,k4⟩:=h1 (hwi a w1.1);refine ss1 t X K z k1 k3 (hG v1 lv1 va vb vs1 vs2 (hwi v1 w1.2)) (λv Y hB hBo hY=>hK v Y (λg gi gj=>⟨hA.trans (hY.below (λq hq e=>by have e':q=z:=e;omega) hA.size),λj hj q1 q2 q3 q4 h=>?_,λ_=>⟨z,by rw[AK a1'];exact k1,k2,hBo,λ_=>by rw[AK vs1];exact hB⟩,λh=>?_,λq1 q2=>?_⟩));.rw[AK q3];rw[gj j q3]at h;exact stS j _ X Y z hj (hG j hj q1 q2 q3 q4 h) k3.no hY
   .rw[gj b b1']at h;obtain⟨y,j1,j2,j3,j4⟩:=h2 h;have ny:¬y=z:=λe=>hD (hwi a w1.1) h (by rw[k1,j1,e]);rw[AK b1',AK us1];exact⟨y,j1,j2,j3.fr hY ny,λq=>st2S y _ X Y z (j4 (by rw[gj s2 (λq=>s12 q.symm)]at q;exact q)) j3.lt ny k3.no hY⟩
   .rw[gj b b1']at q2;rw[AK a1',AK b1'];exact hD (hwi a w1.1) q2
  by_cases e4:i=s2
  .subst e4;obtain⟨z,k1,k2,k3,k4⟩:=h2 (hwi b w2.1);refine ss2 t X K z k1 k3 (hG v2 lv2 ua ub us1 us2 (hwi v2 w2.2)) (λv Y hB hBo hY=>hK v Y (λg gi gj=>⟨hA.trans (hY.below (λq hq e=>by have e':q=z:=e;omega) hA.size),λj hj q1 q2 q3 q4 h=>?_,λh=>?_,λ_=>⟨z,by rw[AK b2'];exact k1,k2,hBo,λ_=>by rw[AK us2];exact hB⟩,λq1 q2=>?_⟩))
   .rw[AK q4];rw[gj j q4]at h;exact stS j _ X Y z hj (hG j hj q1 q2 q3 q4 h) k3.no hY
   .rw[gj a a2']at h;obtain⟨y,j1,j2,j3,j4⟩:=h1 h;have ny:¬y=z:=λe=>hD h (hwi b w2.1) (by rw[k1,j1,e]);rw[AK a2',AK vs2];exact⟨y,j1,j2,j3.fr hY ny,λq=>st1S y _ X Y z (j4 (by rw[gj s1 s12]at q;exact q)) j3.lt ny k3.no hY⟩
   .rw[gj a a2']at q1;rw[AK a2',AK b2'];exact hD q1 (hwi b w2.1)
  .refine sg i hi e1 e2 e3 e4 t X K hA (λj hj q1 q2 q3 q4=>hG j (Nat.lt_trans (hlt i j hj hi) hi) q1 q2 q3 q4 (hwi j hj)) (λv Y hv hY=>hK v Y (λg gi gj=>⟨hA.trans (hY.mono hA.size),λj hj q1 q2 q3 q4 h=>?_,λh=>?_,λh=>?_,λq1 q2=>?_⟩))
   .by_cases e:j=i;.subst e;rw[Ce];exact hv
    .rw[AK e];rw[gj j e]at h;exact st j _ X Y hj (hG j hj q1 q2 q3 q4 h) hY
   .rw[gj a (λq=>e1 q.symm)]at h;obtain⟨z,k1,k2,k3,k4⟩:=h1 h;rw[AK (λq=>e1 q.symm)];refine⟨z,k1,k2,k3.fr (Aq (P:=λ_=>False) hY) (λq=>q),λq=>?_⟩;rw[gj s1 (λq=>e3 q.symm)]at q;have hv1:¬v1=i:=λe=>by have:=hcl s1 v1 w1.2 q;rw[e,hfi]at this;cases this
    rw[AK hv1];exact st1 z _ X Y (k4 q) k3.lt hY
   .rw[gj b (λq=>e2 q.symm)]at h;obtain⟨z,k1,k2,k3,k4⟩:=h2 h;rw[AK (λq=>e2 q.symm)];refine⟨z,k1,k2,k3.fr (Aq (P:=λ_=>False) hY) (λq=>q),λq=>?_⟩;rw[gj s2 (λq=>e4 q.symm)]at q;have hv2:¬v2=i:=λe=>by have:=hcl s2 v2 w2.2 q;rw[e,hfi]at this;cases this
    rw[AK hv2];exact st2 z _ X Y (k4 q) k3.lt hY
   .rw[gj a (λq=>e1 q.symm)]at q1;rw[gj b (λq=>e2 q.symm)]at q2;rw[AK (λq=>e1 q.symm),AK (λq=>e2 q.symm)];exact hD q1 q2
 .rintro f t X hf ⟨hb,hG,h1,h2,hD⟩;obtain⟨z,k1,k2,k3,k4⟩:=h1 (hf a la);obtain⟨y,j1,j2,j3,j4⟩:=h2 (hf b lb);exact hfin t X z y hb k1 j1 k2 j2 (λe=>hD (hf a la) (hf b lb) (by rw[k1,j1,e])) k3 j3 (k4 (hf s1 ls1)) (j4 (hf s2 ls2))
end Go.Proofs.YtllmmkchokkaaaaGreatDoor
