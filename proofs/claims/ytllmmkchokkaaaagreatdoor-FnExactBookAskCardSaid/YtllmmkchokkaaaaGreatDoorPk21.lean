import Derived.Test.YtllmmkchokkaaaaGreatDoorPk19
set_option maxRecDepth 100000
set_option maxHeartbeats 4000000
namespace Go.Proofs.YtllmmkchokkaaaaGreatDoor
open Go.RowKit Go.Maps Go.Proofs.Tryz
theorem Ya (n:Nat) (w:World) (hn:(n:Int)<=1099511627776):Calls prog 203 #[.l none 0 0,.i n] w λe w'=>∃v,e=.returned v/\w'.ownsRow w.1.size 118 7 v 0 []/\Below w.1.size w w':=by
 rcases AW n with h00|h0;.subst h00;go_enter func203,ntmps203;go_wp2;go_ret;exact⟨_,rfl,⟨rfl,AD ⟨rfl,rfl⟩⟩,Ak _ _⟩
 obtain⟨i0,hi0,hz0,hz1,hz2⟩:=info_parts ET;have hrz:∀ty,∃G cur,n<=G/\G<=maxLen/\cur.size=G*7/\(Builtin.append_ #[31,3] ty #[.l none 0 0,.i (n:Int)]).run prog w=.ok (.l (some ⟨w.1.size,0,none⟩) n G) (w.drew.alloc (.cells cur 118)):=λty=>by have h:=Lib.run_append_grow_zeros w 31 3 ty 118 i0 _ .i64 .i64 underlying31 underlying3 hi0 hz0 none 0 0 [] (run_firstCells_none w.drew i0.size 0 0 0) n h0 Za Za Za Sx (growslice_fits Za Sx);rw[Bc]at h;refine⟨_,_,grownCap_ge w _ _ _,grownCap_le_maxLen w n 0 118 Zn,?_,h⟩;have hG:=grownCap_ge w n 0 118;simp only[I8,Builtin.zeroCells,Array.size_map,Ox];simp[Value.cells];omega
 obtain⟨G,cur,hG1,hG2,hcur,hap⟩:=hrz 31;have h63:(G:Int)<=9223372036854775807:=by unfold maxLen at hG2;omega
 have HC:=Ai hcur;have HG:=Ai hG2;have oZ:=Ai hap;clear hap;clear hcur hG2 hrz hi0 hz0 hz1 hz2;go_enter func203,ntmps203;go_wp2_with (at_builtin;go_must(refine DD rfl _ _ 31 3 rfl _ _ _ rfl rfl oZ ?_));go_ret;exact⟨_,rfl,CE (base:=w.1.size) (e:=118) (size:=7) w.drew cur G Bj HG HC,((Ak _ _).drew).alloc Bj _⟩
theorem gE{P:Prop}(h:P:=by
  have c0:=HC k hkq;have hm:=HM (k+1) hkq;have hms:AN M (k+1)=AN M k+M k:=rfl;rw[hms]at hm;have hkz:(k:Int)<q:=Za;clear hms;go_wp2;go_roundw;case rel=>exact⟨k+1,hkq,by go_num,congrArg (Value.int .i64) (by show(_:Int)=((AN M k+M k:Nat):Int);omega),trivial⟩
  case measure=>simp[intOf];omega):P:=h
theorem NW (q:Nat) (A:Nat->Option Addr) (M C:Nat->Nat) (news:Nat->List Value) (b:Nat) (w:World) (hb:b<w.1.size) (hq:(q:Int)<=1000) (hcell:∀j,j<q->w.cell? ⟨b,j,none⟩=some (.slice (A j) (M j) (C j))) (hsrc:lJ w 7 q A M C news) (hs1:(AN M q:Int)<=1099511627776):Calls prog 187 #[.l (some ⟨b,0,none⟩) q q] w λe w'=>∃v,e=.returned v/\w'.ownsRow w.1.size 118 7 v (AN M q) (DN news q)/\Below w.1.size w w':=by
 obtain⟨i0,hi0,hz0,hz1,hz2⟩:=info_parts ET;have HC:=Ai hcell;have HS:=Ai hsrc;have hmo:∀k,k<=q->AN M k<=AN M q:=λk hk=>DX M hk;have HM:=Ai hmo;clear hcell hsrc hmo;go_enter func187,ntmps187;go_wp2;go_loopw[3,5,11](λs _ i wr=>∃k:Nat,k<=q/\i=.i k/\s=.i (AN M k:Nat)/\wr=w) (λ_ _ i _=>q-(intOf i).toNat);case atStart=>exact⟨0,Ap _,rfl,rfl,rfl⟩
 case round=>
  obtain⟨k,hk,rfl,rfl,rfl⟩:=hrel;by_cases hkq:k<q;.exact gE
  .obtain rfl:k=q:=Za;have hs2:¬(AN M k:Int)<0:=Za;go_wp2_with (go_at_call 203;go_must(refine(Ya (AN M k) _ hs1).mono ?_;rintro e w1 ⟨v1,rfl,hown1,hb1⟩));have Oz:=Ai hown1;clear hown1;obtain⟨W0,hW0⟩:∃W0,W0=wr:=⟨_,rfl⟩;subst hW0;go_loopw[6,8,27](λv _ i wr=>∃j:Nat,j<=k/\i=.i j/\Hid (wr.ownsRow W0.1.size 118 7 v (AN M j) (DN news j))/\Below W0.1.size W0 wr) (λ_ _ i _=>k-(intOf i).toNat);case atStart=>exact⟨0,Ap _,rfl,Oz,hb1⟩
   case round=>
    clear Oz hb1 hkq;obtain⟨j,hj,rfl,Gi,hbr⟩:=hrel;by_cases hjk:j<k
    .have c0:=(hbr.cell (p:=⟨b,j,none⟩) hb).trans (HC j hjk);have hm:=HM (j+1) hjk;have hms:AN M (j+1)=AN M j+M j:=rfl;rw[hms]at hm;have wE:=Ai hms;have hjz:(j:Int)<k:=Za;have hbw:b<wr.1.size:=Aa hb hbr.size;clear hms;rcases HS.src j hjk with⟨hA,hM0,hC0⟩|⟨sb,off,hA,hsb,hcs⟩
     .rw[hA,hM0,hC0]at c0;have hnil:news j=[]:=It.1 (by rw[HS.len j hjk,hM0,DF]);have HN:=Ai hnil;have W3:=Ai hM0;clear hA hM0 hC0 hnil;go_wp2_with (at_builtin;go_must(refine wpList_append_own_none rfl _ _ 31 rfl W0.1.size 118 i0 7 underlying31 hi0 _ (AN M j) (DN news j) rfl Gi rfl ?_));go_roundw;case rel=>exact⟨j+1,hjk,by go_num,(show Hid _ from by show wr.ownsRow W0.1.size 118 7 _ (AN M j+M j) (DN news j++news j);rw[HN.out,W3.out,FP];exact Gi),hbr⟩
      case measure=>simp[intOf];omega
     .rw[hA]at c0;have oR:=Ai (show∀t u,(news j)[t]?=some u->wr.cell? ((⟨sb,off,none⟩:Addr).add t)=some u from λt u h=>by rw[Addr.add_lit];exact(hbr.cell (p:=⟨sb,off+t,none⟩) hsb).trans (hcs t u h));clear hcs hA;go_wp2_with (at_builtin;go_must(refine wpList_append_own_at _ rfl _ _ 31 rfl W0.1.size 118 i0 _ 7 96 underlying31 hi0 hz0 hz1 hz2 rfl Zb _ (AN M j) (DN news j) rfl Gi ⟨sb,off,none⟩ (M j) (C j) (news j) rfl (HS.len j hjk) oR (HS.one j hjk) Zn Za hbr.size ?_;intro v' w2 hown2 hgrow2 hnil2 hat2;clear hnil2 hat2));have B2:Below W0.1.size W0 w2:=hbr.trans ((Cn hgrow2).below (λq hq e=>by have:=(Gi.lt q e).1;omega) hbr.size);have Um:Hid (w2.ownsRow W0.1.size 118 7 v' (AN M (j+1)) (DN news (j+1))):=hown2;clear hown2 hgrow2;go_wp2;go_roundw;case rel=>exact⟨j+1,hjk,by go_num,Um,B2⟩
      case measure=>simp[intOf];omega
    .obtain rfl:j=k:=Za;go_wp2;go_ret;exact⟨_,rfl,Gi,hbr⟩
def eZ (ad:OA) (b off n cap k:Nat) (cs:List Value) (x:Ob) (A:OA) (C:Nat) (W:World) (i:Nat) (v:Value) (X:World):Prop:=match i with
 |0=>v=.l ad n cap
 |1=>v=.i k
 |2=>v=.l ad k cap
 |3=>v=.agg (vO x A C)
 |4=>∃b1,v=.l (some ⟨b1,0,none⟩) 1 1/\b1<X.1.size/\CH X b1 (vO x A C)
 |5=>v=.l ad n cap
 |6=>v=.i k
 |7=>v=.l (Is ad b off cap k 7) (n-k) (cap-k)
 |8=>∃b3 b1,v=.l (some ⟨b3,0,none⟩) 3 3/\b3<X.1.size/\b1<X.1.size/\CH X b1 (vO x A C)/\CH X b3 #[.l ad k cap,.l (some ⟨b1,0,none⟩) 1 1,.l (Is ad b off cap k 7) (n-k) (cap-k)]
 |9=>X.ownsRow W.1.size 118 7 v (n+1) (cs.take (k*7)++[.s x.kind,.s x.name,.i x.ver,.i x.born,.s x.text,.bool x.ending,.l A x.hn C]++cs.drop (k*7))
 |_=>True
theorem g7{P:Prop}(h:P:=by
  intro i v X Y hi h hb;rcases(show i=0\/i=1\/i=2\/i=3\/i=4\/i=5\/i=6\/i=7\/i=8\/i=9 by omega)with rfl|rfl|rfl|rfl|rfl|rfl|rfl|rfl|rfl|rfl;.exact h
  .exact h
  .exact h
  .exact h
  .obtain⟨b1,e1,e2,e3⟩:=h;exact⟨b1,e1,Aa e2 hb.size,e3.below hb e2⟩
  .exact h
  .exact h
  .exact h
  .obtain⟨b3,b1,e1,e2,e3,e4,e5⟩:=h;exact⟨b3,b1,e1,Aa e2 hb.size,Aa e3 hb.size,e4.below hb e3,e5.below hb e2⟩
  .exact DA h hb):P:=h
theorem cB{P:Prop}(h:P:=by
  have e5:t 5=_:=hg 5 (AX rfl);have e6:t 6=_:=hg 6 (AX rfl);have h:=hK _ X rfl BF;refine Am rfl rfl ?_;clear hK hg;unfold Is at h;rcases hst.src with⟨rfl,rfl,rfl⟩|⟨rfl,hc,_,_⟩;.obtain rfl:k=0:=Za;go_simp;simpa[AF,e5,e6]using h
  .by_cases hck:cap=k;.subst hck;rw[if_pos rfl,show n-cap=0 by omega,G2]at h;go_simp;simpa[AF,e5,e6]using h
   .rw[if_neg hck]at h;go_simp;simpa[AF,e5,e6]using h):P:=h
theorem fO{P:Prop}(h:P:=by
  have e0:t 0=_:=hg 0 (AX rfl);have e1:t 1=_:=hg 1 (AX rfl);have h:=hK _ X rfl BF;refine Am rfl rfl ?_;clear hK hg;rcases hst.src with⟨rfl,rfl,rfl⟩|⟨rfl,hc,_,_⟩;.obtain rfl:k=0:=Za;go_simp;simpa[AF,e0,e1]using h
  .have hkc:k<=cap:=AA hk hc;go_simp;simpa[AF,e0,e1]using h):P:=h
theorem dA{P:Prop}(h:P:=by
  rcases(show j=0\/j=1\/j=2 by omega)with rfl|rfl|rfl;.exact(Da.take hk).2.2
  .refine Ax ⟨b1,0,rfl,z1,λt u hu=>?_⟩;rw[Bc,H1.out t,<-hu];simp
  .exact(Da.drop hk).2.2):P:=h
theorem aO{P:Prop}(h:P:=by have hbX:bx<X.1.size:=Aa hb0 hb.size;have h:=hK _ X rfl BF;refine Am rfl rfl ?_;clear hK hg HB;go_simp;exact h):P:=h
theorem lD{p3 p4 p6:Value}{mk:(Nat->Value)->Array Value}(t0:Nat->Value) (ad:OA) (b off n cap k:Nat) (cs:List Value) (x:Ob) (A:OA) (C:Nat) (W:World) (hst:DT W 7 ad b off n cap cs) (hk:k<=n) (hl:(n:Int)<=1099511627775) (bx:Nat) (hbx:CH W bx (vO x A C)) (hb0:bx<W.1.size) (hmk:mk=λt=>#[.l ad n cap,.i k,.agg (vO x A C),p3,p4,.p bx 0,p6,t 0,t 1,t 2,t 3,t 4,t 5,t 6,t 7,t 8,t 9]) (Q:Exit->Act->World->Prop) (hQ:∀(t:Nat->Value) (vv:Value) X,Below W.1.size W X->X.ownsRow W.1.size 118 7 vv (n+1) (cs.take (k*7)++[.s x.kind,.s x.name,.i x.ver,.i x.born,.s x.text,.bool x.ending,.l A x.hn C]++cs.drop (k*7))->Q .normal ⟨#[.l ad n cap,.i k,.agg (vO x A C),p3,p4,.p bx 0,vv,t 0,t 1,t 2,t 3,t 4,t 5,t 6,t 7,t 8,t 9],[]⟩ X):Code.wp prog (rg Tryz.f160 1) Q ⟨mk t0,[]⟩ W:=by
 refine Et Zc 10 mk t0 (eZ ad b off n cap k cs x A C W) (λa X=>∃(t:Nat->Value) (vv:Value),a=⟨#[.l ad n cap,.i k,.agg (vO x A C),p3,p4,.p bx 0,vv,t 0,t 1,t 2,t 3,t 4,t 5,t 6,t 7,t 8,t 9],[]⟩/\Below W.1.size W X/\X.ownsRow W.1.size 118 7 vv (n+1) (cs.take (k*7)++[.s x.kind,.s x.name,.i x.ver,.i x.born,.s x.text,.bool x.ending,.l A x.hn C]++cs.drop (k*7))) Zc Zc Zc ?_ rfl ?_ ?_ ?_;all_goals subst hmk
 .exact g7
 .intro i hi t X K hb hg hK;rcases(show i=0\/i=1\/i=2\/i=3\/i=4\/i=5\/i=6\/i=7\/i=8\/i=9 by omega)with rfl|rfl|rfl|rfl|rfl|rfl|rfl|rfl|rfl|rfl;.exact sg
  .exact sg
  .exact fO
  .have HB:=hbx.below hb hb0;have q0:=HB 0;have q1:=HB 1;have q2:=HB 2;have q3:=HB 3;have q4:=HB 4;have q5:=HB 5;have q6:=HB 6;simp only[Ah,Ad,Ab]at q0 q1 q2 q3 q4 q5 q6;exact aO
  .have e3:t 3=_:=hg 3 (AX rfl);have h:=hK (.l (some ⟨X.1.size,0,none⟩) 1 1) (X.alloc (.cells (vO x A C) 118)) ⟨X.1.size,rfl,Ze,Dk X _ 118⟩ FU;refine Am rfl rfl ?_;clear hK hg;go_simp;simpa[AF,e3]using h
  .exact sg
  .exact sg
  .exact cB
  .have e2:t 2=_:=hg 2 (AX rfl);obtain⟨b1,e4,z1,h1⟩:∃b1,t 4=.l (some ⟨b1,0,none⟩) 1 1/\b1<X.1.size/\CH X b1 (vO x A C):=hg 4 (AX rfl);have e7:t 7=_:=hg 7 (AX rfl);have hB:=Ae X (.cells #[.l ad k cap,.l (some ⟨b1,0,none⟩) 1 1,.l (Is ad b off cap k 7) (n-k) (cap-k)] 31);have h:=hK (.l (some ⟨X.1.size,0,none⟩) 3 3) _ ⟨X.1.size,b1,rfl,Ze,Aa z1 hB.size,h1.below hB z1,Dk X _ 31⟩ hB;refine Am rfl rfl ?_;clear hK hg;go_simp;simpa[AF,e2,e4,e7]using h
  .obtain⟨b3,b1,e8,z3,z1,h1,h3⟩:∃b3 b1,t 8=.l (some ⟨b3,0,none⟩) 3 3/\b3<X.1.size/\b1<X.1.size/\CH X b1 (vO x A C)/\CH X b3 #[.l ad k cap,.l (some ⟨b1,0,none⟩) 1 1,.l (Is ad b off cap k 7) (n-k) (cap-k)]:=hg 8 (AX rfl);refine Am rfl rfl ?_;have HK:=Ai hK;have Da:=Ai (hst.grow ((hb)));have H1:=Ai h1;have H3:=Ai h3;clear hK hg h1 h3;go_simp;go_at_call 187;refine(NW 3 (λj=>match j with|0=>ad|1=>some ⟨b1,0,none⟩|_=>Is ad b off cap k 7) (λj=>match j with|0=>k|1=>1|_=>n-k) (λj=>match j with|0=>cap|1=>1|_=>cap-k) (λj=>match j with|0=>cs.take (k*7)|1=>[.s x.kind,.s x.name,.i x.ver,.i x.born,.s x.text,.bool x.ending,.l A x.hn C]|_=>cs.drop (k*7)) b3 X z3 Za (λj hj=>?_) ⟨λj hj=>?_,λj hj=>?_,λj hj=>?_⟩ uK).mono ?_
   .rcases(show j=0\/j=1\/j=2 by omega)with rfl|rfl|rfl;.exact H3 0
    .exact H3 1
    .exact H3 2
   .rcases(show j=0\/j=1\/j=2 by omega)with rfl|rfl|rfl;.exact(Da.take hk).1
    .rfl
    .exact(Da.drop hk).1
   .rcases(show j=0\/j=1\/j=2 by omega)with rfl|rfl|rfl;.exact(Da.take hk).2.1
    .intro u hu;simp at hu;rcases hu with rfl|rfl|rfl|rfl|rfl|rfl|rfl<;>rfl
    .exact(Da.drop hk).2.1
   .exact dA
   .rintro r Y ⟨v,rfl,hown,hbY⟩;have hs:k+1+(n-k)=n+1:=Za;rw[fN,VV]at hown;have hown2:Y.ownsRow X.1.size 118 7 v (n+1) (cs.take (k*7)++[.s x.kind,.s x.name,.i x.ver,.i x.born,.s x.text,.bool x.ending,.l A x.hn C]++cs.drop (k*7)):=by rw[<-hs];exact hown
    have h:=HK v Y (CD hown2 hb.size) hbY;simpa[AF,e8,e8]using h
 .intro t X K hb hg hK;have h:=hK ⟨#[.l ad n cap,.i k,.agg (vO x A C),p3,p4,.p bx 0,t 9,t 0,t 1,t 2,t 3,t 4,t 5,t 6,t 7,t 8,t 9],[]⟩ X ⟨t,t 9,rfl,hb,hg 9 Za⟩;refine Am rfl rfl ?_;clear hK hg;go_simp;exact h
 .rintro a X ⟨t,vv,rfl,hb,ho⟩;exact hQ t vv X hb ho
theorem aP{P:Prop}(h:P:=by intro t v X hbX hown;have HO:=Ai (CD hown (show w.1.size<=_ by simp));have hBX:Below w.1.size w X:=hB.trans (hbX.mono Ze);clear hown hbX;go_wp2;go_ret;exact⟨_,rfl,HO,hBX⟩):P:=h
theorem Z4 (ad:OA) (b off n cap k:Nat) (cs:List Value) (x:Ob) (A:OA) (C:Nat) (w:World) (hst:DT w 7 ad b off n cap cs) (hk:k<=n) (hl:(n:Int)<=1099511627775):Calls prog 160 #[.l ad n cap,.i k,.agg (vO x A C)] w λr w'=>∃v,r=.returned v/\w'.ownsRow w.1.size 118 7 v (n+1) (cs.take (k*7)++[.s x.kind,.s x.name,.i x.ver,.i x.born,.s x.text,.bool x.ending,.l A x.hn C]++cs.drop (k*7))/\Below w.1.size w w':=by have hB:=Ae w (.cells (vO x A C) 118);have Da:=Ai (hst.grow hB);have HX:=Ai (Dk w (vO x A C) 118);clear hst;go_enter func160,ntmps160;go_wp2_with fail;refine lD (λ_=>undef) ad b off n cap k cs x A C _ (by exact Da) hk hl w.1.size (by exact HX) Ze rfl _ ?_;exact aP
def bY (ad:OA) (b off n cap k:Nat) (cs:List Value) (W:World) (i:Nat) (v:Value) (X:World):Prop:=match i with
 |0=>v=.l ad n cap
 |1=>v=.i k
 |2=>v=.l ad k cap
 |3=>v=.l ad n cap
 |4=>v=.i k
 |5=>v=.i ((k:Int)+1)
 |6=>v=.l (Is ad b off cap (k+1) 7) (n-(k+1)) (cap-(k+1))
 |7=>∃b3,v=.l (some ⟨b3,0,none⟩) 2 2/\b3<X.1.size/\CH X b3 #[.l ad k cap,.l (Is ad b off cap (k+1) 7) (n-(k+1)) (cap-(k+1))]
 |8=>X.ownsRow W.1.size 118 7 v (n-1) (cs.take (k*7)++cs.drop ((k+1)*7))
 |_=>True
theorem kS{p2 p3 p4:Value}{mk:(Nat->Value)->Array Value}(t0:Nat->Value) (ad:OA) (b off n cap k:Nat) (cs:List Value) (W:World) (hst:DT W 7 ad b off n cap cs) (hk:k<n) (hl:(n:Int)<=1099511627775) (hmk:mk=λt=>#[.l ad n cap,.i k,p2,p3,p4,t 0,t 1,t 2,t 3,t 4,t 5,t 6,t 7,t 8]) (Q:Exit->Act->World->Prop) (hQ:∀(t:Nat->Value) (vv:Value) X,Below W.1.size W X->X.ownsRow W.1.size 118 7 vv (n-1) (cs.take (k*7)++cs.drop ((k+1)*7))->Q .normal ⟨#[.l ad n cap,.i k,p2,p3,vv,t 0,t 1,t 2,t 3,t 4,t 5,t 6,t 7,t 8],[]⟩ X):Code.wp prog (rg Tryz.f159 1) Q ⟨mk t0,[]⟩ W:=by
 refine Et Zc 9 mk t0 (bY ad b off n cap k cs W) (λa X=>∃(t:Nat->Value) (vv:Value),a=⟨#[.l ad n cap,.i k,p2,p3,vv,t 0,t 1,t 2,t 3,t 4,t 5,t 6,t 7,t 8],[]⟩/\Below W.1.size W X/\X.ownsRow W.1.size 118 7 vv (n-1) (cs.take (k*7)++cs.drop ((k+1)*7))) Zc Zc Zc ?_ rfl ?_ ?_ ?_;all_goals subst hmk
 .intro i v X Y hi h hb;rcases(show i=0\/i=1\/i=2\/i=3\/i=4\/i=5\/i=6\/i=7\/i=8 by omega)with rfl|rfl|rfl|rfl|rfl|rfl|rfl|rfl|rfl;.exact h
  .exact h
  .exact h
  .exact h
  .exact h
  .exact h
  .exact h
  .obtain⟨b3,e1,e2,e3⟩:=h;exact⟨b3,e1,Aa e2 hb.size,e3.below hb e2⟩
  .exact DA h hb
 .intro i hi t X K hb hg hK;rcases(show i=0\/i=1\/i=2\/i=3\/i=4\/i=5\/i=6\/i=7\/i=8 by omega)with rfl|rfl|rfl|rfl|rfl|rfl|rfl|rfl|rfl;.exact sg
  .exact sg
  .have e0:t 0=_:=hg 0 (AX rfl);have e1:t 1=_:=hg 1 (AX rfl);have h:=hK _ X rfl BF;refine Am rfl rfl ?_;clear hK hg;rcases hst.src with⟨_,h0,_⟩|⟨rfl,hc,_,_⟩;.omega
   .have hkc:k<=cap:=Za;go_simp;simpa[AF,e0,e1]using h
  .exact sg
  .exact sg
  .have e4:t 4=_:=hg 4 (AX rfl);have hk2:(k:Int)+1<=1099511627776:=Za;have hw:IntKind.i64.wrap ((k:Int)+1)=(k:Int)+1:=BV _ ⟨Za,Za⟩;have h:=hK _ X rfl BF;refine Am rfl rfl ?_;clear hK hg;go_simp;simpa[AF,e4,hw]using h
  .have e3:t 3=_:=hg 3 (AX rfl);have e5:t 5=_:=hg 5 (AX rfl);have h:=hK _ X rfl BF;refine Am rfl rfl ?_;clear hK hg;unfold Is at h;rcases hst.src with⟨_,h0,_⟩|⟨rfl,hc,_,_⟩;.omega
   .have hk3:(k:Int)+1<=cap:=Za;have hk4:((k:Int)+1).toNat=k+1:=Za;have hk5:(0:Int)<=(k:Int)+1:=Za;have hk6:(k:Int)+1<=(n:Int):=Za;by_cases hck:cap=k+1
    .subst hck;rw[if_pos rfl,show n-(k+1)=0 by omega,G2]at h;go_simp;simpa[AF,e3,e5,hk4,hk5,hk6]using h
    .rw[if_neg hck]at h;go_simp;simpa[AF,e3,e5,hk4,hk5,hk6]using h
  .have e2:t 2=_:=hg 2 (AX rfl);have e6:t 6=_:=hg 6 (AX rfl);have hB:=Ae X (.cells #[.l ad k cap,.l (Is ad b off cap (k+1) 7) (n-(k+1)) (cap-(k+1))] 31);have h:=hK (.l (some ⟨X.1.size,0,none⟩) 2 2) _ ⟨X.1.size,rfl,Ze,Dk X _ 31⟩ hB;refine Am rfl rfl ?_;clear hK hg;go_simp;simpa[AF,e2,e6]using h
  .obtain⟨b3,e7,z3,h3⟩:∃b3,t 7=.l (some ⟨b3,0,none⟩) 2 2/\b3<X.1.size/\CH X b3 #[.l ad k cap,.l (Is ad b off cap (k+1) 7) (n-(k+1)) (cap-(k+1))]:=hg 7 (AX rfl);refine Am rfl rfl ?_;have HK:=Ai hK;have Da:=Ai (hst.grow ((hb)));have H3:=Ai h3;clear hK hg h3;go_simp;go_at_call 187;refine(NW 2 (λj=>match j with|0=>ad|_=>Is ad b off cap (k+1) 7) (λj=>match j with|0=>k|_=>n-(k+1)) (λj=>match j with|0=>cap|_=>cap-(k+1)) (λj=>match j with|0=>cs.take (k*7)|_=>cs.drop ((k+1)*7)) b3 X z3 Za (λj hj=>?_) ⟨λj hj=>?_,λj hj=>?_,λj hj=>?_⟩ xX).mono ?_
   .rcases(show j=0\/j=1 by omega)with rfl|rfl;.exact H3 0
    .exact H3 1
   .rcases(show j=0\/j=1 by omega)with rfl|rfl;.exact(Da.take (Br hk)).1
    .exact(Da.drop (k:=k+1) hk).1
   .rcases(show j=0\/j=1 by omega)with rfl|rfl;.exact(Da.take (Br hk)).2.1
    .exact(Da.drop (k:=k+1) hk).2.1
   .rcases(show j=0\/j=1 by omega)with rfl|rfl;.exact(Da.take (Br hk)).2.2
    .exact(Da.drop (k:=k+1) hk).2.2
   .rintro r Y ⟨v,rfl,hown,hbY⟩;have hs:k+(n-(k+1))=n-1:=Za;rw[lX,ZP]at hown;have hown2:Y.ownsRow X.1.size 118 7 v (n-1) (cs.take (k*7)++cs.drop ((k+1)*7)):=by rw[<-hs];exact hown
    have h:=HK v Y (CD hown2 hb.size) hbY;simpa[AF,e7,e7]using h
 .intro t X K hb hg hK;have h:=hK ⟨#[.l ad n cap,.i k,p2,p3,t 8,t 0,t 1,t 2,t 3,t 4,t 5,t 6,t 7,t 8],[]⟩ X ⟨t,t 8,rfl,hb,hg 8 Za⟩;refine Am rfl rfl ?_;clear hK hg;go_simp;exact h
 .rintro a X ⟨t,vv,rfl,hb,ho⟩;exact hQ t vv X hb ho
theorem eT (ad:OA) (b off n cap k:Nat) (cs:List Value) (w:World) (hst:DT w 7 ad b off n cap cs) (hk:k<n) (hl:(n:Int)<=1099511627775):Calls prog 159 #[.l ad n cap,.i k] w λr w'=>∃v,r=.returned v/\w'.ownsRow w.1.size 118 7 v (n-1) (cs.take (k*7)++cs.drop ((k+1)*7))/\Below w.1.size w w':=by have Da:=Ai hst;clear hst;go_enter func159,ntmps159;go_wp2_with fail;refine kS (λ_=>undef) ad b off n cap k cs _ (by exact Da) hk hl rfl _ ?_;intro t v X hbX hown;have HO:=Ai hown;have hBX:=Ai hbX;clear hown hbX;go_wp2;go_ret;exact⟨_,rfl,HO,hBX⟩
theorem Xk (n:Nat) (w:World) (hn:(n:Int)<=1099511627776):Calls prog 209 #[.l none 0 0,.i n] w λe w'=>∃v,e=.returned v/\w'.ownsRow w.1.size 120 9 v 0 []/\Below w.1.size w w':=by
 rcases AW n with h00|h0;.subst h00;go_enter func209,ntmps209;go_wp2;go_ret;exact⟨_,rfl,⟨rfl,AD ⟨rfl,rfl⟩⟩,Ak _ _⟩
 obtain⟨i0,hi0,hz0,hz1,hz2⟩:=info_parts Eg;have hrz:∀ty,∃G cur,n<=G/\G<=maxLen/\cur.size=G*9/\(Builtin.append_ #[32,3] ty #[.l none 0 0,.i (n:Int)]).run prog w=.ok (.l (some ⟨w.1.size,0,none⟩) n G) (w.drew.alloc (.cells cur 120)):=λty=>by have h:=Lib.run_append_grow_zeros w 32 3 ty 120 i0 _ .i64 .i64 underlying32 underlying3 hi0 hz0 none 0 0 [] (run_firstCells_none w.drew i0.size 0 0 0) n h0 Za Za Za Sx (growslice_fits Za Sx);rw[Bc]at h;refine⟨_,_,grownCap_ge w _ _ _,grownCap_le_maxLen w n 0 120 Zn,?_,h⟩;have hG:=grownCap_ge w n 0 120;simp only[I8,Builtin.zeroCells,Array.size_map,Ox];simp[Value.cells];omega
 obtain⟨G,cur,hG1,hG2,hcur,hap⟩:=hrz 32;have h63:(G:Int)<=9223372036854775807:=by unfold maxLen at hG2;omega
 have HC:=Ai hcur;have HG:=Ai hG2;have oZ:=Ai hap;clear hap;clear hcur hG2 hrz hi0 hz0 hz1 hz2;go_enter func209,ntmps209;go_wp2_with (at_builtin;go_must(refine DD rfl _ _ 32 3 rfl _ _ _ rfl rfl oZ ?_));go_ret;exact⟨_,rfl,CE (base:=w.1.size) (e:=120) (size:=9) w.drew cur G Bj HG HC,((Ak _ _).drew).alloc Bj _⟩
theorem SU (q:Nat) (A:Nat->Option Addr) (M C:Nat->Nat) (news:Nat->List Value) (b:Nat) (w:World) (hb:b<w.1.size) (hq:(q:Int)<=1000) (hcell:∀j,j<q->w.cell? ⟨b,j,none⟩=some (.slice (A j) (M j) (C j))) (hsrc:lJ w 9 q A M C news) (hs1:(AN M q:Int)<=1099511627776):Calls prog 204 #[.l (some ⟨b,0,none⟩) q q] w λe w'=>∃v,e=.returned v/\w'.ownsRow w.1.size 120 9 v (AN M q) (DN news q)/\Below w.1.size w w':=by
 obtain⟨i0,hi0,hz0,hz1,hz2⟩:=info_parts Eg;have HC:=Ai hcell;have HS:=Ai hsrc;have hmo:∀k,k<=q->AN M k<=AN M q:=λk hk=>DX M hk;have HM:=Ai hmo;clear hcell hsrc hmo;go_enter func204,ntmps204;go_wp2;go_loopw[3,5,11](λs _ i wr=>∃k:Nat,k<=q/\i=.i k/\s=.i (AN M k:Nat)/\wr=w) (λ_ _ i _=>q-(intOf i).toNat);case atStart=>exact⟨0,Ap _,rfl,rfl,rfl⟩
 case round=>
  obtain⟨k,hk,rfl,rfl,rfl⟩:=hrel;by_cases hkq:k<q;.exact gE
  .obtain rfl:k=q:=Za;have hs2:¬(AN M k:Int)<0:=Za;go_wp2_with (go_at_call 209;go_must(refine(Xk (AN M k) _ hs1).mono ?_;rintro e w1 ⟨v1,rfl,hown1,hb1⟩));have Oz:=Ai hown1;clear hown1;obtain⟨W0,hW0⟩:∃W0,W0=wr:=⟨_,rfl⟩;subst hW0;go_loopw[6,8,27](λv _ i wr=>∃j:Nat,j<=k/\i=.i j/\Hid (wr.ownsRow W0.1.size 120 9 v (AN M j) (DN news j))/\Below W0.1.size W0 wr) (λ_ _ i _=>k-(intOf i).toNat);case atStart=>exact⟨0,Ap _,rfl,Oz,hb1⟩
   case round=>
    clear Oz hb1 hkq;obtain⟨j,hj,rfl,Gi,hbr⟩:=hrel;by_cases hjk:j<k
    .have c0:=(hbr.cell (p:=⟨b,j,none⟩) hb).trans (HC j hjk);have hm:=HM (j+1) hjk;have hms:AN M (j+1)=AN M j+M j:=rfl;rw[hms]at hm;have wE:=Ai hms;have hjz:(j:Int)<k:=Za;have hbw:b<wr.1.size:=Aa hb hbr.size;clear hms;rcases HS.src j hjk with⟨hA,hM0,hC0⟩|⟨sb,off,hA,hsb,hcs⟩
     .rw[hA,hM0,hC0]at c0;have hnil:news j=[]:=It.1 (by rw[HS.len j hjk,hM0,DF]);have HN:=Ai hnil;have W3:=Ai hM0;clear hA hM0 hC0 hnil;go_wp2_with (at_builtin;go_must(refine wpList_append_own_none rfl _ _ 32 rfl W0.1.size 120 i0 9 underlying32 hi0 _ (AN M j) (DN news j) rfl Gi rfl ?_));go_roundw;case rel=>exact⟨j+1,hjk,by go_num,(show Hid _ from by show wr.ownsRow W0.1.size 120 9 _ (AN M j+M j) (DN news j++news j);rw[HN.out,W3.out,FP];exact Gi),hbr⟩
      case measure=>simp[intOf];omega
     .rw[hA]at c0;have oR:=Ai (show∀t u,(news j)[t]?=some u->wr.cell? ((⟨sb,off,none⟩:Addr).add t)=some u from λt u h=>by rw[Addr.add_lit];exact(hbr.cell (p:=⟨sb,off+t,none⟩) hsb).trans (hcs t u h));clear hcs hA;go_wp2_with (at_builtin;go_must(refine wpList_append_own_at _ rfl _ _ 32 rfl W0.1.size 120 i0 _ 9 112 underlying32 hi0 hz0 hz1 hz2 rfl Zb _ (AN M j) (DN news j) rfl Gi ⟨sb,off,none⟩ (M j) (C j) (news j) rfl (HS.len j hjk) oR (HS.one j hjk) Zn Za hbr.size ?_;intro v' w2 hown2 hgrow2 hnil2 hat2;clear hnil2 hat2));have B2:Below W0.1.size W0 w2:=hbr.trans ((Cn hgrow2).below (λq hq e=>by have:=(Gi.lt q e).1;omega) hbr.size);have Um:Hid (w2.ownsRow W0.1.size 120 9 v' (AN M (j+1)) (DN news (j+1))):=hown2;clear hown2 hgrow2;go_wp2;go_roundw;case rel=>exact⟨j+1,hjk,by go_num,Um,B2⟩
      case measure=>simp[intOf];omega
    .obtain rfl:j=k:=Za;go_wp2;go_ret;exact⟨_,rfl,Gi,hbr⟩
def ZQ (ad:OA) (b off n cap k:Nat) (cs:List Value) (x:Ch) (A:OA) (C:Nat) (W:World) (i:Nat) (v:Value) (X:World):Prop:=match i with
 |0=>v=.l ad n cap
 |1=>v=.i k
 |2=>v=.l ad k cap
 |3=>v=.agg #[.i x.ver,.bool x.gone,.s x.ob.kind,.s x.ob.name,.i x.ob.ver,.i x.ob.born,.s x.ob.text,.bool x.ob.ending,.l A x.ob.hn C]
 |4=>∃b1,v=.l (some ⟨b1,0,none⟩) 1 1/\b1<X.1.size/\CH X b1 #[.i x.ver,.bool x.gone,.s x.ob.kind,.s x.ob.name,.i x.ob.ver,.i x.ob.born,.s x.ob.text,.bool x.ob.ending,.l A x.ob.hn C]
 |5=>v=.l ad n cap
 |6=>v=.i k
 |7=>v=.l (Is ad b off cap k 9) (n-k) (cap-k)
 |8=>∃b3 b1,v=.l (some ⟨b3,0,none⟩) 3 3/\b3<X.1.size/\b1<X.1.size/\CH X b1 #[.i x.ver,.bool x.gone,.s x.ob.kind,.s x.ob.name,.i x.ob.ver,.i x.ob.born,.s x.ob.text,.bool x.ob.ending,.l A x.ob.hn C]/\CH X b3 #[.l ad k cap,.l (some ⟨b1,0,none⟩) 1 1,.l (Is ad b off cap k 9) (n-k) (cap-k)]
 |9=>X.ownsRow W.1.size 120 9 v (n+1) (cs.take (k*9)++[.i x.ver,.bool x.gone,.s x.ob.kind,.s x.ob.name,.i x.ob.ver,.i x.ob.born,.s x.ob.text,.bool x.ob.ending,.l A x.ob.hn C]++cs.drop (k*9))
 |_=>True
theorem kL{p3 p4 p6:Value}{mk:(Nat->Value)->Array Value}(t0:Nat->Value) (ad:OA) (b off n cap k:Nat) (cs:List Value) (x:Ch) (A:OA) (C:Nat) (W:World) (hst:DT W 9 ad b off n cap cs) (hk:k<=n) (hl:(n:Int)<=1099511627775) (bx:Nat) (hbx:CH W bx #[.i x.ver,.bool x.gone,.s x.ob.kind,.s x.ob.name,.i x.ob.ver,.i x.ob.born,.s x.ob.text,.bool x.ob.ending,.l A x.ob.hn C]) (hb0:bx<W.1.size) (hmk:mk=λt=>#[.l ad n cap,.i k,.agg #[.i x.ver,.bool x.gone,.s x.ob.kind,.s x.ob.name,.i x.ob.ver,.i x.ob.born,.s x.ob.text,.bool x.ob.ending,.l A x.ob.hn C],p3,p4,.p bx 0,p6,t 0,t 1,t 2,t 3,t 4,t 5,t 6,t 7,t 8,t 9]) (Q:Exit->Act->World->Prop) (hQ:∀(t:Nat->Value) (vv:Value) X,Below W.1.size W X->X.ownsRow W.1.size 120 9 vv (n+1) (cs.take (k*9)++[.i x.ver,.bool x.gone,.s x.ob.kind,.s x.ob.name,.i x.ob.ver,.i x.ob.born,.s x.ob.text,.bool x.ob.ending,.l A x.ob.hn C]++cs.drop (k*9))->Q .normal ⟨#[.l ad n cap,.i k,.agg #[.i x.ver,.bool x.gone,.s x.ob.kind,.s x.ob.name,.i x.ob.ver,.i x.ob.born,.s x.ob.text,.bool x.ob.ending,.l A x.ob.hn C],p3,p4,.p bx 0,vv,t 0,t 1,t 2,t 3,t 4,t 5,t 6,t 7,t 8,t 9],[]⟩ X):Code.wp prog (rg Tryz.f188 1) Q ⟨mk t0,[]⟩ W:=by
 refine Et Zc 10 mk t0 (ZQ ad b off n cap k cs x A C W) (λa X=>∃(t:Nat->Value) (vv:Value),a=⟨#[.l ad n cap,.i k,.agg #[.i x.ver,.bool x.gone,.s x.ob.kind,.s x.ob.name,.i x.ob.ver,.i x.ob.born,.s x.ob.text,.bool x.ob.ending,.l A x.ob.hn C],p3,p4,.p bx 0,vv,t 0,t 1,t 2,t 3,t 4,t 5,t 6,t 7,t 8,t 9],[]⟩/\Below W.1.size W X/\X.ownsRow W.1.size 120 9 vv (n+1) (cs.take (k*9)++[.i x.ver,.bool x.gone,.s x.ob.kind,.s x.ob.name,.i x.ob.ver,.i x.ob.born,.s x.ob.text,.bool x.ob.ending,.l A x.ob.hn C]++cs.drop (k*9))) Zc Zc Zc ?_ rfl ?_ ?_ ?_;all_goals subst hmk
 .exact g7
 .intro i hi t X K hb hg hK;rcases(show i=0\/i=1\/i=2\/i=3\/i=4\/i=5\/i=6\/i=7\/i=8\/i=9 by omega)with rfl|rfl|rfl|rfl|rfl|rfl|rfl|rfl|rfl|rfl;.exact sg
  .exact sg
  .exact fO
  .have HB:=hbx.below hb hb0;have q0:=HB 0;have q1:=HB 1;have q2:=HB 2;have q3:=HB 3;have q4:=HB 4;have q5:=HB 5;have q6:=HB 6;have q7:=HB 7;have q8:=HB 8;simp only[Ah,Ad,Ab]at q0 q1 q2 q3 q4 q5 q6 q7 q8;exact aO
  .have e3:t 3=_:=hg 3 (AX rfl);have h:=hK (.l (some ⟨X.1.size,0,none⟩) 1 1) (X.alloc (.cells #[.i x.ver,.bool x.gone,.s x.ob.kind,.s x.ob.name,.i x.ob.ver,.i x.ob.born,.s x.ob.text,.bool x.ob.ending,.l A x.ob.hn C] 120)) ⟨X.1.size,rfl,Ze,Dk X _ 120⟩ FU;refine Am rfl rfl ?_;clear hK hg;go_simp;simpa[AF,e3]using h
  .exact sg
  .exact sg
  .exact cB
  .have e2:t 2=_:=hg 2 (AX rfl);obtain⟨b1,e4,z1,h1⟩:∃b1,t 4=.l (some ⟨b1,0,none⟩) 1 1/\b1<X.1.size/\CH X b1 #[.i x.ver,.bool x.gone,.s x.ob.kind,.s x.ob.name,.i x.ob.ver,.i x.ob.born,.s x.ob.text,.bool x.ob.ending,.l A x.ob.hn C]:=hg 4 (AX rfl);have e7:t 7=_:=hg 7 (AX rfl);have hB:=Ae X (.cells #[.l ad k cap,.l (some ⟨b1,0,none⟩) 1 1,.l (Is ad b off cap k 9) (n-k) (cap-k)] 32);have h:=hK (.l (some ⟨X.1.size,0,none⟩) 3 3) _ ⟨X.1.size,b1,rfl,Ze,Aa z1 hB.size,h1.below hB z1,Dk X _ 32⟩ hB;refine Am rfl rfl ?_;clear hK hg;go_simp;simpa[AF,e2,e4,e7]using h
  .obtain⟨b3,b1,e8,z3,z1,h1,h3⟩:∃b3 b1,t 8=.l (some ⟨b3,0,none⟩) 3 3/\b3<X.1.size/\b1<X.1.size/\CH X b1 #[.i x.ver,.bool x.gone,.s x.ob.kind,.s x.ob.name,.i x.ob.ver,.i x.ob.born,.s x.ob.text,.bool x.ob.ending,.l A x.ob.hn C]/\CH X b3 #[.l ad k cap,.l (some ⟨b1,0,none⟩) 1 1,.l (Is ad b off cap k 9) (n-k) (cap-k)]:=hg 8 (AX rfl);refine Am rfl rfl ?_;have HK:=Ai hK;have Da:=Ai (hst.grow ((hb)));have H1:=Ai h1;have H3:=Ai h3;clear hK hg h1 h3;go_simp;go_at_call 204;refine(SU 3 (λj=>match j with|0=>ad|1=>some ⟨b1,0,none⟩|_=>Is ad b off cap k 9) (λj=>match j with|0=>k|1=>1|_=>n-k) (λj=>match j with|0=>cap|1=>1|_=>cap-k) (λj=>match j with|0=>cs.take (k*9)|1=>[.i x.ver,.bool x.gone,.s x.ob.kind,.s x.ob.name,.i x.ob.ver,.i x.ob.born,.s x.ob.text,.bool x.ob.ending,.l A x.ob.hn C]|_=>cs.drop (k*9)) b3 X z3 Za (λj hj=>?_) ⟨λj hj=>?_,λj hj=>?_,λj hj=>?_⟩ uK).mono ?_
   .rcases(show j=0\/j=1\/j=2 by omega)with rfl|rfl|rfl;.exact H3 0
    .exact H3 1
    .exact H3 2
   .rcases(show j=0\/j=1\/j=2 by omega)with rfl|rfl|rfl;.exact(Da.take hk).1
    .rfl
    .exact(Da.drop hk).1
   .rcases(show j=0\/j=1\/j=2 by omega)with rfl|rfl|rfl;.exact(Da.take hk).2.1
    .intro u hu;simp at hu;rcases hu with rfl|rfl|rfl|rfl|rfl|rfl|rfl|rfl|rfl<;>rfl
    .exact(Da.drop hk).2.1
   .exact dA
   .rintro r Y ⟨v,rfl,hown,hbY⟩;have hs:k+1+(n-k)=n+1:=Za;rw[fN,VV]at hown;have hown2:Y.ownsRow X.1.size 120 9 v (n+1) (cs.take (k*9)++[.i x.ver,.bool x.gone,.s x.ob.kind,.s x.ob.name,.i x.ob.ver,.i x.ob.born,.s x.ob.text,.bool x.ob.ending,.l A x.ob.hn C]++cs.drop (k*9)):=by rw[<-hs];exact hown
    have h:=HK v Y (CD hown2 hb.size) hbY;simpa[AF,e8,e8]using h
 .intro t X K hb hg hK;have h:=hK ⟨#[.l ad n cap,.i k,.agg #[.i x.ver,.bool x.gone,.s x.ob.kind,.s x.ob.name,.i x.ob.ver,.i x.ob.born,.s x.ob.text,.bool x.ob.ending,.l A x.ob.hn C],p3,p4,.p bx 0,t 9,t 0,t 1,t 2,t 3,t 4,t 5,t 6,t 7,t 8,t 9],[]⟩ X ⟨t,t 9,rfl,hb,hg 9 Za⟩;refine Am rfl rfl ?_;clear hK hg;go_simp;exact h
 .rintro a X ⟨t,vv,rfl,hb,ho⟩;exact hQ t vv X hb ho
theorem Tj (ad:OA) (b off n cap k:Nat) (cs:List Value) (x:Ch) (A:OA) (C:Nat) (w:World) (hst:DT w 9 ad b off n cap cs) (hk:k<=n) (hl:(n:Int)<=1099511627775):Calls prog 188 #[.l ad n cap,.i k,.agg #[.i x.ver,.bool x.gone,.s x.ob.kind,.s x.ob.name,.i x.ob.ver,.i x.ob.born,.s x.ob.text,.bool x.ob.ending,.l A x.ob.hn C]] w λr w'=>∃v,r=.returned v/\w'.ownsRow w.1.size 120 9 v (n+1) (cs.take (k*9)++[.i x.ver,.bool x.gone,.s x.ob.kind,.s x.ob.name,.i x.ob.ver,.i x.ob.born,.s x.ob.text,.bool x.ob.ending,.l A x.ob.hn C]++cs.drop (k*9))/\Below w.1.size w w':=by have hB:=Ae w (.cells #[.i x.ver,.bool x.gone,.s x.ob.kind,.s x.ob.name,.i x.ob.ver,.i x.ob.born,.s x.ob.text,.bool x.ob.ending,.l A x.ob.hn C] 120);have Da:=Ai (hst.grow hB);have HX:=Ai (Dk w #[.i x.ver,.bool x.gone,.s x.ob.kind,.s x.ob.name,.i x.ob.ver,.i x.ob.born,.s x.ob.text,.bool x.ob.ending,.l A x.ob.hn C] 120);clear hst;go_enter func188,ntmps188;go_wp2_with fail;refine kL (λ_=>undef) ad b off n cap k cs x A C _ (by exact Da) hk hl w.1.size (by exact HX) Ze rfl _ ?_;exact aP
end Go.Proofs.YtllmmkchokkaaaaGreatDoor
