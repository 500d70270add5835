import Derived.Test.YtofencldleijcaaGreatPk01
import Derived.Test.YtofencldleijcaaGreatPk03
import Derived.Test.YtofencldleijcaaGreatPk02
import Derived.Laws.BitsLemmas
import Derived.Lib.ItoaNum
import Derived.Deep.RegionWith
import Derived.Deep.AppendSrc
import Derived.Deep.RegionLaw
import Derived.Lib.UnsafeStr
import Derived.Lib.Join
import Derived.Test.YtofencldleijcaaGreatRows
import Derived.Lib.AppendIntMem
import Derived.Lib.AppendStr
import Derived.Laws.Externs
import Derived.Shelf.RegionOpenPlain
set_option maxRecDepth 100000
set_option maxHeartbeats 4000000
namespace Go.Proofs.YtofencldleijcaaGreat
open Go.RowKit Go.Proofs.Tryz
structure AB (P:Nat->Prop)(w w':World):Prop where
 os:w'.os=w.os
 tape:w'.tape=w.tape
 output:w'.output=w.output
 size:w.1.size<=w'.1.size
 block:∀k,k<w.1.size->¬P k->w'.heap[k]?=w.heap[k]?
theorem AB.refl (P:Nat->Prop)(w:World):AB P w w:=⟨rfl,rfl,rfl,Az _,λ_ _ _=>rfl⟩
theorem AB.trans{P:Nat->Prop}{a b c:World}(h:AB P a b)(k:AB P b c):AB P a c:=⟨k.os.trans h.os,k.tape.trans h.tape,k.output.trans h.output,AG h.size k.size,λi hi ho=>(k.block i (Ad hi h.size) ho).trans (h.block i hi ho)⟩
theorem Ap{P:Nat->Prop}{w w':World}(h:Below w.1.size w w'):AB P w w':=⟨h.os,h.tape,h.output,h.size,λi hi _=>h.block i hi⟩
theorem AB.mono{P Q:Nat->Prop}{w w':World}(h:AB P w w')(e:∀k,P k->Q k):AB Q w w':=⟨h.os,h.tape,h.output,h.size,λi hi hq=>h.block i hi (λhp=>hq (e i hp))⟩
theorem AB.setCell{P:Nat->Prop}{a w:World}(h:AB P a w){p:Addr}(hp:P p.block)(u:Value):AB P a (w.setCell p u):=h.trans ⟨rfl,rfl,rfl,by simp[World.setCell],λk _ ho=>Below.heap_setCell _ _ _ _ (λe=>ho (e▸hp))⟩
theorem AB.cell{P:Nat->Prop}{w w':World}(h:AB P w w'){p:Addr}(hp:p.block<w.1.size)(ho:¬P p.block):w'.cell? p=w.cell? p:=World.cell?_of_block (w:=w) (h.block p.block hp ho)
theorem AB.frozen{P:Nat->Prop}{w w':World}(h:AB P w w'){p:Addr}(hp:p.block<w.1.size)(ho:¬P p.block):w'.frozen? p=w.frozen? p:=World.frozen?_of_block (w:=w) (h.block p.block hp ho)
theorem AB.below{P:Nat->Prop}{w w':World}(h:AB P w w'){B:Nat}(hB:∀k,k<B->¬P k)(hs:B<=w.1.size):Below B w w':=⟨h.os,h.tape,h.output,h.size,λk hk=>h.block k Zb (hB k hk)⟩
theorem LY{P:Nat->Prop}{lo hi:Nat}{w w':World}(h:Fr lo hi w w')(e:∀k,lo<=k->k<hi->P k):AB P w w':=⟨h.os,h.tape,h.output,h.size,λk hk ho=>h.block k hk (by
 rcases At k lo with h1|h1;.exact AO h1
 .rcases At k hi with h2|h2;.exact absurd (e k h1 h2) ho
  .exact AD h2)⟩
structure AM (w:World)(g m:Nat)(c:Nat->Value):Prop where
 lt:g<w.1.size
 free:∀j,w.frozen? ⟨g,j,none⟩=false
 cell:∀j,j<m->w.cell? ⟨g,j,none⟩=some (c j)
def Jm (c:Nat->Value)(o:Nat)(v:Value):Nat->Value:=λj=>if j=o then v else c j
theorem AM.set{w:World}{g m:Nat}{c:Nat->Value}(h:AM w g m c){o:Nat}(ho:o<m)(v:Value):AM (w.setCell ⟨g,o,none⟩ v) g m (Jm c o v):=⟨by rw[Bi];exact h.lt,λj=>by rw[World.frozen?_setCell];exact h.free j,λj hj=>by
  unfold Jm;by_cases e:j=o;.subst e;rw[if_pos rfl];exact Ha _ _ _ (h.cell j hj)
  .rw[if_neg e,Bn _ _ _ _ (λq=>e (by injection q with _ q2;exact q2.symm))];exact h.cell j hj⟩
theorem AM.below{w w':World}{g m B:Nat}{c:Nat->Value}(h:AM w g m c)(hb:Below B w w')(hB:g<B):AM w' g m c:=⟨Ad h.lt hb.size,λj=>(hb.frozen (p:=⟨g,j,none⟩) hB).trans (h.free j),λj hj=>(hb.cell (p:=⟨g,j,none⟩) hB).trans (h.cell j hj)⟩
theorem AM.fr{w w':World}{g m:Nat}{c:Nat->Value}{P:Nat->Prop}(h:AM w g m c)(hb:AB P w w')(hg:¬P g):AM w' g m c:=⟨Ad h.lt hb.size,λj=>(hb.frozen (p:=⟨g,j,none⟩) h.lt hg).trans (h.free j),λj hj=>(hb.cell (p:=⟨g,j,none⟩) h.lt hg).trans (h.cell j hj)⟩
theorem Bd.frP{w w':World}{b:Nat}{ad:OA}{n:Nat}{s:Nat->ByteArray}{P:Nat->Prop}(h:Bd w b (b+1) ad n s)(hb:AB P w w')(hn:n≠0->¬P b/\b<w.1.size):Bd w' b (b+1) ad n s:=λi hi=>by obtain⟨q,off,e1,e2,e3,e4,e5⟩:=h i hi;have:q=b:=Zb;subst this;obtain⟨h1,h2⟩:=hn Zb;exact⟨q,off,e1,e2,e3,(hb.cell (p:=⟨q,off+i,none⟩) h2 h1).trans e4,(hb.frozen (p:=⟨q,off+i,none⟩) h2 h1).trans e5⟩
structure Nl (g n:Nat)(N:Nat->Nat)(hb:Nat->Nat):Prop where
 ne:∀i,i<n->N i≠0->hb i≠g
 inj:∀i j,i<n->j<n->N i≠0->N j≠0->hb i=hb j->i=j
theorem Nl.congr{g n:Nat}{N N':Nat->Nat}{hb:Nat->Nat}(h:Nl g n N hb)(e:∀i,N i=N' i):Nl g n N' hb:=by have:N=N':=funext e;subst this;exact h
def Gy (g n:Nat)(N:Nat->Nat)(hb:Nat->Nat)(k:Nat):Prop:=(0<n/\k=g)\/∃i,i<n/\N i≠0/\k=hb i
theorem JM (a b:Nat):(a:Int).tmod b=((a%b:Nat):Int):=rfl
theorem bE (x:Nat)(h:x<1000000000):∃y:Nat,bits .xor .i64 (x:Int) ((x:Int)/64)=y:=by have hk:∀n:Int,0<=n->n<2^62->IntKind.i64.wrap n=n:=λn h0 h1=>AE _ ⟨Zb,Zb⟩;have e:((x:Int)/64)=((x/64:Nat):Int):=Zb;rw[e];have ha':x%2^IntKind.i64.bits=x:=Nat.mod_eq_of_lt (by show x<18446744073709551616;omega);have hb':x/64%2^IntKind.i64.bits=x/64:=Nat.mod_eq_of_lt (by show x/64<18446744073709551616;omega);have hx:x^^^(x/64)<2^62:=Nat.xor_lt_two_pow Zb Zb;refine⟨x^^^(x/64),?_⟩;simp only[bits,BitVec.ofInt_natCast,BitVec.toNat_xor,BitVec.toNat_ofNat,ha',hb'];exact hk _ (Int.natCast_nonneg _) (by exact_mod_cast hx)
theorem Y5 (a b:Nat):(a:Int).tdiv b=((a/b:Nat):Int):=rfl
def ZO (R b off n cap p q1 q2 q3 va vb:Nat)(_W:World)(i:Nat)(v:Value)(_X:World):Prop:=match i with
 |0=>v=.p R 0
 |1=>v=.p R 0
 |2=>v=.p R 0
 |3=>v=.l (some ⟨b,off,none⟩) n cap
 |4=>v=.i ((p:Nat):Int)
 |5=>v=.p R 0
 |6=>v=.p R 0
 |7=>v=.p R 0
 |8=>v=.l (some ⟨b,off,none⟩) n cap
 |9=>v=.i ((n:Nat):Int)
 |10=>v=.i ((q1:Nat):Int)
 |11=>v=.pointer (some ⟨b,off+q1,none⟩)
 |12=>v=.int .u8 ((va:Nat):Int)
 |13=>v=.i ((va:Nat):Int)
 |14=>v=.i ((va*131:Nat):Int)
 |15=>v=.p R 0
 |16=>v=.p R 0
 |17=>v=.p R 0
 |18=>v=.l (some ⟨b,off,none⟩) n cap
 |19=>v=.i ((p:Nat):Int)
 |20=>v=.i ((p*7:Nat):Int)
 |21=>v=.i ((p*7+3:Nat):Int)
 |22=>v=.p R 0
 |23=>v=.p R 0
 |24=>v=.p R 0
 |25=>v=.l (some ⟨b,off,none⟩) n cap
 |26=>v=.i ((n:Nat):Int)
 |27=>v=.i ((q2:Nat):Int)
 |28=>v=.pointer (some ⟨b,off+q2,none⟩)
 |29=>v=.int .u8 ((vb:Nat):Int)
 |30=>v=.i ((vb:Nat):Int)
 |31=>v=.i ((vb*1117:Nat):Int)
 |32=>v=.i ((va*131+vb*1117:Nat):Int)
 |33=>v=.i ((p:Nat):Int)
 |34=>v=.i ((p*29:Nat):Int)
 |35=>v=.i ((va*131+vb*1117+p*29:Nat):Int)
 |36=>v=.i ((p:Nat):Int)
 |37=>v=.p R 0
 |38=>v=.p R 0
 |39=>v=.p R 0
 |40=>v=.l (some ⟨b,off,none⟩) n cap
 |41=>v=.i ((n:Nat):Int)
 |42=>v=.i ((q3:Nat):Int)
 |43=>v=.i ((q3*53:Nat):Int)
 |44=>v=.i ((va*131+vb*1117+p*29+q3*53:Nat):Int)
 |_=>True
theorem gO{p2 p3 p4 p6 p7 p8 p9 DA Du DC Dx Da CY CV CX CW CR C4 CU CS CQ Dl C6 Db C9 C7 Dj Dg Df Dk Dh De Dt Di Dy DB EF EI EK EL EJ EE Ej Ei Iy Iq Is Iw Ir Iz Ip:Value}{mk:(Nat->Value)->Array Value}(t0:Nat->Value)(R b off n cap p q1 q2 q3 va vb:Nat)(W:World)(m:Int)(hR:R<W.1.size)(hB:b<W.1.size)(hc:W.cell? ⟨R,0,none⟩=some (.slice (some ⟨b,off,none⟩) n cap))(ha:W.cell? ⟨b,off+q1,none⟩=some (.int .u8 ((va:Nat):Int)))(hv:W.cell? ⟨b,off+q2,none⟩=some (.int .u8 ((vb:Nat):Int)))(hn0:0<n)(hn:n<=2000)(hp:p<=1000000)(h1:va<256)(h2:vb<256)(m1:(p:Int).tmod n=q1)(m2:((p:Int)*7+3).tmod n=q2)(m3:(p:Int).tdiv n=q3)(l1:q1<n)(l2:q2<n)(l3:q3<=p)(hmk:mk=λt=>#[.p R 0,.i m,p2,p3,p4,.i ((p:Nat):Int),p6,p7,p8,p9,DA,Du,DC,Dx,Da,CY,CV,CX,CW,CR,C4,CU,CS,CQ,Dl,C6,Db,C9,C7,Dj,Dg,Df,Dk,Dh,De,Dt,Di,Dy,DB,EF,EI,EK,EL,EJ,EE,Ej,Ei,t 0,t 1,t 2,t 3,t 4,t 5,t 6,t 7,t 8,t 9,t 10,t 11,t 12,t 13,t 14,t 15,t 16,t 17,t 18,t 19,t 20,t 21,t 22,t 23,t 24,t 25,t 26,t 27,t 28,t 29,t 30,t 31,t 32,t 33,t 34,t 35,t 36,t 37,t 38,t 39,t 40,t 41,t 42,t 43,t 44,Iy,Iq,Is,Iw,Ir,Iz,Ip])(Q:Exit->Act->World->Prop)(hQ:∀(t:Nat->Value) X,Below W.1.size W X->Q .normal ⟨#[.p R 0,.i m,p2,p3,p4,.i ((p:Nat):Int),.i ((va*131+vb*1117+p*29+q3*53:Nat):Int),p7,p8,p9,DA,Du,DC,Dx,Da,CY,CV,CX,CW,CR,C4,CU,CS,CQ,Dl,C6,Db,C9,C7,Dj,Dg,Df,Dk,Dh,De,Dt,Di,Dy,DB,EF,EI,EK,EL,EJ,EE,Ej,Ei,t 0,t 1,t 2,t 3,t 4,t 5,t 6,t 7,t 8,t 9,t 10,t 11,t 12,t 13,t 14,t 15,t 16,t 17,t 18,t 19,t 20,t 21,t 22,t 23,t 24,t 25,t 26,t 27,t 28,t 29,t 30,t 31,t 32,t 33,t 34,t 35,t 36,t 37,t 38,t 39,t 40,t 41,t 42,t 43,t 44,Iy,Iq,Is,Iw,Ir,Iz,Ip],[]⟩ X):Code.wp prog (rg Tryz.f12 7) Q ⟨mk t0,[]⟩ W:=by
 refine Lm Ze 45 mk t0 (ZO R b off n cap p q1 q2 q3 va vb W) (λa X=>∃(t:Nat->Value),a=⟨#[.p R 0,.i m,p2,p3,p4,.i ((p:Nat):Int),.i ((va*131+vb*1117+p*29+q3*53:Nat):Int),p7,p8,p9,DA,Du,DC,Dx,Da,CY,CV,CX,CW,CR,C4,CU,CS,CQ,Dl,C6,Db,C9,C7,Dj,Dg,Df,Dk,Dh,De,Dt,Di,Dy,DB,EF,EI,EK,EL,EJ,EE,Ej,Ei,t 0,t 1,t 2,t 3,t 4,t 5,t 6,t 7,t 8,t 9,t 10,t 11,t 12,t 13,t 14,t 15,t 16,t 17,t 18,t 19,t 20,t 21,t 22,t 23,t 24,t 25,t 26,t 27,t 28,t 29,t 30,t 31,t 32,t 33,t 34,t 35,t 36,t 37,t 38,t 39,t 40,t 41,t 42,t 43,t 44,Iy,Iq,Is,Iw,Ir,Iz,Ip],[]⟩/\Below W.1.size W X) Ze Ze Ze ?_ rfl ?_ ?_ ?_;all_goals subst hmk
 .intro i v X Y hi7 h hb;rcases(show i=0\/i=1\/i=2\/i=3\/i=4\/i=5\/i=6\/i=7\/i=8\/i=9\/i=10\/i=11\/i=12\/i=13\/i=14\/i=15\/i=16\/i=17\/i=18\/i=19\/i=20\/i=21\/i=22\/i=23\/i=24\/i=25\/i=26\/i=27\/i=28\/i=29\/i=30\/i=31\/i=32\/i=33\/i=34\/i=35\/i=36\/i=37\/i=38\/i=39\/i=40\/i=41\/i=42\/i=43\/i=44 by omega)with rfl|rfl|rfl|rfl|rfl|rfl|rfl|rfl|rfl|rfl|rfl|rfl|rfl|rfl|rfl|rfl|rfl|rfl|rfl|rfl|rfl|rfl|rfl|rfl|rfl|rfl|rfl|rfl|rfl|rfl|rfl|rfl|rfl|rfl|rfl|rfl|rfl|rfl|rfl|rfl|rfl|rfl|rfl|rfl|rfl;.exact h
  .exact h
  .exact h
  .exact h
  .exact h
  .exact h
  .exact h
  .exact h
  .exact h
  .exact h
  .exact h
  .exact h
  .exact h
  .exact h
  .exact h
  .exact h
  .exact h
  .exact h
  .exact h
  .exact h
  .exact h
  .exact h
  .exact h
  .exact h
  .exact h
  .exact h
  .exact h
  .exact h
  .exact h
  .exact h
  .exact h
  .exact h
  .exact h
  .exact h
  .exact h
  .exact h
  .exact h
  .exact h
  .exact h
  .exact h
  .exact h
  .exact h
  .exact h
  .exact h
  .exact h
 .intro i hi7 t X K hb hg hK;rcases(show i=0\/i=1\/i=2\/i=3\/i=4\/i=5\/i=6\/i=7\/i=8\/i=9\/i=10\/i=11\/i=12\/i=13\/i=14\/i=15\/i=16\/i=17\/i=18\/i=19\/i=20\/i=21\/i=22\/i=23\/i=24\/i=25\/i=26\/i=27\/i=28\/i=29\/i=30\/i=31\/i=32\/i=33\/i=34\/i=35\/i=36\/i=37\/i=38\/i=39\/i=40\/i=41\/i=42\/i=43\/i=44 by omega)with rfl|rfl|rfl|rfl|rfl|rfl|rfl|rfl|rfl|rfl|rfl|rfl|rfl|rfl|rfl|rfl|rfl|rfl|rfl|rfl|rfl|rfl|rfl|rfl|rfl|rfl|rfl|rfl|rfl|rfl|rfl|rfl|rfl|rfl|rfl|rfl|rfl|rfl|rfl|rfl|rfl|rfl|rfl|rfl|rfl;.exact sg
  .have ea:t 0=_:=hg 0 (BB rfl);exact sg
  .have ea:t 1=_:=hg 1 (BB rfl);exact sg
  .have ea:t 2=_:=hg 2 (BB rfl);have c0:=(hb.cell (p:=⟨R,0,none⟩) hR).trans hc;exact sg
  .exact sg
  .exact sg
  .have ea:t 5=_:=hg 5 (BB rfl);exact sg
  .have ea:t 6=_:=hg 6 (BB rfl);exact sg
  .have ea:t 7=_:=hg 7 (BB rfl);have c0:=(hb.cell (p:=⟨R,0,none⟩) hR).trans hc;exact sg
  .have ea:t 8=_:=hg 8 (BB rfl);exact sg
  .have e4:t 4=_:=hg 4 (BB rfl);have e9:t 9=_:=hg 9 (BB rfl);have h:=hK _ X rfl Ck;refine Ar rfl rfl ?_;clear hK hg;go_simp;rw[if_neg Zb,AZ];go_simp;simpa[AN,e4,e9,m1]using h
  .have ea:t 3=_:=hg 3 (BB rfl);have eb:t 10=_:=hg 10 (BB rfl);exact sg
  .have ea:t 11=_:=hg 11 (BB rfl);have c1:=(hb.cell (p:=⟨b,off+q1,none⟩) hB).trans ha;exact sg
  .have e12:t 12=_:=hg 12 (BB rfl);have hw:=AE ((va:Int)) ⟨Zb,Zb⟩;have h:=hK _ X rfl Ck;refine Ar rfl rfl ?_;clear hK hg;go_simp;simpa[AN,e12,hw]using h
  .have e13:t 13=_:=hg 13 (BB rfl);have hw:=AE ((va:Int)*131) ⟨Zb,Zb⟩;have h:=hK _ X rfl Ck;refine Ar rfl rfl ?_;clear hK hg;go_simp;simpa[AN,e13,hw]using h
  .exact sg
  .have ea:t 15=_:=hg 15 (BB rfl);exact sg
  .have ea:t 16=_:=hg 16 (BB rfl);exact sg
  .have ea:t 17=_:=hg 17 (BB rfl);have c0:=(hb.cell (p:=⟨R,0,none⟩) hR).trans hc;exact sg
  .exact sg
  .have e19:t 19=_:=hg 19 (BB rfl);have hw:=AE ((p:Int)*7) ⟨Zb,Zb⟩;have h:=hK _ X rfl Ck;refine Ar rfl rfl ?_;clear hK hg;go_simp;simpa[AN,e19,hw]using h
  .have e20:t 20=_:=hg 20 (BB rfl);have hw:=AE ((p:Int)*7+3) ⟨Zb,Zb⟩;have h:=hK _ X rfl Ck;refine Ar rfl rfl ?_;clear hK hg;go_simp;simpa[AN,e20,hw]using h
  .exact sg
  .have ea:t 22=_:=hg 22 (BB rfl);exact sg
  .have ea:t 23=_:=hg 23 (BB rfl);exact sg
  .have ea:t 24=_:=hg 24 (BB rfl);have c0:=(hb.cell (p:=⟨R,0,none⟩) hR).trans hc;exact sg
  .have ea:t 25=_:=hg 25 (BB rfl);exact sg
  .have e21:t 21=_:=hg 21 (BB rfl);have e26:t 26=_:=hg 26 (BB rfl);have h:=hK _ X rfl Ck;refine Ar rfl rfl ?_;clear hK hg;go_simp;rw[if_neg Zb,AZ];go_simp;simpa[AN,e21,e26,m2]using h
  .have ea:t 18=_:=hg 18 (BB rfl);have eb:t 27=_:=hg 27 (BB rfl);exact sg
  .have ea:t 28=_:=hg 28 (BB rfl);have c1:=(hb.cell (p:=⟨b,off+q2,none⟩) hB).trans hv;exact sg
  .have e29:t 29=_:=hg 29 (BB rfl);have hw:=AE ((vb:Int)) ⟨Zb,Zb⟩;have h:=hK _ X rfl Ck;refine Ar rfl rfl ?_;clear hK hg;go_simp;simpa[AN,e29,hw]using h
  .have e30:t 30=_:=hg 30 (BB rfl);have hw:=AE ((vb:Int)*1117) ⟨Zb,Zb⟩;have h:=hK _ X rfl Ck;refine Ar rfl rfl ?_;clear hK hg;go_simp;simpa[AN,e30,hw]using h
  .have e14:t 14=_:=hg 14 (BB rfl);have e31:t 31=_:=hg 31 (BB rfl);have hw:=AE ((va:Int)*131+(vb:Int)*1117) ⟨Zb,Zb⟩;have h:=hK _ X rfl Ck;refine Ar rfl rfl ?_;clear hK hg;go_simp;simpa[AN,e14,e31,hw]using h
  .exact sg
  .have e33:t 33=_:=hg 33 (BB rfl);have hw:=AE ((p:Int)*29) ⟨Zb,Zb⟩;have h:=hK _ X rfl Ck;refine Ar rfl rfl ?_;clear hK hg;go_simp;simpa[AN,e33,hw]using h
  .have e32:t 32=_:=hg 32 (BB rfl);have e34:t 34=_:=hg 34 (BB rfl);have hw:=AE ((va:Int)*131+(vb:Int)*1117+(p:Int)*29) ⟨Zb,Zb⟩;have h:=hK _ X rfl Ck;refine Ar rfl rfl ?_;clear hK hg;go_simp;simpa[AN,e32,e34,hw]using h
  .exact sg
  .exact sg
  .have ea:t 37=_:=hg 37 (BB rfl);exact sg
  .have ea:t 38=_:=hg 38 (BB rfl);exact sg
  .have ea:t 39=_:=hg 39 (BB rfl);have c0:=(hb.cell (p:=⟨R,0,none⟩) hR).trans hc;exact sg
  .have ea:t 40=_:=hg 40 (BB rfl);exact sg
  .have e36:t 36=_:=hg 36 (BB rfl);have e41:t 41=_:=hg 41 (BB rfl);have hw:=AE (q3:Int) ⟨Zb,Zb⟩;have h:=hK _ X rfl Ck;refine Ar rfl rfl ?_;clear hK hg;go_simp;rw[if_neg Zb,AZ];go_simp;simpa[AN,e36,e41,m3,hw]using h
  .have e42:t 42=_:=hg 42 (BB rfl);have hw:=AE ((q3:Int)*53) ⟨Zb,Zb⟩;have h:=hK _ X rfl Ck;refine Ar rfl rfl ?_;clear hK hg;go_simp;simpa[AN,e42,hw]using h
  .have e35:t 35=_:=hg 35 (BB rfl);have e43:t 43=_:=hg 43 (BB rfl);have hw:=AE ((va:Int)*131+(vb:Int)*1117+(p:Int)*29+(q3:Int)*53) ⟨Zb,Zb⟩;have h:=hK _ X rfl Ck;refine Ar rfl rfl ?_;clear hK hg;go_simp;simpa[AN,e35,e43,hw]using h
 .intro t X K hb hg hK;have e44:t 44=_:=hg 44 Zb;have h:=hK ⟨#[.p R 0,.i m,p2,p3,p4,.i ((p:Nat):Int),.i ((va*131+vb*1117+p*29+q3*53:Nat):Int),p7,p8,p9,DA,Du,DC,Dx,Da,CY,CV,CX,CW,CR,C4,CU,CS,CQ,Dl,C6,Db,C9,C7,Dj,Dg,Df,Dk,Dh,De,Dt,Di,Dy,DB,EF,EI,EK,EL,EJ,EE,Ej,Ei,t 0,t 1,t 2,t 3,t 4,t 5,t 6,t 7,t 8,t 9,t 10,t 11,t 12,t 13,t 14,t 15,t 16,t 17,t 18,t 19,t 20,t 21,t 22,t 23,t 24,t 25,t 26,t 27,t 28,t 29,t 30,t 31,t 32,t 33,t 34,t 35,t 36,t 37,t 38,t 39,t 40,t 41,t 42,t 43,t 44,Iy,Iq,Is,Iw,Ir,Iz,Ip],[]⟩ X ⟨t,rfl,hb⟩;refine Ar rfl rfl ?_;clear hK hg;go_simp;simpa[e44]using h
 .rintro a X ⟨t,rfl,hb⟩;exact hQ t X hb
structure Rd (w:World)(R:Nat)(ad:OA)(n cap p:Nat):Prop where
 c0:w.cell? ⟨R,0,none⟩=some (.slice ad n cap)c1:w.cell? ⟨R,1,none⟩=some (.i p)f1:w.frozen? ⟨R,1,none⟩=false
 lt:R<w.1.size
 n2:n<=2000
 bt:∀i,i<n->∃b off v,ad=some ⟨b,off,none⟩/\b<w.1.size/\¬b=R/\w.cell? ⟨b,off+i,none⟩=some (.int .u8 v)/\0<=v/\v<256
 ns:∀j s,¬w.cell? ⟨R,j,none⟩=some (.s s)
def rP (R:Nat)(ad:OA)(n cap p:Nat)(m:Int)(w:World)(e:Ending)(w':World):Prop:=∃v:Nat,e=.returned (.i v)/\(m<1->v=0)/\(1<=m->(v:Int)<m)/\AB (λq=>q=R) w w'/\Rd w' R ad n cap (p+1)
theorem PQ{R:Nat}{ad:OA}{n cap p:Nat}{w w':World}(hr:Rd w R ad n cap p)(hb:Below w.1.size (w.setCell ⟨R,1,none⟩ (.i ((p:Int)+1))) w'):AB (λq=>q=R) w w'/\Rd w' R ad n cap (p+1):=by
 have hs:(w.setCell ⟨R,1,none⟩ (.i ((p:Int)+1))).1.size=w.1.size:=Bi ..;refine⟨AB.trans (AB.setCell (P:=λq=>q=R) (AB.refl _ w) (p:=⟨R,1,none⟩) rfl (.i ((p:Int)+1))) (Ap (by rw[hs];exact hb)),⟨?_,?_,?_,?_,hr.n2,λi hi=>?_,λj s h=>?_⟩⟩;.rw[hb.cell (p:=⟨R,0,none⟩) hr.lt,Bn _ _ _ _ Zc];exact hr.c0
 .rw[hb.cell (p:=⟨R,1,none⟩) hr.lt,Ha _ _ _ hr.c1];simp
 .rw[hb.frozen (p:=⟨R,1,none⟩) hr.lt,World.frozen?_setCell];exact hr.f1
 .have:=hb.size;rw[hs]at this;exact Ad hr.lt this
 .obtain⟨b,off,v,e1,e2,e3,e4,e5,e6⟩:=hr.bt i hi;refine⟨b,off,v,e1,?_,e3,?_,e5,e6⟩;.have:=hb.size;rw[hs]at this;exact Ad e2 this
  .rw[hb.cell (p:=⟨b,off+i,none⟩) e2,Bn _ _ _ _ (by intro h;exact e3 (congrArg Addr.block h).symm)];exact e4
 .rw[hb.cell (p:=⟨R,j,none⟩) hr.lt]at h;by_cases e:j=1;.subst e;rw[Ha _ _ _ hr.c1]at h;cases h
  .rw[Bn _ _ _ _ (λq=>e (congrArg Addr.off q).symm)]at h;exact hr.ns j s h
theorem BV (R:Nat)(ad:OA)(n cap p:Nat)(m:Int)(w:World)(hr:Rd w R ad n cap p)(hp:p<=1000000)(hm:m<=1000000)(hm0:-1000000<=m):Calls prog 12 #[.p R 0,.i m] w λe w'=>rP R ad n cap p m w e w':=by
 have HR:=Ag hr;obtain⟨c0,c1,f1,hlt,hn,hby,_⟩:=hr;have HB:=Ag hby;clear hby;by_cases h1:m<1;.go_enter func12,ntmps12;go_wp2;go_ret;exact⟨0,rfl,λ_=>rfl,λh=>by omega,PQ HR Ck⟩
 .by_cases h2:n=0;.subst h2;go_enter func12,ntmps12;go_wp2;go_ret;exact⟨0,rfl,λ_=>rfl,λh=>by omega,PQ HR Ck⟩
  .by_cases h3:p<n;.obtain⟨b,off,v,rfl,e2,e3,e4,e5,e6⟩:=HB p h3;clear HB;go_enter func12,ntmps12;go_wp2;go_ret;obtain⟨v,rfl⟩:=Ia e5;obtain⟨m',rfl⟩:∃m':Nat,m=m':=Ia Zb;refine⟨v%m',Zc,λh=>by omega,λ_=>?_,PQ HR Ck⟩;have:=Gl v (show 0<m' by omega);omega
   .obtain⟨b,off,v0,hb0,e2,e3,_,_,_⟩:=HB.out 0 Zb;have ha:∀i,i<n->∃v:Nat,w.cell? ⟨b,off+i,none⟩=some (.int .u8 (v:Int))/\v<256:=λi hi=>by obtain⟨b',off',v,hb',_,_,g4,g5,g6⟩:=HB i hi;rw[hb0]at hb';cases hb';obtain⟨v,rfl⟩:=Ia g5;exact⟨v,g4,Zb⟩
    subst hb0;clear HB;have l1:=Gl p (show 0<n by omega);have l2:=Gl (p*7+3) (show 0<n by omega);obtain⟨va,a1,a3⟩:=ha (p%n) l1;obtain⟨vb,b1,b3⟩:=ha ((p*7+3)%n) l2;clear ha;have Tq:=Ag (JM p n);have KU:=Ag (JM (p*7+3) n);have iR:=Ag (Y5 p n);have l3:=Nat.div_le_self p n;generalize hq1:p%n=q1 at*;generalize hq2:(p*7+3)%n=q2 at*;generalize hq3:p/n=q3 at*;have H1:=Ag hq1;have H2:=Ag hq2;have H3:=Ag hq3;clear hq1 hq2 hq3;go_enter func12,ntmps12;go_wp2;refine gO (λ_=>undef) R b off n cap p q1 q2 q3 va vb _ m (by simpa using hlt) (by simpa using e2) ?_ ?_ ?_ Zb hn hp a3 b3 Tq (by have:=KU.out;simpa using this) iR l1 l2 l3 rfl _ ?_;.rw[Bn _ _ _ _ Zc];exact c0
    .rw[Bn _ _ _ _ (by intro h;exact e3 (congrArg Addr.block h).symm)];exact a1
    .rw[Bn _ _ _ _ (by intro h;exact e3 (congrArg Addr.block h).symm)];exact b1
    .intro t X hb;have HX:=Ag hb;clear hb Tq KU iR;obtain⟨x,hx⟩:∃x:Nat,va*131+vb*1117+p*29+q3*53=x:=⟨_,rfl⟩;have hxb:x<1000000000:=Zb;rw[hx];clear hx;obtain⟨y,hy⟩:∃y:Nat,bits .xor .i64 (x:Int) ((x:Int)/64)=y:=bE x Zb;have HY:=Ag hy;clear hy;go_wp2;rw[HY.out];go_ret;obtain⟨m',rfl⟩:∃m':Nat,m=m':=Ia Zb;refine⟨y%m',by simp[JM],λh=>by omega,λ_=>?_,PQ HR (by simpa using HX.out)⟩;have:=Gl y (show 0<m' by omega);omega
theorem XH{M a n o:Nat}(h:a*n+o<=M)(hn:n%2=1):(a+a)*(n/2)+(o+a)<=M:=by
 have:n=2*(n/2)+1:=Zb;have e:a*n=(a+a)*(n/2)+a:=by rw[this,show(2*(n/2)+1)/2=n/2 by omega,Nat.mul_add,Nat.mul_one,<-Nat.mul_assoc,Nat.mul_two]
 omega
theorem UY{M a n o:Nat}(h:a*n+o<=M)(hn:¬n%2=1):(a+a)*(n/2)+o<=M:=by
 have:n=2*(n/2):=Zb;have e:a*n=(a+a)*(n/2):=by rw[this,show(2*(n/2))/2=n/2 by omega,<-Nat.mul_assoc,Nat.mul_two]
 omega
theorem cJ{M a n o:Nat}(h:a*n+o<=M)(hn:0<n):a<=M/\o<=M:=by have:=Nat.le_mul_of_pos_right a hn;omega
theorem YZ (M:Nat)(hM:M<=1000)(s:ByteArray)(n:Nat)(w:World)(h:s.size*n<=M)(hs:s.size<=2000)(hn:n<=1000):Calls prog 67 #[.s s,.i n] w λe w'=>∃o:ByteArray,e=.returned (.s o)/\o.size<=M/\Below w.1.size w w':=by
 go_enter func67,ntmps67;go_wp2_with fail;go_loopw[0,1,5](λa b c wr=>∃(s o:ByteArray)(n:Nat),a=.s s/\b=.i n/\c=.s o/\Hid (s.size*n+o.size<=M)/\s.size<=2000/\n<=1000/\Hid (wr=w))(λ_ b _ _=>(intOf b).toNat);case atStart=>exact⟨s,⟨#[]⟩,n,rfl,rfl,rfl,Ag h,hs,hn,Ag rfl⟩
 case round=>
  clear h hs hn s n;obtain⟨s,o,n,rfl,rfl,rfl,H,hs,hn,HW⟩:=hrel;by_cases h0:n=0
  .subst h0;have ho:o.size<=M:=by have:=H.out;omega
   have HO:=Ag ho;clear ho;go_wp2;go_ret;exact⟨o,rfl,HO,by rw[HW.out];exact Al _ _⟩
  .obtain⟨m1,m2⟩:=cJ H Zb;have hq:IntKind.i64.wrap ((n:Int)/2)=((n/2:Nat):Int):=by rw[AE _ ⟨Zb,Zb⟩];omega
   by_cases h1:n%2=1
   .have HN:=Ag (XH H h1);have hm:(n:Int).tmod 2=1:=by have:(n:Int).tmod 2=((n%2:Nat):Int):=JM n 2;omega
    clear H;go_wp2;refine⟨⟨s++s,o++s,n/2,rfl,by congr 1,rfl,Ag ?_,?_,Zb,HW⟩,?_⟩;.have:=HN.out;simpa[FP]using this
    .simp ;omega
    .show((n:Int)/2).toNat<((n:Int)).toNat;omega
   .have HN:=Ag (UY H h1);have hm:¬(n:Int).tmod 2=1:=by have:(n:Int).tmod 2=((n%2:Nat):Int):=JM n 2;omega
    clear H;go_wp2;refine⟨⟨s++s,o,n/2,rfl,by congr 1,rfl,Ag ?_,?_,Zb,HW⟩,?_⟩;.have:=HN.out;simpa[FP]using this
    .simp ;omega
    .show((n:Int)/2).toNat<((n:Int)).toNat;omega
theorem O6 (W:World)(b:Nat)(x:Int)(hx0:0<=x)(hx1:x<256)(hc:W.cell? ⟨b,0,none⟩=some (.int .u8 x)):(convert 22 9 (Value.slice (some ⟨b,0,none⟩) 1 1)).run prog W=.ok (.s ⟨#[UInt8.ofNat x.toNat]⟩) W:=by
 have:=run_convert_bytes_back (P:=prog) W 22 9 5 ⟨b,0,none⟩ 1 [UInt8.ofNat x.toNat] underlying22 underlying5 underlying9 (by
  intro i hi;have:i=0:=by simpa using hi
  subst this;have e:((⟨b,0,none⟩:Addr).add 0)=⟨b,0,none⟩:=by simp[Addr.add]
  rw[e,hc];simp;omega);simpa using this
theorem Q7{x:Int}(h0:0<=x)(h1:x<=9223372036854775807):IntKind.i64.wrap x=x:=by have e:x%2^64=x:=Int.emod_eq_of_lt h0 Zb;simp only[IntKind.wrap,IntKind.bits,e];rw[if_neg (by simp;intro _;omega)]
theorem KD{x:Int}(h0:0<=x)(h1:x<=255):IntKind.u8.wrap x=x:=by have e:x%2^8=x:=Int.emod_eq_of_lt h0 Zb;simp only[IntKind.wrap,IntKind.bits,e];rw[if_neg (by simp[IntKind.signed])]
theorem SJ (u:Nat):Lib.nDigits u<=u+1:=by induction u using Nat.strongRecOn with
 |ind u ih=>
  by_cases h:u<10;.rw[Lib.nDigits_small h];omega
  .rw[Lib.nDigits_big h];have:=ih (u/10) Zb;omega
theorem QU (q:Nat):(⟨(Lib.decDigits q).toArray⟩:ByteArray).size<=q+1:=by
 have:=SJ q;have e:(⟨(Lib.decDigits q).toArray⟩:ByteArray).size=(Lib.decDigits q).length:=by simp[ByteArray.size]
 rw[e,Lib.decDigits_length];exact this
theorem V4{n q:Nat}(hn:(n:Int)<=9223372036854775807)(e:q=n/10):IntKind.i64.wrap ((n:Int)/10)=(q:Int):=by subst e;rw[wrap_i64_ediv _ _ Zb Zb Zb];omega
theorem aN{n r:Nat}(e:r=n%10):(n:Int).tmod 10=(r:Int):=by subst e;rw[Int.tmod_eq_emod_of_nonneg Zb];omega
theorem aW (a b:List UInt8):(⟨a.toArray⟩:ByteArray)++⟨b.toArray⟩=⟨(a++b).toArray⟩:=by apply ByteArray.ext;simp
theorem TB:∀(n:Nat)(_:(n:Int)<=9223372036854775807)(w:World),Calls prog 68 #[.i n] w λe w'=>e=.returned (.s ⟨(Lib.decDigits n).toArray⟩)/\Below w.1.size w w':=by intro n;induction n using Nat.strongRecOn with
 |ind n ih=>
 intro hn w;go_enter func68,ntmps68;by_cases h:n<10;.have hcv:=O6 (w.alloc (.cells #[.int .u8 (48+(n:Int))] 5)) w.1.size (48+(n:Int)) Zb Zb Zc;have e:(48+(n:Int)).toNat=48+n:=Zb;obtain⟨y,hy⟩:∃y:UInt8,y=UInt8.ofNat (48+n):=⟨_,rfl⟩;rw[e,<-hy]at hcv;have HY:=Ag (Lib.decDigits_one h);rw[<-hy]at HY;clear hy e;go_wp2;go_ret;exact⟨by rw[HY.out];rfl,(Al _ _).alloc Bg _⟩
 .have h1:¬(n:Int)<10:=Zb;obtain⟨q,hq⟩:∃q:Nat,q=n/10:=⟨_,rfl⟩;obtain⟨r,hr⟩:∃r:Nat,r=n%10:=⟨_,rfl⟩;have hr10:r<10:=Zb;have hw:=V4 hn hq;have hm:=aN hr;have hqn:q<n:=Zb;have hD:Lib.decDigits n=Lib.decDigits q++[UInt8.ofNat (48+r)]:=by rw[Lib.decDigits,dif_neg h,hq,hr]
  obtain⟨y,hy⟩:∃y:UInt8,y=UInt8.ofNat (48+r):=⟨_,rfl⟩;rw[<-hy]at hD;have hcv:∀(W:World)(b:Nat),W.cell? ⟨b,0,none⟩=some (.int .u8 (48+(r:Int)))->(convert 22 9 (Value.slice (some ⟨b,0,none⟩) 1 1)).run prog W=.ok (.s ⟨#[y]⟩) W:=λW b hc=>by have:=O6 W b (48+(r:Int)) Zb Zb hc;rwa[show(48+(r:Int)).toNat=48+r by omega,<-hy]at this
  have hw2:IntKind.i64.wrap (48+(r:Int))=48+(r:Int):=Q7 Zb Zb;have hw3:IntKind.u8.wrap (48+(r:Int))=48+(r:Int):=KD Zb Zb;have HD:=Ag hD;have hq2:(q:Int)<=922337203685477580:=Zb;obtain⟨s,hs⟩:∃s:ByteArray,s=⟨(Lib.decDigits q).toArray⟩:=⟨_,rfl⟩;have hss:(s.size:Int)<=(q:Int)+1:=by rw[hs];have:=QU q;omega
  have oJ:=Ag (ih q hqn Zb);rw[<-hs]at oJ;have HS:=Ag hs;clear hs;clear hD hq hr ih hqn h hy;go_wp2_with fail;go_region_with(first|(go_at_call 68;go_must(refine(oJ _).mono ?_;rintro e w1 ⟨rfl,hb1⟩;first|(have c1:w1.cell? ⟨w.1.size,0,none⟩=some (.int .u8 (48+(r:Int))):=by(rw[hb1.cell (p:=⟨w.1.size,0,none⟩) Zc];simp;done))|skip)));all_goals
   have hB:Below w.1.size w w1:=by first
    |exact((Al w.1.size w).drew).trans (hb1.mono Zc)
    |exact(((Al w.1.size w).alloc Bg _).drew).trans (hb1.mono Zc)
   go_wp2;go_ret;refine⟨?_,?_⟩;.rw[HD.out,<-aW,<-HS.out];rfl
   .first
    |exact hB
    |exact hB.alloc hB.size _
def Dn (R:Nat)(ad:OA)(n cap p k:Nat)(w w':World):Prop:=AB (λq=>q=R) w w'/\∃p',p<=p'/\p'<=p+k/\Rd w' R ad n cap p'
theorem Rd.below{w w':World}{R:Nat}{ad:OA}{n cap p:Nat}(h:Rd w R ad n cap p)(hb:Below w.1.size w w'):Rd w' R ad n cap p:=by
 refine⟨?_,?_,?_,Ad h.lt hb.size,h.n2,λi hi=>?_,λj s q=>h.ns j s (by rw[hb.cell (p:=⟨R,j,none⟩) h.lt]at q;exact q)⟩;.rw[hb.cell (p:=⟨R,0,none⟩) h.lt];exact h.c0
 .rw[hb.cell (p:=⟨R,1,none⟩) h.lt];exact h.c1
 .rw[hb.frozen (p:=⟨R,1,none⟩) h.lt];exact h.f1
 .obtain⟨b,off,v,e1,e2,e3,e4,e5,e6⟩:=h.bt i hi;exact⟨b,off,v,e1,Ad e2 hb.size,e3,(hb.cell (p:=⟨b,off+i,none⟩) e2).trans e4,e5,e6⟩
theorem Dn.one{R:Nat}{ad:OA}{n cap p k:Nat}{w w':World}(hf:AB (λq=>q=R) w w')(hr:Rd w' R ad n cap (p+1))(hk:1<=k):Dn R ad n cap p k w w':=⟨hf,p+1,Zb,Zb,hr⟩
theorem Dn.below{R:Nat}{ad:OA}{n cap p k:Nat}{w w1 w':World}(h:Dn R ad n cap p k w w1)(hb:Below w1.1.size w1 w'):Dn R ad n cap p k w w':=by obtain⟨hf,p',h1,h2,hr⟩:=h;exact⟨hf.trans (Ap hb),p',h1,h2,hr.below hb⟩
theorem Dn.trans{R:Nat}{ad:OA}{n cap p k j:Nat}{w w1 w':World}(h:Dn R ad n cap p k w w1)(h2:∀p',p<=p'->p'<=p+k->Rd w1 R ad n cap p'->Dn R ad n cap p' j w1 w'):Dn R ad n cap p (k+j) w w':=by obtain⟨hf,p',a1,a2,hr⟩:=h;obtain⟨hf2,p2,b1,b2,hr2⟩:=h2 p' a1 a2 hr;exact⟨hf.trans hf2,p2,Zb,Zb,hr2⟩
theorem Dn.le{R:Nat}{ad:OA}{n cap p k j:Nat}{w w':World}(h:Dn R ad n cap p k w w')(hk:k<=j):Dn R ad n cap p j w w':=by obtain⟨hf,p',a1,a2,hr⟩:=h;exact⟨hf,p',a1,Zb,hr⟩
theorem XI (R:Nat)(ad:OA)(n cap p:Nat)(w:World)(hr:Rd w R ad n cap p)(hp:p<=900000):Calls prog 39 #[.p R 0] w λe w'=>∃s:ByteArray,e=.returned (.s s)/\s.size<=300/\Dn R ad n cap p 2 w w':=by
 have HR:=Ag hr;clear hr;go_enter func39,ntmps39;go_wp2_with fail;refine(BV R ad n cap p 8 w HR Zb Zb Zb).mono ?_;rintro e w1 ⟨v,rfl,_,hv,hf1,hr1⟩;have hv:=hv Zb;have H1:=Ag (Dn.one (k:=1) hf1 hr1 Bg);have cT:=Ag hr1;have mA:=Ag hf1;clear hf1 hr1 HR;by_cases h0:v=0
 .subst h0;go_wp2;go_ret;exact⟨⟨#[]⟩,rfl,Za,H1.le Zb⟩
 .by_cases h1:v=1;.subst h1;go_wp2;go_ret;exact⟨_,rfl,Za,H1.le Zb⟩
  .by_cases h2:v=2
   .subst h2;go_wp2_with fail;refine(BV R ad n cap (p+1) 2 w1 cT Zb Zb Zb).mono ?_;rintro e w2 ⟨v,rfl,_,hv2,hf2,hr2⟩;have hv2:=hv2 Zb;have H2:Hid (Dn R ad n cap p 2 w w2):=⟨mA.trans hf2,p+1+1,Zb,Zb,hr2⟩;clear hf2 hr2 H1 mA cT;have e9:IntKind.i64.wrap ((300:Int)-v)=((300-v:Nat):Int):=by rw[AE _ ⟨Zb,Zb⟩];omega
    have hn9:300-v<=300:=Zb;go_wp2_with fail;refine(YZ 300 Zb ⟨#[116]⟩ (300-v) w2 (by show 1*(300-v)<=300;omega) Za Zb).mono ?_;rintro e w3 ⟨o,rfl,ho,hb3⟩;have EV:=Ag hb3;have HO:=Ag ho;clear hb3 ho;go_wp2;go_ret;exact⟨o,rfl,HO,H2.below EV⟩
   .go_wp2_with fail;refine(BV R ad n cap (p+1) 20 w1 cT Zb Zb Zb).mono ?_;rintro e w2 ⟨v,rfl,_,hv2,hf2,hr2⟩;have hv2:=hv2 Zb;have H2:Hid (Dn R ad n cap p 2 w w2):=⟨mA.trans hf2,p+1+1,Zb,Zb,hr2⟩;clear hf2 hr2 H1 mA cT;go_wp2_with fail;refine(TB v Zb w2).mono ?_;rintro e w3 ⟨rfl,hb3⟩;have hz:=QU v;obtain⟨d,hd⟩:∃d:ByteArray,d=⟨(Lib.decDigits v).toArray⟩:=⟨_,rfl⟩;rw[<-hd]at hz⊢;clear hd;have EV:=Ag hb3;clear hb3;go_wp2;go_ret;exact⟨_,rfl,by rw[FP];have:(⟨#[118]⟩:ByteArray).size=1:=rfl;omega,H2.below EV⟩
def RQ (n:Nat)(mk:(Nat->Value)->Array Value)(W:World)(R:Nat)(ad:OA)(nn cap p:Nat)(G:Nat->Value->World->Prop)(Fin:Act->World->Prop)(l:Array Bool)(a:Act)(X:World):Prop:=l.size=n+1/\((l.getD n false=true->(∀i,i<n+1->l.getD i false=true)/\Fin a X)/\(l.getD n false=false->∃t:Nat->Value,a=⟨mk t,[]⟩/\AB (λq=>q=R) W X/\(∃p',p<=p'/\p'<=p+l.toList.count true/\Rd X R ad nn cap p')/\∀i,i<n->l.getD i false=true->G i (t i) X))
theorem NG{l:Array Bool}{i:Nat}(hi:i<l.size)(h:l.getD i false=false):(l.setIfInBounds i true).toList.count true=l.toList.count true+1:=by
 have e:l.toList[i]'(by simpa using hi)=false:=by simpa[Array.getD,hi]using h
 rw[Array.toList_setIfInBounds,List.count_set (by simpa using hi)];simp[e]
theorem MM{P:Program}{id:Nat}{ops:Array Oper}{Q:Exit->Act->World->Prop}{a0:Act}{W:World}(hm:P.follows .mixedOrders=true)(n:Nat)(mk:(Nat->Value)->Array Value)(t0:Nat->Value)(R:Nat)(ad:OA)(nn cap p:Nat)(G:Nat->Value->World->Prop)(Fin:Act->World->Prop)(hn:ops.size=n+1)(hord:((List.range ops.size).all λi=>match ops[i]? with|some o=>o.after.all (λe=>decide (e.on<i))|none=>true)=true)(hlast:((List.range n).all λj=>match ops[n]? with|some o=>o.after.any (λe=>Region.binds .any e&&e.on==j)|none=>false)=true)(st:∀i v X Y,i<n->G i v X->AB (λq=>q=R) X Y->R<W.1.size->W.1.size<=X.1.size->G i v Y)(h0:a0=⟨mk t0,[]⟩)(hr:Rd W R ad nn cap p)(sg:∀i,i<n->∀(t:Nat->Value) X K p',AB (λq=>q=R) W X->p<=p'->p'<=p+n->Rd X R ad nn cap p'->(∀j,Cf ops i j->G j (t j) X)->(∀v Y p2,p'<=p2->p2<=p'+1->G i v Y->AB (λq=>q=R) X Y->Rd Y R ad nn cap p2->K ⟨mk (AN t i v),[]⟩ Y)->wpOp P ops Q i K ⟨mk t,[]⟩ X)(sl:∀(t:Nat->Value) X K p',AB (λq=>q=R) W X->p<=p'->p'<=p+n->Rd X R ad nn cap p'->(∀j,j<n->G j (t j) X)->(∀a Y,Fin a Y->K a Y)->wpOp P ops Q n K ⟨mk t,[]⟩ X)(hfin:∀a X,Fin a X->Q .normal a X):(Code.region id ops true).wp P Q a0 W:=by
 have hdep:∀i j,i<n+1->Cf ops i j->j<n:=by rintro i j hi ⟨o,ho,e,he,_,rfl⟩;have h1:=Bt.1 hord i (Bc.2 Zb);rw[ho]at h1;have h2:=A9.1 h1 e he;have:=of_decide_eq_true h2;omega
 refine CA hm (RQ n mk W R ad nn cap p G Fin) ?_ ?_ ?_ ?_
 .have hz:∀i,(Array.replicate ops.size false).getD i false=false:=λi=>by simp[Array.getD]
  refine⟨by simp[hn],λh=>?_,λ_=>⟨t0,h0,Ap (Al _ _).drew,⟨p,Az _,Zb,hr.below (Al _ _).drew⟩,λi _ h=>?_⟩⟩<;>(rw[hz]at h;cases h)
 .rintro l a X ⟨hs,_⟩;rw[hs,hn]
 .rintro l a X ⟨hs,h6,_⟩ hr;have AL:=CC hord (by rw[hs,hn]) hr;exact hfin a X (h6 (AL n Zb)).2
 .rintro l a X i ⟨hs,h6,hg⟩ hr';obtain⟨hu,o,ho,hall⟩:=mem_ready.1 hr';have di:∀j,Cf ops i j->l.getD j false=true:=by
   rintro j ⟨o',ho',e,he,hb,rfl⟩;rw[ho]at ho';obtain rfl:o=o':=by simpa using ho'
   exact hall e he hb
  have hi7:i<n+1:=by
   rcases At i (n+1)with h|h;.exact h
   .rw[AP Zb]at ho;cases ho
  have hui:l.getD i false=false:=by have:l.getD i true=false:=hu;simpa[Array.getD,hs,hi7]using this
  have l6:l.getD n false=false:=by cases h:l.getD n false with
   |false=>rfl
   |true=>rw[(h6 h).1 i hi7]at hui;cases hui
  obtain⟨t,rfl,hb,⟨p',q1,q2,hrd⟩,gg⟩:=hg l6;have hc:=NG Zb hui;have hc2:(l.setIfInBounds i true).toList.count true<=n+1:=by have:=List.count_le_length (a:=true) (l:=(l.setIfInBounds i true).toList);simpa[hs]using this
  have kp:∀j,¬j=i->(l.setIfInBounds i true).getD j false=l.getD j false:=λj hj=>by rw[BM Zb,if_neg hj]
  have ki:(l.setIfInBounds i true).getD i false=true:=by rw[BM Zb,if_pos rfl]
  have hs':(l.setIfInBounds i true).size=n+1:=by simp[hs]
  have ku:∀j,l.getD j false=true->(l.setIfInBounds i true).getD j false=true:=λj h=>by
   by_cases e:j=i;.subst e;exact ki
   .rw[kp j e];exact h
  by_cases hin:i=n
  .subst hin;have al:∀j,j<i->l.getD j false=true:=λj hj=>by have h1:=Bt.1 hlast j (Bc.2 hj);rw[ho]at h1;obtain⟨k,hk,h2⟩:=IW.1 h1;simp only[Ak,beq_iff_eq]at h2;exact di j ⟨o,ho,o.after[k],F2 hk,h2.1,h2.2⟩
   clear hr' hu ho h6 hg;refine sl t X _ p' hb q1 Zb hrd (λj hj=>gg j hj (al j hj)) (λa Y hY=>⟨hs',λ_=>⟨λj hj=>?_,hY⟩,λh=>?_⟩)
   .by_cases e:j=i;.subst e;exact ki
    .exact ku j (al j Zb)
   .rw[ki]at h;cases h
  .clear hr' hu ho h6 hg;have hno:(l.setIfInBounds i true).getD n false=false:=by rw[kp n (λe=>hin e.symm)];exact l6
   refine sg i Zb t X _ p' hb q1 Zb hrd (λj hj=>gg j (hdep i j hi7 hj) (di j hj)) (λv Y p2 r1 r2 hv hY hrY=>⟨hs',λh=>?_,λ_=>⟨AN t i v,rfl,hb.trans hY,⟨p2,Zb,Zb,hrY⟩,λj j1 h=>?_⟩⟩);.rw[hno]at h;cases h
   .by_cases e:j=i;.subst e;rw[BE];exact hv
    .rw[kp j e]at h;rw[BO e];exact st _ _ _ _ j1 (gg j j1 h) hY hr.lt hb.size
def Mt:ByteArray:=⟨#[48,49,50,51,52,53,54,55,56,57,97,98,99,100,101,102]⟩
def Lz (b:UInt8):Bool:=decide (32<=(b.toNat:Int))&&decide ((b.toNat:Int)<=126)&&!decide ((b.toNat:Int)=34)&&!decide ((b.toNat:Int)=92)
def qB (b:UInt8):List UInt8:=if Lz b then[b]else[92,Ee Mt (b.toNat/16),Ee Mt (b.toNat%16)]
def R8 (s:ByteArray):Nat->List UInt8|0=>[34]|k+1=>R8 s k++qB (Ee s k)
def R4 (s:ByteArray):List UInt8:=R8 s s.size++[34]
theorem gW (b:UInt8):(qB b).length<=3:=by unfold qB;split<;>simp
theorem Lh (s:ByteArray):∀k,(R8 s k).length<=3*k+1
 |0=>by simp[R8]
 |k+1=>by have:=Lh s k;have:=gW (Ee s k);simp only[R8,CP];omega
theorem KS:(prog.info? 5).map (λi=>(i.zero,i.size,i.bytes))=some (some (.int .u8 0),1,1):=Ze
def EY (w:World)(base:Nat)(v:Value)(l:List UInt8):Prop:=w.ownsRow base 5 1 v l.length (Lib.byteCells l)
theorem DN (w:World)(l:List Value)(t:TypeId):∀j u,l[j]?=some u->(w.alloc (.cells l.toArray t)).cell? ((⟨w.1.size,0,none⟩:Addr).add j)=some u:=λj u h=>by
 have e:((⟨w.1.size,0,none⟩:Addr).add j)=⟨w.1.size,j,none⟩:=by simp only[Addr.add];split<;>simp_all
 rw[e,Ao];simpa using h
theorem EY.app{w':World}{base:Nat}{v':Value}{l m:List UInt8}(h:w'.ownsRow base 5 1 v' (l.length+m.length) (Lib.byteCells l++Lib.byteCells m)):EY w' base v' (l++m):=by
 unfold EY;rw[CP];have e:Lib.byteCells (l++m)=Lib.byteCells l++Lib.byteCells m:=by simp[Lib.byteCells]
 rw[e];exact h
theorem Ef{W w w':World}{base B:Nat}{v:Value}{n:Nat}{e:TypeId}{z:Nat}{xs:List Value}(hb:Below base W w)(hB:base<=B)(hBw:B<=w.1.size)(ho:w.ownsRow B e z v n xs)(hg:w.grownBy w' v.ownBlock):Below base W w':=hb.grown hg Zb (λk hk=>AG hB (ho.lt k hk).1)
theorem YV{W:World}{base:Nat}{v:Value}{L M:List UInt8}(b:Nat)(ho:EY W base v L)(hc:∀j u,(Lib.byteCells M)[j]?=some u->W.cell? ((⟨b,0,none⟩:Addr).add j)=some u)(hl:(L.length:Int)+M.length<=70368744177664)(hbase:base<=W.1.size)(ty:TypeId):∃v2 w2,(Builtin.append_ #[22,22] ty #[v,.l (some ⟨b,0,none⟩) M.length M.length]).run prog W=.ok v2 w2/\EY w2 base v2 (L++M)/\Below base W w2:=by obtain⟨i0,hi0,hz0,hz1,hz2⟩:=info_parts KS;obtain⟨v2,w2,hr,ho2,hg,_⟩:=run_append_own (P:=prog) W base 22 ty 5 i0 (.int .u8 0) 1 1 underlying22 hi0 hz0 hz1 hz2 rfl Za v _ _ ho ⟨b,0,none⟩ M.length M.length (Lib.byteCells M) (by simp[Lib.byteCells]) hc WD Zs Zb hbase;exact⟨v2,w2,hr,EY.app ho2,Ef Ck Bg hbase ho hg⟩
theorem lJ{ops:Array Oper}{o:Oper}{a:Act}{w:World}{K:Act->World->Prop}{Q:Exit->Act->World->Prop}{E:Prop}(hg:o.guard=none)(s x:Operand)(hop:o.op=Op.call {callee:=Callee.builtin Builtin.append,args:=#[s,x],argTypes:=#[22,22]})(base:Nat)(v:Value)(L M:List UInt8)(b:Nat)(hs:a.eval s=v)(hx:a.eval x=.l (some ⟨b,0,none⟩) M.length M.length)(ho:EY w base v L)(hc:∀j u,(Lib.byteCells M)[j]?=some u->w.cell? ((⟨b,0,none⟩:Addr).add j)=some u)(hl:(L.length:Int)+M.length<=70368744177664)(hbase:base<=w.1.size)(hK:∀v2 w2,EY w2 base v2 (L++M)->Below base w w2->K (a.put o.dst v2) w2):if Region.wanted o (yielded ops a.tmps)=true then Oper.wp prog o a w K Q else E:=by
 have hw:Region.wanted o (yielded ops a.tmps)=true:=by simp[Region.wanted,hg]
 rw[if_pos hw];obtain⟨v2,w2,hr,h2,h3⟩:=YV b ho hc hl hbase o.type;unfold Oper.wp execOp;simp only[hop,resolve,invoke,builtin,Sem.run_bind,IV,Lw,ME,List.map_cons,List.map_nil,hs,hx,hr];exact hK v2 w2 h2 h3
theorem Pm{W:World}{base:Nat}{v:Value}{l:List UInt8}(h:EY W base v l)(h0:l≠[]):(convert 22 9 v).run prog W=.ok (.s ⟨l.toArray⟩) W:=by
 have hl0:0<l.length:=List.length_pos_iff.2 h0;obtain⟨g,cap,rfl⟩:∃g cap,v=.l (some ⟨g,0,none⟩) l.length cap:=by
  rcases h.2 with⟨_,hz⟩|⟨g,cap,cur,hv,_⟩;.omega
  .exact⟨g,cap,hv⟩
 refine run_convert_bytes_back (P:=prog) W 22 9 5 ⟨g,0,none⟩ cap l underlying22 underlying5 underlying9 ?_;intro i hi;have:=World.ownsRow.cells h (g:=g) rfl i (.int .u8 (l[i].toNat:Int)) (by simp[Lib.byteCells,hi]);exact this
theorem eS{b:UInt8}(h:Lz b=true):qB b=[b]:=by unfold qB;rw[if_pos h]
theorem lU{b:UInt8}(h:Lz b=false):qB b=[92,Ee Mt (b.toNat/16),Ee Mt (b.toNat%16)]:=by unfold qB;rw[if_neg (by rw[h];decide)]
theorem TN (i:Nat)(h:i<16)(w:World):(Instr.index 9 (.s ⟨#[48,49,50,51,52,53,54,55,56,57,97,98,99,100,101,102]⟩) (.int .u8 (i:Int))).run prog w=.ok (.int .u8 (Ee Mt i).toNat) w:=by have hz:Mt.size=16:=rfl;have:=run_index_string (P:=prog) w 9 Mt .u8 (i:Int) underlying9;rw[dif_pos ⟨Zb,by rw[hz];omega⟩]at this;rw[Kg Mt i Zb];exact this
theorem UQ (s:ByteArray)(w:World)(hs:(s.size:Int)<=1099511627776):Calls prog 98 #[.s s] w λe w'=>e=.returned (.s ⟨(R4 s).toArray⟩)/\Below w.1.size w w':=by
 obtain⟨i0,hi0,hz0,hz1,hz2⟩:=info_parts KS;go_enter func98,ntmps98;go_wp2;go_loopw[3,5](λv i wr=>∃k:Nat,k<=s.size/\i=.i k/\EY wr w.1.size v (R8 s k)/\Below w.1.size w wr)(λ_ i _=>s.size-(intOf i).toNat);case atStart=>exact⟨0,Aw _,rfl,World.ownsRow_lit w #[.int .u8 34] 1 Bg Zs rfl,(Al _ _).alloc Bg _⟩
 case round=>
  obtain⟨k,hk,rfl,hown,hb⟩:=hrel;by_cases hkn:k<s.size;.have HB:=Ag (Kg s k hkn);cases hp:Lz (Ee s k)with
   |true=>
    have hp2:=hp;rw[HB.out]at hp2;simp only[Lz,Ak,decide_eq_true_eq,FY,decide_eq_false_iff_not]at hp2;obtain⟨⟨⟨p1,p2⟩,p3⟩,p4⟩:=hp2;have q3:((s[k].toNat:Int) !=34)=true:=by simpa using p3
    have q4:((s[k].toNat:Int) !=92)=true:=by simpa using p4
    have hl:=Lh s k;have STEP:=Ag (show R8 s (k+1)=R8 s k++[s[k]]by rw[R8,eS hp,HB.out]);obtain⟨L,hL⟩:∃L,R8 s k=L:=⟨_,rfl⟩;rw[hL]at hown hl STEP;have HO:=Ag (hown.alloc (.cells #[.int .u8 (s[k].toNat:Int)] 5));clear hown hL hp HB;go_wp2_with (at_builtin;go_must(refine wpList_append_own _ rfl _ _ 22 rfl w.1.size 5 i0 (.int .u8 0) 1 1 underlying22 hi0 hz0 hz1 hz2 rfl Za _ _ _ rfl HO ⟨wr.1.size,0,none⟩ 1 1 (Lib.byteCells [s[k]]) rfl rfl (DN wr _ 5) WD Zs Zb (by have:=hb.size;simp;omega) ?_;intro v2 w2 hown2 hgrow2 _));have B2:=Ef (hb.alloc hb.size _) Bg (by have:=hb.size;simp;omega) HO hgrow2;have O2:EY w2 w.1.size v2 (L++[s[k]]):=EY.app hown2;go_roundw;case rel=>exact⟨k+1,Zb,by go_num,by rw[STEP.out];exact O2,B2⟩
    case measure=>simp[intOf];omega
   |false=>
    have hl:=Lh s k;have STEP:=Ag (show R8 s (k+1)=R8 s k++[92,Ee Mt (s[k].toNat/16),Ee Mt (s[k].toNat%16)]by rw[R8,lU hp,HB.out]);obtain⟨L,hL⟩:∃L,R8 s k=L:=⟨_,rfl⟩;rw[hL]at hown hl STEP;have hx:=s[k].toNat_lt;have hcase:(s[k].toNat:Int)<32\/(32<=(s[k].toNat:Int)/\(126<(s[k].toNat:Int)\/((s[k].toNat:Int)<=126/\((s[k].toNat:Int)=34\/(s[k].toNat:Int)=92)))):=by rw[HB.out]at hp;simp only[Lz,Jd,decide_eq_false_iff_not,Bool.not_eq_false',decide_eq_true_eq]at hp;omega
    obtain⟨d1,hd1⟩:∃d,Ee Mt (s[k].toNat/16)=d:=⟨_,rfl⟩;obtain⟨d2,hd2⟩:∃d,Ee Mt (s[k].toNat%16)=d:=⟨_,rfl⟩;have HO:=Ag (hown.alloc (.cells #[.int .u8 92,.int .u8 (d1.toNat:Int),.int .u8 (d2.toNat:Int)] 5)).drew;rw[hd1,hd2]at STEP;obtain⟨x,hxe⟩:∃x:Nat,s[k].toNat=x:=⟨_,rfl⟩;obtain⟨q,hq⟩:∃q:Nat,q=x/16:=⟨_,rfl⟩;obtain⟨r,hr⟩:∃r:Nat,r=x%16:=⟨_,rfl⟩;have hq16:q<16:=Zb;have hr16:r<16:=Zb;have k1:(x:Int)/16=(q:Int):=Zb;have k2:(x:Int).tdiv 16=(q:Int):=by rw[Int.tdiv_eq_ediv_of_nonneg Zb];omega
    have k3:IntKind.u8.wrap (q:Int)=(q:Int):=KD Zb Zb;have k4:(x:Int)%16=(r:Int):=Zb;have k5:(x:Int).tmod 16=(r:Int):=by rw[Int.tmod_eq_emod_of_nonneg Zb];omega
    have k6:IntKind.u8.wrap (r:Int)=(r:Int):=KD Zb Zb;have g1:=TN q hq16;have g2:=TN r hr16;rw[hq,<-hxe,hd1,hxe,<-hq]at g1;rw[hr,<-hxe,hd2,hxe,<-hr]at g2;rw[hxe]at hcase;clear hown hL hp HB hq hr hd1 hd2;have hcase2:(x:Int)<32\/(32<=(x:Int)/\(126<(x:Int)\/((x:Int)<=126/\(((x:Int) !=34)=false\/(((x:Int) !=34)=true/\((x:Int) !=92)=false))))):=by
     rcases hcase with h1|⟨h1,h2|⟨h2,h3|h3⟩⟩;.exact AO h1
     .exact AD ⟨h1,AO h2⟩
     .exact AD ⟨h1,AD ⟨h2,AO (by simp[h3])⟩⟩
     .exact AD ⟨h1,AD ⟨h2,AD ⟨by simp[h3],by simp[h3]⟩⟩⟩
    clear hcase;rcases hcase2 with h1|⟨h1,h2|⟨h2,h3|⟨h3,h4⟩⟩⟩;all_goals go_wp2_with fail;go_region_law(refine lJ rfl (.tmp 41) (.tmp 54) rfl w.1.size _ L [92,d1,d2] wr.1.size rfl rfl HO (DN wr (Lib.byteCells [92,d1,d2]) 5) Zd (by have:=hb.size;simp;omega) ?_;intro v2 w2 O2 b2);all_goals
      have B2:Below w.1.size w w2:=((hb.alloc hb.size _).drew).trans b2;go_wp2;go_roundw;case rel=>exact⟨k+1,Zb,by go_num,by rw[STEP.out];exact O2,B2⟩
      case measure=>simp[intOf];omega
  .have hks:k=s.size:=Zb;subst hks;have hl:=Lh s s.size;have STEP:=Ag (show R4 s=R8 s s.size++[34]from rfl);obtain⟨L,hL⟩:∃L,R8 s s.size=L:=⟨_,rfl⟩;rw[hL]at hown hl STEP;have HO:=Ag (hown.alloc (.cells #[.int .u8 34] 5));clear hown hL;go_wp2_with (at_builtin;go_must(refine wpList_append_own _ rfl _ _ 22 rfl w.1.size 5 i0 (.int .u8 0) 1 1 underlying22 hi0 hz0 hz1 hz2 rfl Za _ _ _ rfl HO ⟨wr.1.size,0,none⟩ 1 1 (Lib.byteCells [34]) rfl rfl (DN wr _ 5) WD Zs Zb (by have:=hb.size;simp;omega) ?_;intro v2 w2 hown2 hgrow2 _));have B2:=Ef (hb.alloc hb.size _) Bg (by have:=hb.size;simp;omega) HO hgrow2;have O2:EY w2 w.1.size v2 (L++[34]):=EY.app hown2;have hcv:=Pm O2 Zc;rw[<-STEP.out]at hcv;clear hown2 hgrow2 O2 HO STEP;rw[hcv];simp only[Result.andThen];rw[AZ];go_wp2;go_ret;exact⟨rfl,B2⟩
def K3 (xs:List ByteArray):List UInt8:=Lib.join (xs.map (·.data.toList)) [32]
def IQ (xs:List ByteArray):List Value:=xs.map Value.string
def SL (w:World)(base:Nat)(v:Value)(xs:List ByteArray):Prop:=∃g cap,v=.l (some ⟨g,0,none⟩) xs.length cap/\base<=g/\g<w.1.size/\xs.length<=cap/\(∀j,j<cap->(w.cell? ⟨g,j,none⟩).isSome=true/\w.frozen? ⟨g,j,none⟩=false)/\(∀j (h:j<xs.length),w.cell? ⟨g,j,none⟩=some (.s xs[j]))
theorem SL.grow{w w':World}{base B:Nat}{v:Value}{xs:List ByteArray}(h:SL w base v xs)(hb:Below B w w')(hB:w.1.size<=B):SL w' base v xs:=by obtain⟨g,cap,e1,e2,e3,e4,e5,e6⟩:=h;have hc:∀j,w'.cell? ⟨g,j,none⟩=w.cell? ⟨g,j,none⟩:=λj=>hb.cell (p:=⟨g,j,none⟩) (Ad e3 hB);have hf:∀j,w'.frozen? ⟨g,j,none⟩=w.frozen? ⟨g,j,none⟩:=λj=>hb.frozen (p:=⟨g,j,none⟩) (Ad e3 hB);exact⟨g,cap,e1,e2,Ad e3 hb.size,e4,λj hj=>by rw[hc,hf];exact e5 j hj,λj hj=>by rw[hc];exact e6 j hj⟩
theorem SL.new (w:World)(xs:List ByteArray):SL (w.alloc (.cells (IQ xs).toArray 9)) w.1.size (.l (some ⟨w.1.size,0,none⟩) xs.length xs.length) xs:=by
 have hl:(IQ xs).length=xs.length:=by simp[IQ]
 refine⟨w.1.size,xs.length,rfl,Az _,by rw[Au];exact Bj _,Az _,λj hj=>⟨?_,?_⟩,λj hj=>?_⟩;.rw[Ao,Ac,BN Zb];rfl
 .simp
 .rw[Ao,Ac,BN Zb];simp[IQ]
def JQ (xs:List ByteArray):ByteArray:=(⟨(K3 xs).toArray⟩:ByteArray)++(⟨#[10]⟩:ByteArray)
end Go.Proofs.YtofencldleijcaaGreat
