import Derived.Test.YtdknjmgdgnmhjaaGreatPk02
import Derived.Test.YtdknjmgdgnmhjaaGreatPk03
import Derived.Laws.BitsLemmas
import Derived.Lib.ItoaNum
import Derived.Deep.AppendSrc
import Derived.Deep.RegionLaw
import Derived.Lib.UnsafeStr
import Derived.Lib.Join
import Derived.Lib.AppendIntMem
import Derived.Lib.AppendStr
import Derived.Laws.Externs
import Derived.Shelf.RegionOpenPlain
set_option maxRecDepth 100000
set_option maxHeartbeats 4000000
namespace Go.Proofs.YtdknjmgdgnmhjaaGreat
open Go.RowKit Go.Proofs.Tryz
variable {R n cap p M a o k id base:Nat}{ad:OA}{w w' W:World}{x:Int}{l m:List UInt8}{P:Program}{ops:Array Oper}{Q:Exit→Act→World→Prop}{a0:Act}{v:Value}{b:UInt8}
theorem L1 (a b:Nat):(a:Int).tmod b=((a%b:Nat):Int):=rfl
theorem pq (x:Nat)(h:x<1000000000):∃y:Nat,bits .xor .i64 (x:Int) ((x:Int)/64)=y:=by have hk:∀n:Int,0<=n->n<2^62->IntKind.i64.wrap n=n:=λn h0 h1=>AQ _ ⟨Za,Za⟩;have e:((x:Int)/64)=((x/64:Nat):Int):=Za;rw[e];have ha':x%2^IntKind.i64.bits=x:=Nat.mod_eq_of_lt (by show x<18446744073709551616;omega);have hb':x/64%2^IntKind.i64.bits=x/64:=Nat.mod_eq_of_lt (by show x/64<18446744073709551616;omega);have hx:x^^^(x/64)<2^62:=Nat.xor_lt_two_pow Za Za;refine⟨x^^^(x/64),?_⟩;simp only[bits,BitVec.ofInt_natCast,BitVec.toNat_xor,BitVec.toNat_ofNat,ha',hb'];exact hk _ (Int.natCast_nonneg _) (by exact_mod_cast hx)
theorem xY (a b:Nat):(a:Int).tdiv b=((a/b:Nat):Int):=rfl
def oz (R b off n cap p q1 q2 q3 va vb:Nat)(_W:World)(i:Nat)(v:Value)(_X:World):Prop:=match i with
 |0=>v=.p R 0
 |1=>v=.p R 0
 |2=>v=.p R 0
 |3=>v=.l (some ⟨b,off,none⟩) n cap
 |4=>v=.i ((p:Nat):Int)
 |5=>v=.p R 0
 |6=>v=.p R 0
 |7=>v=.p R 0
 |8=>v=.l (some ⟨b,off,none⟩) n cap
 |9=>v=.i ((n:Nat):Int)
 |10=>v=.i ((q1:Nat):Int)
 |11=>v=.pointer (some ⟨b,off+q1,none⟩)
 |12=>v=.int .u8 ((va:Nat):Int)
 |13=>v=.i ((va:Nat):Int)
 |14=>v=.i ((va*131:Nat):Int)
 |15=>v=.p R 0
 |16=>v=.p R 0
 |17=>v=.p R 0
 |18=>v=.l (some ⟨b,off,none⟩) n cap
 |19=>v=.i ((p:Nat):Int)
 |20=>v=.i ((p*7:Nat):Int)
 |21=>v=.i ((p*7+3:Nat):Int)
 |22=>v=.p R 0
 |23=>v=.p R 0
 |24=>v=.p R 0
 |25=>v=.l (some ⟨b,off,none⟩) n cap
 |26=>v=.i ((n:Nat):Int)
 |27=>v=.i ((q2:Nat):Int)
 |28=>v=.pointer (some ⟨b,off+q2,none⟩)
 |29=>v=.int .u8 ((vb:Nat):Int)
 |30=>v=.i ((vb:Nat):Int)
 |31=>v=.i ((vb*1117:Nat):Int)
 |32=>v=.i ((va*131+vb*1117:Nat):Int)
 |33=>v=.i ((p:Nat):Int)
 |34=>v=.i ((p*29:Nat):Int)
 |35=>v=.i ((va*131+vb*1117+p*29:Nat):Int)
 |36=>v=.i ((p:Nat):Int)
 |37=>v=.p R 0
 |38=>v=.p R 0
 |39=>v=.p R 0
 |40=>v=.l (some ⟨b,off,none⟩) n cap
 |41=>v=.i ((n:Nat):Int)
 |42=>v=.i ((q3:Nat):Int)
 |43=>v=.i ((q3*53:Nat):Int)
 |44=>v=.i ((va*131+vb*1117+p*29+q3*53:Nat):Int)
 |_=>True
theorem Aav{p2 p3 p4 p6 p7 p8 p9 Ea Ee Em D1 DW DN DU DX DO DP DV DT D9 Ef EJ Ej El Ei Ed Eh Ek Ey Ev Ew Ex EM EH EI EV Er EB ER ES EQ EC ED Eo J9 Kc KL KJ KM KN KI:Value}{mk:(Nat->Value)->Array Value}(t0:Nat->Value)(R b off n cap p q1 q2 q3 va vb:Nat)(W:World)(m:Int)(hR:R<W.1.size)(hB:b<W.1.size)(hc:W.cell? ⟨R,0,none⟩=some (.slice (some ⟨b,off,none⟩) n cap))(ha:W.cell? ⟨b,off+q1,none⟩=some (.int .u8 ((va:Nat):Int)))(hv:W.cell? ⟨b,off+q2,none⟩=some (.int .u8 ((vb:Nat):Int)))(LU:0<n)(hn:n<=2000)(hp:p<=1000000)(h1:va<256)(h2:vb<256)(m1:(p:Int).tmod n=q1)(m2:((p:Int)*7+3).tmod n=q2)(m3:(p:Int).tdiv n=q3)(l1:q1<n)(l2:q2<n)(l3:q3<=p)(Dg:mk=λt=>#[.p R 0,.i m,p2,p3,p4,.i ((p:Nat):Int),p6,p7,p8,p9,Ea,Ee,Em,D1,DW,DN,DU,DX,DO,DP,DV,DT,D9,Ef,EJ,Ej,El,Ei,Ed,Eh,Ek,Ey,Ev,Ew,Ex,EM,EH,EI,EV,Er,EB,ER,ES,EQ,EC,ED,Eo,t 0,t 1,t 2,t 3,t 4,t 5,t 6,t 7,t 8,t 9,t 10,t 11,t 12,t 13,t 14,t 15,t 16,t 17,t 18,t 19,t 20,t 21,t 22,t 23,t 24,t 25,t 26,t 27,t 28,t 29,t 30,t 31,t 32,t 33,t 34,t 35,t 36,t 37,t 38,t 39,t 40,t 41,t 42,t 43,t 44,J9,Kc,KL,KJ,KM,KN,KI])(Q:Exit->Act->World->Prop)(hQ:∀(t:Nat->Value) X,Below W.1.size W X->Q .normal ⟨#[.p R 0,.i m,p2,p3,p4,.i ((p:Nat):Int),.i ((va*131+vb*1117+p*29+q3*53:Nat):Int),p7,p8,p9,Ea,Ee,Em,D1,DW,DN,DU,DX,DO,DP,DV,DT,D9,Ef,EJ,Ej,El,Ei,Ed,Eh,Ek,Ey,Ev,Ew,Ex,EM,EH,EI,EV,Er,EB,ER,ES,EQ,EC,ED,Eo,t 0,t 1,t 2,t 3,t 4,t 5,t 6,t 7,t 8,t 9,t 10,t 11,t 12,t 13,t 14,t 15,t 16,t 17,t 18,t 19,t 20,t 21,t 22,t 23,t 24,t 25,t 26,t 27,t 28,t 29,t 30,t 31,t 32,t 33,t 34,t 35,t 36,t 37,t 38,t 39,t 40,t 41,t 42,t 43,t 44,J9,Kc,KL,KJ,KM,KN,KI],[]⟩ X):Code.wp prog (rg Tryz.f16 7) Q ⟨mk t0,[]⟩ W:=by
 refine NK Zc 45 mk t0 (oz R b off n cap p q1 q2 q3 va vb W) (λa X=>∃(t:Nat->Value),a=⟨#[.p R 0,.i m,p2,p3,p4,.i ((p:Nat):Int),.i ((va*131+vb*1117+p*29+q3*53:Nat):Int),p7,p8,p9,Ea,Ee,Em,D1,DW,DN,DU,DX,DO,DP,DV,DT,D9,Ef,EJ,Ej,El,Ei,Ed,Eh,Ek,Ey,Ev,Ew,Ex,EM,EH,EI,EV,Er,EB,ER,ES,EQ,EC,ED,Eo,t 0,t 1,t 2,t 3,t 4,t 5,t 6,t 7,t 8,t 9,t 10,t 11,t 12,t 13,t 14,t 15,t 16,t 17,t 18,t 19,t 20,t 21,t 22,t 23,t 24,t 25,t 26,t 27,t 28,t 29,t 30,t 31,t 32,t 33,t 34,t 35,t 36,t 37,t 38,t 39,t 40,t 41,t 42,t 43,t 44,J9,Kc,KL,KJ,KM,KN,KI],[]⟩/\Below W.1.size W X) Zc Zc Zc ?_ rfl ?_ ?_ ?_;all_goals subst Dg
 .intro i v X Y LA h hb;iterate 45 (rcases i with _|i;.first|exact h)
  omega
 .intro i LA t X K hb hg hK;rcases(show i=0\/i=1\/i=2\/i=3\/i=4\/i=5\/i=6\/i=7\/i=8\/i=9\/i=10\/i=11\/i=12\/i=13\/i=14\/i=15\/i=16\/i=17\/i=18\/i=19\/i=20\/i=21\/i=22\/i=23\/i=24\/i=25\/i=26\/i=27\/i=28\/i=29\/i=30\/i=31\/i=32\/i=33\/i=34\/i=35\/i=36\/i=37\/i=38\/i=39\/i=40\/i=41\/i=42\/i=43\/i=44 by omega)with rfl|rfl|rfl|rfl|rfl|rfl|rfl|rfl|rfl|rfl|rfl|rfl|rfl|rfl|rfl|rfl|rfl|rfl|rfl|rfl|rfl|rfl|rfl|rfl|rfl|rfl|rfl|rfl|rfl|rfl|rfl|rfl|rfl|rfl|rfl|rfl|rfl|rfl|rfl|rfl|rfl|rfl|rfl|rfl|rfl;.exact sg
  .have AY:t 0=_:=hg 0 (AR rfl);exact L7
  .have AY:t 1=_:=hg 1 (AR rfl);exact L7
  .have AY:t 2=_:=hg 2 (AR rfl);exact XL
  .exact sg
  .exact sg
  .have AY:t 5=_:=hg 5 (AR rfl);exact L7
  .have AY:t 6=_:=hg 6 (AR rfl);exact L7
  .have AY:t 7=_:=hg 7 (AR rfl);exact XL
  .have AY:t 8=_:=hg 8 (AR rfl);exact L7
  .have AY:t 4=_:=hg 4 (AR rfl);have Ff:t 9=_:=hg 9 (AR rfl);have h:=hK _ X rfl Dx;refine Au rfl rfl ?_;clear hK hg;go_simp;rw[if_neg Za,BK];go_simp;simpa[AX,AY,Ff,m1]using h
  .have AY:t 3=_:=hg 3 (AR rfl);have Ff:t 10=_:=hg 10 (AR rfl);exact Yq
  .have AY:t 11=_:=hg 11 (AR rfl);have c1:=(hb.cell (p:=⟨b,off+q1,none⟩) hB).trans ha;exact L7
  .have AY:t 12=_:=hg 12 (AR rfl);have hw:=AQ ((va:Int)) ⟨Za,Za⟩;exact Pn
  .have AY:t 13=_:=hg 13 (AR rfl);have hw:=AQ ((va:Int)*131) ⟨Za,Za⟩;exact Pn
  .exact sg
  .have AY:t 15=_:=hg 15 (AR rfl);exact L7
  .have AY:t 16=_:=hg 16 (AR rfl);exact L7
  .have AY:t 17=_:=hg 17 (AR rfl);exact XL
  .exact sg
  .have AY:t 19=_:=hg 19 (AR rfl);have hw:=AQ ((p:Int)*7) ⟨Za,Za⟩;exact Pn
  .have AY:t 20=_:=hg 20 (AR rfl);have hw:=AQ ((p:Int)*7+3) ⟨Za,Za⟩;exact Pn
  .exact sg
  .have AY:t 22=_:=hg 22 (AR rfl);exact L7
  .have AY:t 23=_:=hg 23 (AR rfl);exact L7
  .have AY:t 24=_:=hg 24 (AR rfl);exact XL
  .have AY:t 25=_:=hg 25 (AR rfl);exact L7
  .have AY:t 21=_:=hg 21 (AR rfl);have Ff:t 26=_:=hg 26 (AR rfl);have h:=hK _ X rfl Dx;refine Au rfl rfl ?_;clear hK hg;go_simp;rw[if_neg Za,BK];go_simp;simpa[AX,AY,Ff,m2]using h
  .have AY:t 18=_:=hg 18 (AR rfl);have Ff:t 27=_:=hg 27 (AR rfl);exact Yq
  .have AY:t 28=_:=hg 28 (AR rfl);have c1:=(hb.cell (p:=⟨b,off+q2,none⟩) hB).trans hv;exact L7
  .have AY:t 29=_:=hg 29 (AR rfl);have hw:=AQ ((vb:Int)) ⟨Za,Za⟩;exact Pn
  .have AY:t 30=_:=hg 30 (AR rfl);have hw:=AQ ((vb:Int)*1117) ⟨Za,Za⟩;exact Pn
  .have AY:t 14=_:=hg 14 (AR rfl);have Ff:t 31=_:=hg 31 (AR rfl);have hw:=AQ ((va:Int)*131+(vb:Int)*1117) ⟨Za,Za⟩;exact gi
  .exact sg
  .have AY:t 33=_:=hg 33 (AR rfl);have hw:=AQ ((p:Int)*29) ⟨Za,Za⟩;exact Pn
  .have AY:t 32=_:=hg 32 (AR rfl);have Ff:t 34=_:=hg 34 (AR rfl);have hw:=AQ ((va:Int)*131+(vb:Int)*1117+(p:Int)*29) ⟨Za,Za⟩;exact gi
  .exact sg
  .exact sg
  .have AY:t 37=_:=hg 37 (AR rfl);exact L7
  .have AY:t 38=_:=hg 38 (AR rfl);exact L7
  .have AY:t 39=_:=hg 39 (AR rfl);exact XL
  .have AY:t 40=_:=hg 40 (AR rfl);exact L7
  .have AY:t 36=_:=hg 36 (AR rfl);have Ff:t 41=_:=hg 41 (AR rfl);have hw:=AQ (q3:Int) ⟨Za,Za⟩;have h:=hK _ X rfl Dx;refine Au rfl rfl ?_;clear hK hg;go_simp;rw[if_neg Za,BK];go_simp;simpa[AX,AY,Ff,m3,hw]using h
  .have AY:t 42=_:=hg 42 (AR rfl);have hw:=AQ ((q3:Int)*53) ⟨Za,Za⟩;exact Pn
  .have AY:t 35=_:=hg 35 (AR rfl);have Ff:t 43=_:=hg 43 (AR rfl);have hw:=AQ ((va:Int)*131+(vb:Int)*1117+(p:Int)*29+(q3:Int)*53) ⟨Za,Za⟩;exact gi
 .intro t X K hb hg hK;have AY:t 44=_:=hg 44 Za;have h:=hK ⟨#[.p R 0,.i m,p2,p3,p4,.i ((p:Nat):Int),.i ((va*131+vb*1117+p*29+q3*53:Nat):Int),p7,p8,p9,Ea,Ee,Em,D1,DW,DN,DU,DX,DO,DP,DV,DT,D9,Ef,EJ,Ej,El,Ei,Ed,Eh,Ek,Ey,Ev,Ew,Ex,EM,EH,EI,EV,Er,EB,ER,ES,EQ,EC,ED,Eo,t 0,t 1,t 2,t 3,t 4,t 5,t 6,t 7,t 8,t 9,t 10,t 11,t 12,t 13,t 14,t 15,t 16,t 17,t 18,t 19,t 20,t 21,t 22,t 23,t 24,t 25,t 26,t 27,t 28,t 29,t 30,t 31,t 32,t 33,t 34,t 35,t 36,t 37,t 38,t 39,t 40,t 41,t 42,t 43,t 44,J9,Kc,KL,KJ,KM,KN,KI],[]⟩ X ⟨t,rfl,hb⟩;exact fI
 .exact dY
structure Rd (w:World)(R:Nat)(ad:OA)(n cap p:Nat):Prop where
 c0:w.cell? ⟨R,0,none⟩=some (.slice ad n cap)c1:w.cell? ⟨R,1,none⟩=some (.i p)f1:w.frozen? ⟨R,1,none⟩=false
 lt:R<w.1.size
 n2:n<=2000
 bt:∀i,i<n->∃b off v,ad=some ⟨b,off,none⟩/\b<w.1.size/\¬b=R/\w.cell? ⟨b,off+i,none⟩=some (.int .u8 v)/\0<=v/\v<256
 ns:∀j s,¬w.cell? ⟨R,j,none⟩=some (.s s)
def PkP (R:Nat)(ad:OA)(n cap p:Nat)(m:Int)(w:World)(e:Ending)(w':World):Prop:=∃v:Nat,e=.returned (.i v)/\(m<1->v=0)/\(1<=m->(v:Int)<m)/\AB (λq=>q=R) w w'/\Rd w' R ad n cap (p+1)
theorem aY (hr:Rd w R ad n cap p)(hb:Below w.1.size (w.setCell ⟨R,1,none⟩ (.i ((p:Int)+1))) w'):AB (λq=>q=R) w w'/\Rd w' R ad n cap (p+1):=by
 have hs:(w.setCell ⟨R,1,none⟩ (.i ((p:Int)+1))).1.size=w.1.size:=Be ..;refine⟨AB.trans (AB.setCell (P:=λq=>q=R) (AB.refl _ w) (p:=⟨R,1,none⟩) rfl (.i ((p:Int)+1))) (Aj (by rw[hs];exact hb)),⟨?_,?_,?_,?_,hr.n2,λi hi=>?_,λj s h=>?_⟩⟩;.rw[hb.cell (p:=⟨R,0,none⟩) hr.lt,AI _ _ _ _ Ze];exact hr.c0
 .rw[hb.cell (p:=⟨R,1,none⟩) hr.lt,Cd _ _ _ hr.c1];simp
 .rw[hb.frozen (p:=⟨R,1,none⟩) hr.lt,Fs];exact hr.f1
 .have:=hb.size;rw[hs]at this;exact Aa hr.lt this
 .obtain⟨b,off,v,e1,e2,e3,e4,e5,e6⟩:=hr.bt i hi;refine⟨b,off,v,e1,?_,e3,?_,e5,e6⟩;.have:=hb.size;rw[hs]at this;exact Aa e2 this
  .rw[hb.cell (p:=⟨b,off+i,none⟩) e2,AI _ _ _ _ Zcc];exact e4
 .rw[hb.cell (p:=⟨R,j,none⟩) hr.lt]at h;by_cases e:j=1;.subst e;rw[Cd _ _ _ hr.c1]at h;cases h
  .rw[AI _ _ _ _ (λq=>e (congrArg Addr.off q).symm)]at h;exact hr.ns j s h
theorem Bt (R:Nat)(ad:OA)(n cap p:Nat)(m:Int)(w:World)(hr:Rd w R ad n cap p)(hp:p<=1000000)(hm:m<=1000000)(hm0:-1000000<=m):Calls prog 16 #[.p R 0,.i m] w λe w'=>PkP R ad n cap p m w e w':=by
 have HR:=Ab hr;obtain⟨c0,c1,f1,hlt,hn,hby,_⟩:=hr;have HB:=Ab hby;clear hby;by_cases h1:m<1;.exact zj
 .by_cases h2:n=0;.subst h2;exact zj
  .by_cases h3:p<n;.obtain⟨b,off,v,rfl,e2,e3,e4,e5,e6⟩:=HB p h3;clear HB;go_enter func16,ntmps16;go_wp2;go_ret;obtain⟨v,rfl⟩:=JS e5;obtain⟨m',rfl⟩:∃m':Nat,m=m':=JS Za;refine⟨v%m',Ze,λh=>by omega,λ_=>?_,aY HR Dx⟩;have:=GX v (show 0<m' by omega);omega
   .obtain⟨b,off,v0,FV,e2,e3,_,_,_⟩:=HB.out 0 Za;have ha:∀i,i<n->∃v:Nat,w.cell? ⟨b,off+i,none⟩=some (.int .u8 (v:Int))/\v<256:=λi hi=>by obtain⟨b',off',v,hb',_,_,g4,g5,g6⟩:=HB i hi;rw[FV]at hb';cases hb';obtain⟨v,rfl⟩:=JS g5;exact⟨v,g4,Za⟩
    subst FV;clear HB;have l1:=GX p (show 0<n by omega);have l2:=GX (p*7+3) (show 0<n by omega);obtain⟨va,a1,a3⟩:=ha (p%n) l1;obtain⟨vb,b1,b3⟩:=ha ((p*7+3)%n) l2;clear ha;have VM:=Ab (L1 p n);have Up:=Ab (L1 (p*7+3) n);have VE:=Ab (xY p n);have l3:=Nat.div_le_self p n;generalize GM:p%n=q1 at*;generalize Lz:(p*7+3)%n=q2 at*;generalize gK:p/n=q3 at*;have H1:=Ab GM;have H2:=Ab Lz;have H3:=Ab gK;clear GM Lz gK;go_enter func16,ntmps16;go_wp2;refine Aav (λ_=>undef) R b off n cap p q1 q2 q3 va vb _ m (by simpa using hlt) (by simpa using e2) ?_ ?_ ?_ Za hn hp a3 b3 VM (by have:=Up.out;simpa using this) VE l1 l2 l3 rfl _ ?_;.rw[AI _ _ _ _ Ze];exact c0
    .rw[AI _ _ _ _ Zcc];exact a1
    .rw[AI _ _ _ _ Zcc];exact b1
    .intro t X hb;have HX:=Ab hb;clear hb VM Up VE;obtain⟨x,hx⟩:∃x:Nat,va*131+vb*1117+p*29+q3*53=x:=⟨_,rfl⟩;have hxb:x<1000000000:=Za;rw[hx];clear hx;obtain⟨y,hy⟩:∃y:Nat,bits .xor .i64 (x:Int) ((x:Int)/64)=y:=pq x Za;have HY:=Ab hy;clear hy;go_wp2;rw[HY.out];go_ret;obtain⟨m',rfl⟩:∃m':Nat,m=m':=JS Za;refine⟨y%m',by simp[L1],λh=>by omega,λ_=>?_,aY HR (by simpa using HX.out)⟩;have:=GX y (show 0<m' by omega);omega
theorem xH (h:a*n+o<=M)(hn:n%2=1):(a+a)*(n/2)+(o+a)<=M:=by
 have:n=2*(n/2)+1:=Za;have e:a*n=(a+a)*(n/2)+a:=by rw[this,show(2*(n/2)+1)/2=n/2 by omega,Nat.mul_add,Oq,<-Nat.mul_assoc,Nat.mul_two]
 omega
theorem iT (h:a*n+o<=M)(hn:¬n%2=1):(a+a)*(n/2)+o<=M:=by
 have:n=2*(n/2):=Za;have e:a*n=(a+a)*(n/2):=by rw[this,show(2*(n/2))/2=n/2 by omega,<-Nat.mul_assoc,Nat.mul_two]
 omega
theorem pn (h:a*n+o<=M)(hn:0<n):a<=M/\o<=M:=by have:=Nat.le_mul_of_pos_right a hn;omega
theorem vY (M:Nat)(hM:M<=1000)(s:ByteArray)(n:Nat)(w:World)(h:s.size*n<=M)(hs:s.size<=2000)(hn:n<=1000):Calls prog 84 #[.s s,.i n] w λe w'=>∃o:ByteArray,e=.returned (.s o)/\o.size<=M/\Below w.1.size w w':=by
 go_enter func84,ntmps84;go_wp2_with fail;go_loopw[0,1,5](λa b c wr=>∃(s o:ByteArray)(n:Nat),a=.s s/\b=.i n/\c=.s o/\Hid (s.size*n+o.size<=M)/\s.size<=2000/\n<=1000/\Hid (wr=w))(λ_ b _ _=>(intOf b).toNat);case atStart=>exact⟨s,⟨#[]⟩,n,rfl,rfl,rfl,Ab h,hs,hn,Ab rfl⟩
 case round=>
  clear h hs hn s n;obtain⟨s,o,n,rfl,rfl,rfl,H,hs,hn,HW⟩:=hrel;by_cases h0:n=0
  .subst h0;have ho:o.size<=M:=by have:=H.out;omega
   have HO:=Ab ho;clear ho;go_wp2;go_ret;exact⟨o,rfl,HO,by rw[HW.out];exact Ap _ _⟩
  .obtain⟨m1,m2⟩:=pn H Za;have hq:IntKind.i64.wrap ((n:Int)/2)=((n/2:Nat):Int):=by rw[AQ _ ⟨Za,Za⟩];omega
   by_cases h1:n%2=1
   .have HN:=Ab (xH H h1);have hm:(n:Int).tmod 2=1:=by have:(n:Int).tmod 2=((n%2:Nat):Int):=L1 n 2;omega
    clear H;go_wp2;refine⟨⟨s++s,o++s,n/2,rfl,by congr 1,rfl,Ab ?_,?_,Za,HW⟩,?_⟩;.have:=HN.out;simpa[Ft]using this
    .simp ;omega
    .show((n:Int)/2).toNat<((n:Int)).toNat;omega
   .have HN:=Ab (iT H h1);have hm:¬(n:Int).tmod 2=1:=by have:(n:Int).tmod 2=((n%2:Nat):Int):=L1 n 2;omega
    clear H;go_wp2;refine⟨⟨s++s,o,n/2,rfl,by congr 1,rfl,Ab ?_,?_,Za,HW⟩,?_⟩;.have:=HN.out;simpa[Ft]using this
    .simp ;omega
    .show((n:Int)/2).toNat<((n:Int)).toNat;omega
theorem TY (W:World)(b:Nat)(x:Int)(hx0:0<=x)(hx1:x<256)(hc:W.cell? ⟨b,0,none⟩=some (.int .u8 x)):(convert 22 9 (Value.slice (some ⟨b,0,none⟩) 1 1)).run prog W=.ok (.s ⟨#[UInt8.ofNat x.toNat]⟩) W:=by
 have:=run_convert_bytes_back (P:=prog) W 22 9 5 ⟨b,0,none⟩ 1 [UInt8.ofNat x.toNat] underlying22 underlying5 underlying9 (by
  intro i hi;have:i=0:=by simpa using hi
  subst this;have e:((⟨b,0,none⟩:Addr).add 0)=⟨b,0,none⟩:=by simp[Addr.add]
  rw[e,hc];simp;omega);simpa using this
theorem WL (h0:0<=x)(h1:x<=9223372036854775807):IntKind.i64.wrap x=x:=by have e:x%2^64=x:=Int.emod_eq_of_lt h0 Za;simp only[IntKind.wrap,IntKind.bits,e];rw[if_neg (by simp;intro _;omega)]
theorem MX (h0:0<=x)(h1:x<=255):IntKind.u8.wrap x=x:=by have e:x%2^8=x:=Int.emod_eq_of_lt h0 Za;simp only[IntKind.wrap,IntKind.bits,e];rw[if_neg (by simp[IntKind.signed])]
theorem ZK (u:Nat):Lib.nDigits u<=u+1:=by induction u using Nat.strongRecOn with
 |ind u ih=>
  by_cases h:u<10;.rw[Lib.nDigits_small h];omega
  .rw[Lib.nDigits_big h];have:=ih (u/10) Za;omega
theorem WZ (q:Nat):(⟨(Lib.decDigits q).toArray⟩:ByteArray).size<=q+1:=by
 have:=ZK q;have e:(⟨(Lib.decDigits q).toArray⟩:ByteArray).size=(Lib.decDigits q).length:=by simp[ByteArray.size]
 rw[e,Lib.decDigits_length];exact this
theorem wW{q:Nat}(hn:(n:Int)<=9223372036854775807)(e:q=n/10):IntKind.i64.wrap ((n:Int)/10)=(q:Int):=by subst e;rw[wrap_i64_ediv _ _ Za Za Za];omega
theorem pu{r:Nat}(e:r=n%10):(n:Int).tmod 10=(r:Int):=by subst e;rw[Int.tmod_eq_emod_of_nonneg Za];omega
theorem mx (a b:List UInt8):(⟨a.toArray⟩:ByteArray)++⟨b.toArray⟩=⟨(a++b).toArray⟩:=by apply ByteArray.ext;simp
theorem eG:∀(n:Nat)(_:(n:Int)<=9223372036854775807)(w:World),Calls prog 85 #[.i n] w λe w'=>e=.returned (.s ⟨(Lib.decDigits n).toArray⟩)/\Below w.1.size w w':=by intro n;induction n using Nat.strongRecOn with
 |ind n ih=>
 intro hn w;go_enter func85,ntmps85;by_cases h:n<10;.have Qv:=TY (w.alloc (.cells #[.int .u8 (48+(n:Int))] 5)) w.1.size (48+(n:Int)) Za Za Ze;have e:(48+(n:Int)).toNat=48+n:=Za;obtain⟨y,hy⟩:∃y:UInt8,y=UInt8.ofNat (48+n):=⟨_,rfl⟩;rw[e,<-hy]at Qv;have HY:=Ab (Lib.decDigits_one h);rw[<-hy]at HY;clear hy e;go_wp2;go_ret;exact⟨by rw[HY.out];rfl,(Ap _ _).alloc A9 _⟩
 .have h1:¬(n:Int)<10:=Za;obtain⟨q,hq⟩:∃q:Nat,q=n/10:=⟨_,rfl⟩;obtain⟨r,hr⟩:∃r:Nat,r=n%10:=⟨_,rfl⟩;have Ai3:r<10:=Za;have hw:=wW hn hq;have hm:=pu hr;have hqn:q<n:=Za;have hD:Lib.decDigits n=Lib.decDigits q++[UInt8.ofNat (48+r)]:=by rw[Lib.decDigits,dif_neg h,hq,hr]
  obtain⟨y,hy⟩:∃y:UInt8,y=UInt8.ofNat (48+r):=⟨_,rfl⟩;rw[<-hy]at hD;have Qv:∀(W:World)(b:Nat),W.cell? ⟨b,0,none⟩=some (.int .u8 (48+(r:Int)))->(convert 22 9 (Value.slice (some ⟨b,0,none⟩) 1 1)).run prog W=.ok (.s ⟨#[y]⟩) W:=λW b hc=>by have:=TY W b (48+(r:Int)) Za Za hc;rwa[show(48+(r:Int)).toNat=48+r by omega,<-hy]at this
  have Dq:IntKind.i64.wrap (48+(r:Int))=48+(r:Int):=WL Za Za;have hw3:IntKind.u8.wrap (48+(r:Int))=48+(r:Int):=MX Za Za;have HD:=Ab hD;have Lz:(q:Int)<=922337203685477580:=Za;obtain⟨s,hs⟩:∃s:ByteArray,s=⟨(Lib.decDigits q).toArray⟩:=⟨_,rfl⟩;have hss:(s.size:Int)<=(q:Int)+1:=by rw[hs];have:=WZ q;omega
  have HIH:=Ab (ih q hqn Za);rw[<-hs]at HIH;have HS:=Ab hs;clear hs;clear hD hq hr ih hqn h hy;go_wp2_with fail;go_region_with(first|(go_at_call 85;go_must(refine(HIH _).mono ?_;rintro e w1 ⟨rfl,AU⟩;first|(have c1:w1.cell? ⟨w.1.size,0,none⟩=some (.int .u8 (48+(r:Int))):=by(rw[AU.cell (p:=⟨w.1.size,0,none⟩) Ze];simp;done))|skip)));all_goals
   have hB:Below w.1.size w w1:=by first
    |exact((Ap w.1.size w).drew).trans (AU.mono Ze)
    |exact(((Ap w.1.size w).alloc A9 _).drew).trans (AU.mono Ze)
   go_wp2;go_ret;refine⟨?_,?_⟩;.rw[HD.out,<-mx,<-HS.out];rfl
   .first
    |exact hB
    |exact hB.alloc hB.size _
def Dn (R:Nat)(ad:OA)(n cap p k:Nat)(w w':World):Prop:=AB (λq=>q=R) w w'/\∃p',p<=p'/\p'<=p+k/\Rd w' R ad n cap p'
theorem Rd.below (h:Rd w R ad n cap p)(hb:Below w.1.size w w'):Rd w' R ad n cap p:=by
 refine⟨?_,?_,?_,Aa h.lt hb.size,h.n2,λi hi=>?_,λj s q=>h.ns j s (by rw[hb.cell (p:=⟨R,j,none⟩) h.lt]at q;exact q)⟩;.rw[hb.cell (p:=⟨R,0,none⟩) h.lt];exact h.c0
 .rw[hb.cell (p:=⟨R,1,none⟩) h.lt];exact h.c1
 .rw[hb.frozen (p:=⟨R,1,none⟩) h.lt];exact h.f1
 .obtain⟨b,off,v,e1,e2,e3,e4,e5,e6⟩:=h.bt i hi;exact⟨b,off,v,e1,Aa e2 hb.size,e3,(hb.cell (p:=⟨b,off+i,none⟩) e2).trans e4,e5,e6⟩
theorem Dn.one (hf:AB (λq=>q=R) w w')(hr:Rd w' R ad n cap (p+1))(hk:1<=k):Dn R ad n cap p k w w':=⟨hf,p+1,Za,Za,hr⟩
theorem Dn.below{w1:World}(h:Dn R ad n cap p k w w1)(hb:Below w1.1.size w1 w'):Dn R ad n cap p k w w':=by obtain⟨hf,p',h1,h2,hr⟩:=h;exact⟨hf.trans (Aj hb),p',h1,h2,hr.below hb⟩
theorem Dn.le{j:Nat}(h:Dn R ad n cap p k w w')(hk:k<=j):Dn R ad n cap p j w w':=by obtain⟨hf,p',a1,a2,hr⟩:=h;exact⟨hf,p',a1,Za,hr⟩
theorem zJ (R:Nat)(ad:OA)(n cap p:Nat)(w:World)(hr:Rd w R ad n cap p)(hp:p<=900000):Calls prog 60 #[.p R 0] w λe w'=>∃s:ByteArray,e=.returned (.s s)/\s.size<=300/\Dn R ad n cap p 2 w w':=by
 have HR:=Ab hr;clear hr;go_enter func60,ntmps60;go_wp2_with fail;refine(Bt R ad n cap p 8 w HR Za Za Za).mono ?_;rintro e w1 ⟨v,rfl,_,hv,VP,PT⟩;have hv:=hv Za;have H1:=Ab (Dn.one (k:=1) VP PT A9);have kh:=Ab PT;have gM:=Ab VP;clear VP PT HR;by_cases h0:v=0
 .subst h0;go_wp2;go_ret;exact⟨⟨#[]⟩,rfl,Zb,H1.le Za⟩
 .by_cases h1:v=1;.subst h1;go_wp2;go_ret;exact⟨_,rfl,Zb,H1.le Za⟩
  .by_cases h2:v=2
   .subst h2;go_wp2_with fail;refine(Bt R ad n cap (p+1) 2 w1 kh Za Za Za).mono ?_;rintro e w2 ⟨v,rfl,_,ir,gG,Me⟩;have ir:=ir Za;have H2:Hid (Dn R ad n cap p 2 w w2):=⟨gM.trans gG,p+1+1,Za,Za,Me⟩;clear gG Me H1 gM kh;have e9:IntKind.i64.wrap ((300:Int)-v)=((300-v:Nat):Int):=by rw[AQ _ ⟨Za,Za⟩];omega
    have hn9:300-v<=300:=Za;go_wp2_with fail;refine(vY 300 Za ⟨#[116]⟩ (300-v) w2 (by show 1*(300-v)<=300;omega) Zb Za).mono ?_;rintro e w3 ⟨o,rfl,ho,C6⟩;have Gj:=Ab C6;have HO:=Ab ho;clear C6 ho;go_wp2;go_ret;exact⟨o,rfl,HO,H2.below Gj⟩
   .go_wp2_with fail;refine(Bt R ad n cap (p+1) 20 w1 kh Za Za Za).mono ?_;rintro e w2 ⟨v,rfl,_,ir,gG,Me⟩;have ir:=ir Za;have H2:Hid (Dn R ad n cap p 2 w w2):=⟨gM.trans gG,p+1+1,Za,Za,Me⟩;clear gG Me H1 gM kh;go_wp2_with fail;refine(eG v Za w2).mono ?_;rintro e w3 ⟨rfl,C6⟩;have hz:=WZ v;obtain⟨d,hd⟩:∃d:ByteArray,d=⟨(Lib.decDigits v).toArray⟩:=⟨_,rfl⟩;rw[<-hd]at hz⊢;clear hd;have Gj:=Ab C6;clear C6;go_wp2;go_ret;exact⟨_,rfl,by rw[Ft];have:(⟨#[118]⟩:ByteArray).size=1:=rfl;omega,H2.below Gj⟩
theorem XA{l:Array Bool}{i:Nat}(hi:i<l.size)(h:l.getD i false=false):(l.setIfInBounds i true).toList.count true=l.toList.count true+1:=by
 have e:l.toList[i]'Zci=false:=by simpa[Array.getD,hi]using h
 rw[Array.toList_setIfInBounds,List.count_set Zci];simp[e]
def RM (n Kk m:Nat)(Pw:Nat->Prop)(mk:(Nat->Value)->Array Value)(W:World)(R:Nat)(ad:OA)(nn cap p:Nat)(G:Nat->Value->World->Prop)(Fin:Act->World->Prop)(ops:Array Oper)(l:Array Bool)(a:Act)(X:World):Prop:=(l.size=n+1/\∀i j,l.getD i false=true->Ci ops i j->l.getD j false=true)/\((l.getD n false=true->(∀i,i<n->l.getD i false=true)/\Fin a X)/\(l.getD n false=false->∃t:Nat->Value,a=⟨mk t,[]⟩/\AB Pw W X/\(l.getD m false=false->AB (λq=>q=R) W X)/\(∃p',p<=p'/\p'<=p+Kk*l.toList.count true/\Rd X R ad nn cap p')/\∀i,i<n->l.getD i false=true->G i (t i) X))
theorem JJ (hm:P.follows .mixedOrders=true)(n Kk m:Nat)(par pm:Nat->Nat)(fl:Nat->Bool)(Pw:Nat->Prop)(mk:(Nat->Value)->Array Value)(t0:Nat->Value)(R:Nat)(ad:OA)(nn cap p:Nat)(G:Nat->Value->World->Prop)(Fin:Act->World->Prop)(hn:ops.size=n+1)(Fj:((List.range ops.size).all λi=>match ops[i]? with|some o=>o.after.all (λe=>!(Region.binds .any e)||decide (e.on<i))|none=>true)=true)(Jq:((List.range n).all λj=>decide (j<par j/\par j<=n)&&match ops[par j]? with|some o=>o.after.any (λe=>Region.binds .any e&&e.on==j)|none=>false)=true)(jr:((List.range n).all λj=>!(fl j)||(decide (j<pm j/\pm j<=m/\(pm j=m\/fl (pm j)=true))&&match ops[pm j]? with|some o=>o.after.any (λe=>Region.binds .any e&&e.on==j)|none=>false))=true)(st2:∀i v X Y p',i<n->¬i=m->G i v X->AB Pw X Y->Rd X R ad nn cap p'->R<W.1.size->W.1.size<=X.1.size->G i v Y)(st:∀i v X Y p',i<n->G i v X->AB (λq=>q=R) X Y->Rd X R ad nn cap p'->R<W.1.size->W.1.size<=X.1.size->G i v Y)(hPw:Pw R)(h0:a0=⟨mk t0,[]⟩)(hr:Rd W R ad nn cap p)(sg:∀i,i<n->¬i=m->∀(t:Nat->Value) X K p',AB Pw W X->(fl i=true->AB (λq=>q=R) W X)->p<=p'->p'<=p+Kk*n->Rd X R ad nn cap p'->(∀j,Ci ops i j->G j (t j) X)->(∀v Y p2,p'<=p2->p2<=p'+Kk->G i v Y->AB (λq=>q=R) X Y->Rd Y R ad nn cap p2->K ⟨mk (AX t i v),[]⟩ Y)->wpOp P ops Q i K ⟨mk t,[]⟩ X)(sm:m<n->∀(t:Nat->Value) X K p',AB (λq=>q=R) W X->p<=p'->p'<=p+Kk*n->Rd X R ad nn cap p'->(∀j,Ci ops m j->G j (t j) X)->(∀v Y p2,p'<=p2->p2<=p'+Kk->G m v Y->AB Pw X Y->Rd Y R ad nn cap p2->K ⟨mk (AX t m v),[]⟩ Y)->wpOp P ops Q m K ⟨mk t,[]⟩ X)(sl:∀(t:Nat->Value) X K p',AB Pw W X->p<=p'->p'<=p+Kk*n->Rd X R ad nn cap p'->(∀j,j<n->G j (t j) X)->(∀a Y,Fin a Y->K a Y)->wpOp P ops Q n K ⟨mk t,[]⟩ X)(G7:∀a X,Fin a X->Q .normal a X):(Code.region id ops true).wp P Q a0 W:=by
 have BJ:∀i j,i<n+1->Ci ops i j->j<n:=by exact Ac2
 refine Dk hm (RM n Kk m Pw mk W R ad nn cap p G Fin ops) ?_ ?_ ?_ ?_
 .have hz:∀i,(Array.replicate ops.size false).getD i false=false:=λi=>by simp[Array.getD]
  refine⟨⟨by simp[hn],λi j h=>by rw[hz]at h;cases h⟩,λh=>?_,λ_=>⟨t0,h0,Aj (Ap _ _).drew,λ_=>Aj (Ap _ _).drew,⟨p,AG _,Za,hr.below (Ap _ _).drew⟩,λi _ h=>?_⟩⟩<;>(rw[hz]at h;cases h)
 .rintro l a X ⟨⟨hs,_⟩,_⟩;rw[hs,hn]
 .rintro l a X ⟨⟨hs,_⟩,h6,_⟩ hr;have AL:=IT Fj Zcn hr;exact G7 a X (h6 (AL n Za)).2
 .rintro l a X i ⟨⟨hs,Li⟩,h6,hg⟩ hr';obtain⟨hu,o,ho,Bg⟩:=mem_ready.1 hr';have di:∀j,Ci ops i j->l.getD j false=true:=by exact WQ
  have LA:i<n+1:=by exact Z8
  have FH:l.getD i false=false:=by exact Vd
  have kp:∀j,¬j=i->(l.setIfInBounds i true).getD j false=l.getD j false:=λj hj=>by rw[Cq Za,if_neg hj]
  have ki:(l.setIfInBounds i true).getD i false=true:=by rw[Cq Za,if_pos rfl]
  have hs':(l.setIfInBounds i true).size=n+1:=by simp[hs]
  have ku:∀j,l.getD j false=true->(l.setIfInBounds i true).getD j false=true:=λj h=>by exact Pm
  have cl':∀a b,(l.setIfInBounds i true).getD a false=true->Ci ops a b->(l.setIfInBounds i true).getD b false=true:=λa b ha hw=>by
   by_cases e:a=i;.subst e;exact ku b (di b hw)
   .rw[kp a e]at ha;exact ku b (Li a b ha hw)
  have l6:l.getD n false=false:=by cases h:l.getD n false with
   |false=>rfl
   |true=>
    rcases AD i n with h1|h1;.rw[(h6 h).1 i h1]at FH;cases FH
    .obtain rfl:i=n:=Za;rw[h]at FH;cases FH
  obtain⟨t,rfl,hb,Df,⟨p',q1,q2,AW⟩,gg⟩:=hg l6;have hc:=XA Za FH;have MQ:(l.setIfInBounds i true).toList.count true<=n+1:=by exact xy
  have iq:Kk*l.toList.count true<=Kk*n:=Nat.mul_le_mul_left _ Za;have oK:Kk*(l.setIfInBounds i true).toList.count true=Kk*l.toList.count true+Kk:=by rw[hc,Nat.mul_add,Oq]
  by_cases Cs:i=n
  .subst Cs;have pa:∀j,j<i->j<par j/\par j<=i/\Ci ops (par j) j:=λj hj=>by have h1:=Bz.1 Jq j (BF.2 hj);rw[As,decide_eq_true_eq]at h1;refine⟨h1.1.1,h1.1.2,?_⟩;have h3:=h1.2;cases hp:ops[par j]? with
    |none=>rw[hp]at h3;cases h3
    |some o2=>rw[hp]at h3;obtain⟨k,hk,h2⟩:=KC.1 h3;simp only[As,beq_iff_eq]at h2;exact⟨o2,hp,o2.after[k],KD hk,h2.1,h2.2⟩
   have al:∀d j,j<i->i-j<=d->l.getD j false=true:=λd=>by induction d with
    |zero=>intro j hj h;omega
    |succ d ih=>
     intro j hj h;obtain⟨h1,h2,h3⟩:=pa j hj;by_cases e:par j=i;.rw[e]at h3;exact di j h3
     .exact Li _ _ (ih (par j) Za Za) h3
   clear hr' hu ho h6 hg;refine sl t X _ p' hb q1 Za AW (λj hj=>gg j hj (al _ j hj A9)) (λa Y hY=>⟨⟨hs',cl'⟩,λ_=>⟨λj hj=>?_,hY⟩,λh=>?_⟩);.exact ku j (al _ j hj A9)
   .rw[ki]at h;cases h
  .have LI:(l.setIfInBounds i true).getD n false=false:=by rw[kp n (λe=>Cs e.symm)];exact l6
   by_cases Nu:i=m
   .subst Nu;have Ow:=Df FH;clear hr' hu ho h6 hg;refine sm Za t X _ p' Ow q1 Za AW (λj hj=>gg j (BJ i j LA hj) (di j hj)) (λv Y p2 r1 r2 hv hY y_=>⟨⟨hs',cl'⟩,λh=>?_,λ_=>⟨AX t i v,rfl,hb.trans hY,λh=>?_,⟨p2,Za,Za,y_⟩,λj j1 h=>?_⟩⟩);.rw[LI]at h;cases h
    .rw[ki]at h;cases h
    .by_cases e:j=i;.exact RJ
     .rw[kp j e]at h;rw[BP e];exact st2 _ _ _ _ _ j1 e (gg j j1 h) hY AW hr.lt hb.size
   .have QP:fl i=true->AB (λq=>q=R) W X:=λhf=>Df (by cases gv:l.getD m false with
     |false=>rfl
     |true=>
      exfalso;have up:∀d j,m-j<=d->j<n->fl j=true->l.getD j false=true:=λd=>by induction d with
       |zero=>intro j h1 h2 h3;have g1:=Bz.1 jr j (BF.2 h2);rw[h3]at g1;simp only[Bool.not_true,Bool.false_or,As,decide_eq_true_eq]at g1;omega
       |succ d ih=>
        intro j h1 h2 h3;have g1:=Bz.1 jr j (BF.2 h2);rw[h3]at g1;simp only[Bool.not_true,Bool.false_or,As,decide_eq_true_eq]at g1;have g2:Ci ops (pm j) j:=by have h4:=g1.2;cases hp:ops[pm j]? with
         |none=>rw[hp]at h4;cases h4
         |some o2=>rw[hp]at h4;obtain⟨k,hk,h5⟩:=KC.1 h4;simp only[As,beq_iff_eq]at h5;exact⟨o2,hp,o2.after[k],KD hk,h5.1,h5.2⟩
        rcases g1.1.2.2 with e|e;.rw[e]at g2;exact Li _ _ gv g2
        .have hpn:pm j<n:=by
          rcases AD (pm j) n with h6|h6;.exact h6
          .have:=g1.1.2.1;by_cases ll:m<n;.omega
           .have hz:l.getD m false=false:=by
             rcases AD m (n+1)with h7|h7;.have:m=n:=Za;rw[this];exact l6
             .simp[Array.getD,hs,show¬m<n+1 by omega]
            rw[hz]at gv;cases gv
         exact Li _ _ (ih (pm j) Za hpn e) g2
      have:=up _ i A9 Za hf;rw[this]at FH;cases FH);clear hr' hu ho h6 hg;refine sg i Za Nu t X _ p' hb QP q1 Za AW (λj hj=>gg j (BJ i j LA hj) (di j hj)) (λv Y p2 r1 r2 hv hY y_=>⟨⟨hs',cl'⟩,λh=>?_,λ_=>⟨AX t i v,rfl,hb.trans (hY.mono (λq e=>e▸hPw)),λh=>?_,⟨p2,Za,Za,y_⟩,λj j1 h=>?_⟩⟩);.rw[LI]at h;cases h
    .rw[kp m (λe=>Nu e.symm)]at h;exact(Df h).trans hY
    .exact f_
theorem E7 (hm:P.follows .mixedOrders=true)(n Kk:Nat)(par:Nat->Nat)(mk:(Nat->Value)->Array Value)(t0:Nat->Value)(R:Nat)(ad:OA)(nn cap p:Nat)(G:Nat->Value->World->Prop)(Fin:Act->World->Prop)(hn:ops.size=n+1)(Fj:((List.range ops.size).all λi=>match ops[i]? with|some o=>o.after.all (λe=>!(Region.binds .any e)||decide (e.on<i))|none=>true)=true)(Jq:((List.range n).all λj=>decide (j<par j/\par j<=n)&&match ops[par j]? with|some o=>o.after.any (λe=>Region.binds .any e&&e.on==j)|none=>false)=true)(st:∀i v X Y p',i<n->G i v X->AB (λq=>q=R) X Y->Rd X R ad nn cap p'->R<W.1.size->W.1.size<=X.1.size->G i v Y)(h0:a0=⟨mk t0,[]⟩)(hr:Rd W R ad nn cap p)(sg:∀i,i<n->∀(t:Nat->Value) X K p',AB (λq=>q=R) W X->p<=p'->p'<=p+Kk*n->Rd X R ad nn cap p'->(∀j,Ci ops i j->G j (t j) X)->(∀v Y p2,p'<=p2->p2<=p'+Kk->G i v Y->AB (λq=>q=R) X Y->Rd Y R ad nn cap p2->K ⟨mk (AX t i v),[]⟩ Y)->wpOp P ops Q i K ⟨mk t,[]⟩ X)(sl:∀(t:Nat->Value) X K p',AB (λq=>q=R) W X->p<=p'->p'<=p+Kk*n->Rd X R ad nn cap p'->(∀j,j<n->G j (t j) X)->(∀a Y,Fin a Y->K a Y)->wpOp P ops Q n K ⟨mk t,[]⟩ X)(G7:∀a X,Fin a X->Q .normal a X):(Code.region id ops true).wp P Q a0 W:=by refine JJ hm n Kk (n+1) par (λ_=>0) (λ_=>false) (λq=>q=R) mk t0 R ad nn cap p G Fin hn Fj Jq ?_ (λi v X Y p' hi _=>st i v X Y p' hi) st rfl h0 hr (λi hi _ t X K p' hf _=>sg i hi t X K p' hf) (λh=>absurd h Za) sl G7;simp
theorem QC (hm:P.follows .mixedOrders=true)(n:Nat)(mk:(Nat->Value)->Array Value)(t0:Nat->Value)(R:Nat)(ad:OA)(nn cap p:Nat)(G:Nat->Value->World->Prop)(Fin:Act->World->Prop)(hn:ops.size=n+1)(Fj:((List.range ops.size).all λi=>match ops[i]? with|some o=>o.after.all (λe=>decide (e.on<i))|none=>true)=true)(Jq:((List.range n).all λj=>match ops[n]? with|some o=>o.after.any (λe=>Region.binds .any e&&e.on==j)|none=>false)=true)(st:∀i v X Y,i<n->G i v X->AB (λq=>q=R) X Y->R<W.1.size->W.1.size<=X.1.size->G i v Y)(h0:a0=⟨mk t0,[]⟩)(hr:Rd W R ad nn cap p)(sg:∀i,i<n->∀(t:Nat->Value) X K p',AB (λq=>q=R) W X->p<=p'->p'<=p+n->Rd X R ad nn cap p'->(∀j,Ci ops i j->G j (t j) X)->(∀v Y p2,p'<=p2->p2<=p'+1->G i v Y->AB (λq=>q=R) X Y->Rd Y R ad nn cap p2->K ⟨mk (AX t i v),[]⟩ Y)->wpOp P ops Q i K ⟨mk t,[]⟩ X)(sl:∀(t:Nat->Value) X K p',AB (λq=>q=R) W X->p<=p'->p'<=p+n->Rd X R ad nn cap p'->(∀j,j<n->G j (t j) X)->(∀a Y,Fin a Y->K a Y)->wpOp P ops Q n K ⟨mk t,[]⟩ X)(G7:∀a X,Fin a X->Q .normal a X):(Code.region id ops true).wp P Q a0 W:=by
 refine E7 hm n 1 (λ_=>n) mk t0 R ad nn cap p G Fin hn ?_ ?_ (λi v X Y p' hi h hf _=>st i v X Y hi h hf) h0 hr (λi hi t X K p' hf h1 h2=>sg i hi t X K p' hf h1 Za) (λt X K p' hf h1 h2=>sl t X K p' hf h1 Za) G7;.rw[Bz]at Fj⊢;intro i hi;have h:=Fj i hi;cases ho:ops[i]? with
  |none=>rfl
  |some o=>rw[ho]at h;simp only[BO]at h⊢;intro e he;rw[h e he,Bool.or_true]
 .rw[Bz]at Jq⊢;intro j hj;rw[Jq j hj];simp[BF.1 hj]
def Qe:ByteArray:=⟨#[48,49,50,51,52,53,54,55,56,57,97,98,99,100,101,102]⟩
def OL (b:UInt8):Bool:=decide (32<=(b.toNat:Int))&&decide ((b.toNat:Int)<=126)&&!decide ((b.toNat:Int)=34)&&!decide ((b.toNat:Int)=92)
def qB (b:UInt8):List UInt8:=if OL b then[b]else[92,E3 Qe (b.toNat/16),E3 Qe (b.toNat%16)]
def YO (s:ByteArray):Nat->List UInt8|0=>[34]|k+1=>YO s k++qB (E3 s k)
def YM (s:ByteArray):List UInt8:=YO s s.size++[34]
theorem Aci (b:UInt8):(qB b).length<=3:=by unfold qB;split<;>simp
theorem NF (s:ByteArray):∀k,(YO s k).length<=3*k+1
 |0=>by simp[YO]
 |k+1=>by have:=NF s k;have:=Aci (E3 s k);simp only[YO,Ni];omega
theorem Ng:(prog.info? 5).map (λi=>(i.zero,i.size,i.bytes))=some (some (.int .u8 0),1,1):=Zc
def Gl (w:World)(base:Nat)(v:Value)(l:List UInt8):Prop:=w.ownsRow base 5 1 v l.length (Lib.byteCells l)
theorem D2 (w:World)(l:List Value)(t:TypeId):∀j u,l[j]?=some u->(w.alloc (.cells l.toArray t)).cell? ((⟨w.1.size,0,none⟩:Addr).add j)=some u:=λj u h=>by
 have e:((⟨w.1.size,0,none⟩:Addr).add j)=⟨w.1.size,j,none⟩:=by simp only[Addr.add];split<;>simp_all
 rw[e,Al];simpa using h
theorem Gl.app{v':Value}(h:w'.ownsRow base 5 1 v' (l.length+m.length) (Lib.byteCells l++Lib.byteCells m)):Gl w' base v' (l++m):=by
 unfold Gl;rw[Ni];have e:Lib.byteCells (l++m)=Lib.byteCells l++Lib.byteCells m:=by simp[Lib.byteCells]
 rw[e];exact h
theorem E6{B:Nat}{e:TypeId}{z:Nat}{xs:List Value}(hb:Below base W w)(hB:base<=B)(IK:B<=w.1.size)(ho:w.ownsRow B e z v n xs)(hg:w.grownBy w' v.ownBlock):Below base W w':=hb.grown hg Za (λk hk=>AJ hB (ho.lt k hk).1)
theorem dc{L M:List UInt8}(b:Nat)(ho:Gl W base v L)(hc:∀j u,(Lib.byteCells M)[j]?=some u->W.cell? ((⟨b,0,none⟩:Addr).add j)=some u)(hl:(L.length:Int)+M.length<=70368744177664)(QJ:base<=W.1.size)(ty:TypeId):∃v2 w2,(Builtin.append_ #[22,22] ty #[v,.l (some ⟨b,0,none⟩) M.length M.length]).run prog W=.ok v2 w2/\Gl w2 base v2 (L++M)/\Below base W w2:=by obtain⟨i0,Fq,GH,C7,Fk⟩:=info_parts Ng;obtain⟨v2,w2,hr,ud,hg,_⟩:=run_append_own (P:=prog) W base 22 ty 5 i0 (.int .u8 0) 1 1 underlying22 Fq GH C7 Fk rfl Zb v _ _ ho ⟨b,0,none⟩ M.length M.length (Lib.byteCells M) (by simp[Lib.byteCells]) hc Zr Zl Za QJ;exact⟨v2,w2,hr,Gl.app ud,E6 Dx A9 QJ ho hg⟩
theorem Agm{o:Oper}{a:Act}{K:Act->World->Prop}{E:Prop}(hg:o.guard=none)(s x:Operand)(IL:o.op=Op.call {callee:=Callee.builtin Builtin.append,args:=#[s,x],argTypes:=#[22,22]})(base:Nat)(v:Value)(L M:List UInt8)(b:Nat)(hs:a.eval s=v)(hx:a.eval x=.l (some ⟨b,0,none⟩) M.length M.length)(ho:Gl w base v L)(hc:∀j u,(Lib.byteCells M)[j]?=some u->w.cell? ((⟨b,0,none⟩:Addr).add j)=some u)(hl:(L.length:Int)+M.length<=70368744177664)(QJ:base<=w.1.size)(hK:∀v2 w2,Gl w2 base v2 (L++M)->Below base w w2->K (a.put o.dst v2) w2):if Region.wanted o (yielded ops a.tmps)=true then Oper.wp prog o a w K Q else E:=by
 have hw:Region.wanted o (yielded ops a.tmps)=true:=by simp[Region.wanted,hg]
 rw[if_pos hw];obtain⟨v2,w2,hr,h2,h3⟩:=dc b ho hc hl QJ o.type;unfold Oper.wp execOp;simp only[IL,resolve,invoke,builtin,Sem.run_bind,Sem.run_pure,Ot,Qm,O8,List.map_nil,hs,hx,hr];exact hK v2 w2 h2 h3
theorem Uk (h:Gl W base v l)(h0:l≠[]):(convert 22 9 v).run prog W=.ok (.s ⟨l.toArray⟩) W:=by
 have hl0:0<l.length:=List.length_pos_iff.2 h0;obtain⟨g,cap,rfl⟩:∃g cap,v=.l (some ⟨g,0,none⟩) l.length cap:=by
  rcases h.2 with⟨_,hz⟩|⟨g,cap,cur,hv,_⟩;.omega
  .exact⟨g,cap,hv⟩
 refine run_convert_bytes_back (P:=prog) W 22 9 5 ⟨g,0,none⟩ cap l underlying22 underlying5 underlying9 ?_;intro i hi;have:=World.ownsRow.cells h (g:=g) rfl i (.int .u8 (l[i].toNat:Int)) (by simp[Lib.byteCells,hi]);exact this
theorem Ab7 (h:OL b=true):qB b=[b]:=by unfold qB;rw[if_pos h]
theorem Ago (h:OL b=false):qB b=[92,E3 Qe (b.toNat/16),E3 Qe (b.toNat%16)]:=by unfold qB;rw[if_neg Zcd]
theorem cZ (i:Nat)(h:i<16)(w:World):(Instr.index 9 (.s ⟨#[48,49,50,51,52,53,54,55,56,57,97,98,99,100,101,102]⟩) (.int .u8 (i:Int))).run prog w=.ok (.int .u8 (E3 Qe i).toNat) w:=by have hz:Qe.size=16:=rfl;have:=run_index_string (P:=prog) w 9 Qe .u8 (i:Int) underlying9;rw[dif_pos ⟨Za,by rw[hz];omega⟩]at this;rw[Mg Qe i Za];exact this
theorem i4 (s:ByteArray)(w:World)(hs:(s.size:Int)<=1099511627776):Calls prog 104 #[.s s] w λe w'=>e=.returned (.s ⟨(YM s).toArray⟩)/\Below w.1.size w w':=by
 obtain⟨i0,Fq,GH,C7,Fk⟩:=info_parts Ng;go_enter func104,ntmps104;go_wp2;go_loopw[3,5](λv i wr=>∃k:Nat,k<=s.size/\i=.i k/\Gl wr w.1.size v (YO s k)/\Below w.1.size w wr)(λ_ i _=>s.size-(intOf i).toNat);case atStart=>exact⟨0,Ar _,rfl,World.ownsRow_lit w #[.int .u8 34] 1 A9 Zl rfl,(Ap _ _).alloc A9 _⟩
 case round=>
  obtain⟨k,hk,rfl,CG,hb⟩:=hrel;by_cases B7:k<s.size;.have HB:=Ab (Mg s k B7);cases hp:OL (E3 s k)with
   |true=>
    have Dj:=hp;rw[HB.out]at Dj;simp only[OL,As,decide_eq_true_eq,Bool.not_eq_true',decide_eq_false_iff_not]at Dj;obtain⟨⟨⟨p1,p2⟩,p3⟩,p4⟩:=Dj;have q3:((s[k].toNat:Int) !=34)=true:=by simpa using p3
    have q4:((s[k].toNat:Int) !=92)=true:=by simpa using p4
    have hl:=NF s k;have STEP:=Ab (show YO s (k+1)=YO s k++[s[k]]by rw[YO,Ab7 hp,HB.out]);obtain⟨L,hL⟩:∃L,YO s k=L:=⟨_,rfl⟩;rw[hL]at CG hl STEP;have HO:=Ab (CG.alloc (.cells #[.int .u8 (s[k].toNat:Int)] 5));clear CG hL hp HB;go_wp2_with (at_builtin;go_must(refine wpList_append_own _ rfl _ _ 22 rfl w.1.size 5 i0 (.int .u8 0) 1 1 underlying22 Fq GH C7 Fk rfl Zb _ _ _ rfl HO ⟨wr.1.size,0,none⟩ 1 1 (Lib.byteCells [s[k]]) rfl rfl (D2 wr _ 5) Zr Zl Za Zbt ?_;intro v2 w2 BH Bm _));have B2:=E6 (hb.alloc hb.size _) A9 Zbt HO Bm;have O2:Gl w2 w.1.size v2 (L++[s[k]]):=Gl.app BH;exact U'
   |false=>
    have hl:=NF s k;have STEP:=Ab (show YO s (k+1)=YO s k++[92,E3 Qe (s[k].toNat/16),E3 Qe (s[k].toNat%16)]by rw[YO,Ago hp,HB.out]);obtain⟨L,hL⟩:∃L,YO s k=L:=⟨_,rfl⟩;rw[hL]at CG hl STEP;have hx:=s[k].toNat_lt;have oB:(s[k].toNat:Int)<32\/(32<=(s[k].toNat:Int)/\(126<(s[k].toNat:Int)\/((s[k].toNat:Int)<=126/\((s[k].toNat:Int)=34\/(s[k].toNat:Int)=92)))):=by rw[HB.out]at hp;simp only[OL,Bool.and_eq_false_iff,decide_eq_false_iff_not,Bool.not_eq_false',decide_eq_true_eq]at hp;omega
    obtain⟨d1,hd1⟩:∃d,E3 Qe (s[k].toNat/16)=d:=⟨_,rfl⟩;obtain⟨d2,jy⟩:∃d,E3 Qe (s[k].toNat%16)=d:=⟨_,rfl⟩;have HO:=Ab (CG.alloc (.cells #[.int .u8 92,.int .u8 (d1.toNat:Int),.int .u8 (d2.toNat:Int)] 5)).drew;rw[hd1,jy]at STEP;obtain⟨x,hxe⟩:∃x:Nat,s[k].toNat=x:=⟨_,rfl⟩;obtain⟨q,hq⟩:∃q:Nat,q=x/16:=⟨_,rfl⟩;obtain⟨r,hr⟩:∃r:Nat,r=x%16:=⟨_,rfl⟩;have Ah2:q<16:=Za;have Agz:r<16:=Za;have k1:(x:Int)/16=(q:Int):=Za;have k2:(x:Int).tdiv 16=(q:Int):=by rw[Int.tdiv_eq_ediv_of_nonneg Za];omega
    have k3:IntKind.u8.wrap (q:Int)=(q:Int):=MX Za Za;have k4:(x:Int)%16=(r:Int):=Za;have k5:(x:Int).tmod 16=(r:Int):=by rw[Int.tmod_eq_emod_of_nonneg Za];omega
    have k6:IntKind.u8.wrap (r:Int)=(r:Int):=MX Za Za;have g1:=cZ q Ah2;have g2:=cZ r Agz;rw[hq,<-hxe,hd1,hxe,<-hq]at g1;rw[hr,<-hxe,jy,hxe,<-hr]at g2;rw[hxe]at oB;clear CG hL hp HB hq hr hd1 jy;have Aak:(x:Int)<32\/(32<=(x:Int)/\(126<(x:Int)\/((x:Int)<=126/\(((x:Int) !=34)=false\/(((x:Int) !=34)=true/\((x:Int) !=92)=false))))):=by
     rcases oB with h1|⟨h1,h2|⟨h2,h3|h3⟩⟩;.exact AA h1
     .exact Az ⟨h1,AA h2⟩
     .exact Az ⟨h1,Az ⟨h2,AA (by simp[h3])⟩⟩
     .exact Az ⟨h1,Az ⟨h2,Az ⟨by simp[h3],by simp[h3]⟩⟩⟩
    clear oB;rcases Aak with h1|⟨h1,h2|⟨h2,h3|⟨h3,h4⟩⟩⟩;all_goals go_wp2_with fail;go_region_law(refine Agm rfl (.tmp 41) (.tmp 54) rfl w.1.size _ L [92,d1,d2] wr.1.size rfl rfl HO (D2 wr (Lib.byteCells [92,d1,d2]) 5) Zd Zbt ?_;intro v2 w2 O2 b2);all_goals have B2:Below w.1.size w w2:=((hb.alloc hb.size _).drew).trans b2;go_wp2;exact U'
  .have hks:k=s.size:=Za;subst hks;have hl:=NF s s.size;have STEP:=Ab (show YM s=YO s s.size++[34]from rfl);obtain⟨L,hL⟩:∃L,YO s s.size=L:=⟨_,rfl⟩;rw[hL]at CG hl STEP;have HO:=Ab (CG.alloc (.cells #[.int .u8 34] 5));clear CG hL;go_wp2_with (at_builtin;go_must(refine wpList_append_own _ rfl _ _ 22 rfl w.1.size 5 i0 (.int .u8 0) 1 1 underlying22 Fq GH C7 Fk rfl Zb _ _ _ rfl HO ⟨wr.1.size,0,none⟩ 1 1 (Lib.byteCells [34]) rfl rfl (D2 wr _ 5) Zr Zl Za Zbt ?_;intro v2 w2 BH Bm _));have B2:=E6 (hb.alloc hb.size _) A9 Zbt HO Bm;have O2:Gl w2 w.1.size v2 (L++[34]):=Gl.app BH;have Qv:=Uk O2 Ze;rw[<-STEP.out]at Qv;clear BH Bm O2 HO STEP;rw[Qv];simp only[Result.andThen];rw[BK];go_wp2;go_ret;exact⟨rfl,B2⟩
def NT (xs:List ByteArray):List UInt8:=Lib.join (xs.map (·.data.toList)) [32]
def Hw (xs:List ByteArray):List Value:=xs.map Value.string
def SL (w:World)(base:Nat)(v:Value)(xs:List ByteArray):Prop:=∃g cap,v=.l (some ⟨g,0,none⟩) xs.length cap/\base<=g/\g<w.1.size/\xs.length<=cap/\(∀j,j<cap->(w.cell? ⟨g,j,none⟩).isSome=true/\w.frozen? ⟨g,j,none⟩=false)/\(∀j (h:j<xs.length),w.cell? ⟨g,j,none⟩=some (.s xs[j]))
theorem SL.new (w:World)(xs:List ByteArray):SL (w.alloc (.cells (Hw xs).toArray 9)) w.1.size (.l (some ⟨w.1.size,0,none⟩) xs.length xs.length) xs:=by
 have hl:(Hw xs).length=xs.length:=by simp[Hw]
 refine⟨w.1.size,xs.length,rfl,AG _,by rw[Av];exact BE _,AG _,λj hj=>⟨?_,?_⟩,λj hj=>?_⟩;.rw[Al,Ah,CR Za];rfl
 .simp
 .rw[Al,Ah,CR Za];simp[Hw]
def LY (xs:List ByteArray):ByteArray:=(⟨(NT xs).toArray⟩:ByteArray)++(⟨#[10]⟩:ByteArray)
end Go.Proofs.YtdknjmgdgnmhjaaGreat
