import Derived.Test.YtnnjcenacidceaaPk42
import Derived.Test.YtnnjcenacidceaaPk44
import Derived.Test.YtnnjcenacidceaaPk45
import Derived.Test.YtnnjcenacidceaaPk46
import Derived.Test.YtnnjcenacidceaaPk47
import Derived.Test.YtnnjcenacidceaaPk48
import Derived.Test.YtnnjcenacidceaaPk49
import Derived.Deep.Light
set_option maxRecDepth 100000
namespace Go.Proofs.Ytnnjcenacidceaa
open Go.RowKit Go.Proofs.Try
theorem MN.setO{X:World}{x:Bk}{p:Pl}(h:MN X x p){o f:Nat}(ho:o<x.on)(hf:f<7)(u:Value)(y:Ob)(en:y.hn=(x.os o).hn)(es:y.hs=(x.os o).hs)(hv:∀k,k<7->AR (oc y (p.A1 o) (p.C1 o)) k=if k=f then u else AR (oc (x.os o) (p.A1 o) (p.C1 o)) k):MN (X.setCell ⟨p.g1,o*7+f,none⟩ u) {x with os:=B8 x.os o y} p:=by
 have F:=(Az.refl (λq=>q=p.g1) X).setCell (p:=⟨p.g1,o*7+f,none⟩) rfl u;have eN:∀i,(B8 x.os o y i).hn=(x.os i).hn:=λi=>by
  by_cases e:i=o;.subst e;rw[Bt];exact en
  .rw[BP _ _ e]
 have eS:∀i,(B8 x.os o y i).hs=(x.os i).hs:=λi=>by
  by_cases e:i=o;.subst e;rw[Bt];exact es
  .rw[BP _ _ e]
 have eF:(λi=>(B8 x.os o y i).hn)=(λi=>(x.os i).hn):=funext eN;have h0:0<x.on:=Za;have own:L0 (X.setCell ⟨p.g1,o*7+f,none⟩ u) p.a1 p.g1 x.on (B8 x.os o y) p.A1 p.C1 p.h1:=by
  refine⟨h.o.addr,λ_=>?_,λi hi=>?_,λi hi hne=>?_,?_⟩
  .obtain⟨c,r,e⟩:=h.o.row h0;refine⟨L1 c (o*7+f) u,r.set Za u,λi hi=>?_⟩;by_cases ei:i=o
   .subst ei;rw[Bt];have a:=e i hi;have cl:∀k,k<7->L1 c (i*7+f) u (i*7+k)=AR (oc y (p.A1 i) (p.C1 i)) k:=λk hk=>by
     rw[hv k hk];unfold L1;by_cases ek:k=f;.rw[if_pos Za,if_pos ek]
     .rw[if_neg Za,if_neg ek];obtain⟨a0,a1,a2,a3,a4,a5,a6⟩:=a;rcases(show k=0\/k=1\/k=2\/k=3\/k=4\/k=5\/k=6 by omega)with rfl|rfl|rfl|rfl|rfl|rfl|rfl;.exact a0
      .exact a1
      .exact a2
      .exact a3
      .exact a4
      .exact a5
      .exact a6
    exact⟨cl 0 Zb,cl 1 Zb,cl 2 Zb,cl 3 Zb,cl 4 Zb,cl 5 Zb,cl 6 Zb⟩
   .rw[BP _ _ ei];exact bG (e i hi) ei Za Za u
  .rw[eN i,eS i];exact(h.o.hold i hi).frP F (λhne=>⟨λe=>h.o.ap.ne i hi hne e,h.o.hlt i hi hne⟩)
  .rw[eN i]at hne;exact Ac (h.o.hlt i hi hne) F.size
  .exact h.o.ap.congr (λi=>(eN i).symm)
 have b1:∀k,PB p {x with os:=B8 x.os o y} k↔PB p x k:=λk=>by show Md p.g1 x.on (λi=>(B8 x.os o y i).hn) p.h1 k↔_;rw[eF];exact Iff.rfl
 have g1b:PB p x p.g1:=AA ⟨h0,rfl⟩;exact⟨own,h.h.fr F (λk hk e=>h.d12 p.g1 g1b (e▸hk)),h.t.fr F (λk hk e=>h.d13 p.g1 g1b (e▸hk)),λk hk=>h.d12 k ((b1 k).1 hk),λk hk=>h.d13 k ((b1 k).1 hk),h.d23⟩
theorem MN.setC{X:World}{x:Bk}{p:Pl}(h:MN X x p){o f:Nat}(ho:o<x.hn)(hf:f<9)(u:Value)(y:Ch)(en:y.ob.hn=(x.hs o).ob.hn)(es:y.ob.hs=(x.hs o).ob.hs)(hv:∀k,k<9->AR (cc y (p.A2 o) (p.C2 o)) k=if k=f then u else AR (cc (x.hs o) (p.A2 o) (p.C2 o)) k):MN (X.setCell ⟨p.g2,o*9+f,none⟩ u) {x with hs:=B8 x.hs o y} p:=by
 have F:=(Az.refl (λq=>q=p.g2) X).setCell (p:=⟨p.g2,o*9+f,none⟩) rfl u;have eN:∀i,(B8 x.hs o y i).ob.hn=(x.hs i).ob.hn:=λi=>by
  by_cases e:i=o;.subst e;rw[Bt];exact en
  .rw[BP _ _ e]
 have eS:∀i,(B8 x.hs o y i).ob.hs=(x.hs i).ob.hs:=λi=>by
  by_cases e:i=o;.subst e;rw[Bt];exact es
  .rw[BP _ _ e]
 have eF:(λi=>(B8 x.hs o y i).ob.hn)=(λi=>(x.hs i).ob.hn):=funext eN;have h0:0<x.hn:=Za;have own:Lu (X.setCell ⟨p.g2,o*9+f,none⟩ u) p.a2 p.g2 x.hn (B8 x.hs o y) p.A2 p.C2 p.h2:=by
  refine⟨h.h.addr,λ_=>?_,λi hi=>?_,λi hi hne=>?_,?_⟩
  .obtain⟨c,r,e⟩:=h.h.row h0;refine⟨L1 c (o*9+f) u,r.set Za u,λi hi=>?_⟩;by_cases ei:i=o
   .subst ei;rw[Bt];have a:=e i hi;have cl:∀k,k<9->L1 c (i*9+f) u (i*9+k)=AR (cc y (p.A2 i) (p.C2 i)) k:=λk hk=>by
     rw[hv k hk];unfold L1;by_cases ek:k=f;.rw[if_pos Za,if_pos ek]
     .rw[if_neg Za,if_neg ek];obtain⟨a0,a1,a2,a3,a4,a5,a6,a7,a8⟩:=a;rcases(show k=0\/k=1\/k=2\/k=3\/k=4\/k=5\/k=6\/k=7\/k=8 by omega)with rfl|rfl|rfl|rfl|rfl|rfl|rfl|rfl|rfl;.exact a0
      .exact a1
      .exact a2
      .exact a3
      .exact a4
      .exact a5
      .exact a6
      .exact a7
      .exact a8
    exact⟨cl 0 Zb,cl 1 Zb,cl 2 Zb,cl 3 Zb,cl 4 Zb,cl 5 Zb,cl 6 Zb,cl 7 Zb,cl 8 Zb⟩
   .rw[BP _ _ ei];exact gE (e i hi) ei Za Za u
  .rw[eN i,eS i];exact(h.h.hold i hi).frP F (λhne=>⟨λe=>h.h.ap.ne i hi hne e,h.h.hlt i hi hne⟩)
  .rw[eN i]at hne;exact Ac (h.h.hlt i hi hne) F.size
  .exact h.h.ap.congr (λi=>(eN i).symm)
 have b2:∀k,T2 p {x with hs:=B8 x.hs o y} k↔T2 p x k:=λk=>by show Md p.g2 x.hn (λi=>(B8 x.hs o y i).ob.hn) p.h2 k↔_;rw[eF];exact Iff.rfl
 have g2b:T2 p x p.g2:=AA ⟨h0,rfl⟩;exact⟨h.o.fr F (λk hk e=>h.d12 p.g2 (e▸hk) g2b),own,h.t.fr F (λk hk e=>h.d23 p.g2 g2b (e▸hk)),λk hk hk2=>h.d12 k hk ((b2 k).1 hk2),h.d13,λk hk=>h.d23 k ((b2 k).1 hk)⟩
theorem MN.spH{X:World}{x:Bk}{p:Pl}{R T d1 d2 d3 o h:Nat}(hb:MN X x p)(ho:o<x.on)(hh:h<x.hn)(hrow:AN X T 5 (AR (Qq x p.a1 p.a2 p.a3 d1 d2 d3)))(hTR:¬T=R)(hR:∀q,Lh p x q->¬q=R)(bn:-1000000<=x.now/\x.now<=1000000)(bf:-1000000<=x.floor/\x.floor<=1000000)(bv:-1000000<=(x.os o).ver/\(x.os o).ver<=1000000)(bb:-1000000<=(x.os o).born/\(x.os o).born<=1000000)(bz:-1000000<=(x.hs h).ver/\(x.hs h).ver<=1000000)(bt:(x.os o).text.size<=300):Sg X R T x p.g1 p.g2 p.a3 d1 d2 d3 o h (x.os o) (x.hs h) (p.A1 o) (p.A2 h) (p.C1 o) (p.C2 h):=by
 have e1:=hb.o.addr Za;have e2:=hb.h.addr Za;rw[e1,e2]at hrow;obtain⟨c,r,ec⟩:=hb.o.row Za;obtain⟨d,s,ed⟩:=hb.h.row Za;refine⟨hrow,hrow.lt,hTR,λf hf=>?_,r.free,r.lt,hR _ (AA (AA ⟨Za,rfl⟩)),λf hf=>?_,s.free,s.lt,hR _ (AC (AA (AA ⟨Za,rfl⟩))),ho,hh,bn,bf,bv,bb,bz,bt⟩
 .rw[r.cell _ Za];obtain⟨a0,a1,a2,a3,a4,a5,a6⟩:=ec o ho;rcases(show f=0\/f=1\/f=2\/f=3\/f=4\/f=5\/f=6 by omega)with rfl|rfl|rfl|rfl|rfl|rfl|rfl;.exact congrArg some a0
  .exact congrArg some a1
  .exact congrArg some a2
  .exact congrArg some a3
  .exact congrArg some a4
  .exact congrArg some a5
  .exact congrArg some a6
 .rw[s.cell _ Za];obtain⟨a0,a1,a2,a3,a4,a5,a6,a7,a8⟩:=ed h hh;rcases(show f=0\/f=1\/f=2\/f=3\/f=4\/f=5\/f=6\/f=7\/f=8 by omega)with rfl|rfl|rfl|rfl|rfl|rfl|rfl|rfl|rfl;.exact congrArg some a0
  .exact congrArg some a1
  .exact congrArg some a2
  .exact congrArg some a3
  .exact congrArg some a4
  .exact congrArg some a5
  .exact congrArg some a6
  .exact congrArg some a7
  .exact congrArg some a8
def cz (R:Nat)(ad:OA)(nn cap p:Nat)(w:World)(e:Ending)(w':World):Prop:=∃(y:Bk)(b1 b2 b3:OA)(e1 e2 e3:Nat),e=.returned (.agg #[.int .i64 y.now,.int .i64 y.floor,.slice b1 y.on e1,.slice b2 y.hn e2,.slice b3 y.tn e3])/\BF w' 0 w'.1.size y b1 b2 b3/\BL y/\Dn R ad nn cap p 4000 w w'
structure OU (w:World)(R:Nat)(ad:OA)(nn cap p:Nat)(x:Bk)(P:Pl)(d1 d2 d3 T:Nat)(X:World):Prop where
 f:Az (λq=>q=R) w X
 r:Rd X R ad nn cap p
 a:AN X (w.1.size+1) 5 (AR [.int .i64 0,.int .i64 0,.slice none 0 0,.slice none 0 0,.slice none 0 0])an:MG X (w.1.size+1)t:AN X T 5 (AR [.int .i64 x.now,.int .i64 x.floor,.slice P.a1 x.on d1,.slice P.a2 x.hn d2,.slice P.a3 x.tn d3])tn:MG X T
 c:TC x (w.1.size+2) X P d1 d2 d3
 tb:∀q,Lh P x q->q<T
 T0:w.1.size+2<=T
theorem OU.pick{w X Y:World}{R:Nat}{ad:OA}{nn cap p p':Nat}{x:Bk}{P:Pl}{d1 d2 d3 T:Nat}(h:OU w R ad nn cap p x P d1 d2 d3 T X)(hR:R<w.1.size)(hf:Az (λq=>q=R) X Y)(hr:Rd Y R ad nn cap p'):OU w R ad nn cap p' x P d1 d2 d3 T Y:=⟨h.f.trans hf,hr,h.a.fr2 hf Za,h.an.fr hf h.a.lt Za,h.t.fr2 hf (by have:=h.T0;omega),h.tn.fr hf h.t.lt (by have:=h.T0;omega),h.c.box hf Za,h.tb,h.T0⟩
def fZ (w:World)(R:Nat)(ad:OA)(nn cap p k T:Nat)(X:World):Prop:=∃(y:Bk)(b1 b2 b3:OA)(e1 e2 e3 p':Nat),(p<=p'/\p'<=p+k)/\Az (λq=>q=R) w X/\Rd X R ad nn cap p'/\AN X (w.1.size+1) 5 (AR [.int .i64 0,.int .i64 0,.slice none 0 0,.slice none 0 0,.slice none 0 0])/\MG X (w.1.size+1)/\AN X T 5 (AR [.int .i64 y.now,.int .i64 y.floor,.slice b1 y.on e1,.slice b2 y.hn e2,.slice b3 y.tn e3])/\BF X 0 X.1.size y b1 b2 b3/\BL y
theorem OU.cell{w X:World}{R:Nat}{ad:OA}{nn cap p p' p0 k:Nat}{x:Bk}{P:Pl}{d1 d2 d3 T:Nat}(h:OU w R ad nn cap p' x P d1 d2 d3 T X)(hw:Rd w R ad nn cap p0){g off:Nat}{u:Value}(hg:Lh P x g)(y:Bk)(hat:MN (X.setCell ⟨g,off,none⟩ u) y P)(e1:y.now=x.now)(e2:y.floor=x.floor)(e3:y.on=x.on)(e4:y.hn=x.hn)(e5:y.tn=x.tn)(hfit:BL y)(hq:p<=p'/\p'<=p+k):fZ w R ad nn cap p k T (X.setCell ⟨g,off,none⟩ u):=by have hR:=hw.lt;have g0:=h.c.lo g hg;have gT:=h.tb g hg;have F:=(Az.refl (λq=>q=g) X).setCell (p:=⟨g,off,none⟩) rfl u;have f2:=h.f.far (z:=g) Za off u;refine⟨y,P.a1,P.a2,P.a3,d1,d2,d3,p',hq,f2,hw.keep h.r f2 (F.mono (λq hq e=>by omega)),h.a.fr F Za,h.an.fr F h.a.lt Za,?_,hat.isIn (λ_ _=>At _),hfit⟩;rw[e1,e2,e3,e4,e5];exact h.t.fr F Za
theorem OU.head{w X:World}{R:Nat}{ad:OA}{nn cap p p' p0 k:Nat}{x:Bk}{P:Pl}{d1 d2 d3 T:Nat}(h:OU w R ad nn cap p' x P d1 d2 d3 T X)(hw:Rd w R ad nn cap p0){o:Nat}{u:Value}(ho:o<5)(y:Bk)(b1 b2 b3:OA)(e1 e2 e3:Nat)(hv:∀j,j<5->L1 (AR [.int .i64 x.now,.int .i64 x.floor,.slice P.a1 x.on d1,.slice P.a2 x.hn d2,.slice P.a3 x.tn d3]) o u j=AR [.int .i64 y.now,.int .i64 y.floor,.slice b1 y.on e1,.slice b2 y.hn e2,.slice b3 y.tn e3] j)(hin:BF (X.setCell ⟨T,o,none⟩ u) 0 X.1.size y b1 b2 b3)(hfit:BL y)(hq:p<=p'/\p'<=p+k):fZ w R ad nn cap p k T (X.setCell ⟨T,o,none⟩ u):=by have hR:=hw.lt;have T0:=h.T0;have F:=(Az.refl (λq=>q=T) X).setCell (p:=⟨T,o,none⟩) rfl u;have f2:=h.f.far (z:=T) Za o u;exact⟨y,b1,b2,b3,e1,e2,e3,p',hq,f2,hw.keep h.r f2 (F.mono (λq hq e=>by omega)),h.a.fr F Za,h.an.fr F h.a.lt Za,(h.t.set ho u).congr hv,hin.upTo F.size,hfit⟩
theorem TE{x:Bk}{o:Nat}{y:Ob}(h:BL x)(hy:Ef y):BL {x with os:=B8 x.os o y}:=⟨h.o,h.h,h.t,λi hi=>by
 show Ef (B8 x.os o y i);by_cases e:i=o;.subst e;rw[Bt];exact hy
 .rw[BP _ _ e];exact h.os i hi,h.hs,h.ts⟩
theorem XZ{x:Bk}{o:Nat}{y:Ch}(h:BL x)(hy:Ef y.ob):BL {x with hs:=B8 x.hs o y}:=⟨h.o,h.h,h.t,h.os,λi hi=>by
 show Ef (B8 x.hs o y i).ob;by_cases e:i=o;.subst e;rw[Bt];exact hy
 .rw[BP _ _ e];exact h.hs i hi,h.ts⟩
theorem P6{y y':Ob}{A:OA}{C f:Nat}{u:Value}(h0:Value.string y'.kind=if 0=f then u else .string y.kind:=by rfl)(h1:Value.string y'.name=if 1=f then u else .string y.name:=by rfl)(h2:Value.int .i64 y'.ver=if 2=f then u else .int .i64 y.ver:=by rfl)(h3:Value.int .i64 y'.born=if 3=f then u else .int .i64 y.born:=by rfl)(h4:Value.string y'.text=if 4=f then u else .string y.text:=by rfl)(h5:Value.bool y'.ending=if 5=f then u else .bool y.ending:=by rfl)(h6:Value.slice A y'.hn C=if 6=f then u else .slice A y.hn C:=by rfl):∀k,k<7->AR (oc y' A C) k=if k=f then u else AR (oc y A C) k:=λk hk=>by
 rcases(show k=0\/k=1\/k=2\/k=3\/k=4\/k=5\/k=6 by omega)with rfl|rfl|rfl|rfl|rfl|rfl|rfl;.exact h0
 .exact h1
 .exact h2
 .exact h3
 .exact h4
 .exact h5
 .exact h6
theorem S6{y y':Ch}{A:OA}{C f:Nat}{u:Value}(h0:Value.int .i64 y'.ver=if 0=f then u else .int .i64 y.ver:=by rfl)(h1:Value.bool y'.gone=if 1=f then u else .bool y.gone:=by rfl)(h2:Value.string y'.ob.kind=if 2=f then u else .string y.ob.kind:=by rfl)(h3:Value.string y'.ob.name=if 3=f then u else .string y.ob.name:=by rfl)(h4:Value.int .i64 y'.ob.ver=if 4=f then u else .int .i64 y.ob.ver:=by rfl)(h5:Value.int .i64 y'.ob.born=if 5=f then u else .int .i64 y.ob.born:=by rfl)(h6:Value.string y'.ob.text=if 6=f then u else .string y.ob.text:=by rfl)(h7:Value.bool y'.ob.ending=if 7=f then u else .bool y.ob.ending:=by rfl)(h8:Value.slice A y'.ob.hn C=if 8=f then u else .slice A y.ob.hn C:=by rfl):∀k,k<9->AR (cc y' A C) k=if k=f then u else AR (cc y A C) k:=λk hk=>by
 rcases(show k=0\/k=1\/k=2\/k=3\/k=4\/k=5\/k=6\/k=7\/k=8 by omega)with rfl|rfl|rfl|rfl|rfl|rfl|rfl|rfl|rfl;.exact h0
 .exact h1
 .exact h2
 .exact h3
 .exact h4
 .exact h5
 .exact h6
 .exact h7
 .exact h8
theorem Ss (l:List Value)(d:Value):l=(List.range l.length).map (λi=>l.getD i d):=by
 apply List.ext_getElem;.simp
 .intro n h1 h2;simp[h1]
theorem KU{Rl:World->Prop}{l:List Value}{D:List Deferred}{w:World}{v4 v5:Value}(h:Rl w)(h4:l.getD 4 undef=v4)(h5:l.getD 5 undef=v5)(hl:l.length=390):∃t:Nat->Value,(t 4=v4/\t 5=v5/\Rl w)/\Act.mk l.toArray D=⟨#[t 0,t 1,t 2,t 3,t 4,t 5,t 6,t 7,t 8,t 9,t 10,t 11,t 12,t 13,t 14,t 15,t 16,t 17,t 18,t 19,t 20,t 21,t 22,t 23,t 24,t 25,t 26,t 27,t 28,t 29,t 30,t 31,t 32,t 33,t 34,t 35,t 36,t 37,t 38,t 39,t 40,t 41,t 42,t 43,t 44,t 45,t 46,t 47,t 48,t 49,t 50,t 51,t 52,t 53,t 54,t 55,t 56,t 57,t 58,t 59,t 60,t 61,t 62,t 63,t 64,t 65,t 66,t 67,t 68,t 69,t 70,t 71,t 72,t 73,t 74,t 75,t 76,t 77,t 78,t 79,t 80,t 81,t 82,t 83,t 84,t 85,t 86,t 87,t 88,t 89,t 90,t 91,t 92,t 93,t 94,t 95,t 96,t 97,t 98,t 99,t 100,t 101,t 102,t 103,t 104,t 105,t 106,t 107,t 108,t 109,t 110,t 111,t 112,t 113,t 114,t 115,t 116,t 117,t 118,t 119,t 120,t 121,t 122,t 123,t 124,t 125,t 126,t 127,t 128,t 129,t 130,t 131,t 132,t 133,t 134,t 135,t 136,t 137,t 138,t 139,t 140,t 141,t 142,t 143,t 144,t 145,t 146,t 147,t 148,t 149,t 150,t 151,t 152,t 153,t 154,t 155,t 156,t 157,t 158,t 159,t 160,t 161,t 162,t 163,t 164,t 165,t 166,t 167,t 168,t 169,t 170,t 171,t 172,t 173,t 174,t 175,t 176,t 177,t 178,t 179,t 180,t 181,t 182,t 183,t 184,t 185,t 186,t 187,t 188,t 189,t 190,t 191,t 192,t 193,t 194,t 195,t 196,t 197,t 198,t 199,t 200,t 201,t 202,t 203,t 204,t 205,t 206,t 207,t 208,t 209,t 210,t 211,t 212,t 213,t 214,t 215,t 216,t 217,t 218,t 219,t 220,t 221,t 222,t 223,t 224,t 225,t 226,t 227,t 228,t 229,t 230,t 231,t 232,t 233,t 234,t 235,t 236,t 237,t 238,t 239,t 240,t 241,t 242,t 243,t 244,t 245,t 246,t 247,t 248,t 249,t 250,t 251,t 252,t 253,t 254,t 255,t 256,t 257,t 258,t 259,t 260,t 261,t 262,t 263,t 264,t 265,t 266,t 267,t 268,t 269,t 270,t 271,t 272,t 273,t 274,t 275,t 276,t 277,t 278,t 279,t 280,t 281,t 282,t 283,t 284,t 285,t 286,t 287,t 288,t 289,t 290,t 291,t 292,t 293,t 294,t 295,t 296,t 297,t 298,t 299,t 300,t 301,t 302,t 303,t 304,t 305,t 306,t 307,t 308,t 309,t 310,t 311,t 312,t 313,t 314,t 315,t 316,t 317,t 318,t 319,t 320,t 321,t 322,t 323,t 324,t 325,t 326,t 327,t 328,t 329,t 330,t 331,t 332,t 333,t 334,t 335,t 336,t 337,t 338,t 339,t 340,t 341,t 342,t 343,t 344,t 345,t 346,t 347,t 348,t 349,t 350,t 351,t 352,t 353,t 354,t 355,t 356,t 357,t 358,t 359,t 360,t 361,t 362,t 363,t 364,t 365,t 366,t 367,t 368,t 369,t 370,t 371,t 372,t 373,t 374,t 375,t 376,t 377,t 378,t 379,t 380,t 381,t 382,t 383,t 384,t 385,t 386,t 387,t 388,t 389],D⟩:=by refine⟨λi=>l.getD i undef,⟨h4,h5,h⟩,?_⟩;have e:=Ss l undef;rw[hl]at e;exact congrArg (λk=>Act.mk (List.toArray k) D) e
theorem gS{i:Int}(h0:-100000000<=i)(h1:i<=100000000):(Lit.int .i64 i).wf=true:=by have a:IntKind.i64.min<=-100000000:=Zb;have b:(100000000:Int)<=IntKind.i64.max:=Zb;simp only[Lit.wf,Al,decide_eq_true_eq];omega
theorem Az.up{w X Y:World}{R:Nat}{Pq:Nat->Prop}(h:Az (λq=>q=R) w X)(hf:Az (λq=>q=R\/Pq q) X Y)(hq:∀q,Pq q->w.1.size<=q):Az (λq=>q=R) w Y:=⟨hf.os.trans h.os,hf.tape.trans h.tape,hf.output.trans h.output,AT h.size hf.size,λk hk hn=>(hf.block k (Ac hk h.size) (λe=>by
  rcases e with e|e;.exact hn e
  .have:=hq k e;omega)).trans (h.block k hk hn)⟩
theorem OU.fin{w X:World}{R:Nat}{ad:OA}{nn cap p p' p0 p2 k:Nat}{x:Bk}{P:Pl}{d1 d2 d3 T:Nat}{Y:World}{Pq:Nat->Prop}(h:OU w R ad nn cap p' x P d1 d2 d3 T X)(hw:Rd w R ad nn cap p0)(hf:Az (λq=>q=R\/Pq q) X Y)(hrd:Rd Y R ad nn cap p2)(hq:∀q,Pq q->w.1.size+2<=q){z off:Nat}{u:Value}(hz:w.1.size+2<=z)(y:Bk)(b1 b2 b3:OA)(e1 e2 e3:Nat)(row:AN (Y.setCell ⟨z,off,none⟩ u) T 5 (AR [.int .i64 y.now,.int .i64 y.floor,.slice b1 y.on e1,.slice b2 y.hn e2,.slice b3 y.tn e3]))(hin:BF (Y.setCell ⟨z,off,none⟩ u) 0 (Y.setCell ⟨z,off,none⟩ u).1.size y b1 b2 b3)(hfit:BL y)(hp:p<=p2/\p2<=p+k):fZ w R ad nn cap p k T (Y.setCell ⟨z,off,none⟩ u):=by
 have hR:=hw.lt;have f1:=h.f.up hf (λq e=>by have:=hq q e;omega);have F:=(Az.refl (λq=>q=z) Y).setCell (p:=⟨z,off,none⟩) rfl u;have f2:=f1.far (z:=z) Za off u;have a1:AN Y (w.1.size+1) 5 (AR [.int .i64 0,.int .i64 0,.slice none 0 0,.slice none 0 0,.slice none 0 0]):=h.a.fr hf (λe=>by
  rcases e with e|e;.omega
  .have:=hq _ e;omega);have n1:MG Y (w.1.size+1):=h.an.fr hf h.a.lt (λe=>by
  rcases e with e|e;.omega
  .have:=hq _ e;omega);exact⟨y,b1,b2,b3,e1,e2,e3,p2,hp,f2,hw.keep hrd f2 (F.mono (λq hq e=>by omega)),a1.fr F Za,n1.fr F a1.lt Za,row,hin,hfit⟩
theorem Lo{c d:Nat->Value}{m j:Nat}(h:j<m):BO c m d j=c j:=if_pos h
theorem TF{c d:Nat->Value}{m j:Nat}:BO c m d (m+j)=d j:=by unfold BO;rw[if_neg Za,Cl]
theorem OU.spT{w X:World}{R:Nat}{ad:OA}{nn cap p' p0:Nat}{x:Bk}{P:Pl}{d1 d2 d3 T:Nat}(h:OU w R ad nn cap p' x P d1 d2 d3 T X)(hw:Rd w R ad nn cap p0)(had:∀b off,ad=some ⟨b,off,none⟩->b<w.1.size)(htn:x.tn<=50):∃gA,wO X R T ad x gA P.a3 d3/\(0<d3->0<x.tn/\gA=P.g3)/\w.1.size+2<=gA:=by
 have hR:=hw.lt;have T0:=h.T0;have z0:=h.c.z;rcases Bm x.tn with e|e;.have z1:=z0 e;exact⟨w.1.size+2,⟨⟨λi=>by omega,Za,λi=>by omega,λj hj=>by omega⟩,Za,Za,λb off hb=>by have:=had b off hb;omega,htn,Za⟩,Za,AD _⟩
 .have bl:Lh P x P.g3:=AC (AC ⟨e,rfl⟩);have g0:=h.c.lo _ bl;have gT:=h.tb _ bl;obtain⟨c,r,ec⟩:=h.c.at_.t.row e;refine⟨P.g3,⟨⟨λ_=>h.c.at_.t.addr e,h.c.c.1,λ_=>h.c.t e,λj hj=>?_⟩,Za,Za,λb off hb=>by have:=had b off hb;omega,htn,λ_=>r.lt⟩,λ_=>⟨e,rfl⟩,g0⟩;rw[r.cell j hj];obtain⟨i,f,rfl,hf⟩:∃i f,j=i*5+f/\f<5:=⟨j/5,j%5,Za,Za⟩;obtain⟨a0,a1,a2,a3,a4⟩:=ec i Za;obtain⟨t0,t1,t2,t3,t4⟩:=Ua x.ts i;rcases(show f=0\/f=1\/f=2\/f=3\/f=4 by omega)with rfl|rfl|rfl|rfl|rfl;.exact congrArg some (a0.trans t0.symm)
  .exact congrArg some (a1.trans t1.symm)
  .exact congrArg some (a2.trans t2.symm)
  .exact congrArg some (a3.trans t3.symm)
  .exact congrArg some (a4.trans t4.symm)
theorem Wg{P:Prop}(h:P:=by exact r0.congr (λj hj=>by rcases(show j=0\/j=1\/j=2\/j=3\/j=4 by omega)with rfl|rfl|rfl|rfl|rfl<;>rfl)):P:=h
theorem OU.tick{w X:World}{R:Nat}{ad:OA}{nn cap p p' p0 p2 k:Nat}{x:Bk}{P:Pl}{d1 d2 d3 T:Nat}(h:OU w R ad nn cap p' x P d1 d2 d3 T X)(hw:Rd w R ad nn cap p0){Y:World}{gA:Nat}(hA:0<d3->0<x.tn/\gA=P.g3)(hg0:w.1.size+2<=gA)(htn:x.tn<=50)(hfit:BL x){kt:Ti}{ad':OA}{cap' g':Nat}(hu:Rw Y ad' g' (x.tn+1) cap' 5 (BO (K5 x.ts) (x.tn*5) (AR (tv kt)))/\((0<d3/\g'=gA)\/X.1.size<=g')/\kt.client.size<=1000/\kt.print.size<=1000)(hf:Az (λq=>q=R\/(0<d3/\q=gA)) X Y)(hrd:Rd Y R ad nn cap p2)(hp:p<=p2/\p2<=p+k):fZ w R ad nn cap p k T (Y.setCell ⟨T,4,none⟩ (.slice ad' (x.tn+1:Nat) cap')):=by
 obtain⟨hr,hg,hk1,hk2⟩:=hu;have hR:=hw.lt;have T0:=h.T0;have Tl:=h.t.lt;have gT:0<d3->gA<T:=λe=>by have a:=hA e;rw[a.2];exact h.tb _ (AC (AC ⟨a.1,rfl⟩))
 have gne:¬g'=T:=by
  rcases hg with e|e;.have:=gT e.1;omega
  .omega
 have F:Az (λq=>q=R\/((0<d3/\q=gA)\/q=T)) X (Y.setCell ⟨T,4,none⟩ (.slice ad' (x.tn+1:Nat) cap')):=(hf.mono (λq e=>by rcases e with e|e;exact AA e;exact AC (AA e))).setCell (p:=⟨T,4,none⟩) (AC (AC rfl)) _;have F2:=(Az.refl (λq=>q=T) Y).setCell (p:=⟨T,4,none⟩) rfl (.slice ad' (x.tn+1:Nat) cap');have far:∀q,Lh P x q->¬(0<x.tn/\q=P.g3)->¬(q=R\/((0<d3/\q=gA)\/q=T)):=λq hq hn e=>by
  have l1:=h.c.lo q hq;have l2:=h.tb q hq;rcases e with e|e|e;.omega
  .have a:=hA e.1;exact hn ⟨a.1,e.2.trans a.2⟩
  .omega
 refine h.fin hw hf hrd (λq e=>by rw[e.2];exact hg0) Za {x with tn:=x.tn+1,ts:=B8 x.ts x.tn kt} P.a1 P.a2 ad' d1 d2 cap' ?_ ⟨?_,?_,?_⟩ ?_ hp
 .have r0:=(h.t.fr hf (λe=>by
   rcases e with e|e;.omega
   .have:=gT e.1;omega)).set (o:=4) Zb (.slice ad' (x.tn+1:Nat) cap');exact Wg
 .exact(h.c.at_.o.fr F (λq hq=>far q (AA hq) (λe=>h.c.at_.d13 q hq e))).isIn (λ_ _=>At _)
 .exact(h.c.at_.h.fr F (λq hq=>far q (AC (AA hq)) (λe=>h.c.at_.d23 q hq e))).isIn (λ_ _=>At _)
 .intro i hi;have c0:0<cap':=by have:=hr.le;omega
  have gl:=(hr.room c0).lt;have cl:∀f,f<5->(Y.setCell ⟨T,4,none⟩ (.slice ad' (x.tn+1:Nat) cap')).cell? ⟨g',i*5+f,none⟩=some (BO (K5 x.ts) (x.tn*5) (AR (tv kt)) (i*5+f)):=λf hf=>(F2.cell (p:=⟨g',i*5+f,none⟩) gl gne).trans (hr.cell _ (by have:i<x.tn+1:=hi;omega));refine⟨g',0,hr.addr c0,At _,Ac gl F2.size,?_⟩;rw[A6];show Nh _ _ _ (B8 x.ts x.tn kt i);by_cases e:i=x.tn;.subst e;rw[Bt];have q:∀f,f<5->(Y.setCell ⟨T,4,none⟩ (.slice ad' (x.tn+1:Nat) cap')).cell? ⟨g',x.tn*5+f,none⟩=some (AR (tv kt) f):=λf hf=>(cl f hf).trans (congrArg some TF);exact⟨q 0 Zb,q 1 Zb,q 2 Zb,q 3 Zb,q 4 Zb⟩
  .rw[BP _ _ e];have hi':i<x.tn:=by have:i<x.tn+1:=hi;omega
   have q:∀f,f<5->(Y.setCell ⟨T,4,none⟩ (.slice ad' (x.tn+1:Nat) cap')).cell? ⟨g',i*5+f,none⟩=some (K5 x.ts (i*5+f)):=λf hf=>(cl f hf).trans (congrArg some (Lo Za));obtain⟨t0,t1,t2,t3,t4⟩:=Ua x.ts i;exact⟨(q 0 Zb).trans (congrArg some t0),(q 1 Zb).trans (congrArg some t1),(q 2 Zb).trans (congrArg some t2),(q 3 Zb).trans (congrArg some t3),(q 4 Zb).trans (congrArg some t4)⟩
 .refine⟨hfit.o,hfit.h,?_,hfit.os,hfit.hs,λi hi=>?_⟩;.show((x.tn+1:Nat):Int)<=_;omega
  .show UF (B8 x.ts x.tn kt i);by_cases e:i=x.tn;.subst e;rw[Bt];exact⟨Za,Za⟩
   .rw[BP _ _ e];exact hfit.ts i (by have:i<x.tn+1:=hi;omega)
theorem NG{c:Nat->Value}{i:Nat}{y:Ob}{A:OA}{C f:Nat}(h:RZ c i y A C)(hf:f<7):c (i*7+f)=AR (oc y A C) f:=by
 obtain⟨a0,a1,a2,a3,a4,a5,a6⟩:=h;rcases(show f=0\/f=1\/f=2\/f=3\/f=4\/f=5\/f=6 by omega)with rfl|rfl|rfl|rfl|rfl|rfl|rfl;.exact a0
 .exact a1
 .exact a2
 .exact a3
 .exact a4
 .exact a5
 .exact a6
theorem Pj{w:World}{g b:Nat}{y:Ob}{A:OA}{C:Nat}(q:∀f,f<7->w.cell? ⟨g,b+f,none⟩=some (AR (oc y A C) f)):LK w g b y A C:=⟨q 0 Zb,q 1 Zb,q 2 Zb,q 3 Zb,q 4 Zb,q 5 Zb,q 6 Zb⟩
theorem Bz.wide{w:World}{g:Nat}{ad:OA}{n:Nat}{s:Nat->ByteArray}(h:Bz w g (g+1) ad n s)(hl:n≠0->g<w.1.size):AB w 0 w.1.size ad n s:=λi hi=>by obtain⟨b,off,e1,e2,e3,e4,e5⟩:=h i hi;have:=hl Za;exact⟨b,off,e1,At _,Za,e4⟩
theorem OU.spO{w X:World}{R:Nat}{ad:OA}{nn cap p' p0:Nat}{x:Bk}{P:Pl}{d1 d2 d3 T:Nat}(h:OU w R ad nn cap p' x P d1 d2 d3 T X)(hw:Rd w R ad nn cap p0)(had:∀b off,ad=some ⟨b,off,none⟩->b<w.1.size)(hon:x.on<=100)(h0:0<x.on):∃cA,wR X R T ad x P.g1 d1 cA/\(∀i,i<x.on->RZ cA i (x.os i) (P.A1 i) (P.C1 i))/\w.1.size+2<=P.g1:=by have hR:=hw.lt;have T0:=h.T0;have bl:Lh P x P.g1:=AA (AA ⟨h0,rfl⟩);have g0:=h.c.lo _ bl;have gT:=h.tb _ bl;obtain⟨c,r,ec⟩:=h.c.at_.o.row h0;refine⟨c,⟨⟨λ_=>rfl,h.c.ob.le,λ_=>h.c.ob.row h0,λj hj=>r.cell j hj⟩,λj hj=>?_,Za,λb off hb=>by have:=had b off hb;omega,hon⟩,ec,g0⟩;obtain⟨i,f,rfl,hf⟩:∃i f,j=i*7+f/\f<7:=⟨j/7,j%7,Za,Za⟩;rw[NG (ec i Za) hf];exact eB _ _ _ f hf
theorem OU.objs{w X:World}{R:Nat}{ad:OA}{nn cap p p' p0 p2 k:Nat}{x:Bk}{P:Pl}{d1 d2 d3 T:Nat}(h:OU w R ad nn cap p' x P d1 d2 d3 T X)(hw:Rd w R ad nn cap p0){Y:World}{cA:Nat->Value}{o:Nat}(ho:o<x.on)(hon:x.on<=100)(hA:∀i,i<x.on->RZ cA i (x.os i) (P.A1 i) (P.C1 i))(hg0:w.1.size+2<=P.g1)(hfit:BL x){ad':OA}{cap' g':Nat}(hu:Rw Y ad' g' (x.on+1) cap' 7 (BO cA (x.on*7) (AR (oc (x.os o) (P.A1 o) (P.C1 o))))/\((0<d1/\g'=P.g1)\/X.1.size<=g'))(hf:Az (λq=>q=R\/(0<d1/\q=P.g1)) X Y)(hrd:Rd Y R ad nn cap p2)(hp:p<=p2/\p2<=p+k):fZ w R ad nn cap p k T (Y.setCell ⟨T,2,none⟩ (.slice ad' (x.on+1:Nat) cap')):=by
 obtain⟨hr,hg⟩:=hu;have hR:=hw.lt;have T0:=h.T0;have Tl:=h.t.lt;have gT:=h.tb _ (AA (AA ⟨(by omega:0<x.on),rfl⟩));have gne:¬g'=T:=by
  rcases hg with e|e;.omega
  .omega
 have F:Az (λq=>q=R\/((0<d1/\q=P.g1)\/q=T)) X (Y.setCell ⟨T,2,none⟩ (.slice ad' (x.on+1:Nat) cap')):=(hf.mono (λq e=>by rcases e with e|e;exact AA e;exact AC (AA e))).setCell (p:=⟨T,2,none⟩) (AC (AC rfl)) _;have F2:=(Az.refl (λq=>q=T) Y).setCell (p:=⟨T,2,none⟩) rfl (.slice ad' (x.on+1:Nat) cap');have far:∀q,Lh P x q->¬q=P.g1->¬(q=R\/((0<d1/\q=P.g1)\/q=T)):=λq hq hn e=>by
  have l1:=h.c.lo q hq;have l2:=h.tb q hq;rcases e with e|e|e;.omega
  .exact hn e.2
  .omega
 have b1:PB P x P.g1:=AA ⟨Za,rfl⟩;have hold:∀i,i<x.on->AB (Y.setCell ⟨T,2,none⟩ (.slice ad' (x.on+1:Nat) cap')) 0 (Y.setCell ⟨T,2,none⟩ (.slice ad' (x.on+1:Nat) cap')).1.size (P.A1 i) (x.os i).hn (x.os i).hs:=λi hi=>((h.c.at_.o.hold i hi).frP F (λhne=>⟨far _ (AA (AC ⟨i,hi,hne,rfl⟩)) (h.c.at_.o.ap.ne i hi hne),h.c.at_.o.hlt i hi hne⟩)).wide (λhne=>Ac (h.c.at_.o.hlt i hi hne) F.size);refine h.fin hw hf hrd (λq e=>by rw[e.2];exact hg0) Za {x with on:=x.on+1,os:=B8 x.os x.on (x.os o)} ad' P.a2 P.a3 cap' d2 d3 ?_ ⟨?_,?_,?_⟩ ?_ hp;.have r0:=(h.t.fr hf (λe=>by rcases e with e|e<;>omega)).set (o:=2) Zb (.slice ad' (x.on+1:Nat) cap');exact Wg
 .intro i hi;have c0:0<cap':=by have:=hr.le;omega
  have gl:=(hr.room c0).lt;have cl:∀f,f<7->(Y.setCell ⟨T,2,none⟩ (.slice ad' (x.on+1:Nat) cap')).cell? ⟨g',i*7+f,none⟩=some (BO cA (x.on*7) (AR (oc (x.os o) (P.A1 o) (P.C1 o))) (i*7+f)):=λf hf=>(F2.cell (p:=⟨g',i*7+f,none⟩) gl gne).trans (hr.cell _ (by have:i<x.on+1:=hi;omega));show∃b off ah ch,_/\_/\_/\LK _ _ _ (B8 x.os x.on (x.os o) i) _ _/\AB _ _ _ _ (B8 x.os x.on (x.os o) i).hn (B8 x.os x.on (x.os o) i).hs;by_cases e:i=x.on;.subst e;rw[Bt];refine⟨g',0,P.A1 o,P.C1 o,hr.addr c0,At _,Ac gl F2.size,?_,hold o ho⟩;rw[A6];exact Pj (λf hf=>(cl f hf).trans (congrArg some TF))
  .rw[BP _ _ e];have hi':i<x.on:=by have:i<x.on+1:=hi;omega
   refine⟨g',0,P.A1 i,P.C1 i,hr.addr c0,At _,Ac gl F2.size,?_,hold i hi'⟩;rw[A6];exact Pj (λf hf=>(cl f hf).trans (congrArg some ((Lo Za).trans (NG (hA i hi') hf))))
 .exact(h.c.at_.h.fr F (λq hq=>far q (AC (AA hq)) (λe=>h.c.at_.d12 P.g1 b1 (e▸hq)))).isIn (λ_ _=>At _)
 .exact(h.c.at_.t.fr F (λq hq=>far q (AC (AC hq)) (λe=>h.c.at_.d13 P.g1 b1 (e▸hq)))).isIn (λ_=>At _)
 .refine⟨?_,hfit.h,hfit.t,λi hi=>?_,hfit.hs,hfit.ts⟩;.show((x.on+1:Nat):Int)<=_;omega
  .show Ef (B8 x.os x.on (x.os o) i);by_cases e:i=x.on;.subst e;rw[Bt];exact hfit.os o ho
   .rw[BP _ _ e];exact hfit.os i (by have:i<x.on+1:=hi;omega)
theorem OU.dele{w X:World}{R:Nat}{ad:OA}{nn cap p p' p0 p2 k:Nat}{x:Bk}{P:Pl}{d1 d2 d3 T:Nat}(h:OU w R ad nn cap p' x P d1 d2 d3 T X)(hw:Rd w R ad nn cap p0){Y:World}{cA:Nat->Value}{o:Nat}(ho:o<x.on)(hon:x.on<=100)(hA:∀i,i<x.on->RZ cA i (x.os i) (P.A1 i) (P.C1 i))(hg0:w.1.size+2<=P.g1)(hfit:BL x)(hr:Rw Y (some ⟨P.g1,0,none⟩) P.g1 (x.on-1) d1 7 (Su cA o))(hf:Az (λq=>q=R\/(0<d1/\q=P.g1)) X Y)(hrd:Rd Y R ad nn cap p2)(hp:p<=p2/\p2<=p+k):fZ w R ad nn cap p k T (Y.setCell ⟨T,2,none⟩ (.slice (some ⟨P.g1,0,none⟩) (x.on-1:Nat) d1)):=by
 have hR:=hw.lt;have T0:=h.T0;have Tl:=h.t.lt;have gT:=h.tb _ (AA (AA ⟨(by omega:0<x.on),rfl⟩));have F:Az (λq=>q=R\/((0<d1/\q=P.g1)\/q=T)) X (Y.setCell ⟨T,2,none⟩ (.slice (some ⟨P.g1,0,none⟩) (x.on-1:Nat) d1)):=(hf.mono (λq e=>by rcases e with e|e;exact AA e;exact AC (AA e))).setCell (p:=⟨T,2,none⟩) (AC (AC rfl)) _;have F2:=(Az.refl (λq=>q=T) Y).setCell (p:=⟨T,2,none⟩) rfl (.slice (some ⟨P.g1,0,none⟩) (x.on-1:Nat) d1);have far:∀q,Lh P x q->¬q=P.g1->¬(q=R\/((0<d1/\q=P.g1)\/q=T)):=λq hq hn e=>by
  have l1:=h.c.lo q hq;have l2:=h.tb q hq;rcases e with e|e|e;.omega
  .exact hn e.2
  .omega
 have b1:PB P x P.g1:=AA ⟨Za,rfl⟩;have hold:∀i,i<x.on->AB (Y.setCell ⟨T,2,none⟩ (.slice (some ⟨P.g1,0,none⟩) (x.on-1:Nat) d1)) 0 (Y.setCell ⟨T,2,none⟩ (.slice (some ⟨P.g1,0,none⟩) (x.on-1:Nat) d1)).1.size (P.A1 i) (x.os i).hn (x.os i).hs:=λi hi=>((h.c.at_.o.hold i hi).frP F (λhne=>⟨far _ (AA (AC ⟨i,hi,hne,rfl⟩)) (h.c.at_.o.ap.ne i hi hne),h.c.at_.o.hlt i hi hne⟩)).wide (λhne=>Ac (h.c.at_.o.hlt i hi hne) F.size);refine h.fin hw hf hrd (λq e=>by rw[e.2];exact hg0) Za {x with on:=x.on-1,os:=λi=>if i<o then x.os i else x.os (i+1)} (some ⟨P.g1,0,none⟩) P.a2 P.a3 d1 d2 d3 ?_ ⟨?_,?_,?_⟩ ?_ hp;.have r0:=(h.t.fr hf (λe=>by rcases e with e|e<;>omega)).set (o:=2) Zb (.slice (some ⟨P.g1,0,none⟩) (x.on-1:Nat) d1);exact Wg
 .intro i hi;have hi':i<x.on-1:=hi;have c0:0<d1:=by have:=hr.le;omega
  have gl:=(hr.room c0).lt;have cl:∀f,f<7->(Y.setCell ⟨T,2,none⟩ (.slice (some ⟨P.g1,0,none⟩) (x.on-1:Nat) d1)).cell? ⟨P.g1,i*7+f,none⟩=some (Su cA o (i*7+f)):=λf hf=>(F2.cell (p:=⟨P.g1,i*7+f,none⟩) gl (show¬P.g1=T by omega)).trans (hr.cell _ Za);show∃b off ah ch,_/\_/\_/\LK _ _ _ (if i<o then x.os i else x.os (i+1)) _ _/\AB _ _ _ _ (if i<o then x.os i else x.os (i+1)).hn (if i<o then x.os i else x.os (i+1)).hs;by_cases e:i<o;.rw[if_pos e];refine⟨P.g1,0,P.A1 i,P.C1 i,rfl,At _,Ac gl F2.size,?_,hold i Za⟩;rw[A6];exact Pj (λf hf=>(cl f hf).trans (congrArg some ((show Su cA o (i*7+f)=cA (i*7+f)from if_pos Za).trans (NG (hA i Za) hf))))
  .rw[if_neg e];refine⟨P.g1,0,P.A1 (i+1),P.C1 (i+1),rfl,At _,Ac gl F2.size,?_,hold (i+1) Za⟩;rw[A6];refine Pj (λf hf=>(cl f hf).trans (congrArg some ((show Su cA o (i*7+f)=cA (i*7+f+7)from if_neg Za).trans ?_)));rw[show i*7+f+7=(i+1)*7+f by omega];exact NG (hA (i+1) Za) hf
 .exact(h.c.at_.h.fr F (λq hq=>far q (AC (AA hq)) (λe=>h.c.at_.d12 P.g1 b1 (e▸hq)))).isIn (λ_ _=>At _)
 .exact(h.c.at_.t.fr F (λq hq=>far q (AC (AC hq)) (λe=>h.c.at_.d13 P.g1 b1 (e▸hq)))).isIn (λ_=>At _)
 .refine⟨?_,hfit.h,hfit.t,λi hi=>?_,hfit.hs,hfit.ts⟩;.show((x.on-1:Nat):Int)<=_;omega
  .have hi':i<x.on-1:=hi;show Ef (if i<o then x.os i else x.os (i+1));by_cases e:i<o;.rw[if_pos e];exact hfit.os i Za
   .rw[if_neg e];exact hfit.os (i+1) Za
theorem OU.spL{w X:World}{R:Nat}{ad:OA}{nn cap p' p0:Nat}{x:Bk}{P:Pl}{d1 d2 d3 T:Nat}(h:OU w R ad nn cap p' x P d1 d2 d3 T X)(hw:Rd w R ad nn cap p0){o:Nat}(had:∀b off,ad=some ⟨b,off,none⟩->b<w.1.size)(ho:o<x.on)(h5:(x.os o).hn<=5):∃gA,yN X R T ad P.g1 (x.os o) gA (P.A1 o) (P.C1 o)/\(0<P.C1 o->(x.os o).hn≠0/\gA=P.h1 o)/\w.1.size+2<=gA:=by
 have hR:=hw.lt;have T0:=h.T0;have bl:Lh P x P.g1:=AA (AA ⟨Za,rfl⟩);have g0:=h.c.lo _ bl;have gT:=h.tb _ bl;obtain⟨r1,r2,r3⟩:=h.c.ob.ho o ho;rcases Bm (x.os o).hn with e|e;.have z1:=r2 e;exact⟨w.1.size+2,⟨⟨λi=>by omega,Za,λi=>by omega,λj hj=>by omega⟩,Za,Za,Za,λb off hb=>by have:=had b off hb;omega,h5,Za⟩,Za,AD _⟩
 .have hne:(x.os o).hn≠0:=Za;have bl2:Lh P x (P.h1 o):=AA (AC ⟨o,ho,hne,rfl⟩);have g2:=h.c.lo _ bl2;have gT2:=h.tb _ bl2;have nn1:=h.c.at_.o.ap.ne o ho hne;refine⟨P.h1 o,⟨⟨λe=>(r3 e).1,r1,λe=>by rw[My];exact(r3 e).2,λj hj=>?_⟩,Za,Za,Za,λb off hb=>by have:=had b off hb;omega,h5,λ_=>h.c.at_.o.hlt o ho hne⟩,λ_=>⟨hne,rfl⟩,g2⟩;obtain⟨b,off,e1,e2,e3,e4,e5⟩:=h.c.at_.o.hold o ho j Za;have a1:=(r3 Za).1;rw[a1]at e1;cases e1;rw[A6]at e4;exact e4
theorem OU.hold{w X:World}{R:Nat}{ad:OA}{nn cap p p' p0 p2 k:Nat}{x:Bk}{P:Pl}{d1 d2 d3 T:Nat}(h:OU w R ad nn cap p' x P d1 d2 d3 T X)(hw:Rd w R ad nn cap p0){Y:World}{o gA:Nat}(ho:o<x.on)(h5:(x.os o).hn<=5)(hA:0<P.C1 o->(x.os o).hn≠0/\gA=P.h1 o)(hg0:w.1.size+2<=gA)(hfit:BL x){s:ByteArray}{ad':OA}{cap' g':Nat}(hu:Rw Y ad' g' ((x.os o).hn+1) cap' 1 (BO (λj=>.string ((x.os o).hs j)) ((x.os o).hn*1) (λ_=>.string s))/\((0<P.C1 o/\g'=gA)\/X.1.size<=g')/\s.size<=1000)(hf:Az (λq=>q=R\/(0<P.C1 o/\q=gA)) X Y)(hrd:Rd Y R ad nn cap p2)(hp:p<=p2/\p2<=p+k):fZ w R ad nn cap p k T (Y.setCell ⟨P.g1,o*7+6,none⟩ (.slice ad' ((x.os o).hn+1:Nat) cap')):=by
 obtain⟨hr,hg,hs⟩:=hu;have hR:=hw.lt;have T0:=h.T0;have Tl:=h.t.lt;have bl:Lh P x P.g1:=AA (AA ⟨Za,rfl⟩);have g0:=h.c.lo _ bl;have gT:=h.tb _ bl;have b1:PB P x P.g1:=AA ⟨Za,rfl⟩;have gA1:0<P.C1 o->¬gA=P.g1/\gA<T/\PB P x gA:=λe=>by have a:=hA e;have b:PB P x gA:=AC ⟨o,ho,a.1,a.2⟩;exact⟨λe2=>h.c.at_.o.ap.ne o ho a.1 (a.2.symm.trans e2),h.tb _ (AA b),b⟩
 have gne:¬g'=P.g1:=by
  rcases hg with e|e;.rw[e.2];exact(gA1 e.1).1
  .have:=h.c.at_.blt bl;omega
 have F:Az (λq=>q=R\/((0<P.C1 o/\q=gA)\/q=P.g1)) X (Y.setCell ⟨P.g1,o*7+6,none⟩ (.slice ad' ((x.os o).hn+1:Nat) cap')):=(hf.mono (λq e=>by rcases e with e|e;exact AA e;exact AC (AA e))).setCell (p:=⟨P.g1,o*7+6,none⟩) (AC (AC rfl)) _;have F2:=(Az.refl (λq=>q=P.g1) Y).setCell (p:=⟨P.g1,o*7+6,none⟩) rfl (.slice ad' ((x.os o).hn+1:Nat) cap');have far:∀q,Lh P x q->¬q=P.g1->¬(0<P.C1 o/\q=gA)->¬(q=R\/((0<P.C1 o/\q=gA)\/q=P.g1)):=λq hq hn hm e=>by
  have l1:=h.c.lo q hq;rcases e with e|e|e;.omega
  .exact hm e
  .exact hn e
 obtain⟨c,r,ec⟩:=h.c.at_.o.row Za;have r1:=(r.fr hf (λe=>by
  rcases e with e|e;.omega
  .exact(gA1 e.1).1 e.2.symm)).set (o:=o*7+6) Za (.slice ad' ((x.os o).hn+1:Nat) cap');refine h.fin hw hf hrd (λq e=>by rw[e.2];exact hg0) g0 {x with os:=B8 x.os o {x.os o with hn:=(x.os o).hn+1,hs:=B8 (x.os o).hs (x.os o).hn s}} P.a1 P.a2 P.a3 d1 d2 d3 ?_ ⟨?_,?_,?_⟩ (TE hfit ⟨(hfit.os o ho).k,(hfit.os o ho).n,(hfit.os o ho).t,?_,λi hi=>?_,(hfit.os o ho).v⟩) hp
 .exact(h.t.fr hf (λe=>by
   rcases e with e|e;.omega
   .have:=(gA1 e.1).2.1;omega)).fr F2 Za
 .intro i hi;have hi':i<x.on:=hi;show∃b off ah ch,_/\_/\_/\LK _ _ _ (B8 x.os o _ i) _ _/\AB _ _ _ _ (B8 x.os o _ i).hn (B8 x.os o _ i).hs;by_cases e:i=o
  .subst e;rw[Bt];refine⟨P.g1,0,ad',cap',h.c.at_.o.addr Za,At _,r1.lt,?_,λj hj=>?_⟩
   .rw[A6];refine Pj (λf hf=>(r1.cell _ Za).trans (congrArg some ?_));unfold L1;have a:=ec i hi';rcases(show f=0\/f=1\/f=2\/f=3\/f=4\/f=5\/f=6 by omega)with rfl|rfl|rfl|rfl|rfl|rfl|rfl;.rw[if_neg Za];exact a.1
    .rw[if_neg Za];exact a.2.1
    .rw[if_neg Za];exact a.2.2.1
    .rw[if_neg Za];exact a.2.2.2.1
    .rw[if_neg Za];exact a.2.2.2.2.1
    .rw[if_neg Za];exact a.2.2.2.2.2.1
    .rw[if_pos rfl];rfl
   .have hj':j<(x.os i).hn+1:=hj;have c0:0<cap':=by have:=hr.le;omega
    have gl:=(hr.room c0).lt;refine⟨g',0,hr.addr c0,At _,Ac gl F2.size,?_⟩;rw[A6];refine((F2.cell (p:=⟨g',j,none⟩) gl gne).trans (hr.cell j Za)).trans (congrArg some ?_);show BO _ _ _ j=.string (B8 (x.os i).hs (x.os i).hn s j);by_cases e:j=(x.os i).hn
    .subst e;rw[Bt];exact if_neg Za
    .rw[BP _ _ e];exact if_pos Za
  .rw[BP _ _ e];refine⟨P.g1,0,P.A1 i,P.C1 i,h.c.at_.o.addr Za,At _,r1.lt,?_,?_⟩;.rw[A6];refine Pj (λf hf=>(r1.cell _ Za).trans (congrArg some ?_));unfold L1;rw[if_neg Za];exact NG (ec i hi') hf
   .exact((h.c.at_.o.hold i hi').frP F (λhne=>⟨far _ (AA (AC ⟨i,hi',hne,rfl⟩)) (h.c.at_.o.ap.ne i hi' hne) (λe2=>e (h.c.at_.o.ap.inj i o hi' ho hne (hA e2.1).1 (e2.2.trans (hA e2.1).2))),h.c.at_.o.hlt i hi' hne⟩)).wide (λhne=>Ac (h.c.at_.o.hlt i hi' hne) F.size)
 .exact(h.c.at_.h.fr F (λq hq=>far q (AC (AA hq)) (λe=>h.c.at_.d12 P.g1 b1 (e▸hq)) (λe=>h.c.at_.d12 q (e.2▸(gA1 e.1).2.2) hq))).isIn (λ_ _=>At _)
 .exact(h.c.at_.t.fr F (λq hq=>far q (AC (AC hq)) (λe=>h.c.at_.d13 P.g1 b1 (e▸hq)) (λe=>h.c.at_.d13 q (e.2▸(gA1 e.1).2.2) hq))).isIn (λ_=>At _)
 .show(((x.os o).hn+1:Nat):Int)<=_;omega
 .have hi':i<(x.os o).hn+1:=hi;show((B8 (x.os o).hs (x.os o).hn s i).size:Int)<=_;by_cases e:i=(x.os o).hn;.subst e;rw[Bt];omega
  .rw[BP _ _ e];exact(hfit.os o ho).s i Za
structure Pm (w:World)(R:Nat)(ad:OA)(nn cap p:Nat)(x:Bk)(P:Pl)(d1 d2 d3 T:Nat)(X:World):Prop where
 f:Az (λq=>q=R) w X
 r:Rd X R ad nn cap p
 a:AN X (w.1.size+1) 5 (AR [.int .i64 0,.int .i64 0,.slice none 0 0,.slice none 0 0,.slice none 0 0])an:MG X (w.1.size+1)t:AN X T 5 (AR [.int .i64 x.now,.int .i64 x.floor,.slice P.a1 x.on d1,.slice P.a2 x.hn d2,.slice P.a3 x.tn d3])at_:MN X x P
 lo:∀q,Lh P x q->w.1.size+2<=q
 tb:∀q,Lh P x q->¬q=T
 T0:w.1.size+2<=T
theorem OU.b{w X:World}{R:Nat}{ad:OA}{nn cap p':Nat}{x:Bk}{P:Pl}{d1 d2 d3 T:Nat}(h:OU w R ad nn cap p' x P d1 d2 d3 T X):Pm w R ad nn cap p' x P d1 d2 d3 T X:=⟨h.f,h.r,h.a,h.an,h.t,h.c.at_,h.c.lo,λq hq e=>by have:=h.tb q hq;omega,h.T0⟩
theorem Pm.pick{w X:World}{R:Nat}{ad:OA}{nn cap p':Nat}{x:Bk}{P:Pl}{d1 d2 d3 T:Nat}(h:Pm w R ad nn cap p' x P d1 d2 d3 T X){Y:World}{p2:Nat}(hR:R<w.1.size)(hf:Az (λq=>q=R) X Y)(hr:Rd Y R ad nn cap p2):Pm w R ad nn cap p2 x P d1 d2 d3 T Y:=⟨h.f.trans hf,hr,h.a.fr2 hf Za,h.an.fr hf h.a.lt Za,h.t.fr2 hf (by have:=h.T0;omega),h.at_.fr hf (λq hq e=>by have:=h.lo q hq;omega),h.lo,h.tb,h.T0⟩
theorem Pm.below{w X:World}{R:Nat}{ad:OA}{nn cap p':Nat}{x:Bk}{P:Pl}{d1 d2 d3 T:Nat}(h:Pm w R ad nn cap p' x P d1 d2 d3 T X){Y:World}(hb:Below X.1.size X Y):Pm w R ad nn cap p' x P d1 d2 d3 T Y:=⟨h.f.trans (Aq hb),h.r.below hb,h.a.below hb h.a.lt,h.an.below hb h.a.lt,h.t.below hb h.t.lt,h.at_.fr (P:=λ_=>False) (Aq hb) (λ_ _ e=>e),h.lo,h.tb,h.T0⟩
theorem Pm.setT{w X:World}{R:Nat}{ad:OA}{nn cap p' p0:Nat}{x:Bk}{P:Pl}{d1 d2 d3 T:Nat}(h:Pm w R ad nn cap p' x P d1 d2 d3 T X)(hw:Rd w R ad nn cap p0){o:Nat}{u:Value}(ho:o<5)(y:Bk)(Q:Pl)(e1 e2 e3:Nat)(hv:∀j,j<5->L1 (AR [.int .i64 x.now,.int .i64 x.floor,.slice P.a1 x.on d1,.slice P.a2 x.hn d2,.slice P.a3 x.tn d3]) o u j=AR [.int .i64 y.now,.int .i64 y.floor,.slice Q.a1 y.on e1,.slice Q.a2 y.hn e2,.slice Q.a3 y.tn e3] j)(hat:MN X y Q)(hsub:∀q,Lh Q y q->Lh P x q):Pm w R ad nn cap p' y Q e1 e2 e3 T (X.setCell ⟨T,o,none⟩ u):=by have hR:=hw.lt;have T0:=h.T0;have F:=(Az.refl (λq=>q=T) X).setCell (p:=⟨T,o,none⟩) rfl u;have f2:=h.f.far (z:=T) Za o u;exact⟨f2,hw.keep h.r f2 (F.mono (λq hq e=>by omega)),h.a.fr F Za,h.an.fr F h.a.lt Za,(h.t.set ho u).congr hv,hat.fr F (λq hq=>h.tb q (hsub q hq)),λq hq=>h.lo q (hsub q hq),λq hq=>h.tb q (hsub q hq),h.T0⟩
theorem Rx{x:Bk}{P:Pl}{o:Nat}{y:Ob}(en:y.hn=(x.os o).hn)(q:Nat):Lh P {x with os:=B8 x.os o y} q↔Lh P x q:=by
 have eF:(λi=>(B8 x.os o y i).hn)=(λi=>(x.os i).hn):=funext (λi=>by
  by_cases e:i=o;.subst e;rw[Bt];exact en
  .rw[BP _ _ e]);have b1:PB P {x with os:=B8 x.os o y} q↔PB P x q:=by show Md P.g1 x.on (λi=>(B8 x.os o y i).hn) P.h1 q↔_;rw[eF];exact Iff.rfl
 exact or_congr b1 Iff.rfl
theorem Pm.setO{w X:World}{R:Nat}{ad:OA}{nn cap p' p0:Nat}{x:Bk}{P:Pl}{d1 d2 d3 T:Nat}(h:Pm w R ad nn cap p' x P d1 d2 d3 T X)(hw:Rd w R ad nn cap p0){o f:Nat}(ho:o<x.on)(hf:f<7)(u:Value)(y:Ob)(en:y.hn=(x.os o).hn)(es:y.hs=(x.os o).hs)(hv:∀k,k<7->AR (oc y (P.A1 o) (P.C1 o)) k=if k=f then u else AR (oc (x.os o) (P.A1 o) (P.C1 o)) k):Pm w R ad nn cap p' {x with os:=B8 x.os o y} P d1 d2 d3 T (X.setCell ⟨P.g1,o*7+f,none⟩ u):=by have hR:=hw.lt;have bl:Lh P x P.g1:=AA (AA ⟨Za,rfl⟩);have g0:=h.lo _ bl;have gT:=h.tb _ bl;have F:=(Az.refl (λq=>q=P.g1) X).setCell (p:=⟨P.g1,o*7+f,none⟩) rfl u;have f2:=h.f.far (z:=P.g1) Za (o*7+f) u;exact⟨f2,hw.keep h.r f2 (F.mono (λq hq e=>by omega)),h.a.fr F Za,h.an.fr F h.a.lt Za,h.t.fr F (λe=>gT e.symm),h.at_.setO ho hf u y en es hv,λq hq=>h.lo q ((Rx en q).1 hq),λq hq=>h.tb q ((Rx en q).1 hq),h.T0⟩
theorem QS{x:Bk}{P:Pl}{o:Nat}{y:Ch}(en:y.ob.hn=(x.hs o).ob.hn)(q:Nat):Lh P {x with hs:=B8 x.hs o y} q↔Lh P x q:=by
 have eF:(λi=>(B8 x.hs o y i).ob.hn)=(λi=>(x.hs i).ob.hn):=funext (λi=>by
  by_cases e:i=o;.subst e;rw[Bt];exact en
  .rw[BP _ _ e]);have b1:T2 P {x with hs:=B8 x.hs o y} q↔T2 P x q:=by show Md P.g2 x.hn (λi=>(B8 x.hs o y i).ob.hn) P.h2 q↔_;rw[eF];exact Iff.rfl
 exact or_congr Iff.rfl (or_congr b1 Iff.rfl)
theorem Pm.setC{w X:World}{R:Nat}{ad:OA}{nn cap p' p0:Nat}{x:Bk}{P:Pl}{d1 d2 d3 T:Nat}(h:Pm w R ad nn cap p' x P d1 d2 d3 T X)(hw:Rd w R ad nn cap p0){o f:Nat}(ho:o<x.hn)(hf:f<9)(u:Value)(y:Ch)(en:y.ob.hn=(x.hs o).ob.hn)(es:y.ob.hs=(x.hs o).ob.hs)(hv:∀k,k<9->AR (cc y (P.A2 o) (P.C2 o)) k=if k=f then u else AR (cc (x.hs o) (P.A2 o) (P.C2 o)) k):Pm w R ad nn cap p' {x with hs:=B8 x.hs o y} P d1 d2 d3 T (X.setCell ⟨P.g2,o*9+f,none⟩ u):=by have hR:=hw.lt;have bl:Lh P x P.g2:=AC (AA (AA ⟨Za,rfl⟩));have g0:=h.lo _ bl;have gT:=h.tb _ bl;have F:=(Az.refl (λq=>q=P.g2) X).setCell (p:=⟨P.g2,o*9+f,none⟩) rfl u;have f2:=h.f.far (z:=P.g2) Za (o*9+f) u;exact⟨f2,hw.keep h.r f2 (F.mono (λq hq e=>by omega)),h.a.fr F Za,h.an.fr F h.a.lt Za,h.t.fr F (λe=>gT e.symm),h.at_.setC ho hf u y en es hv,λq hq=>h.lo q ((QS en q).1 hq),λq hq=>h.tb q ((QS en q).1 hq),h.T0⟩
theorem Pm.fin{w X:World}{R:Nat}{ad:OA}{nn cap p p' k:Nat}{x:Bk}{P:Pl}{d1 d2 d3 T:Nat}(h:Pm w R ad nn cap p' x P d1 d2 d3 T X)(hfit:BL x)(hp:p<=p'/\p'<=p+k):fZ w R ad nn cap p k T X:=⟨x,P.a1,P.a2,P.a3,d1,d2,d3,p',hp,h.f,h.r,h.a,h.an,h.t,h.at_.isIn (λ_ _=>At _),hfit⟩
theorem OU.drop{w X:World}{R:Nat}{ad:OA}{nn cap p p' p0 k:Nat}{x:Bk}{P:Pl}{d1 d2 d3 T:Nat}(h:OU w R ad nn cap p' x P d1 d2 d3 T X)(hw:Rd w R ad nn cap p0){b:OA}{n2 c2:Nat}(e2:n2=x.hn-1)(hb:0<x.hn-1->b=some ⟨P.g2,9,none⟩)(hfit:BL x)(hp:p<=p'/\p'<=p+k):fZ w R ad nn cap p k T (X.setCell ⟨T,3,none⟩ (.slice b n2 c2)):=by
 subst e2;have T0:=h.T0;have F:=(Az.refl (λq=>q=T) X).setCell (p:=⟨T,3,none⟩) rfl (.slice b (x.hn-1) c2);have hin:BF X 0 X.1.size {x with hn:=x.hn-1,hs:=λi=>x.hs (i+1)} P.a1 b P.a3:=by have I:=h.c.at_.isIn (lo:=0) (λ_ _=>At _);refine⟨I.o,λi hi=>?_,I.t⟩;have hi':i<x.hn-1:=hi;obtain⟨c,off,ah,ch,e1,e2,e3,e4,e5⟩:=I.h (i+1) Za;rw[h.c.at_.h.addr Za]at e1;cases e1;refine⟨P.g2,9,ah,ch,hb Za,e2,e3,?_,e5⟩;rw[show 0+(i+1)*9=9+i*9 by omega]at e4;exact e4
 refine h.fin hw (Pq:=λ_=>False) (Az.refl _ _) h.r (λq e=>e.elim) T0 {x with hn:=x.hn-1,hs:=λi=>x.hs (i+1)} P.a1 b P.a3 d1 c2 d3 ?_ ((hin.box F h.tn uK).upTo F.size) ?_ hp;.exact(h.t.set (o:=3) Zb (.slice b (x.hn-1) c2)).congr (λj hj=>by rcases(show j=0\/j=1\/j=2\/j=3\/j=4 by omega)with rfl|rfl|rfl|rfl|rfl<;>rfl)
 .refine⟨hfit.o,?_,hfit.t,hfit.os,λi hi=>?_,hfit.ts⟩;.have:=hfit.h;show((x.hn-1:Nat):Int)<=_;omega
  .have hi':i<x.hn-1:=hi;exact hfit.hs (i+1) Za
theorem Pm.bare{w X:World}{R:Nat}{ad:OA}{nn cap p' p0:Nat}{x:Bk}{P:Pl}{d1 d2 d3 T:Nat}(h:Pm w R ad nn cap p' x P d1 d2 d3 T X){z:Nat}(hw:Rd w R ad nn cap p0):Pm w R ad nn cap p' {x with hn:=0,floor:=x.now} {P with a2:=some ⟨z,0,none⟩} d1 0 d3 T ((X.setCell ⟨T,3,none⟩ (.slice (some ⟨z,0,none⟩) 0 0)).setCell ⟨T,1,none⟩ (.int .i64 x.now)):=by
 have hsub:∀q,Lh {P with a2:=some ⟨z,0,none⟩} {x with hn:=0} q->Lh P x q:=λq hq=>by
  rcases hq with e|e|e;.exact AA e
  .rcases e with⟨e,_⟩|⟨i,e,_⟩;.exact absurd e (AY 0)
   .exact absurd e (Aj i)
  .exact AC (AC e)
 have n2:∀q,¬T2 {P with a2:=some ⟨z,0,none⟩} {x with hn:=0} q:=λq e=>by
  rcases e with⟨e,_⟩|⟨i,e,_⟩;.exact absurd e (AY 0)
  .exact absurd e (Aj i)
 have hat:MN X {x with hn:=0} {P with a2:=some ⟨z,0,none⟩}:=by refine⟨h.at_.o,?_,h.at_.t,λq _ e=>n2 q e,h.at_.d13,λq e=>absurd e (n2 q)⟩;exact⟨λe=>absurd e (AY 0),λe=>absurd e (AY 0),λi e=>absurd e (Aj i),λi e=>absurd e (Aj i),⟨λi e=>absurd e (Aj i),λi j e=>absurd e (Aj i)⟩⟩
 have h1:=h.setT hw (o:=3) (u:=.slice (some ⟨z,0,none⟩) 0 0) Zb {x with hn:=0} {P with a2:=some ⟨z,0,none⟩} d1 0 d3 (λj hj=>by rcases(show j=0\/j=1\/j=2\/j=3\/j=4 by omega)with rfl|rfl|rfl|rfl|rfl<;>rfl) hat hsub;exact h1.setT hw (o:=1) (u:=.int .i64 x.now) Zb {x with hn:=0,floor:=x.now} {P with a2:=some ⟨z,0,none⟩} d1 0 d3 (λj hj=>by rcases(show j=0\/j=1\/j=2\/j=3\/j=4 by omega)with rfl|rfl|rfl|rfl|rfl<;>rfl) ⟨h1.at_.o,h1.at_.h,h1.at_.t,h1.at_.d12,h1.at_.d13,h1.at_.d23⟩ (λq hq=>hq)
theorem UH{x:Bk}(h:BL x):BL {x with hn:=0,floor:=x.now}:=⟨h.o,by show((0:Nat):Int)<=_;decide,h.t,h.os,λi hi=>absurd hi (Aj i),h.ts⟩
theorem Pm.ver2{w X:World}{R:Nat}{ad:OA}{nn cap p' p0:Nat}{x:Bk}{P:Pl}{d1 d2 d3 T:Nat}(h:Pm w R ad nn cap p' x P d1 d2 d3 T X)(hw:Rd w R ad nn cap p0)(h1:1<x.on)(hfit:BL x)(v:Int)(hv:(Lit.int .i64 v).wf=true):∃y,Pm w R ad nn cap p' y P d1 d2 d3 T ((X.setCell ⟨P.g1,2,none⟩ (.int .i64 v)).setCell ⟨P.g1,9,none⟩ (.int .i64 v))/\BL y:=by
 have a:=h.setO hw (o:=0) (f:=2) Za Zb (.int .i64 v) {x.os 0 with ver:=v} rfl rfl P6;have fa:=TE (o:=0) (y:={x.os 0 with ver:=v}) hfit ⟨(hfit.os 0 Za).k,(hfit.os 0 Za).n,(hfit.os 0 Za).t,(hfit.os 0 Za).h,(hfit.os 0 Za).s,hv⟩;generalize ey:{x with os:=B8 x.os 0 {x.os 0 with ver:=v}}=y at a fa;have yo:1<y.on:=by rw[<-ey];exact h1
 have b:=a.setO hw (o:=1) (f:=2) yo Zb (.int .i64 v) {y.os 1 with ver:=v} rfl rfl P6;exact⟨_,b,TE fa ⟨(fa.os 1 yo).k,(fa.os 1 yo).n,(fa.os 1 yo).t,(fa.os 1 yo).h,(fa.os 1 yo).s,hv⟩⟩
structure yO (x:Bk):Prop where
 n:-1000000<=x.now/\x.now<=1000000
 f:-1000000<=x.floor/\x.floor<=1000000
 o:∀j,j<x.on->(-1000000<=(x.os j).ver/\(x.os j).ver<=1000000)/\(-1000000<=(x.os j).born/\(x.os j).born<=1000000)/\(x.os j).text.size<=300
 h:∀j,j<x.hn->-1000000<=(x.hs j).ver/\(x.hs j).ver<=1000000
theorem VB.bnd{x:Bk}(v:VB x):yO x:=by
 have v0:=v.n0;have v1:=v.n1;have v2:=v.n2;have v3:=v.hnow;refine⟨⟨Za,Za⟩,⟨Za,Za⟩,λj hj=>?_,λj hj=>?_⟩
 .have hpo:=(v.fit j hj).1;have hpb:=Mo hpo;have htx:(x.os j).text.size<=300:=by simp only[Bg,Al,decide_eq_true_eq]at hpo;exact hpo.2.2.2.2.1
  exact⟨⟨Za,Za⟩,⟨Za,Za⟩,htx⟩
 .have hpc:=v.chg j hj;have hver:=v.ver j hj;exact⟨Za,Za⟩
structure Q4 (w:World)(R:Nat)(ad:OA)(nn cap q m:Nat)(x:Bk)(P:Pl)(d1 d2 d3 T Kb i:Nat)(x':Bk)(p':Nat)(k0:Ob)(ak:OA)(ck:Nat)(X:World):Prop where
 b:Pm w R ad nn cap p' x' P d1 d2 d3 T X
 fit:BL x'
 n:x'.now=x.now
 fl:x'.floor=x.floor
 on:x'.on=x.on
 hn:x'.hn=x.hn
 os:∀j,i<=j->x'.os j=x.os j
 ver:∀j,(x'.hs j).ver=(x.hs j).ver
 row:AN X Kb 7 (AR (oc k0 ak ck))K0:w.1.size+2<=Kb
 nk:∀q,Lh P x' q->¬q=Kb
 q0:q<=p'
 q1:p'<=q+m
def wL (w:World)(R:Nat)(ad:OA)(nn cap q m:Nat)(x:Bk)(P:Pl)(d1 d2 d3 T Kb i:Nat)(X:World):Prop:=∃(x':Bk)(p':Nat)(k0:Ob)(ak:OA)(ck:Nat),Q4 w R ad nn cap q m x P d1 d2 d3 T Kb i x' p' k0 ak ck X
theorem Pm.start{w X:World}{R:Nat}{ad:OA}{nn cap p':Nat}{x:Bk}{P:Pl}{d1 d2 d3 T:Nat}(h:Pm w R ad nn cap p' x P d1 d2 d3 T X)(hfit:BL x)(k0:Ob)(ak:OA)(ck:Nat):Q4 w R ad nn cap p' 0 x P d1 d2 d3 T X.1.size 0 x p' k0 ak ck (X.alloc (.cells (oc k0 ak ck).toArray 38)):=by have hb:=An X (.cells (oc k0 ak ck).toArray 38);have T0:=h.T0;have tl:=h.t.lt;refine⟨h.below hb,hfit,rfl,rfl,rfl,rfl,λ_ _=>rfl,λ_=>rfl,AN.new (l:=oc k0 ak ck) EF,Za,λq hq e=>?_,AD _,AD _⟩;have:=h.at_.blt hq;omega
theorem Q4.pick{w X:World}{R:Nat}{ad:OA}{nn cap q m:Nat}{x:Bk}{P:Pl}{d1 d2 d3 T Kb i:Nat}{x':Bk}{p':Nat}{k0:Ob}{ak:OA}{ck:Nat}(h:Q4 w R ad nn cap q m x P d1 d2 d3 T Kb i x' p' k0 ak ck X){Y:World}{p2 e:Nat}(hR:R<w.1.size)(hf:Az (λq=>q=R) X Y)(h1:p'<=p2)(h2:p2<=p'+e)(hr:Rd Y R ad nn cap p2):Q4 w R ad nn cap q (m+e) x P d1 d2 d3 T Kb i x' p2 k0 ak ck Y:=by have K0:=h.K0;have q0:=h.q0;have q1:=h.q1;exact⟨h.b.pick hR hf hr,h.fit,h.n,h.fl,h.on,h.hn,h.os,h.ver,h.row.fr2 hf Za,K0,h.nk,Za,Za⟩
theorem Q4.more{w X:World}{R:Nat}{ad:OA}{nn cap q m:Nat}{x:Bk}{P:Pl}{d1 d2 d3 T Kb i:Nat}{x':Bk}{p':Nat}{k0:Ob}{ak:OA}{ck:Nat}(h:Q4 w R ad nn cap q m x P d1 d2 d3 T Kb i x' p' k0 ak ck X){m2 i2:Nat}(hm:m<=m2)(hi:i<=i2):Q4 w R ad nn cap q m2 x P d1 d2 d3 T Kb i2 x' p' k0 ak ck X:=by have q1:=h.q1;exact⟨h.b,h.fit,h.n,h.fl,h.on,h.hn,λj hj=>h.os j Za,h.ver,h.row,h.K0,h.nk,h.q0,Za⟩
theorem Q4.spH{w X:World}{R:Nat}{ad:OA}{nn cap q m:Nat}{x:Bk}{P:Pl}{d1 d2 d3 T Kb i:Nat}{x':Bk}{p':Nat}{k0:Ob}{ak:OA}{ck:Nat}(h:Q4 w R ad nn cap q m x P d1 d2 d3 T Kb i x' p' k0 ak ck X)(hR:R<w.1.size)(bd:yO x){o j:Nat}(hio:i<=o)(ho:o<x.on)(hj:j<x.hn):Sg X R T x' P.g1 P.g2 P.a3 d1 d2 d3 o j (x'.os o) (x'.hs j) (P.A1 o) (P.A2 j) (P.C1 o) (P.C2 j):=by
 have T0:=h.b.T0;refine h.b.at_.spH (by rw[h.on];exact ho) (by rw[h.hn];exact hj) h.b.t Za (λq hq e=>by have:=h.b.lo q hq;omega) (by rw[h.n];exact bd.n) (by rw[h.fl];exact bd.f) ?_ ?_ ?_ ?_;.rw[h.os o hio];exact(bd.o o ho).1
 .rw[h.os o hio];exact(bd.o o ho).2.1
 .rw[h.ver j];exact bd.h j hj
 .rw[h.os o hio];exact(bd.o o ho).2.2
theorem Q4.t2{w X:World}{R:Nat}{ad:OA}{nn cap q m:Nat}{x:Bk}{P:Pl}{d1 d2 d3 T Kb i:Nat}{x':Bk}{p':Nat}{k0:Ob}{ak:OA}{ck:Nat}(h:Q4 w R ad nn cap q m x P d1 d2 d3 T Kb i x' p' k0 ak ck X)(h0:0<x.on):X.cell? ⟨T,2,none⟩=some (.slice (some ⟨P.g1,0,none⟩) x.on d1):=by have a:=h.b.at_.o.addr (by rw[h.on];exact h0);have c:X.cell? ⟨T,2,none⟩=some (.slice P.a1 x'.on d1):=h.b.t.cell 2 Zb;rw[c,a,h.on]
theorem Q4.t3{w X:World}{R:Nat}{ad:OA}{nn cap q m:Nat}{x:Bk}{P:Pl}{d1 d2 d3 T Kb i:Nat}{x':Bk}{p':Nat}{k0:Ob}{ak:OA}{ck:Nat}(h:Q4 w R ad nn cap q m x P d1 d2 d3 T Kb i x' p' k0 ak ck X)(h0:0<x.hn):X.cell? ⟨T,3,none⟩=some (.slice (some ⟨P.g2,0,none⟩) x.hn d2):=by have a:=h.b.at_.h.addr (by rw[h.hn];exact h0);have c:X.cell? ⟨T,3,none⟩=some (.slice P.a2 x'.hn d2):=h.b.t.cell 3 Zb;rw[c,a,h.hn]
theorem Q4.setC{w X:World}{R:Nat}{ad:OA}{nn cap q m:Nat}{x:Bk}{P:Pl}{d1 d2 d3 T Kb i:Nat}{x':Bk}{p':Nat}{k0:Ob}{ak:OA}{ck:Nat}(h:Q4 w R ad nn cap q m x P d1 d2 d3 T Kb i x' p' k0 ak ck X){p0:Nat}(hw:Rd w R ad nn cap p0){j:Nat}(hj:j<x.hn)(u:Int):∃y,Q4 w R ad nn cap q m x P d1 d2 d3 T Kb i y p' k0 ak ck (X.setCell ⟨P.g2,j*9+5,none⟩ (.int .i64 u)):=by
 have hj':j<x'.hn:=by rw[h.hn];exact hj
 have a:=h.b.setC hw (o:=j) (f:=5) hj' Zb (.int .i64 u) {x'.hs j with ob:={(x'.hs j).ob with born:=u}} rfl rfl S6;have ff:=h.fit.hs j hj';have F:=(Az.refl (λq=>q=P.g2) X).setCell (p:=⟨P.g2,j*9+5,none⟩) rfl (.int .i64 u);have nb:=h.nk P.g2 (AC (AA (AA ⟨Za,rfl⟩)));refine⟨_,a,XZ h.fit ⟨ff.k,ff.n,ff.t,ff.h,ff.s,ff.v⟩,h.n,h.fl,h.on,h.hn,h.os,λk=>?_,h.row.fr F (λe=>nb e.symm),h.K0,λq hq=>h.nk q ((QS (y:={x'.hs j with ob:={(x'.hs j).ob with born:=u}}) rfl q).1 hq),h.q0,h.q1⟩;show(B8 x'.hs j _ k).ver=_;by_cases e:k=j;.subst e;rw[Bt];exact h.ver k
 .rw[BP _ _ e];exact h.ver k
theorem Q4.setO{w X:World}{R:Nat}{ad:OA}{nn cap q m:Nat}{x:Bk}{P:Pl}{d1 d2 d3 T Kb i:Nat}{x':Bk}{p':Nat}{k0:Ob}{ak:OA}{ck:Nat}(h:Q4 w R ad nn cap q m x P d1 d2 d3 T Kb i x' p' k0 ak ck X){p0:Nat}(hw:Rd w R ad nn cap p0)(hj:i<x.on)(u:Int):∃y,Q4 w R ad nn cap q m x P d1 d2 d3 T Kb (i+1) y p' k0 ak ck (X.setCell ⟨P.g1,i*7+3,none⟩ (.int .i64 u)):=by
 have hj':i<x'.on:=by rw[h.on];exact hj
 have a:=h.b.setO hw (o:=i) (f:=3) hj' Zb (.int .i64 u) {x'.os i with born:=u} rfl rfl P6;have ff:=h.fit.os i hj';have F:=(Az.refl (λq=>q=P.g1) X).setCell (p:=⟨P.g1,i*7+3,none⟩) rfl (.int .i64 u);have nb:=h.nk P.g1 (AA (AA ⟨Za,rfl⟩));refine⟨_,a,TE h.fit ⟨ff.k,ff.n,ff.t,ff.h,ff.s,ff.v⟩,h.n,h.fl,h.on,h.hn,λk hk=>?_,h.ver,h.row.fr F (λe=>nb e.symm),h.K0,λq hq=>h.nk q ((Rx (y:={x'.os i with born:=u}) rfl q).1 hq),h.q0,h.q1⟩;show B8 x'.os i _ k=_;rw[BP _ _ Za];exact h.os k Za
theorem Q4.fin{w X:World}{R:Nat}{ad:OA}{nn cap q m:Nat}{x:Bk}{P:Pl}{d1 d2 d3 T Kb i:Nat}{x':Bk}{p':Nat}{k0:Ob}{ak:OA}{ck:Nat}(h:Q4 w R ad nn cap q m x P d1 d2 d3 T Kb i x' p' k0 ak ck X){p k:Nat}(hp:p<=q/\q+m<=p+k):fZ w R ad nn cap p k T X:=by have q0:=h.q0;have q1:=h.q1;exact h.b.fin h.fit ⟨Za,Za⟩
end Go.Proofs.Ytnnjcenacidceaa
