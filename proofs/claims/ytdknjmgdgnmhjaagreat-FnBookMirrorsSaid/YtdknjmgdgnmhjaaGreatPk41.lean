import Derived.Test.YtdknjmgdgnmhjaaGreatPk39
set_option maxRecDepth 100000
set_option maxHeartbeats 4000000
namespace Go.Proofs.YtdknjmgdgnmhjaaGreat
open Go.RowKit Go.Proofs.Tryz
variable {A:Array Value}{Q:Exit→Act→World→Prop}{W:World}{R T o h:Nat}
def C9 (t:Nat->Value):Array Value:=#[t 0,t 1,t 2,t 3,t 4,t 5,t 6,t 7,t 8,t 9,t 10,t 11,t 12,t 13,t 14,t 15,t 16,t 17,t 18,t 19,t 20,t 21,t 22,t 23,t 24,t 25,t 26,t 27,t 28,t 29,t 30,t 31,t 32,t 33,t 34,t 35,t 36,t 37,t 38,t 39,t 40,t 41,t 42,t 43,t 44,t 45,t 46,t 47,t 48,t 49,t 50,t 51,t 52,t 53,t 54,t 55,t 56,t 57,t 58,t 59,t 60,t 61,t 62,t 63,t 64,t 65,t 66,t 67,t 68,t 69,t 70,t 71,t 72,t 73,t 74,t 75,t 76,t 77,t 78,t 79,t 80,t 81,t 82,t 83,t 84,t 85,t 86,t 87,t 88,t 89,t 90,t 91,t 92,t 93,t 94,t 95,t 96,t 97,t 98,t 99,t 100,t 101,t 102,t 103,t 104,t 105,t 106,t 107,t 108,t 109,t 110,t 111,t 112,t 113,t 114,t 115,t 116,t 117,t 118,t 119,t 120,t 121,t 122,t 123,t 124,t 125,t 126,t 127,t 128,t 129,t 130,t 131,t 132,t 133,t 134,t 135,t 136,t 137,t 138,t 139,t 140,t 141,t 142,t 143,t 144,t 145,t 146,t 147,t 148,t 149,t 150,t 151,t 152,t 153,t 154,t 155,t 156,t 157,t 158,t 159,t 160,t 161,t 162,t 163,t 164,t 165,t 166,t 167,t 168,t 169,t 170,t 171,t 172,t 173,t 174,t 175,t 176,t 177,t 178,t 179,t 180,t 181,t 182,t 183,t 184,t 185,t 186,t 187,t 188,t 189,t 190,t 191,t 192,t 193,t 194,t 195,t 196,t 197,t 198,t 199,t 200,t 201,t 202,t 203,t 204,t 205,t 206,t 207,t 208,t 209,t 210,t 211,t 212,t 213,t 214,t 215,t 216,t 217,t 218,t 219,t 220,t 221,t 222,t 223,t 224,t 225,t 226,t 227,t 228,t 229,t 230,t 231,t 232,t 233,t 234,t 235,t 236,t 237,t 238,t 239,t 240,t 241,t 242,t 243,t 244,t 245,t 246,t 247,t 248,t 249,t 250,t 251,t 252,t 253,t 254,t 255,t 256,t 257,t 258,t 259,t 260,t 261,t 262,t 263,t 264,t 265,t 266,t 267,t 268,t 269,t 270,t 271,t 272,t 273,t 274,t 275,t 276,t 277,t 278,t 279,t 280,t 281,t 282,t 283,t 284,t 285,t 286,t 287,t 288,t 289,t 290,t 291,t 292,t 293,t 294,t 295,t 296,t 297,t 298,t 299,t 300,t 301,t 302,t 303,t 304,t 305,t 306,t 307,t 308,t 309,t 310,t 311,t 312,t 313,t 314,t 315,t 316,t 317,t 318,t 319,t 320,t 321,t 322,t 323,t 324,t 325,t 326,t 327,t 328,t 329,t 330,t 331,t 332,t 333,t 334,t 335,t 336,t 337,t 338,t 339,t 340,t 341,t 342,t 343,t 344,t 345,t 346,t 347,t 348,t 349,t 350,t 351,t 352,t 353,t 354,t 355,t 356,t 357,t 358,t 359,t 360,t 361,t 362,t 363,t 364,t 365,t 366,t 367,t 368,t 369,t 370,t 371,t 372,t 373,t 374,t 375,t 376,t 377,t 378,t 379,t 380,t 381,t 382,t 383,t 384,t 385,t 386,t 387,t 388,t 389]
def OT (A:Array Value)(i:Nat):Value:=A.getD i undef
def Lu (a n:Nat)(t f:Nat->Value)(i:Nat):Value:=if a<=i then if i<a+n then t (i-a)else f i else f i
theorem jG (f:Nat->Value):C9 f=((List.range 390).map f).toArray:=rfl
theorem xA (h:A.size=390):C9 (OT A)=A:=by
 rw[jG];apply Array.ext;.simp[h]
 .intro i h1 h2;simp[OT,Array.getD,h2]
theorem ax (a n:Nat)(f:Nat->Value):Lu a n (λj=>f (a+j)) f=f:=by
 funext i;unfold Lu;by_cases h:a<=i
 .rw[if_pos h];by_cases h2:i<a+n;.rw[if_pos h2];show f (a+(i-a))=f i;rw[show a+(i-a)=i by omega]
  .rw[if_neg h2]
 .rw[if_neg h]
structure VR (A:Array Value)(R T o h:Nat):Prop where
 n:A.size=390
 a0:OT A 0=.p R 0
 a5:OT A 5=.p T 0
 a6:OT A 6=.i (o:Nat)a7:OT A 7=.i (h:Nat)
theorem I2{P:Program}{c:Code}(hA:VR A R T o h)(a n:Nat)(H:∀(f:Nat->Value)(mk:(Nat->Value)->Array Value)(t0:Nat->Value),f 0=.p R 0->f 5=.p T 0->f 6=.i (o:Nat)->f 7=.i (h:Nat)->(∀t,C9 (Lu a n t (OT A))=mk t)->(λt=>C9 (Lu a n t f))=mk->c.wp P Q ⟨mk t0,[]⟩ W):c.wp P Q ⟨A,[]⟩ W:=by have h1:=H (OT A) (λt=>C9 (Lu a n t (OT A))) (λj=>OT A (a+j)) hA.a0 hA.a5 hA.a6 hA.a7 (λ_=>rfl) rfl;rwa[ax,xA hA.n]at h1
def cc (z:Ch)(ah:OA)(ch:Nat):List Value:=(PE z ah ch)
structure SC (W:World)(R T:Nat)(x:Bk)(g1 g2:Nat)(a3:OA)(d1 d2 d3 o h:Nat)(y:Ob)(z:Ch)(ah bh:OA)(ch eh:Nat):Prop where
 row:AE W T 5 (AV (JR x (some ⟨g1,0,none⟩) (some ⟨g2,0,none⟩) a3 d1 d2 d3))lt:T<W.1.size
 ne:¬T=R
 c1:∀f,f<7->W.cell? ⟨g1,o*7+f,none⟩=some (AV (oc y ah ch) f)f1:∀j,W.frozen? ⟨g1,j,none⟩=false
 l1:g1<W.1.size
 n1:¬g1=R
 c2:∀f,f<9->W.cell? ⟨g2,h*9+f,none⟩=some (AV (cc z bh eh) f)f2:∀j,W.frozen? ⟨g2,j,none⟩=false
 l2:g2<W.1.size
 n2:¬g2=R
 ho:o<x.on
 hh:h<x.hn
 bn:-1000000<=x.v/\x.v<=1000000
 bf:-1000000<=x.f/\x.f<=1000000
 bv:-1000000<=y.t/\y.t<=1000000
 bb:-1000000<=y.b/\y.b<=1000000
 bz:-1000000<=z.t/\z.t<=1000000
 bt:y.m.size<=300
def yZ (R:Nat)(T:Nat)(x:Bk)(_g1 _g2:Nat)(_a3:OA)(_d1 _d2 _d3 _o _h:Nat)(_y:Ob)(_z:Ch)(_ah _bh:OA)(_ch _eh:Nat)(W:World)(i:Nat)(v:Value)(X:World):Prop:=match i with
 |0=>v=.p T 0
 |1=>v=.i x.v
 |2=>∃i:Int,v=.i i/\-1000001<=i/\i<=1000001
 |3=>∃g:Nat,v=.l (some ⟨g,0,none⟩) 3 3/\W.1.size<=g/\g<X.1.size/\∀k,k<3->∃i:Int,X.cell? ⟨g,k,none⟩=some (.i i)/\-1000001<=i/\i<=1000001
 |4=>v=.p R 0
 |5=>∃k:Nat,k<3/\v=.i k
 |6=>∃(g k:Nat)(i:Int),v=.pointer (some ⟨g,k,none⟩)/\(W.1.size<=g/\g<X.1.size)/\X.cell? ⟨g,k,none⟩=some (.i i)/\True/\(-1000001<=i/\i<=1000001)
 |7=>∃i:Int,v=.i i/\-1000001<=i/\i<=1000001
 |8=>v=.p T 0
 |_=>True
theorem qy{ad:OA}{nn cap p:Nat}{x:Bk}{g1 g2:Nat}{a3:OA}{d1 d2 d3:Nat}{y:Ob}{z:Ch}{ah bh:OA}{ch eh:Nat}(hA:VR A R T o h)(hr:Rd W R ad nn cap p)(hp:p<=600000)(H:SC W R T x g1 g2 a3 d1 d2 d3 o h y z ah bh ch eh)(hQ:∀(t:Nat->Value)(i:Int)(pz:Nat)(X0:World),-1000001<=i/\i<=1000001->AB (λq=>q=R) W X0->p<=pz->pz<=p+9->Rd X0 R ad nn cap pz->Q .normal ⟨C9 (Lu 133 9 t (OT A)),[]⟩ (X0.setCell ⟨T,0,none⟩ (.i i))):Code.wp prog (rg Tryz.f44 28) Q ⟨A,[]⟩ W:=by
 refine I2 hA 133 9 λf mk t0 h0 h5 h6 h7 Dg hm=>?_;simp only[Dg]at hQ;simp only[C9,Lu,h0,h5,h6,h7,Nat.reduceLeDiff,Nat.reduceLT,Nat.reduceAdd,Nat.reduceSub,if_true,if_false,CA]at hm;clear Dg h0 h5 h6 h7;have Le:=hr.lt;refine E7 Zc 9 1 (λj=>match j with|_=>9) mk t0 R ad nn cap p (yZ R T x g1 g2 a3 d1 d2 d3 o h y z ah bh ch eh W) (λa X=>∃(t:Nat->Value)(i:Int)(pz:Nat)(X0:World),a=⟨mk t,[]⟩/\X=(X0.setCell ⟨T,0,none⟩ (.i i))/\(-1000001<=i/\i<=1000001)/\AB (λq=>q=R) W X0/\p<=pz/\pz<=p+9/\Rd X0 R ad nn cap pz) Zc Zc Zc ?_ rfl hr ?_ ?_ ?_;all_goals subst hm
 .intro i v X Z p' hi h hF Lb hR hX;iterate 9 (rcases i with _|i;.first
    |exact h
    |(obtain⟨g,e,y1,y2,y3⟩:=h;exact⟨g,e,y1,Aa y2 hF.size,λk hk=>by obtain⟨i,y4,y5⟩:=y3 k hk;exact⟨i,(hF.cell (p:=⟨g,k,none⟩) y2 (λq=>by have q:g=R:=q;omega)).trans y4,y5⟩⟩)
    |(obtain⟨g,k,i,e,y1,y2,y3,y4⟩:=h;exact⟨g,k,i,e,⟨y1.1,Aa y1.2 hF.size⟩,(hF.cell (p:=⟨g,k,none⟩) y1.2 (λq=>by have q:g=R:=q;omega)).trans y2,y3,y4⟩))
  omega
 .intro i hi t X K p' hb CO Dj AW hg hK;rcases(D_ i Za)with rfl|rfl|rfl|rfl|rfl|rfl|rfl|rfl|rfl;.exact Di
  .have AY:t 0=_:=hg 0 (AR rfl);exact yq
  .have AY:t 1=_:=hg 1 (AR rfl);have eq1b:=H.bn;exact wM
  .obtain⟨i2,eq2,Ag9,Aan⟩:=hg 2 (AR rfl);have h:=hK (.l (some ⟨X.1.size,0,none⟩) 3 3) (X.alloc (.cells #[.i (-1),.i i2,.i 1000001] 3)) p' A9 Za ⟨X.1.size,rfl,hb.size,Ze,λk hk=>by rw[Al X #[.i (-1),.i i2,.i 1000001] 3 k];rcases(show k=0\/k=1\/k=2 by omega)with rfl|rfl|rfl;all_goals exact⟨_,rfl,Za,Za⟩⟩ (Aj Do) (AW.below Do);refine Au rfl rfl ?_;clear hK hg;go_simp;simpa[AX,eq2]using h
  .exact Di
  .have AY:t 4=_:=hg 4 (AR rfl);exact Vb
  .obtain⟨g,eq3,y1,y2,y3⟩:=hg 3 (AR rfl);obtain⟨k,hk,sO⟩:=hg 5 (AR rfl);obtain⟨i,y4,y5,y6⟩:=y3 k hk;have h:=hK (.pointer (some ⟨g,k,none⟩)) X p' A9 Za ⟨g,k,i,rfl,⟨y1,y2⟩,y4,trivial,y5,y6⟩ (AB.refl _ _) AW;refine Au rfl rfl ?_;clear hK hg;go_simp;rw[if_pos Za,BK];go_simp;simpa[AX,eq3,sO]using h
  .obtain⟨g,k,i,kq,y1,y2,y3,y4⟩:=hg 6 (AR rfl);have h:=hK (.i i) X p' A9 Za ⟨i,rfl,y4.1,y4.2⟩ (AB.refl _ _) AW;exact cP
  .exact Di
 .intro t X K p' hb CO Dj AW hg hK;have AY:t 8=_:=hg 8 Za;obtain⟨i,Y8,y1,y2⟩:=hg 7 Za;have q:=(hb.cell (p:=⟨T,0,none⟩) H.lt H.ne).trans (H.row.cell 0 Zb);have q2:=(hb.frozen (p:=⟨T,0,none⟩) H.lt H.ne).trans (H.row.free _);simp only[AV,Ac]at q;have h:=hK _ _ ⟨t,i,p',X,rfl,rfl,⟨y1,y2⟩,hb,CO,Za,AW⟩;have HK:=Ab h;clear hK hg h;refine Au rfl rfl ?_;go_simp;simpa[AY,Y8]using HK.out
 .exact jU
end Go.Proofs.YtdknjmgdgnmhjaaGreat
