import Derived.Test.YtllmmkchokkaaaaGreatDoorPk01
set_option maxRecDepth 100000
set_option maxHeartbeats 400000
namespace Go.Proofs.YtllmmkchokkaaaaGreatDoor
open Go.RowKit Go.Proofs.Tryz
structure DC (w:World)(b o:Nat)(x:Ob)(ad:OA)(cap:Nat):Prop where c0:w.cell? ⟨b,o,none⟩=some (.s x.kind)c1:w.cell? ⟨b,o+1,none⟩=some (.s x.name)c2:w.cell? ⟨b,o+2,none⟩=some (.i x.ver)c3:w.cell? ⟨b,o+3,none⟩=some (.i x.born)c4:w.cell? ⟨b,o+4,none⟩=some (.s x.text)c5:w.cell? ⟨b,o+5,none⟩=some (.bool x.ending)c6:w.cell? ⟨b,o+6,none⟩=some (.slice ad x.hn cap)
def BH (w:World)(lo hi:Nat)(ad:OA)(n:Nat)(x:Nat->Ob):Prop:=∀i,i<n->∃b off ah ch,ad=some ⟨b,off,none⟩/\lo<=b/\b<hi/\DC w b (off+i*7) (x i) ah ch/\AB w lo hi ah (x i).hn (x i).hs
structure CW (x:Ob):Prop where
 k:(x.kind.size:Int)<=140737488355328
 n:(x.name.size:Int)<=140737488355328
 t:(x.text.size:Int)<=140737488355328
 h:(x.hn:Int)<=8796093022208
 s:∀i,i<x.hn->((x.hs i).size:Int)<=140737488355328
 v:(Lit.int .i64 x.ver).wf=true
def GR (n:Nat)(x:Nat->Ob):Nat:=n+AN (λi=>Jh (x i)) n
theorem Td (x:Ob)(ad:OA)(cap:Nat)(left:Int)(w:World)(h0:0<=left)(h1:left<=1048576)(lo hi:Nat)(hhi:hi<=w.1.size)(hf:CW x)(hc:AB w lo hi ad x.hn x.hs):Calls prog 67 #[.agg (vO x ad cap),.i left] w λe w'=>e=.returned (.i (CU left (Jh x)))/\Below w.1.size w w':=bR x.kind x.name x.text x.ver x.born x.ending x.hn x.hs ad cap left w h0 h1 lo hi hhi hf.k hf.n hf.t (by have:=hf.h;omega) hf.s hc
theorem U9{P:Prop}(h:P:=by
  have hs:=HS.out;obtain⟨g1,g2⟩:=C8 M0;go_roundw;case rel=>exact⟨k+1,Za,by go_num,by rw[HQ.out,g2];apply congrArg;omega,by rw[HQ.out];omega,hb.trans (hb1.mono hb.size)⟩
  case measure=>simp[intOf];omega):P:=h
theorem XL (n:Nat)(x:Nat->Ob)(ad:OA)(cap:Nat)(left:Int)(w:World)(lo hi:Nat)(hhi:hi<=w.1.size)(hl:(n:Int)<=8796093022208)(h0:0<=left)(h1:left<=1048576)(hf:∀i,i<n->CW (x i))(hc:BH w lo hi ad n x):Calls prog 31 #[.l ad n cap,.i left] w λe w'=>e=.returned (.i (CU left (GR n x)))/\Below w.1.size w w':=by
 by_cases hlt:left-n<0;.go_enter func31,ntmps31;go_wp2;go_ret;exact⟨Bs (Cp (by unfold GR;omega)).symm,Ak _ _⟩
 .go_enter func31,ntmps31;go_wp2;go_loopw[1,5] (λt i wr=>∃k:Nat,k<=n/\i=.i k/\t=.i (left-n-(AN (λi=>Jh (x i)) k:Nat))/\0<=left-n-(AN (λi=>Jh (x i)) k:Nat)/\Below w.1.size w wr)(λ_ i _=>n-(intOf i).toNat);case atStart=>exact⟨0,Ap _,rfl,by simp[AN],by simp[AN];omega,Ak _ _⟩
  case round=>
   obtain⟨k,hk,rfl,rfl,hnn,hb⟩:=hrel;have hst:AN (λi=>Jh (x i)) (k+1)=AN (λi=>Jh (x i)) k+Jh (x k):=rfl;have hmo:k<n->AN (λi=>Jh (x i)) (k+1)<=AN (λi=>Jh (x i)) n:=λh=>DX _ h;generalize hq:AN (λi=>Jh (x i)) k=q at*;generalize hq1:AN (λi=>Jh (x i)) (k+1)=q1 at*;by_cases hkn:k<n
   .obtain⟨b,off,ah,ch,rfl,hlo,hbh,hcx,hsx⟩:=hc k hkn;have hmo:=hmo hkn;have hfk:=hf k hkn;have HS:Hid (q1=q+Jh (x k)):=hst;have HQ:Hid (AN (λi=>Jh (x i)) (k+1)=q1):=hq1;clear hst hq hq1 hc hf;have hcell:∀j,wr.cell? ⟨b,off+k*7+j,none⟩=w.cell? ⟨b,off+k*7+j,none⟩:=λj=>hb.cell (p:=⟨b,off+k*7+j,none⟩) Zj;have hcell0:wr.cell? ⟨b,off+k*7,none⟩=w.cell? ⟨b,off+k*7,none⟩:=hb.cell (p:=⟨b,off+k*7,none⟩) Zj;obtain⟨d0,d1,d2,d3,d4,d5,d6⟩:=hcx;rw[<-hcell]at d1 d2 d3 d4 d5 d6;rw[<-hcell0]at d0;clear hcell hcell0;have hsx':=hsx.below hb hhi;clear hsx;generalize x k=y at*;clear hmo;rename_i hmo;go_wp2_with (go_at_call 67;refine(Td y ah ch _ wr Za Za lo hi (AA hhi hb.size) hfk hsx').mono ?_;rintro e w1 ⟨rfl,hb1⟩);.go_ret;refine⟨Bs (Cp ?_).symm,hb.trans (hb1.mono hb.size)⟩;have:=HS.out;have:=GV M0;have:=hmo hkn;unfold GR;omega
    .exact U9
   .have:k=n:=Za;subst this;clear hc hf hst hmo hq1;have HQ:Hid (AN (λi=>Jh (x i)) k=q):=hq;clear hq;go_wp2;go_ret;refine⟨Bs ?_,hb⟩;have:=HQ.out;rw[Dx (by unfold GR;omega)];unfold GR;omega
structure Ch where
 ver:Int
 gone:Bool
 ob:Ob
structure Ti where
 client:ByteArray
 num:Int
 print:ByteArray
 code:Int
 ver:Int
abbrev vT (x:Ti):Array Value:=#[.s x.client,.i x.num,.s x.print,.i x.code,.i x.ver]
abbrev nV (x:Ti):List Value:=[.s x.client,.i x.num,.s x.print,.i x.code,.i x.ver]
structure Ga (w:World)(b o:Nat)(x:Ch)(ad:OA)(cap:Nat):Prop where c0:w.cell? ⟨b,o,none⟩=some (.i x.ver)c1:w.cell? ⟨b,o+1,none⟩=some (.bool x.gone)c2:w.cell? ⟨b,o+2,none⟩=some (.s x.ob.kind)c3:w.cell? ⟨b,o+3,none⟩=some (.s x.ob.name)c4:w.cell? ⟨b,o+4,none⟩=some (.i x.ob.ver)c5:w.cell? ⟨b,o+5,none⟩=some (.i x.ob.born)c6:w.cell? ⟨b,o+6,none⟩=some (.s x.ob.text)c7:w.cell? ⟨b,o+7,none⟩=some (.bool x.ob.ending)c8:w.cell? ⟨b,o+8,none⟩=some (.slice ad x.ob.hn cap)
structure Hs (w:World)(b o:Nat)(x:Ti):Prop where c0:w.cell? ⟨b,o,none⟩=some (.s x.client)c1:w.cell? ⟨b,o+1,none⟩=some (.i x.num)c2:w.cell? ⟨b,o+2,none⟩=some (.s x.print)c3:w.cell? ⟨b,o+3,none⟩=some (.i x.code)c4:w.cell? ⟨b,o+4,none⟩=some (.i x.ver)
def Dp (w:World)(lo hi:Nat)(ad:OA)(n:Nat)(x:Nat->Ch):Prop:=∀i,i<n->∃b off ah ch,ad=some ⟨b,off,none⟩/\lo<=b/\b<hi/\Ga w b (off+i*9) (x i) ah ch/\AB w lo hi ah (x i).ob.hn (x i).ob.hs
def B8 (w:World)(lo hi:Nat)(ad:OA)(n:Nat)(x:Nat->Ti):Prop:=∀i,i<n->∃b off,ad=some ⟨b,off,none⟩/\lo<=b/\b<hi/\Hs w b (off+i*5) (x i)
structure KA (x:Ti):Prop where
 c:(x.client.size:Int)<=140737488355328
 p:(x.print.size:Int)<=140737488355328
def J8 (c:Ch):Nat:=Jh c.ob
def LP (c:Ti):Nat:=c.client.size+c.print.size
def IJ (n:Nat)(x:Nat->Ch):Nat:=n+AN (λi=>J8 (x i)) n
def JT (n:Nat)(x:Nat->Ti):Nat:=n+AN (λi=>LP (x i)) n
theorem dS (x:Ch)(ad:OA)(cap:Nat)(left:Int)(w:World)(h0:0<=left)(h1:left<=1048576)(lo hi:Nat)(hhi:hi<=w.1.size)(hf:CW x.ob)(hc:AB w lo hi ad x.ob.hn x.ob.hs):Calls prog 68 #[.agg #[.i x.ver,.bool x.gone,.s x.ob.kind,.s x.ob.name,.i x.ob.ver,.i x.ob.born,.s x.ob.text,.bool x.ob.ending,.l ad x.ob.hn cap],.i left] w λe w'=>e=.returned (.i (CU left (J8 x)))/\Below w.1.size w w':=by
 unfold J8;generalize x.ob=y at*;go_enter func68,ntmps68;go_wp2_with (go_at_call 67;refine(Td y ad cap left _ h0 h1 lo hi Zd hf (hc.alloc hhi _)).mono ?_;rintro e w1 ⟨rfl,hb1⟩);.go_ret;exact⟨Bs (Cp (GV M0)).symm,((Ak _ _).alloc Bj _).trans (hb1.mono Ze)⟩
 .go_ret;exact⟨rfl,((Ak _ _).alloc Bj _).trans (hb1.mono Ze)⟩
theorem aU (x:Ti)(left:Int)(w:World)(h0:0<=left)(h1:left<=1048576)(hf:KA x):Calls prog 69 #[.agg #[.s x.client,.i x.num,.s x.print,.i x.code,.i x.ver],.i left] w λe w'=>e=.returned (.i (CU left (LP x)))/\Below w.1.size w w':=by
 obtain⟨f1,f2⟩:=hf;unfold LP;go_enter func69,ntmps69;go_wp2;.go_ret;exact⟨Bs (Cp Za).symm,(Ak _ _).alloc Bj _⟩
 .go_ret;exact⟨Bs (Cp Za).symm,(Ak _ _).alloc Bj _⟩
 .go_ret;exact⟨Bs (by rw[Dx Za];omega),(Ak _ _).alloc Bj _⟩
theorem X8 (n:Nat)(x:Nat->Ch)(ad:OA)(cap:Nat)(left:Int)(w:World)(lo hi:Nat)(hhi:hi<=w.1.size)(hl:(n:Int)<=8796093022208)(h0:0<=left)(h1:left<=1048576)(hf:∀i,i<n->CW (x i).ob)(hc:Dp w lo hi ad n x):Calls prog 32 #[.l ad n cap,.i left] w λe w'=>e=.returned (.i (CU left (IJ n x)))/\Below w.1.size w w':=by
 by_cases hlt:left-n<0;.go_enter func32,ntmps32;go_wp2;go_ret;exact⟨Bs (Cp (by unfold IJ;omega)).symm,Ak _ _⟩
 .go_enter func32,ntmps32;go_wp2;go_loopw[1,5] (λt i wr=>∃k:Nat,k<=n/\i=.i k/\t=.i (left-n-(AN (λi=>J8 (x i)) k:Nat))/\0<=left-n-(AN (λi=>J8 (x i)) k:Nat)/\Below w.1.size w wr)(λ_ i _=>n-(intOf i).toNat);case atStart=>exact⟨0,Ap _,rfl,by simp[AN],by simp[AN];omega,Ak _ _⟩
  case round=>
   obtain⟨k,hk,rfl,rfl,hnn,hb⟩:=hrel;have hst:AN (λi=>J8 (x i)) (k+1)=AN (λi=>J8 (x i)) k+J8 (x k):=rfl;have hmo:k<n->AN (λi=>J8 (x i)) (k+1)<=AN (λi=>J8 (x i)) n:=λh=>DX _ h;generalize hq:AN (λi=>J8 (x i)) k=q at*;generalize hq1:AN (λi=>J8 (x i)) (k+1)=q1 at*;by_cases hkn:k<n
   .obtain⟨b,off,ah,ch,rfl,hlo,hbh,hcx,hsx⟩:=hc k hkn;have hmo:=hmo hkn;have hfk:=hf k hkn;have HS:Hid (q1=q+J8 (x k)):=hst;have HQ:Hid (AN (λi=>J8 (x i)) (k+1)=q1):=hq1;clear hst hq hq1 hc hf;have hcell:∀j,wr.cell? ⟨b,off+k*9+j,none⟩=w.cell? ⟨b,off+k*9+j,none⟩:=λj=>hb.cell (p:=⟨b,off+k*9+j,none⟩) Zj;have hcell0:wr.cell? ⟨b,off+k*9,none⟩=w.cell? ⟨b,off+k*9,none⟩:=hb.cell (p:=⟨b,off+k*9,none⟩) Zj;obtain⟨d0,d1,d2,d3,d4,d5,d6,d7,d8⟩:=hcx;rw[<-hcell]at d1 d2 d3 d4 d5 d6 d7 d8;rw[<-hcell0]at d0;clear hcell hcell0;have hsx':=hsx.below hb hhi;clear hsx;generalize x k=y at*;clear hmo;rename_i hmo;go_wp2_with (go_at_call 68;refine(dS y ah ch _ wr Za Za lo hi (AA hhi hb.size) hfk hsx').mono ?_;rintro e w1 ⟨rfl,hb1⟩);.go_ret;refine⟨Bs (Cp ?_).symm,hb.trans (hb1.mono hb.size)⟩;have:=HS.out;have:=GV M0;have:=hmo hkn;unfold IJ;omega
    .exact U9
   .have:k=n:=Za;subst this;clear hc hf hst hmo hq1;have HQ:Hid (AN (λi=>J8 (x i)) k=q):=hq;clear hq;go_wp2;go_ret;refine⟨Bs ?_,hb⟩;have:=HQ.out;rw[Dx (by unfold IJ;omega)];unfold IJ;omega
theorem XN (n:Nat)(x:Nat->Ti)(ad:OA)(cap:Nat)(left:Int)(w:World)(lo hi:Nat)(hhi:hi<=w.1.size)(hl:(n:Int)<=8796093022208)(h0:0<=left)(h1:left<=1048576)(hf:∀i,i<n->KA (x i))(hc:B8 w lo hi ad n x):Calls prog 33 #[.l ad n cap,.i left] w λe w'=>e=.returned (.i (CU left (JT n x)))/\Below w.1.size w w':=by
 by_cases hlt:left-n<0;.go_enter func33,ntmps33;go_wp2;go_ret;exact⟨Bs (Cp (by unfold JT;omega)).symm,Ak _ _⟩
 .go_enter func33,ntmps33;go_wp2;go_loopw[1,5] (λt i wr=>∃k:Nat,k<=n/\i=.i k/\t=.i (left-n-(AN (λi=>LP (x i)) k:Nat))/\0<=left-n-(AN (λi=>LP (x i)) k:Nat)/\Below w.1.size w wr)(λ_ i _=>n-(intOf i).toNat);case atStart=>exact⟨0,Ap _,rfl,by simp[AN],by simp[AN];omega,Ak _ _⟩
  case round=>
   obtain⟨k,hk,rfl,rfl,hnn,hb⟩:=hrel;have hst:AN (λi=>LP (x i)) (k+1)=AN (λi=>LP (x i)) k+LP (x k):=rfl;have hmo:k<n->AN (λi=>LP (x i)) (k+1)<=AN (λi=>LP (x i)) n:=λh=>DX _ h;generalize hq:AN (λi=>LP (x i)) k=q at*;generalize hq1:AN (λi=>LP (x i)) (k+1)=q1 at*;by_cases hkn:k<n
   .obtain⟨b,off,rfl,hlo,hbh,hcx⟩:=hc k hkn;have hmo:=hmo hkn;have hfk:=hf k hkn;have HS:Hid (q1=q+LP (x k)):=hst;have HQ:Hid (AN (λi=>LP (x i)) (k+1)=q1):=hq1;clear hst hq hq1 hc hf;have hcell:∀j,wr.cell? ⟨b,off+k*5+j,none⟩=w.cell? ⟨b,off+k*5+j,none⟩:=λj=>hb.cell (p:=⟨b,off+k*5+j,none⟩) Zj;have hcell0:wr.cell? ⟨b,off+k*5,none⟩=w.cell? ⟨b,off+k*5,none⟩:=hb.cell (p:=⟨b,off+k*5,none⟩) Zj;obtain⟨d0,d1,d2,d3,d4⟩:=hcx;rw[<-hcell]at d1 d2 d3 d4;rw[<-hcell0]at d0;clear hcell hcell0;generalize x k=y at*;clear hmo;rename_i hmo;go_wp2_with (go_at_call 69;refine(aU y _ wr Za Za hfk).mono ?_;rintro e w1 ⟨rfl,hb1⟩);.go_ret;refine⟨Bs (Cp ?_).symm,hb.trans (hb1.mono hb.size)⟩;have:=HS.out;have:=GV M0;have:=hmo hkn;unfold JT;omega
    .exact U9
   .have:k=n:=Za;subst this;clear hc hf hst hmo hq1;have HQ:Hid (AN (λi=>LP (x i)) k=q):=hq;clear hq;go_wp2;go_ret;refine⟨Bs ?_,hb⟩;have:=HQ.out;rw[Dx (by unfold JT;omega)];unfold JT;omega
theorem oH{W w1:World}(hb:Below W.1.size W w1):(∀b o,b<W.1.size->w1.cell? ⟨b,o,none⟩=W.cell? ⟨b,o,none⟩)/\(∀b o,b<W.1.size->w1.frozen? ⟨b,o,none⟩=W.frozen? ⟨b,o,none⟩):=⟨λb o h=>hb.cell (p:=⟨b,o,none⟩) h,λb o h=>hb.frozen (p:=⟨b,o,none⟩) h⟩
structure Bk where
 now:Int
 floor:Int
 on:Nat
 os:Nat->Ob
 hn:Nat
 hs:Nat->Ch
 tn:Nat
 ts:Nat->Ti
abbrev vB (x:Bk)(a b c:OA)(d e f:Nat):Array Value:=#[.i x.now,.i x.floor,.l a x.on d,.l b x.hn e,.l c x.tn f]
abbrev GB (x:Bk)(a b c:OA)(d e f:Nat):List Value:=[.i x.now,.i x.floor,.l a x.on d,.l b x.hn e,.l c x.tn f]
structure Cx (x:Bk):Prop where
 o:(x.on:Int)<=1099511627776
 h:(x.hn:Int)<=1099511627776
 t:(x.tn:Int)<=1099511627776
 os:∀i,i<x.on->CW (x.os i)hs:∀i,i<x.hn->CW (x.hs i).ob
 ts:∀i,i<x.tn->KA (x.ts i)
structure Vs (x:Bk):Prop where
 o:(x.on:Int)<=8796093022208
 h:(x.hn:Int)<=8796093022208
 t:(x.tn:Int)<=8796093022208
 os:∀i,i<x.on->CW (x.os i)hs:∀i,i<x.hn->CW (x.hs i).ob
 ts:∀i,i<x.tn->KA (x.ts i)
def Hn (x:Bk):Nat:=GR x.on x.os+IJ x.hn x.hs+JT x.tn x.ts
structure Bz (w:World)(lo hi:Nat)(x:Bk)(a1 a2 a3:OA):Prop where
 o:BH w lo hi a1 x.on x.os
 h:Dp w lo hi a2 x.hn x.hs
 t:B8 w lo hi a3 x.tn x.ts
theorem DC.below{w w':World}{B b o:Nat}{x:Ob}{ad:OA}{cap:Nat}(h:DC w b o x ad cap)(hb:Below B w w')(hB:b<B):DC w' b o x ad cap:=have e:∀j,w'.cell? ⟨b,j,none⟩=w.cell? ⟨b,j,none⟩:=λj=>hb.cell (p:=⟨b,j,none⟩) hB
 ⟨(e _).trans h.c0,(e _).trans h.c1,(e _).trans h.c2,(e _).trans h.c3,(e _).trans h.c4,(e _).trans h.c5,(e _).trans h.c6⟩
theorem Ga.below{w w':World}{B b o:Nat}{x:Ch}{ad:OA}{cap:Nat}(h:Ga w b o x ad cap)(hb:Below B w w')(hB:b<B):Ga w' b o x ad cap:=have e:∀j,w'.cell? ⟨b,j,none⟩=w.cell? ⟨b,j,none⟩:=λj=>hb.cell (p:=⟨b,j,none⟩) hB
 ⟨(e _).trans h.c0,(e _).trans h.c1,(e _).trans h.c2,(e _).trans h.c3,(e _).trans h.c4,(e _).trans h.c5,(e _).trans h.c6,(e _).trans h.c7,(e _).trans h.c8⟩
theorem Hs.below{w w':World}{B b o:Nat}{x:Ti}(h:Hs w b o x)(hb:Below B w w')(hB:b<B):Hs w' b o x:=have e:∀j,w'.cell? ⟨b,j,none⟩=w.cell? ⟨b,j,none⟩:=λj=>hb.cell (p:=⟨b,j,none⟩) hB
 ⟨(e _).trans h.c0,(e _).trans h.c1,(e _).trans h.c2,(e _).trans h.c3,(e _).trans h.c4⟩
theorem BH.below{w w':World}{B lo hi:Nat}{ad:OA}{n:Nat}{x:Nat->Ob}(h:BH w lo hi ad n x)(hb:Below B w w')(hB:hi<=B):BH w' lo hi ad n x:=λi hi'=>by obtain⟨b,off,ah,ch,e1,e2,e3,e4,e5⟩:=h i hi';exact⟨b,off,ah,ch,e1,e2,e3,e4.below hb Za,e5.below hb hB⟩
theorem Dp.below{w w':World}{B lo hi:Nat}{ad:OA}{n:Nat}{x:Nat->Ch}(h:Dp w lo hi ad n x)(hb:Below B w w')(hB:hi<=B):Dp w' lo hi ad n x:=λi hi'=>by obtain⟨b,off,ah,ch,e1,e2,e3,e4,e5⟩:=h i hi';exact⟨b,off,ah,ch,e1,e2,e3,e4.below hb Za,e5.below hb hB⟩
theorem B8.below{w w':World}{B lo hi:Nat}{ad:OA}{n:Nat}{x:Nat->Ti}(h:B8 w lo hi ad n x)(hb:Below B w w')(hB:hi<=B):B8 w' lo hi ad n x:=λi hi'=>by obtain⟨b,off,e1,e2,e3,e4⟩:=h i hi';exact⟨b,off,e1,e2,e3,e4.below hb Za⟩
theorem Bz.below{w w':World}{B lo hi:Nat}{x:Bk}{a1 a2 a3:OA}(h:Bz w lo hi x a1 a2 a3)(hb:Below B w w')(hB:hi<=B):Bz w' lo hi x a1 a2 a3:=⟨h.o.below hb hB,h.h.below hb hB,h.t.below hb hB⟩
theorem Ae (w:World)(o:Obj):Below w.1.size w (w.alloc o):=(Ak _ _).alloc Bj o
theorem Ue{l:Int}{s:Nat}(h:0<=l):CU l s<=l:=by unfold CU;split<;>omega
theorem Au{w w1:World}{c:Array Value}{t:TypeId}(hb:Below (w.alloc (.cells c t)).1.size (w.alloc (.cells c t)) w1)(i:Nat):w1.cell? ⟨w.1.size,i,none⟩=c[i]?:=(hb.cell (p:=⟨w.1.size,i,none⟩) Ze).trans (At w c t i)
theorem dC (x:Bk)(a1 a2 a3:OA)(c1 c2 c3:Nat)(left:Int)(w:World)(h0:0<=left)(h1:left<=1048576)(lo hi:Nat)(hhi:hi<=w.1.size)(hf:Vs x)(hc:Bz w lo hi x a1 a2 a3):Calls prog 6 #[.agg #[.i x.now,.i x.floor,.l a1 x.on c1,.l a2 x.hn c2,.l a3 x.tn c3],.i left] w λe w'=>e=.returned (.i (CU left (Hn x)))/\Below w.1.size w w':=by
 obtain⟨f1,f2,f3,f4,f5,f6⟩:=hf;have hc1:=hc.below (Ae w (.cells #[.i x.now,.i x.floor,.l a1 x.on c1,.l a2 x.hn c2,.l a3 x.tn c3] 26)) hhi;clear hc;unfold Hn;go_enter func6,ntmps6;go_wp2_with (first|(go_at_call 31;refine(XL x.on x.os a1 c1 left _ lo hi Zd Za h0 h1 f4 hc1.o).mono ?_;rintro e w1 ⟨rfl,hb1⟩;have k3:=Au hb1 3;simp only[Ah,Ad,Ab]at k3)|(go_at_call 32;refine(X8 x.hn x.hs a2 c2 _ _ lo hi (AA Zd hb1.size) Za M0 (by have:=C8 M0;omega) f5 (hc1.h.below hb1 Zd)).mono ?_;rintro e w2 ⟨rfl,hb2⟩;have hb12:=hb1.trans (hb2.mono hb1.size);have k4:=Au hb12 4;simp only[Ah,Ad,Ab]at k4)|(go_at_call 33;refine(XN x.tn x.ts a3 c3 _ _ lo hi (AA Zd hb12.size) Za M0 (by have a1:=Ue (s:=GR x.on x.os) h0;have a2:=Ue (l:=CU left (GR x.on x.os)) (s:=IJ x.hn x.hs) M0;omega) f6 (hc1.t.below hb12 Zd)).mono ?_;rintro e w3 ⟨rfl,hb3⟩));.go_ret;exact⟨Bs (Cp sJ).symm,(Ae _ _).trans (hb1.mono Ze)⟩
 .go_ret;obtain⟨g1,g2⟩:=C8 (l:=left) M0;exact⟨Bs (Cp sJ).symm,(Ae _ _).trans (hb12.mono Ze)⟩
 .go_ret;obtain⟨g1,g2⟩:=C8 (l:=left) M0;obtain⟨g3,g4⟩:=C8 (l:=CU left (GR x.on x.os)) M0;exact⟨Bs (Cp sJ).symm,(Ae _ _).trans ((hb12.trans (hb3.mono hb12.size)).mono Ze)⟩
 .go_ret;obtain⟨g1,g2⟩:=C8 (l:=left) M0;obtain⟨g3,g4⟩:=C8 (l:=CU left (GR x.on x.os)) M0;obtain⟨g5,g6⟩:=C8 (l:=CU (CU left (GR x.on x.os)) (IJ x.hn x.hs)) M0;exact⟨Bs (by have h:=Dx (left:=left) (s:=GR x.on x.os+IJ x.hn x.hs+JT x.tn x.ts) Za;omega),(Ae _ _).trans ((hb12.trans (hb3.mono hb12.size)).mono Ze)⟩
theorem AV.fr{w w':World}{lo hi lo2 hi2:Nat}{ad:OA}{n:Nat}{s:Nat->ByteArray}(h:AV w lo hi ad n s)(hb:Fr lo2 hi2 w w')(hw:hi<=w.1.size)(ho:hi<=lo2\/hi2<=lo):AV w' lo hi ad n s:=λi hi'=>by obtain⟨b,off,e1,e2,e3,e4,e5⟩:=h i hi';exact⟨b,off,e1,e2,e3,(hb.cell (p:=⟨b,off+i,none⟩) (Aa e3 hw) (by show b<_\/_<=b;omega)).trans e4,(hb.frozen (p:=⟨b,off+i,none⟩) (Aa e3 hw) (by show b<_\/_<=b;omega)).trans e5⟩
theorem AV.mono{w:World}{lo hi lo2 hi2:Nat}{ad:OA}{n:Nat}{s:Nat->ByteArray}(h:AV w lo hi ad n s)(h1:lo2<=lo)(h2:hi<=hi2):AV w lo2 hi2 ad n s:=λi hi'=>by obtain⟨b,off,e1,e2,e3,e4,e5⟩:=h i hi';exact⟨b,off,e1,Za,Za,e4,e5⟩
theorem AV.isIn{w:World}{lo hi:Nat}{ad:OA}{n:Nat}{s:Nat->ByteArray}(h:AV w lo hi ad n s):AB w lo hi ad n s:=λi hi'=>by obtain⟨b,off,e1,e2,e3,e4,e5⟩:=h i hi';exact⟨b,off,e1,e2,e3,e4⟩
theorem Az (w:World)(a:Addr)(v:Value):(w.setCell a v).1.size=w.1.size:=by simp[World.setCell]
theorem T6 (x:Ob)(ad:OA)(cap:Nat)(w:World)(lo hi:Nat)(hhi:hi<=w.1.size)(hl:(x.hn:Int)<=8796093022208)(hc:AB w lo hi ad x.hn x.hs):Calls prog 80 #[.agg (vO x ad cap)] w λe w'=>∃ad' cap',e=.returned (.agg (vO x ad' cap'))/\Du w' x.hn ad' cap'/\AV w' w.1.size w'.1.size ad' x.hn x.hs/\Below w.1.size w w':=by
 go_enter func80,ntmps80;go_wp2_with fail;refine(VF x.hn x.hs ad cap _ lo hi Zd hl (hc.below (B:=w.1.size) ((((Ak _ _).alloc Bj _).alloc Ze _).alloc Zd _) hhi)).mono ?_;rintro e w1 ⟨ad',cap',rfl,hcg,hown,hb1⟩;have uC:=Ai hcg;clear hcg;have hbW:Below w.1.size w w1:=((((Ak _ _).alloc Bj _).alloc Ze _).alloc Zd _).trans (hb1.mono Zd);have hz:w.1.size+2<w1.1.size:=by have:=hb1.size;simp at this;omega
 obtain⟨hcc,hff⟩:=oH hb1;simp only[AE]at hcc hff hown;clear hb1 hc;go_wp2;refine bodyPost_ret (v:=.agg (vO x ad' cap')) (by simp[results,results80,go_sem,hcc]) rfl ⟨ad',cap',rfl,uC.grow lA,?_,?_⟩
 .simp only[Az];refine(AV.fr hown (lo2:=w.1.size) (hi2:=w.1.size+3) ?_ Bj Za).mono Za Bj;iterate 8 refine Fr.setCell ?_ Zo Zo _
  exact Fr.refl _ _ _
 .refine hbW.trans (Fr.below (lo:=w.1.size) (hi:=w.1.size+3) ?_ Bj hbW.size);iterate 8 refine Fr.setCell ?_ Zo Zo _
  exact Fr.refl _ _ _
end Go.Proofs.YtllmmkchokkaaaaGreatDoor
