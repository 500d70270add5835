import Derived.Test.YtllmmkchokkaaaaGreatDoorPk14
import Derived.Test.YtllmmkchokkaaaaGreatDoorPk18
import Derived.Lib.Bytealg
import Derived.Test.YtllmmkchokkaaaaGreatDoorPk05
import Derived.Test.YtllmmkchokkaaaaGreatDoorPk09
import Derived.Test.YtllmmkchokkaaaaGreatDoorPk03
import Derived.Test.YtllmmkchokkaaaaGreatDoorPk13
set_option maxRecDepth 100000
set_option maxHeartbeats 2000000
namespace Go.Proofs.YtllmmkchokkaaaaGreatDoor
open Go.RowKit Go.Proofs.Tryz
theorem WF:∀a b:List UInt8,Lib.compareBytes a b=if Op.bytesLess a b=true then-1 else if a=b then 0 else 1
 |[],[]=>by simp[Lib.compareBytes,Op.bytesLess]
 |[],_::_=>by simp[Lib.compareBytes,Op.bytesLess]
 |_::_,[]=>by simp[Lib.compareBytes,Op.bytesLess]
 |x::a,y::b=>by
  have ih:=WF a b;unfold Lib.compareBytes;by_cases h1:x<y;.simp[Op.bytesLess,h1]
  .rw[if_neg h1];by_cases h2:y<x
   .rw[if_pos h2];have hne:¬x=y:=λe=>by subst e;exact UInt8.lt_irrefl _ h2
    simp[Op.bytesLess,h1,hne]
   .rw[if_neg h2,ih];have he:x=y:=UInt8.le_antisymm (UInt8.not_lt.1 h2) (UInt8.not_lt.1 h1);subst he;simp[Op.bytesLess,UInt8.lt_irrefl]
theorem mO (a b:ByteArray):Lib.compareBytes a.data.toList b.data.toList=Dg a b:=by rw[WF];unfold Dg D4;simp only[KZ]
theorem Vn (a b:ByteArray)(w:World):Calls prog 192 #[.s a,.s b] w λe w'=>e=.returned (.i (Dg a b))/\w'=w:=by rw[<-mO];go_enter func192,ntmps192;go_wp2;rw[run_callFunc_extern func205 Zc Zc Zc (e:=Extern.BytealgCompare.compare) Zc,Lib.run_compareString];simp only[Result.andThen];rw[Bq];go_wp2;go_ret;exact⟨rfl,rfl⟩
theorem Rp (a b:ByteArray)(w:World):Calls prog 172 #[.s a,.s b] w λe w'=>e=.returned (.i (Dg a b))/\w'=w:=by go_enter func172,ntmps172;go_wp2_with (go_at_call 192;refine(Vn _ _ _).mono ?_;rintro e w1 ⟨rfl,rfl⟩);go_ret;exact⟨rfl,rfl⟩
theorem IM (t:Ti)(cl:ByteArray)(w:World):Calls prog 171 #[.agg (vT t),.s cl] w λe w'=>e=.returned (.i (Dg t.client cl))/\Below w.1.size w w':=by go_enter func171,ntmps171;go_wp2_with (go_at_call 172;refine(Rp _ _ _).mono ?_;rintro e w1 ⟨rfl,rfl⟩);go_ret;exact⟨rfl,An _ _⟩
def Nm (x:Nat->Ti)(cl:ByteArray)(i:Nat):Int:=Dg (x i).client cl
theorem Tp (n:Nat)(x:Nat->Ti)(ad:OA)(cap:Nat)(cl:ByteArray)(w:World)(lo hi:Nat)(hhi:hi<=w.1.size)(hl:(n:Int)<=1099511627776)(hc:B8 w lo hi ad n x)(hasc:∀i j,i<j->j<n->Nm x cl j<0->Nm x cl i<0):Calls prog 170 #[.l ad n cap,.s cl,.func (.func 171) #[] #[]] w λe w'=>∃i:Nat,i<=n/\(∀j,j<i->Nm x cl j<0)/\(∀j,i<=j->j<n->0<=Nm x cl j)/\e=.returned (.tuple #[.i i,.bool (decide (i<n)&&decide (Nm x cl i=0))])/\Below w.1.size w w':=by
 have KN:=Ai hasc;clear hasc;go_enter func170,ntmps170;go_wp2;go_loopw[9,10](λi j wr=>∃p q:Nat,p<=q/\q<=n/\i=.i p/\j=.i q/\Below w.1.size w wr/\(∀j,j<p->Nm x cl j<0)/\(∀j,q<=j->j<n->0<=Nm x cl j))(λi j _=>(intOf j-intOf i).toNat);case atStart=>exact⟨0,n,Ap _,Aw _,rfl,rfl,Ak _ _,λj hj=>absurd hj (Al _),λj h1 h2=>absurd h2 Za⟩
 case round=>
  obtain⟨p,q,hpq,hqn,rfl,rfl,hb,hlo',hhi'⟩:=hrel;have H1:=Ai hlo';have H2:=Ai hhi';clear hlo' hhi';have hBw:Below w.1.size w wr:=hb;have hsz:w.1.size<=wr.1.size:=hb.size;by_cases hp:p<q
  .obtain⟨b,off,rfl,hlo0,hbh0,hcx⟩:=hc ((p+q)/2) Za;obtain⟨d0,d1,d2,d3,d4⟩:=hcx.below hBw Za;clear hc;by_cases hlt:Nm x cl ((p+q)/2)<0
   .have HN:=Ai (show∀j,j<(p+q)/2+1->Nm x cl j<0 from λj hj=>by
     rcases As j ((p+q)/2)with h3|h3;.exact KN j _ h3 Za hlt
     .have:j=(p+q)/2:=Za;subst this;exact hlt);have hd:decide (Dg (x ((p+q)/2)).client cl<0)=true:=decide_eq_true hlt;go_wp2_with (go_at_call 171;go_must(refine(IM _ _ _).mono ?_;rintro e w2 ⟨rfl,hw2⟩));go_roundw;case rel=>exact⟨(p+q)/2+1,q,Za,hqn,by go_num,by first|rfl|trivial,hb.trans (hw2.mono Za),HN,H2⟩
    case measure=>simp[intOf];omega
   .have HN:=Ai (show∀j,(p+q)/2<=j->j<n->0<=Nm x cl j from λj h1 h2=>by
     rcases As ((p+q)/2) j with h3|h3;.exact Int.not_lt.1 (λhx=>hlt (KN _ j h3 h2 hx))
     .have:j=(p+q)/2:=Za;subst this;exact Int.not_lt.1 hlt);have hd:decide (Dg (x ((p+q)/2)).client cl<0)=false:=decide_eq_false hlt;go_wp2_with (go_at_call 171;go_must(refine(IM _ _ _).mono ?_;rintro e w2 ⟨rfl,hw2⟩));go_roundw;case rel=>exact⟨p,(p+q)/2,Za,Za,by first|rfl|trivial,by go_num,hb.trans (hw2.mono Za),H1,HN⟩
    case measure=>simp[intOf];omega
  .have hpe:p=q:=Za;subst hpe;by_cases hpn:p<n
   .have hg:decide ((p:Int)<n)=true:=decide_eq_true Za;obtain⟨b,off,rfl,hlo0,hbh0,hcx⟩:=hc (p) Za;obtain⟨d0,d1,d2,d3,d4⟩:=hcx.below hBw Za;clear hc;by_cases he:Nm x cl p=0
    .have hd:(Dg (x p).client cl==0)=true:=by simpa[Nm]using he
     have HE:=Ai (show(decide (p<n)&&decide (Nm x cl p=0))=true by simp[hpn,he]);go_wp2_with (go_at_call 171;go_must(refine(IM _ _ _).mono ?_;rintro e w2 ⟨rfl,hw2⟩));refine bodyPost_ret (v:=.tuple #[.i p,.bool true]) (by simp[results,results170,go_sem]) rfl ⟨p,Za,H1,H2,by rw[HE.out],hBw.trans (hw2.mono hBw.size)⟩
    .have hd:(Dg (x p).client cl==0)=false:=by simpa[Nm]using he
     have HE:=Ai (show(decide (p<n)&&decide (Nm x cl p=0))=false by simp[he]);go_wp2_with (go_at_call 171;go_must(refine(IM _ _ _).mono ?_;rintro e w2 ⟨rfl,hw2⟩));refine bodyPost_ret (v:=.tuple #[.i p,.bool false]) (by simp[results,results170,go_sem]) rfl ⟨p,Za,H1,H2,by rw[HE.out],hBw.trans (hw2.mono hBw.size)⟩
   .have hg:decide ((p:Int)<n)=false:=decide_eq_false Za;have HE:=Ai (show(decide (p<n)&&decide (Nm x cl p=0))=false by simp[hpn]);clear hc;go_wp2;refine bodyPost_ret (v:=.tuple #[.i p,.bool false]) (by simp[results,results170,go_sem]) rfl ⟨p,Za,H1,H2,by rw[HE.out],hBw⟩
theorem Rt (n:Nat)(x:Nat->Ti)(ad:OA)(cap:Nat)(cl:ByteArray)(w:World)(lo hi:Nat)(hhi:hi<=w.1.size)(hl:(n:Int)<=1099511627776)(hc:B8 w lo hi ad n x)(hasc:∀i j,i<j->j<n->Nm x cl j<0->Nm x cl i<0):Calls prog 119 #[.l ad n cap,.s cl] w λe w'=>∃i:Nat,i<=n/\(∀j,j<i->Nm x cl j<0)/\(∀j,i<=j->j<n->0<=Nm x cl j)/\e=.returned (.tuple #[.i i,.bool (decide (i<n)&&decide (Nm x cl i=0))])/\Below w.1.size w w':=by have HC:=Ai hc;have KN:=Ai hasc;clear hc hasc;go_enter func119,ntmps119;go_wp2_with fail;refine(Tp n x ad cap cl _ lo hi hhi hl HC KN).mono ?_;rintro e w1 ⟨i,hi,h1,h2,rfl,hb⟩;have H1:=Ai h1;have H2:=Ai h2;have HB:=Ai hb;clear h1 h2 hb;go_wp2;refine bodyPost_ret (v:=.tuple #[.i i,.bool (decide (i<n)&&decide (Nm x cl i=0))]) (by simp[results,results119,go_sem]) rfl ⟨i,hi,H1,H2,rfl,HB⟩
theorem OJ{x:Nat->Ti}{cl:ByteArray}{i:Nat}:Nm x cl i<0↔D4 (x i).client cl=true:=by unfold Nm Dg;cases h:D4 (x i).client cl with
 |true=>simp
 |false=>simp only[DB,if_false,iff_false];split<;>decide
theorem Wc{x:Nat->Ti}{cl:ByteArray}{i:Nat}:Nm x cl i=0↔D4 (x i).client cl=false/\(x i).client=cl:=by unfold Nm Dg;cases h:D4 (x i).client cl with
 |true=>simp
 |false=>
  simp only[DB,if_false,true_and];constructor
  .intro e;split at e;.rename_i q;exact DM q
   .cases e
  .intro e;rw[if_pos (by rw[e])]
def DG (B:Bk)(cl:ByteArray):Nat:=DY (λi=>(B.ts i).client) cl B.tn
def Ex (B:Bk)(cl:ByteArray):Bool:=decide (DG B cl<B.tn)&&decide ((B.ts (DG B cl)).client=cl)
def Qy (B:Bk):Prop:=∀i j,i<j->j<B.tn->D4 (B.ts i).client (B.ts j).client=true
theorem Fl (B:Bk)(ad:OA)(cap:Nat)(cl:ByteArray)(w:World)(lo hi:Nat)(hhi:hi<=w.1.size)(hl:(B.tn:Int)<=1099511627776)(hc:B8 w lo hi ad B.tn B.ts)(hasc:Qy B):Calls prog 119 #[.l ad B.tn cap,.s cl] w λe w'=>e=.returned (.tuple #[.i (DG B cl),.bool (Ex B cl)])/\Below w.1.size w w':=by
 refine(Rt B.tn B.ts ad cap cl w lo hi hhi hl hc (λi j hij hj h=>?_)).mono ?_;.rw[OJ]at h⊢;exact Gy (hasc i j hij hj) h
 .rintro e w1 ⟨i,hi,h1,h2,rfl,hb⟩;have hk:DG B cl=i:=PW hi (λj hj=>OJ.1 (h1 j hj)) (λh=>by cases q:D4 (B.ts i).client cl with
   |false=>rfl
   |true=>exact absurd (h2 i Bj h) (by rw[Int.not_le];exact OJ.2 q));refine⟨?_,hb⟩;have he:Ex B cl=(decide (i<B.tn)&&decide (Nm B.ts cl i=0)):=by
   unfold Ex;rw[hk];by_cases h:i<B.tn
   .have hlt:D4 (B.ts i).client cl=false:=by cases q:D4 (B.ts i).client cl with
     |false=>rfl
     |true=>exact absurd (h2 i Bj h) (by rw[Int.not_le];exact OJ.2 q)
    rw[decide_eq_true h,Bool.true_and,Bool.true_and];congr 1;exact propext ⟨λe=>Wc.2 ⟨hlt,e⟩,λe=>(Wc.1 e).2⟩
   .rw[decide_eq_false h];rfl
  rw[he,hk]
structure Wt where
 kind:ByteArray
 name:ByteArray
 ver:Int
structure PA (x:Wt):Prop where
 z0:(x.kind.size:Int)<=140737488355328
 z1:(x.name.size:Int)<=140737488355328
structure KQ (w:World)(b o:Nat)(x:Wt):Prop where c0:w.cell? ⟨b,o,none⟩=some (.s x.kind)c1:w.cell? ⟨b,o+1,none⟩=some (.s x.name)c2:w.cell? ⟨b,o+2,none⟩=some (.i x.ver)
theorem KQ.below{w w':World}{B b o:Nat}{x:Wt}(h:KQ w b o x)(hb:Below B w w')(hB:b<B):KQ w' b o x:=have e:∀j,w'.cell? ⟨b,j,none⟩=w.cell? ⟨b,j,none⟩:=λj=>hb.cell (p:=⟨b,j,none⟩) hB
 ⟨(e _).trans h.c0,(e _).trans h.c1,(e _).trans h.c2⟩
def JQ (w:World)(lo hi:Nat)(ad:OA)(n:Nat)(x:Nat->Wt):Prop:=∀i,i<n->∃b off,ad=some ⟨b,off,none⟩/\lo<=b/\b<hi/\KQ w b (off+i*3) (x i)
theorem JQ.below{w w':World}{B lo hi:Nat}{ad:OA}{n:Nat}{x:Nat->Wt}(h:JQ w lo hi ad n x)(hb:Below B w w')(hB:hi<=B):JQ w' lo hi ad n x:=λi hi'=>by obtain⟨b,off,e1,e2,e3,e4⟩:=h i hi';exact⟨b,off,e1,e2,e3,e4.below hb Za⟩
theorem JQ.mono{w:World}{lo lo' hi hi':Nat}{ad:OA}{n:Nat}{x:Nat->Wt}(h:JQ w lo hi ad n x)(hl:lo'<=lo)(hh:hi<=hi'):JQ w lo' hi' ad n x:=λi hi'=>by obtain⟨b,off,e1,e2,e3,e4⟩:=h i hi';exact⟨b,off,e1,Za,Za,e4⟩
def LG (c:Wt):Nat:=c.kind.size+c.name.size
def Ml (n:Nat)(x:Nat->Wt):Nat:=n+AN (λi=>LG (x i)) n
theorem gJ (x:Wt)(hf:PA x)(left:Int)(w:World)(h0:0<=left)(h1:left<=1048576):Calls prog 109 #[.agg #[.s x.kind,.s x.name,.i x.ver],.i left] w λe w'=>e=.returned (.i (CU left (LG x)))/\Below w.1.size w w':=by
 obtain⟨f0,f1⟩:=hf;unfold LG;go_enter func109,ntmps109;go_wp2;.go_ret;exact⟨Bs (Cp Za).symm,(Ak _ _).alloc Bj _⟩
 .go_ret;exact⟨Bs (Cp Za).symm,(Ak _ _).alloc Bj _⟩
 .go_ret;exact⟨Bs (by rw[Dx Za];omega),(Ak _ _).alloc Bj _⟩
theorem gV{P:Prop}(h:P:=by
  have hs:=HS.out;obtain⟨g1,g2⟩:=C8 M0;go_roundw;case rel=>exact⟨k+1,Za,by go_num,by rw[HQ.out,g2];apply congrArg;omega,by rw[HQ.out];omega,hb.trans (hb1.mono hb.size)⟩
  case measure=>simp[intOf];omega):P:=h
theorem XO (n:Nat)(x:Nat->Wt)(ad:OA)(cap:Nat)(left:Int)(w:World)(lo hi:Nat)(hhi:hi<=w.1.size)(hl:(n:Int)<=8796093022208)(h0:0<=left)(h1:left<=1048576)(hf:∀i,i<n->PA (x i))(hc:JQ w lo hi ad n x):Calls prog 51 #[.l ad n cap,.i left] w λe w'=>e=.returned (.i (CU left (Ml n x)))/\Below w.1.size w w':=by
 by_cases hlt:left-n<0;.go_enter func51,ntmps51;go_wp2;go_ret;exact⟨Bs (Cp (by unfold Ml;omega)).symm,Ak _ _⟩
 .go_enter func51,ntmps51;go_wp2;go_loopw[1,5](λt i wr=>∃k:Nat,k<=n/\i=.i k/\t=.i (left-n-(AN (λi=>LG (x i)) k:Nat))/\0<=left-n-(AN (λi=>LG (x i)) k:Nat)/\Below w.1.size w wr)(λ_ i _=>n-(intOf i).toNat);case atStart=>exact⟨0,Ap _,rfl,by simp[AN],by simp[AN];omega,Ak _ _⟩
  case round=>
   obtain⟨k,hk,rfl,rfl,hnn,hb⟩:=hrel;have hst:AN (λi=>LG (x i)) (k+1)=AN (λi=>LG (x i)) k+LG (x k):=rfl;have hmo:k<n->AN (λi=>LG (x i)) (k+1)<=AN (λi=>LG (x i)) n:=λh=>DX _ h;generalize hq:AN (λi=>LG (x i)) k=q at*;generalize hq1:AN (λi=>LG (x i)) (k+1)=q1 at*;by_cases hkn:k<n
   .obtain⟨b,off,rfl,hlo,hbh,hcx⟩:=hc k hkn;have hmo:=hmo hkn;have hfk:=hf k hkn;have HS:Hid (q1=q+LG (x k)):=hst;have HQ:Hid (AN (λi=>LG (x i)) (k+1)=q1):=hq1;clear hst hq hq1 hc hf;obtain⟨d0,d1,d2⟩:=hcx.below hb Za;clear hcx;generalize x k=y at*;clear hmo;rename_i hmo;go_wp2_with (go_at_call 109;refine(gJ y hfk _ wr Za Za).mono ?_;rintro e w1 ⟨rfl,hb1⟩);.go_ret;refine⟨Bs (Cp ?_).symm,hb.trans (hb1.mono hb.size)⟩;have:=HS.out;have:=GV M0;have:=hmo hkn;unfold Ml;omega
    .exact gV
   .have:k=n:=Za;subst this;clear hc hf hst hmo hq1;have HQ:Hid (AN (λi=>LG (x i)) k=q):=hq;clear hq;go_wp2;go_ret;refine⟨Bs ?_,hb⟩;have:=HQ.out;rw[Dx (by unfold Ml;omega)];unfold Ml;omega
theorem Sv:(prog.info? 158).map (λi=>(i.zero,i.size,i.bytes))=some (some (.agg #[.s ByteArray.empty,.s ByteArray.empty,.i 0]),3,40):=Zc
theorem cH (x:Wt)(w:World):Calls prog 111 #[.agg #[.s x.kind,.s x.name,.i x.ver]] w λe w'=>e=.returned (.agg #[.s x.kind,.s x.name,.i x.ver])/\Below w.1.size w w':=by go_enter func111,ntmps111;go_wp2;refine bodyPost_ret (v:=.agg #[.s x.kind,.s x.name,.i x.ver]) (by simp[results,results111,go_sem]) rfl ⟨rfl,?_⟩;exact((((Ak _ _).alloc Bj _).alloc Ze _).alloc Zd _)
structure G1 (w:World)(g n m:Nat)(x:Nat->Wt):Prop where
 room:J7 w g (m*3)at_:∀i,i<n->KQ w g (i*3) (x i)
theorem G1.step{wr w1:World}{g k n:Nat}{x:Nat->Wt}(h:G1 wr g k n x)(hk:k<n)(hb:Below wr.1.size wr w1):G1 (w1.setCells g (k*3) [.s (x k).kind,.s (x k).name,.i (x k).ver]) g (k+1) n x:=by
 have hg:=h.room.lt;have hR:=h.room.below hb hg;generalize hvs:[Value.string (x k).kind,.s (x k).name,.i (x k).ver]=vs;have hlen:vs.length=3:=by rw[<-hvs];rfl
 have hin:=CO g vs (k*3) w1 (λj hj=>by obtain⟨u,hu⟩:=hR.has (k*3+j) Za;rw[hu];rfl);refine⟨hR.setCells vs Za,λi hi=>?_⟩;by_cases e:i<k;.have c:=(h.at_ i e).below hb hg;have ee:∀j,j<3->(w1.setCells g (k*3) vs).cell? ⟨g,i*3+j,none⟩=w1.cell? ⟨g,i*3+j,none⟩:=λj hj=>C6 g vs (k*3) w1 _ (λ_ _=>AD (by show i*3+j<k*3;omega));exact⟨(ee 0 Za).trans c.c0,(ee 1 Za).trans c.c1,(ee 2 Za).trans c.c2⟩
 .have:i=k:=Za;subst this;have f:=λj (hj:j<3)=>hin j Za;have f0:=f 0 Za;have f1:=f 1 Za;have f2:=f 2 Za;subst hvs;exact⟨f0,f1,f2⟩
theorem XD (n:Nat)(x:Nat->Wt)(ad:OA)(cap:Nat)(w:World)(lo hi:Nat)(hhi:hi<=w.1.size)(hl:(n:Int)<=1099511627776)(hc:JQ w lo hi ad n x):Calls prog 54 #[.l ad n cap] w λe w'=>e=.returned (.l (some ⟨w.1.size,0,none⟩) n n)/\G1 w' w.1.size n n x/\Below w.1.size w w':=by
 obtain⟨i0,hi0,hz0,hz1,hz2⟩:=info_parts Sv;go_enter func54,ntmps54;go_wp2_with (first
  |(at_make;refine wpList_make_full _ rfl _ _ 54 rfl w.1.size 158 i0 _ 3 underlying54 hi0 hz0 hz1 .i64 .i64 _ _ n rfl rfl Za Za Sx Zn Za ?_;intro w1 hown1 hgrow1));have r1:G1 w1 w.1.size 0 n x:=⟨ES hown1,λ_ h=>absurd h (Al _)⟩;have hb1:Below w.1.size w w1:=(Ak _ _).grown hgrow1 Bj Ze;clear hown1 hgrow1 hi0 hz0 hz1 hz2;go_loopw[4](λi wr=>∃k:Nat,k<=n/\i=.i k/\Below w.1.size w wr/\G1 wr w.1.size k n x)(λi _=>n-(intOf i).toNat);case atStart=>exact⟨0,Ap _,rfl,hb1,r1⟩
 case round=>
  obtain⟨k,hk,rfl,hb,ho⟩:=hrel;clear r1 hb1;by_cases hkn:k<n
  .obtain⟨b,off,rfl,hlo,hbh,hcx⟩:=hc k hkn;obtain⟨d0,d1,d2⟩:=hcx.below hb Za;clear hc hcx;have HO:=Ai ho;have hrm:=ho.room;clear ho;go_wp2_with (fail);refine(cH (x k) wr).mono ?_;rintro e w1 ⟨rfl,hb1⟩;have R:=HO.step hkn hb1;have HR:=Ai R;have HB:=Ai ((hb.trans (hb1.mono hb.size)).trans ((CR w.1.size [Value.string (x k).kind,.s (x k).name,.i (x k).ver] (k*3) w1).below Bj (hb.trans (hb1.mono hb.size)).size));have hrm1:=hrm.below hb1 hrm.lt;obtain⟨_,q0⟩:=hrm1.has (k*3) Za;obtain⟨_,q1⟩:=hrm1.has (k*3+1) Za;obtain⟨_,q2⟩:=hrm1.has (k*3+2) Za;have qf:=hrm1.free;clear hrm hrm1 R HO d0 d1 d2;go_wp2;go_roundw;case rel=>exact⟨k+1,Za,by go_num,HB,HR⟩
   case measure=>simp[intOf];omega
  .have:k=n:=Za;subst this;have HO:=Ai ho;clear hc ho;go_wp2;go_ret;exact⟨rfl,HO,hb⟩
theorem bK (x:Wt)(w:World):Calls prog 115 #[.agg #[.s x.kind,.s x.name,.i x.ver],.agg #[.s x.kind,.s x.name,.i x.ver]] w λe w'=>e=.returned (.bool true)/\Below w.1.size w w':=by go_enter func115,ntmps115;go_wp2;go_ret;exact⟨rfl,((Ae _ _).alloc Ze _)⟩
theorem XY (n:Nat)(x:Nat->Wt)(ad ad2:OA)(cap cap2:Nat)(w:World)(lo hi lo2 hi2:Nat)(hh:hi<=w.1.size)(hh2:hi2<=w.1.size)(hl:(n:Int)<=140737488355328)(hc:JQ w lo hi ad n x)(hc2:JQ w lo2 hi2 ad2 n x):Calls prog 58 #[.l ad n cap,.l ad2 n cap2] w λe w'=>e=.returned (.bool true)/\Below w.1.size w w':=by
 go_enter func58,ntmps58;go_wp2;go_loopw[5](λi wr=>∃k:Nat,k<=n/\i=.i k/\Below w.1.size w wr)(λi _=>n-(intOf i).toNat);case atStart=>exact⟨0,Ap _,rfl,Ak _ _⟩
 case round=>
  obtain⟨k,hk,rfl,hb⟩:=hrel;by_cases hkn:k<n;.obtain⟨b,off,rfl,hlo,hbh,hcx⟩:=hc k hkn;obtain⟨b2,off2,rfl,hlo2,hbh2,hcx2⟩:=hc2 k hkn;obtain⟨d0,d1,d2⟩:=hcx.below hb Za;obtain⟨e0,e1,e2⟩:=hcx2.below hb Za;clear hc hc2 hcx hcx2;generalize x k=y at*;go_wp2;go_region_with(go_at_call 115;refine(bK y _).mono ?_;rintro e w1 ⟨rfl,hb1⟩);all_goals
    go_wp2;go_roundw;case rel=>exact⟨k+1,Za,by go_num,hb.drew.trans (hb1.mono hb.size)⟩
    case measure=>simp[intOf];omega
  .have:k=n:=Za;subst this;clear hc hc2;go_wp2;go_ret;exact⟨rfl,hb⟩
def pJ (c:Nat->Value)(i:Nat)(y:Wt):Prop:=c (i*3)=.s y.kind/\c (i*3+1)=.s y.name/\c (i*3+2)=.i y.ver
theorem PZ{c:Nat->Value}{i:Nat}{y:Wt}(h:pJ c i y){k o:Nat}(hik:¬i=k)(h1:k*3<=o)(h2:o<k*3+3)(v:Value):pJ (D9 c o v) i y:=by obtain⟨a0,a1,a2⟩:=h;exact⟨(if_neg Za).trans a0,(if_neg Za).trans a1,(if_neg Za).trans a2⟩
def aM (m:Nat)(_:Wt):Wt:=⟨mt m,mt (m+1),(m:Int)+2⟩
def Eu (k0:Nat)(x:Nat->Wt):Nat->Nat|0=>k0|n+1=>Eu k0 x n+3
theorem U8 (k0:Nat)(x:Nat->Wt){k n:Nat}(h:k<=n):Eu k0 x k<=Eu k0 x n:=by induction n with
 |zero=>have:k=0:=Za;subst this;exact Aw _
 |succ m ih=>
   rcases As m k with h1|h1;.have:k=m+1:=Za;subst this;exact Aw _
   .exact AA (ih h1) (by simp only[Eu];omega)
theorem MG (k0:Nat)(x:Nat->Wt):∀n,Eu k0 x n=k0+3*n
 |0=>rfl
 |n+1=>by rw[Eu,MG k0 x n];omega
def SN (k0:Nat)(x:Nat->Wt)(k i:Nat):Wt:=if i<k then aM (Eu k0 x i) (x i)else x i
theorem Xp (k0:Nat)(x:Nat->Wt):SN k0 x 0=x:=funext λi=>if_neg (Al i)
theorem lE{k0:Nat}{x:Nat->Wt}{k i:Nat}(h:i<k):SN k0 x k i=aM (Eu k0 x i) (x i):=if_pos h
theorem kQ{k0:Nat}{x:Nat->Wt}{k i:Nat}(h:¬i=k):SN k0 x (k+1) i=SN k0 x k i:=by
 unfold SN;by_cases h1:i<k;.rw[if_pos h1,if_pos Za]
 .rw[if_neg h1,if_neg Za]
structure Im (w:World)(ad:OA)(g n:Nat)(x:Nat->Wt):Prop where addr:0<n->ad=some ⟨g,0,none⟩row:0<n->∃c,AH w g (n*3) c/\∀i,i<n->pJ c i (x i)
theorem Im.fr{w w':World}{ad:OA}{g n:Nat}{x:Nat->Wt}{P:Nat->Prop}(h:Im w ad g n x)(hf:AP P w w')(hp:0<n->¬P g):Im w' ad g n x:=⟨h.addr,λh0=>by obtain⟨c,r,e⟩:=h.row h0;exact⟨c,r.fr hf (hp h0),e⟩⟩
theorem Im.grow{w w':World}{ad:OA}{g n:Nat}{x:Nat->Wt}(h:Im w ad g n x)(hf:Below w.1.size w w'):Im w' ad g n x:=h.fr (Aq (P:=λ_=>False) hf) (λ_ h=>h)
theorem Im.lt{w:World}{ad:OA}{g n:Nat}{x:Nat->Wt}(h:Im w ad g n x)(h0:0<n):g<w.1.size:=by obtain⟨c,r,e⟩:=h.row h0;exact r.lt
theorem G1.at{w:World}{g n:Nat}{x:Nat->Wt}(h:G1 w g n n x):Im w (some ⟨g,0,none⟩) g n x:=by
 have e:∀j v,w.cell? ⟨g,j,none⟩=some v->(w.cell? ⟨g,j,none⟩).getD (.i 0)=v:=λj v h=>by rw[h];rfl
 refine⟨λ_=>rfl,λ_=>⟨λj=>(w.cell? ⟨g,j,none⟩).getD (.i 0),⟨h.room.lt,h.room.free,λj hj=>?_⟩,λi hi'=>?_⟩⟩;.obtain⟨u,hu⟩:=h.room.has j hj;rw[hu];rfl
 .have k:=h.at_ i hi';exact⟨(e (i*3) _ k.c0),(e (i*3+1) _ k.c1),(e (i*3+2) _ k.c2)⟩
theorem Im.isIn{w:World}{ad:OA}{g n:Nat}{x:Nat->Wt}(h:Im w ad g n x){lo:Nat}(hlo:0<n->lo<=g):JQ w lo w.1.size ad n x:=λi hi=>by obtain⟨c,r,e⟩:=h.row Za;obtain⟨a0,a1,a2⟩:=e i hi;refine⟨g,0,h.addr Za,hlo Za,r.lt,?_⟩;rw[Bc];exact⟨(r.cell _ Za).trans (congrArg some a0),(r.cell _ Za).trans (congrArg some a1),(r.cell _ Za).trans (congrArg some a2)⟩
theorem Uf (ad:OA)(g n:Nat)(x:Nat->Wt)(cap k0:Nat)(w:World)(hl:(n:Int)<=1048576)(hk1:1<=(k0:Int))(hk2:(Eu k0 x n:Int)<=1073741824)(hc:Im w ad g n x):Calls prog 60 #[.l ad n cap,.i k0] w λe w'=>e=.returned (.i (Eu k0 x n))/\Im w' ad g n (SN k0 x n)/\AP (λk=>0<n/\k=g) w w':=by
 go_enter func60,ntmps60;go_wp2;go_loopw[1,5](λt i wr=>∃k:Nat,k<=n/\i=.i k/\t=.i (Eu k0 x k)/\AP (λk=>0<n/\k=g) w wr/\Im wr ad g n (SN k0 x k))(λ_ i _=>n-(intOf i).toNat);case atStart=>exact⟨0,Ap _,rfl,rfl,AP.refl _ _,by rw[Xp];exact hc⟩
 case round=>
  obtain⟨k,hk,rfl,rfl,hfr,ho⟩:=hrel;clear hc;by_cases hkn:k<n
  .have hmo:=U8 k0 x (k:=k+1) (n:=n) Za;have hm1:1<=Eu k0 x k:=by rw[MG];omega
   have hms:Eu k0 x (k+1)=Eu k0 x k+3:=rfl;have HM:Hid (Eu k0 x (k+1)=Eu k0 x k+3):=hms;have hm:Eu k0 x k+3<=1073741824:=Za;clear hmo hms;obtain⟨m,hme⟩:∃m,Eu k0 x k=m:=⟨_,rfl⟩;rw[hme]at hm1 hm HM⊢;have YZ:=Ai hme;clear hme;obtain rfl:=ho.addr Za;obtain⟨c,r0,hat⟩:=ho.row Za;have KO:=Ai hat;have hfr':=Ai hfr;clear ho hat hfr;have f0:AP (λq=>q=g) wr wr:=AP.refl _ _;go_wp2_with fail;refine(BI _ (m+0) Za _ Za Za).mono ?_;rintro e w1 ⟨rfl,b1⟩;have r1:=r0.below b1 tP;have f1:=f0.trans (Aq b1);clear r0 f0 b1;have q0:=r1.cell (k*3) Za;have qf1:=r1.free;go_wp2_with fail;refine(BI _ (m+1) Za _ Za Za).mono ?_;rintro e w2 ⟨rfl,b2⟩;have r2:=(r1.set (o:=k*3) Za _).below b2 tN;have f2:=(f1.setCell (p:=⟨g,k*3,none⟩) rfl _).trans (Aq b2);clear q0 qf1 r1 f1 b2;have q1:=r2.cell (k*3+1) Za;have q2:=r2.cell (k*3+2) Za;have qf2:=r2.free;go_wp2;go_roundw;case rel=>
    refine⟨k+1,Za,by go_num,by rw[HM.out];apply congrArg;omega,hfr'.out.trans (AP.mono ((f2.setCell (p:=⟨g,k*3+1,none⟩) rfl _).setCell (p:=⟨g,k*3+2,none⟩) rfl _) (λq hq=>⟨Za,hq⟩)),λ_=>rfl,λ_=>⟨_,((r2.set (o:=k*3+1) Za _).set (o:=k*3+2) Za _),λi hi=>?_⟩⟩;by_cases e:i=k;.subst e;rw[lE (Bp i),YZ.out];refine⟨?_,?_,?_⟩;all_goals first|(simp[D9,aM];done)|(simp[D9,aM];omega)|(simp[D9,aM];exact TX Za)
    .rw[kQ e];exact(PZ (PZ (PZ (KO i hi) e (k:=k) Za Za _) e (k:=k) Za Za _) e (k:=k) Za Za _)
   case measure=>simp[intOf];omega
  .have:k=n:=Za;subst this;have HO:=Ai ho;clear ho;go_wp2;go_ret;exact⟨rfl,HO,hfr⟩
structure KS (w:World)(b o:Nat)(x:Wr):Prop where c0:w.cell? ⟨b,o,none⟩=some (.i x.op)c1:w.cell? ⟨b,o+1,none⟩=some (.s x.kind)c2:w.cell? ⟨b,o+2,none⟩=some (.s x.name)c3:w.cell? ⟨b,o+3,none⟩=some (.i x.seen)c4:w.cell? ⟨b,o+4,none⟩=some (.s x.text)c5:w.cell? ⟨b,o+5,none⟩=some (.s x.hold)
theorem KS.below{w w':World}{B b o:Nat}{x:Wr}(h:KS w b o x)(hb:Below B w w')(hB:b<B):KS w' b o x:=have e:∀j,w'.cell? ⟨b,j,none⟩=w.cell? ⟨b,j,none⟩:=λj=>hb.cell (p:=⟨b,j,none⟩) hB
 ⟨(e _).trans h.c0,(e _).trans h.c1,(e _).trans h.c2,(e _).trans h.c3,(e _).trans h.c4,(e _).trans h.c5⟩
def JR (w:World)(lo hi:Nat)(ad:OA)(n:Nat)(x:Nat->Wr):Prop:=∀i,i<n->∃b off,ad=some ⟨b,off,none⟩/\lo<=b/\b<hi/\KS w b (off+i*6) (x i)
theorem JR.below{w w':World}{B lo hi:Nat}{ad:OA}{n:Nat}{x:Nat->Wr}(h:JR w lo hi ad n x)(hb:Below B w w')(hB:hi<=B):JR w' lo hi ad n x:=λi hi'=>by obtain⟨b,off,e1,e2,e3,e4⟩:=h i hi';exact⟨b,off,e1,e2,e3,e4.below hb Za⟩
theorem JR.mono{w:World}{lo lo' hi hi':Nat}{ad:OA}{n:Nat}{x:Nat->Wr}(h:JR w lo hi ad n x)(hl:lo'<=lo)(hh:hi<=hi'):JR w lo' hi' ad n x:=λi hi'=>by obtain⟨b,off,e1,e2,e3,e4⟩:=h i hi';exact⟨b,off,e1,Za,Za,e4⟩
def N8 (n:Nat)(x:Nat->Wr):Nat:=n+AN (λi=>KH (x i)) n
theorem Yf (n:Nat)(x:Nat->Wr)(ad:OA)(cap:Nat)(left:Int)(w:World)(lo hi:Nat)(hhi:hi<=w.1.size)(hl:(n:Int)<=8796093022208)(h0:0<=left)(h1:left<=1048576)(hf:∀i,i<n->Kq (x i))(hc:JR w lo hi ad n x):Calls prog 52 #[.l ad n cap,.i left] w λe w'=>e=.returned (.i (CU left (N8 n x)))/\Below w.1.size w w':=by
 by_cases hlt:left-n<0;.go_enter func52,ntmps52;go_wp2;go_ret;exact⟨Bs (Cp (by unfold N8;omega)).symm,Ak _ _⟩
 .go_enter func52,ntmps52;go_wp2;go_loopw[1,5](λt i wr=>∃k:Nat,k<=n/\i=.i k/\t=.i (left-n-(AN (λi=>KH (x i)) k:Nat))/\0<=left-n-(AN (λi=>KH (x i)) k:Nat)/\Below w.1.size w wr)(λ_ i _=>n-(intOf i).toNat);case atStart=>exact⟨0,Ap _,rfl,by simp[AN],by simp[AN];omega,Ak _ _⟩
  case round=>
   obtain⟨k,hk,rfl,rfl,hnn,hb⟩:=hrel;have hst:AN (λi=>KH (x i)) (k+1)=AN (λi=>KH (x i)) k+KH (x k):=rfl;have hmo:k<n->AN (λi=>KH (x i)) (k+1)<=AN (λi=>KH (x i)) n:=λh=>DX _ h;generalize hq:AN (λi=>KH (x i)) k=q at*;generalize hq1:AN (λi=>KH (x i)) (k+1)=q1 at*;by_cases hkn:k<n
   .obtain⟨b,off,rfl,hlo,hbh,hcx⟩:=hc k hkn;have hmo:=hmo hkn;have hfk:=hf k hkn;have HS:Hid (q1=q+KH (x k)):=hst;have HQ:Hid (AN (λi=>KH (x i)) (k+1)=q1):=hq1;clear hst hq hq1 hc hf;obtain⟨d0,d1,d2,d3,d4,d5⟩:=hcx.below hb Za;clear hcx;generalize x k=y at*;clear hmo;rename_i hmo;go_wp2_with (go_at_call 7;refine(fB y hfk _ wr Za Za).mono ?_;rintro e w1 ⟨rfl,hb1⟩);.go_ret;refine⟨Bs (Cp ?_).symm,hb.trans (hb1.mono hb.size)⟩;have:=HS.out;have:=GV M0;have:=hmo hkn;unfold N8;omega
    .exact gV
   .have:k=n:=Za;subst this;clear hc hf hst hmo hq1;have HQ:Hid (AN (λi=>KH (x i)) k=q):=hq;clear hq;go_wp2;go_ret;refine⟨Bs ?_,hb⟩;have:=HQ.out;rw[Dx (by unfold N8;omega)];unfold N8;omega
theorem Ui:(prog.info? 40).map (λi=>(i.zero,i.size,i.bytes))=some (some (.agg #[.i 0,.s ByteArray.empty,.s ByteArray.empty,.i 0,.s ByteArray.empty,.s ByteArray.empty]),6,80):=Zc
structure GZ (w:World)(g n m:Nat)(x:Nat->Wr):Prop where
 room:J7 w g (m*6)at_:∀i,i<n->KS w g (i*6) (x i)
theorem GZ.step{wr w1:World}{g k n:Nat}{x:Nat->Wr}(h:GZ wr g k n x)(hk:k<n)(hb:Below wr.1.size wr w1):GZ (w1.setCells g (k*6) (y9 (x k))) g (k+1) n x:=by
 have hg:=h.room.lt;have hR:=h.room.below hb hg;generalize hvs:y9 (x k)=vs;have hlen:vs.length=6:=by rw[<-hvs];rfl
 have hin:=CO g vs (k*6) w1 (λj hj=>by obtain⟨u,hu⟩:=hR.has (k*6+j) Za;rw[hu];rfl);refine⟨hR.setCells vs Za,λi hi=>?_⟩;by_cases e:i<k;.have c:=(h.at_ i e).below hb hg;have ee:∀j,j<6->(w1.setCells g (k*6) vs).cell? ⟨g,i*6+j,none⟩=w1.cell? ⟨g,i*6+j,none⟩:=λj hj=>C6 g vs (k*6) w1 _ (λ_ _=>AD (by show i*6+j<k*6;omega));exact⟨(ee 0 Za).trans c.c0,(ee 1 Za).trans c.c1,(ee 2 Za).trans c.c2,(ee 3 Za).trans c.c3,(ee 4 Za).trans c.c4,(ee 5 Za).trans c.c5⟩
 .have:i=k:=Za;subst this;have f:=λj (hj:j<6)=>hin j Za;have f0:=f 0 Za;have f1:=f 1 Za;have f2:=f 2 Za;have f3:=f 3 Za;have f4:=f 4 Za;have f5:=f 5 Za;subst hvs;exact⟨f0,f1,f2,f3,f4,f5⟩
theorem Xf (n:Nat)(x:Nat->Wr)(ad:OA)(cap:Nat)(w:World)(lo hi:Nat)(hhi:hi<=w.1.size)(hl:(n:Int)<=1099511627776)(hc:JR w lo hi ad n x):Calls prog 55 #[.l ad n cap] w λe w'=>e=.returned (.l (some ⟨w.1.size,0,none⟩) n n)/\GZ w' w.1.size n n x/\Below w.1.size w w':=by
 obtain⟨i0,hi0,hz0,hz1,hz2⟩:=info_parts Ui;go_enter func55,ntmps55;go_wp2_with (first
  |(at_make;refine wpList_make_full _ rfl _ _ 55 rfl w.1.size 40 i0 _ 6 underlying55 hi0 hz0 hz1 .i64 .i64 _ _ n rfl rfl Za Za Sx Zn Za ?_;intro w1 hown1 hgrow1));have r1:GZ w1 w.1.size 0 n x:=⟨ES hown1,λ_ h=>absurd h (Al _)⟩;have hb1:Below w.1.size w w1:=(Ak _ _).grown hgrow1 Bj Ze;clear hown1 hgrow1 hi0 hz0 hz1 hz2;go_loopw[4](λi wr=>∃k:Nat,k<=n/\i=.i k/\Below w.1.size w wr/\GZ wr w.1.size k n x)(λi _=>n-(intOf i).toNat);case atStart=>exact⟨0,Ap _,rfl,hb1,r1⟩
 case round=>
  obtain⟨k,hk,rfl,hb,ho⟩:=hrel;clear r1 hb1;by_cases hkn:k<n
  .obtain⟨b,off,rfl,hlo,hbh,hcx⟩:=hc k hkn;obtain⟨d0,d1,d2,d3,d4,d5⟩:=hcx.below hb Za;clear hc hcx;have HO:=Ai ho;have hrm:=ho.room;clear ho;go_wp2_with (fail);refine(ZV (x k) wr).mono ?_;rintro e w1 ⟨rfl,hb1⟩;have R:=HO.step hkn hb1;have HR:=Ai R;have HB:=Ai ((hb.trans (hb1.mono hb.size)).trans ((CR w.1.size [Value.int .i64 (x k).op,.s (x k).kind,.s (x k).name,.i (x k).seen,.s (x k).text,.s (x k).hold] (k*6) w1).below Bj (hb.trans (hb1.mono hb.size)).size));have hrm1:=hrm.below hb1 hrm.lt;obtain⟨_,q0⟩:=hrm1.has (k*6) Za;obtain⟨_,q1⟩:=hrm1.has (k*6+1) Za;obtain⟨_,q2⟩:=hrm1.has (k*6+2) Za;obtain⟨_,q3⟩:=hrm1.has (k*6+3) Za;obtain⟨_,q4⟩:=hrm1.has (k*6+4) Za;obtain⟨_,q5⟩:=hrm1.has (k*6+5) Za;have qf:=hrm1.free;clear hrm hrm1 R HO d0 d1 d2 d3 d4 d5;go_wp2;go_roundw;case rel=>exact⟨k+1,Za,by go_num,HB,HR⟩
   case measure=>simp[intOf];omega
  .have:k=n:=Za;subst this;have HO:=Ai ho;clear hc ho;go_wp2;go_ret;exact⟨rfl,HO,hb⟩
theorem eG (x:Wr)(w:World):Calls prog 116 #[.agg (vW x),.agg (vW x)] w λe w'=>e=.returned (.bool true)/\Below w.1.size w w':=by go_enter func116,ntmps116;go_wp2;go_ret;exact⟨rfl,((Ae _ _).alloc Ze _)⟩
theorem Xt (n:Nat)(x:Nat->Wr)(ad ad2:OA)(cap cap2:Nat)(w:World)(lo hi lo2 hi2:Nat)(hh:hi<=w.1.size)(hh2:hi2<=w.1.size)(hl:(n:Int)<=140737488355328)(hc:JR w lo hi ad n x)(hc2:JR w lo2 hi2 ad2 n x):Calls prog 59 #[.l ad n cap,.l ad2 n cap2] w λe w'=>e=.returned (.bool true)/\Below w.1.size w w':=by
 go_enter func59,ntmps59;go_wp2;go_loopw[5](λi wr=>∃k:Nat,k<=n/\i=.i k/\Below w.1.size w wr)(λi _=>n-(intOf i).toNat);case atStart=>exact⟨0,Ap _,rfl,Ak _ _⟩
 case round=>
  obtain⟨k,hk,rfl,hb⟩:=hrel;by_cases hkn:k<n;.obtain⟨b,off,rfl,hlo,hbh,hcx⟩:=hc k hkn;obtain⟨b2,off2,rfl,hlo2,hbh2,hcx2⟩:=hc2 k hkn;obtain⟨d0,d1,d2,d3,d4,d5⟩:=hcx.below hb Za;obtain⟨e0,e1,e2,e3,e4,e5⟩:=hcx2.below hb Za;clear hc hc2 hcx hcx2;generalize x k=y at*;go_wp2;go_region_with(go_at_call 116;refine(eG y _).mono ?_;rintro e w1 ⟨rfl,hb1⟩);all_goals
    go_wp2;go_roundw;case rel=>exact⟨k+1,Za,by go_num,hb.drew.trans (hb1.mono hb.size)⟩
    case measure=>simp[intOf];omega
  .have:k=n:=Za;subst this;clear hc hc2;go_wp2;go_ret;exact⟨rfl,hb⟩
def qU (c:Nat->Value)(i:Nat)(y:Wr):Prop:=c (i*6)=.i y.op/\c (i*6+1)=.s y.kind/\c (i*6+2)=.s y.name/\c (i*6+3)=.i y.seen/\c (i*6+4)=.s y.text/\c (i*6+5)=.s y.hold
theorem Jj{c:Nat->Value}{i:Nat}{y:Wr}(h:qU c i y){k o:Nat}(hik:¬i=k)(h1:k*6<=o)(h2:o<k*6+6)(v:Value):qU (D9 c o v) i y:=by obtain⟨a0,a1,a2,a3,a4,a5⟩:=h;exact⟨(if_neg Za).trans a0,(if_neg Za).trans a1,(if_neg Za).trans a2,(if_neg Za).trans a3,(if_neg Za).trans a4,(if_neg Za).trans a5⟩
def dD (m:Nat)(_:Wr):Wr:=⟨(m:Int),mt (m+1),mt (m+2),(m:Int)+3,mt (m+4),mt (m+5)⟩
def FJ (k0:Nat)(x:Nat->Wr):Nat->Nat|0=>k0|n+1=>FJ k0 x n+6
theorem VD (k0:Nat)(x:Nat->Wr){k n:Nat}(h:k<=n):FJ k0 x k<=FJ k0 x n:=by induction n with
 |zero=>have:k=0:=Za;subst this;exact Aw _
 |succ m ih=>
   rcases As m k with h1|h1;.have:k=m+1:=Za;subst this;exact Aw _
   .exact AA (ih h1) (by simp only[FJ];omega)
theorem MR (k0:Nat)(x:Nat->Wr):∀n,FJ k0 x n=k0+6*n
 |0=>rfl
 |n+1=>by rw[FJ,MR k0 x n];omega
def SX (k0:Nat)(x:Nat->Wr)(k i:Nat):Wr:=if i<k then dD (FJ k0 x i) (x i)else x i
theorem XT (k0:Nat)(x:Nat->Wr):SX k0 x 0=x:=funext λi=>if_neg (Al i)
theorem kW{k0:Nat}{x:Nat->Wr}{k i:Nat}(h:i<k):SX k0 x k i=dD (FJ k0 x i) (x i):=if_pos h
theorem nJ{k0:Nat}{x:Nat->Wr}{k i:Nat}(h:¬i=k):SX k0 x (k+1) i=SX k0 x k i:=by
 unfold SX;by_cases h1:i<k;.rw[if_pos h1,if_pos Za]
 .rw[if_neg h1,if_neg Za]
structure In (w:World)(ad:OA)(g n:Nat)(x:Nat->Wr):Prop where addr:0<n->ad=some ⟨g,0,none⟩row:0<n->∃c,AH w g (n*6) c/\∀i,i<n->qU c i (x i)
theorem In.fr{w w':World}{ad:OA}{g n:Nat}{x:Nat->Wr}{P:Nat->Prop}(h:In w ad g n x)(hf:AP P w w')(hp:0<n->¬P g):In w' ad g n x:=⟨h.addr,λh0=>by obtain⟨c,r,e⟩:=h.row h0;exact⟨c,r.fr hf (hp h0),e⟩⟩
theorem In.grow{w w':World}{ad:OA}{g n:Nat}{x:Nat->Wr}(h:In w ad g n x)(hf:Below w.1.size w w'):In w' ad g n x:=h.fr (Aq (P:=λ_=>False) hf) (λ_ h=>h)
theorem In.lt{w:World}{ad:OA}{g n:Nat}{x:Nat->Wr}(h:In w ad g n x)(h0:0<n):g<w.1.size:=by obtain⟨c,r,e⟩:=h.row h0;exact r.lt
theorem GZ.at{w:World}{g n:Nat}{x:Nat->Wr}(h:GZ w g n n x):In w (some ⟨g,0,none⟩) g n x:=by
 have e:∀j v,w.cell? ⟨g,j,none⟩=some v->(w.cell? ⟨g,j,none⟩).getD (.i 0)=v:=λj v h=>by rw[h];rfl
 refine⟨λ_=>rfl,λ_=>⟨λj=>(w.cell? ⟨g,j,none⟩).getD (.i 0),⟨h.room.lt,h.room.free,λj hj=>?_⟩,λi hi'=>?_⟩⟩;.obtain⟨u,hu⟩:=h.room.has j hj;rw[hu];rfl
 .have k:=h.at_ i hi';exact⟨(e (i*6) _ k.c0),(e (i*6+1) _ k.c1),(e (i*6+2) _ k.c2),(e (i*6+3) _ k.c3),(e (i*6+4) _ k.c4),(e (i*6+5) _ k.c5)⟩
theorem In.isIn{w:World}{ad:OA}{g n:Nat}{x:Nat->Wr}(h:In w ad g n x){lo:Nat}(hlo:0<n->lo<=g):JR w lo w.1.size ad n x:=λi hi=>by obtain⟨c,r,e⟩:=h.row Za;obtain⟨a0,a1,a2,a3,a4,a5⟩:=e i hi;refine⟨g,0,h.addr Za,hlo Za,r.lt,?_⟩;rw[Bc];exact⟨(r.cell _ Za).trans (congrArg some a0),(r.cell _ Za).trans (congrArg some a1),(r.cell _ Za).trans (congrArg some a2),(r.cell _ Za).trans (congrArg some a3),(r.cell _ Za).trans (congrArg some a4),(r.cell _ Za).trans (congrArg some a5)⟩
theorem Tx (ad:OA)(g n:Nat)(x:Nat->Wr)(cap k0:Nat)(w:World)(hl:(n:Int)<=1048576)(hk1:1<=(k0:Int))(hk2:(FJ k0 x n:Int)<=1073741824)(hc:In w ad g n x):Calls prog 61 #[.l ad n cap,.i k0] w λe w'=>e=.returned (.i (FJ k0 x n))/\In w' ad g n (SX k0 x n)/\AP (λk=>0<n/\k=g) w w':=by
 go_enter func61,ntmps61;go_wp2;go_loopw[1,5](λt i wr=>∃k:Nat,k<=n/\i=.i k/\t=.i (FJ k0 x k)/\AP (λk=>0<n/\k=g) w wr/\In wr ad g n (SX k0 x k))(λ_ i _=>n-(intOf i).toNat);case atStart=>exact⟨0,Ap _,rfl,rfl,AP.refl _ _,by rw[XT];exact hc⟩
 case round=>
  obtain⟨k,hk,rfl,rfl,hfr,ho⟩:=hrel;clear hc;by_cases hkn:k<n
  .have hmo:=VD k0 x (k:=k+1) (n:=n) Za;have hm1:1<=FJ k0 x k:=by rw[MR];omega
   have hms:FJ k0 x (k+1)=FJ k0 x k+6:=rfl;have HM:Hid (FJ k0 x (k+1)=FJ k0 x k+6):=hms;have hm:FJ k0 x k+6<=1073741824:=Za;clear hmo hms;obtain⟨m,hme⟩:∃m,FJ k0 x k=m:=⟨_,rfl⟩;rw[hme]at hm1 hm HM⊢;have YZ:=Ai hme;clear hme;obtain rfl:=ho.addr Za;obtain⟨c,r0,hat⟩:=ho.row Za;have KO:=Ai hat;have hfr':=Ai hfr;clear ho hat hfr;have f0:AP (λq=>q=g) wr wr:=AP.refl _ _;have q0:=r0.cell (k*6) Za;have qf0:=r0.free;go_wp2_with fail;refine(BI _ (m+1) Za _ Za Za).mono ?_;rintro e w1 ⟨rfl,b1⟩;have r1:=(r0.set (o:=k*6) Za _).below b1 tP;have f1:=(f0.setCell (p:=⟨g,k*6,none⟩) rfl _).trans (Aq b1);clear q0 qf0 r0 f0 b1;have q1:=r1.cell (k*6+1) Za;have qf1:=r1.free;go_wp2_with fail;refine(BI _ (m+2) Za _ Za Za).mono ?_;rintro e w2 ⟨rfl,b2⟩;have r2:=(r1.set (o:=k*6+1) Za _).below b2 tN;have f2:=(f1.setCell (p:=⟨g,k*6+1,none⟩) rfl _).trans (Aq b2);clear q1 qf1 r1 f1 b2;have q2:=r2.cell (k*6+2) Za;have q3:=r2.cell (k*6+3) Za;have qf2:=r2.free;go_wp2_with fail;refine(BI _ (m+4) Za _ Za Za).mono ?_;rintro e w3 ⟨rfl,b3⟩;have r3:=((r2.set (o:=k*6+2) Za _).set (o:=k*6+3) Za _).below b3 xO;have f3:=((f2.setCell (p:=⟨g,k*6+2,none⟩) rfl _).setCell (p:=⟨g,k*6+3,none⟩) rfl _).trans (Aq b3);clear q2 q3 qf2 r2 f2 b3;have q4:=r3.cell (k*6+4) Za;have qf3:=r3.free;go_wp2_with fail;refine(BI _ (m+5) Za _ Za Za).mono ?_;rintro e w4 ⟨rfl,b4⟩;have r4:=(r3.set (o:=k*6+4) Za _).below b4 (by first|exact r3.lt|(simp only[Az];exact r3.lt));have f4:=(f3.setCell (p:=⟨g,k*6+4,none⟩) rfl _).trans (Aq b4);clear q4 qf3 r3 f3 b4;have q5:=r4.cell (k*6+5) Za;have qf4:=r4.free;go_wp2;go_roundw;case rel=>
    refine⟨k+1,Za,by go_num,by rw[HM.out];apply congrArg;omega,hfr'.out.trans (AP.mono (f4.setCell (p:=⟨g,k*6+5,none⟩) rfl _) (λq hq=>⟨Za,hq⟩)),λ_=>rfl,λ_=>⟨_,(r4.set (o:=k*6+5) Za _),λi hi=>?_⟩⟩;by_cases e:i=k;.subst e;rw[kW (Bp i),YZ.out];refine⟨?_,?_,?_,?_,?_,?_⟩;all_goals first|(simp[D9,dD];done)|(simp[D9,dD];omega)|(simp[D9,dD];exact TX Za)
    .rw[nJ e];exact(Jj (Jj (Jj (Jj (Jj (Jj (KO i hi) e (k:=k) Za Za _) e (k:=k) Za Za _) e (k:=k) Za Za _) e (k:=k) Za Za _) e (k:=k) Za Za _) e (k:=k) Za Za _)
   case measure=>simp[intOf];omega
  .have:k=n:=Za;subst this;have HO:=Ai ho;clear ho;go_wp2;go_ret;exact⟨rfl,HO,hfr⟩
structure Bu where
 wn:Nat
 ws:Nat->Wt
 rn:Nat
 rs:Nat->Wr
abbrev vU (x:Bu)(a b:OA)(d e:Nat):Array Value:=#[.l a x.wn d,.l b x.rn e]
abbrev XE (x:Bu)(a b:OA)(d e:Nat):List Value:=[.l a x.wn d,.l b x.rn e]
structure VH (x:Bu):Prop where
 w:(x.wn:Int)<=8796093022208
 r:(x.rn:Int)<=8796093022208
 ws:∀i,i<x.wn->PA (x.ws i)rs:∀i,i<x.rn->Kq (x.rs i)
structure Ek (x:Bu):Prop where
 w:(x.wn:Int)<=1048576
 r:(x.rn:Int)<=1048576
 ws:∀i,i<x.wn->PA (x.ws i)rs:∀i,i<x.rn->Kq (x.rs i)
structure CG (w:World)(lo hi:Nat)(x:Bu)(a1 a2:OA):Prop where
 wt:JQ w lo hi a1 x.wn x.ws
 wr:JR w lo hi a2 x.rn x.rs
theorem CG.below{w w':World}{B lo hi:Nat}{x:Bu}{a1 a2:OA}(h:CG w lo hi x a1 a2)(hb:Below B w w')(hB:hi<=B):CG w' lo hi x a1 a2:=⟨h.wt.below hb hB,h.wr.below hb hB⟩
theorem CG.mono{w:World}{lo lo' hi hi':Nat}{x:Bu}{a1 a2:OA}(h:CG w lo hi x a1 a2)(hl:lo'<=lo)(hh:hi<=hi'):CG w lo' hi' x a1 a2:=⟨h.wt.mono hl hh,h.wr.mono hl hh⟩
theorem CG.grow{w w':World}{lo:Nat}{x:Bu}{a1 a2:OA}(h:CG w lo w.1.size x a1 a2)(hb:Below w.1.size w w'):CG w' lo w'.1.size x a1 a2:=(h.below hb Bj).mono Bj hb.size
def RF (x:Bu):Nat:=Ml x.wn x.ws+N8 x.rn x.rs
theorem cY (x:Bu)(a1 a2:OA)(c1 c2:Nat)(left:Int)(w:World)(h0:0<=left)(h1:left<=1048576)(lo hi:Nat)(hhi:hi<=w.1.size)(hf:VH x)(hc:CG w lo hi x a1 a2):Calls prog 17 #[.agg #[.l a1 x.wn c1,.l a2 x.rn c2],.i left] w λe w'=>e=.returned (.i (CU left (RF x)))/\Below w.1.size w w':=by
 obtain⟨f1,f2,f3,f4⟩:=hf;have hc1:=hc.below (Ae w (.cells #[.l a1 x.wn c1,.l a2 x.rn c2] 50)) hhi;clear hc;unfold RF;go_enter func17,ntmps17;go_wp2_with (first|(go_at_call 51;refine(XO x.wn x.ws a1 c1 left _ lo hi Zd Za h0 h1 f3 hc1.wt).mono ?_;rintro e w1 ⟨rfl,hb1⟩;have k1:=Au hb1 1;simp only[Ah,Ad,Ab]at k1)|(go_at_call 52;refine(Yf x.rn x.rs a2 c2 _ _ lo hi (AA Zd hb1.size) Za M0 (by have:=C8 M0;omega) f4 (hc1.wr.below hb1 Zd)).mono ?_;rintro e w2 ⟨rfl,hb2⟩;have hb12:=hb1.trans (hb2.mono hb1.size)));.go_ret;exact⟨Bs (Cp sJ).symm,(Ae _ _).trans (hb1.mono Ze)⟩
 .go_ret;obtain⟨g1,g2⟩:=C8 (l:=left) M0;exact⟨Bs (Cp sJ).symm,(Ae _ _).trans (hb12.mono Ze)⟩
 .go_ret;obtain⟨g1,g2⟩:=C8 (l:=left) M0;obtain⟨g3,g4⟩:=C8 (l:=CU left (Ml x.wn x.ws)) M0;exact⟨Bs (by have h:=Dx (left:=left) (s:=Ml x.wn x.ws+N8 x.rn x.rs) Za;omega),(Ae _ _).trans (hb12.mono Ze)⟩
structure JK (w:World)(x:Bu)(a1 a2:OA)(g1 g2:Nat):Prop where
 wt:Im w a1 g1 x.wn x.ws
 wr:In w a2 g2 x.rn x.rs
 d:0<x.wn->0<x.rn->¬g1=g2
def Ph (x:Bu)(g1 g2 k:Nat):Prop:=(0<x.wn/\k=g1)\/(0<x.rn/\k=g2)
theorem JK.fr{w w':World}{x:Bu}{a1 a2:OA}{g1 g2:Nat}{Q:Nat->Prop}(h:JK w x a1 a2 g1 g2)(hf:AP Q w w')(hq:∀k,Ph x g1 g2 k->¬Q k):JK w' x a1 a2 g1 g2:=⟨h.wt.fr hf (λh0=>hq _ (AD ⟨h0,rfl⟩)),h.wr.fr hf (λh0=>hq _ (Ax ⟨h0,rfl⟩)),h.d⟩
theorem JK.grow{w w':World}{x:Bu}{a1 a2:OA}{g1 g2:Nat}(h:JK w x a1 a2 g1 g2)(hf:Below w.1.size w w'):JK w' x a1 a2 g1 g2:=⟨h.wt.grow hf,h.wr.grow hf,h.d⟩
theorem JK.blt{w:World}{x:Bu}{a1 a2:OA}{g1 g2 k:Nat}(h:JK w x a1 a2 g1 g2)(hk:Ph x g1 g2 k):k<w.1.size:=by
 rcases hk with⟨h0,rfl⟩|⟨h0,rfl⟩;.exact h.wt.lt h0
 .exact h.wr.lt h0
theorem JK.isIn{w:World}{x:Bu}{a1 a2:OA}{g1 g2:Nat}(h:JK w x a1 a2 g1 g2){lo:Nat}(hlo:∀k,Ph x g1 g2 k->lo<=k):CG w lo w.1.size x a1 a2:=⟨h.wt.isIn (λh0=>hlo _ (AD ⟨h0,rfl⟩)),h.wr.isIn (λh0=>hlo _ (Ax ⟨h0,rfl⟩))⟩
theorem ZJ (x:Bu)(a1 a2:OA)(c1 c2:Nat)(w:World)(lo hi:Nat)(hhi:hi<=w.1.size)(hf:Ek x)(hc:CG w lo hi x a1 a2):Calls prog 19 #[.agg #[.l a1 x.wn c1,.l a2 x.rn c2]] w λe w'=>∃g1 g2,e=.returned (.agg #[.l (some ⟨g1,0,none⟩) x.wn x.wn,.l (some ⟨g2,0,none⟩) x.rn x.rn])/\JK w' x (some ⟨g1,0,none⟩) (some ⟨g2,0,none⟩) g1 g2/\w.1.size<=g1/\w.1.size<=g2/\g1<w'.1.size/\g2<w'.1.size/\Below w.1.size w w':=by
 obtain⟨f1,f2,f3,f4⟩:=hf;go_enter func19,ntmps19;go_wp2_with fail;refine(XD x.wn x.ws a1 c1 _ lo hi Zd Za (hc.wt.below (B:=w.1.size) ((((Ak _ _).alloc Bj _).alloc Ze _).alloc Zd _) hhi)).mono ?_;rintro e w1 ⟨rfl,ho1,hb1⟩;have hB1:Below w.1.size w w1:=((((Ak _ _).alloc Bj _).alloc Ze _).alloc Zd _).trans (hb1.mono Zd);obtain⟨A0,A1,A2,F1,F2⟩:=BE hb1;have b0:=A0 0;have b1:=A0 1;have p0:=A1 0;have p1:=A1 1;have o0:=A2 0;have o1:=A2 1;simp only[Ah,Ad,Ab]at b0 b1 p0 p1 o0 o1;have hz1:w.1.size+1+1<w1.1.size:=by have:=hb1.size;simp at this;omega
 simp only[AE]at ho1⊢;clear A0 A1 A2 hb1;have hl1:=ho1.room.lt;have Oz:=Ai ho1.at;clear ho1;go_wp2_with fail;refine(Xf x.rn x.rs a2 c2 _ lo hi (by rw[Az];have:=hB1.size;omega) Za (hc.wr.below (B:=w.1.size) (hB1.setCell (p:=⟨w.1.size+1+1,0,none⟩) sM _) hhi)).mono ?_;rintro e w2 ⟨rfl,ho2,hb2⟩;have hz2:w1.1.size<w2.1.size:=by have:=ho2.room.lt;rw[Az]at this;exact this
 have hB2:Below w.1.size w w2:=(hB1.setCell (p:=⟨w.1.size+1+1,0,none⟩) sM _).trans (hb2.mono (by rw[Az];omega));have p0':=(BY hb2 (p:=⟨w.1.size+1,0,none⟩) Zp Ze).trans p0;have p1':=(BY hb2 (p:=⟨w.1.size+1,1,none⟩) Zp Ze).trans p1;have o0':=Hc hb2 Zt o0;have o1':=(BY hb2 (p:=⟨w.1.size+1+1,1,none⟩) Zt Ze).trans o1;have F1':∀i,w2.frozen? ⟨w.1.size+1,i,none⟩=false:=λi=>(Dm hb2 (p:=⟨w.1.size+1,i,none⟩) Zp).trans (F1 i);have F2':∀i,w2.frozen? ⟨w.1.size+1+1,i,none⟩=false:=λi=>(Dm hb2 (p:=⟨w.1.size+1+1,i,none⟩) Zt).trans (F2 i);have Qw:=Ai hb2;rw[Az]at ho2⊢;have hl2:=ho2.room.lt;have Um:=Ai ho2.at;clear ho2 hb2 b0 b1 p0 p1 o0 o1 F1 F2;go_wp2;refine bodyPost_ret (v:=.agg #[.l (some ⟨w.1.size+1+1+1,0,none⟩) x.wn x.wn,.l (some ⟨w1.1.size,0,none⟩) x.rn x.rn]) (by simp[results,results19,go_sem,p0',p1']) rfl ⟨_,_,rfl,?_,Za,Za,?_,?_,?_⟩;.have FF:=(((AP.refl (λq=>q=w.1.size+1\/q=w.1.size+1+1) w2).setCell (p:=⟨w.1.size+1+1,1,none⟩) (Ax rfl) (.l (some ⟨w1.1.size,0,none⟩) x.rn x.rn)).setCell (p:=⟨w.1.size+1,0,none⟩) (AD rfl) (.l (some ⟨w.1.size+1+1+1,0,none⟩) x.wn x.wn)).setCell (p:=⟨w.1.size+1,1,none⟩) (AD rfl) (.l (some ⟨w1.1.size,0,none⟩) x.rn x.rn);refine⟨?_,Um.fr FF (λ_ e=>by rcases e with e|e<;>omega),λ_ _=>by omega⟩;exact((Oz.fr ((AP.refl (λq=>q=w.1.size+1+1) w1).setCell (p:=⟨w.1.size+1+1,0,none⟩) rfl _) (λ_ e=>by have e':w.1.size+1+1+1=w.1.size+1+1:=e;omega)).grow Qw).fr FF (λ_ e=>by rcases e with e|e<;>omega)
 .simp only[Az];omega
 .simp only[Az];omega
 .repeat(first|with_reducible exact hB2|with_reducible refine AJ ?_ (by first|(show w.1.size<=w.1.size+1;omega)|(show w.1.size<=w.1.size+1+1;omega)) _)
theorem Z3 (x:Bu)(a1 a2 b1 b2:OA)(c1 c2 d1 d2:Nat)(w:World)(lo hi lo2 hi2:Nat)(hh:hi<=w.1.size)(hh2:hi2<=w.1.size)(hf:Ek x)(hc:CG w lo hi x a1 a2)(hc2:CG w lo2 hi2 x b1 b2):Calls prog 21 #[.agg #[.l a1 x.wn c1,.l a2 x.rn c2],.agg #[.l b1 x.wn d1,.l b2 x.rn d2]] w λe w'=>e=.returned (.bool true)/\Below w.1.size w w':=by obtain⟨f1,f2,f3,f4⟩:=hf;go_enter func21,ntmps21;go_wp2_with fail;refine(XY x.wn x.ws a1 b1 c1 d1 _ lo hi lo2 hi2 Zd Zd Za (hc.wt.below (B:=w.1.size) ((Ae _ _).alloc Ze _) hh) (hc2.wt.below (B:=w.1.size) ((Ae _ _).alloc Ze _) hh2)).mono ?_;rintro e w1 ⟨rfl,hb1⟩;have hB1:Below w.1.size w w1:=((Ae _ _).alloc Ze _).trans (hb1.mono Zd);have hz:=hb1.size;obtain⟨A0,A1,_,_⟩:=Kl hb1;have u1:=A0 1;have v1:=A1 1;simp only[AE]at hz;simp only[Ah,Ad,Ab]at u1 v1;clear A0 A1 hb1;go_wp2_with fail;refine(Xt x.rn x.rs a2 b2 c2 d2 _ lo hi lo2 hi2 Za Za Za (hc.wr.below hB1 hh) (hc2.wr.below hB1 hh2)).mono ?_;rintro e w2 ⟨rfl,hb2⟩;have hB2:Below w.1.size w w2:=hB1.trans (hb2.mono hB1.size);go_wp2;go_ret;exact⟨rfl,hB2⟩
def Sd (k0:Nat)(x:Bu):Nat:=FJ (Eu k0 x.ws x.wn) x.rs x.rn
def cW (k0:Nat)(x:Bu):Bu:={x with ws:=SN k0 x.ws x.wn,rs:=SX (Eu k0 x.ws x.wn) x.rs x.rn}
theorem VK (x:Bu)(a1 a2:OA)(g1 g2 c1 c2 k0:Nat)(w:World)(l1:(x.wn:Int)<=1048576)(l2:(x.rn:Int)<=1048576)(hk1:1<=(k0:Int))(hk2:(Sd k0 x:Int)<=1073741824)(hc:JK w x a1 a2 g1 g2):Calls prog 22 #[.agg #[.l a1 x.wn c1,.l a2 x.rn c2],.i k0] w λe w'=>e=.returned (.i (Sd k0 x))/\JK w' (cW k0 x) a1 a2 g1 g2/\AP (Ph x g1 g2) w w':=by
 have m1:k0<=Eu k0 x.ws x.wn:=by rw[MG];omega
 have m2:Eu k0 x.ws x.wn<=Sd k0 x:=by unfold Sd;rw[MR];omega
 have hk3:(FJ (Eu k0 x.ws x.wn) x.rs x.rn:Int)<=1073741824:=hk2;have HC:=Ai hc;have hA:=Ai (hc.grow (Ae w (.cells #[.l a1 x.wn c1,.l a2 x.rn c2] 57)));clear hc;go_enter func22,ntmps22;go_wp2_with fail;refine(Uf a1 g1 x.wn x.ws c1 k0 _ l1 hk1 Za hA.wt).mono ?_;rintro e w1 ⟨rfl,o1,f1⟩;have q1:w1.cell? ⟨w.1.size,1,none⟩=some (.slice a2 x.rn c2):=(f1.cell (p:=⟨w.1.size,1,none⟩) Ze (λh=>Bt _ (HC.blt (k:=w.1.size) (AD h)))).trans (At _ _ _ _);have O1:=Ai o1;have F1:=Ai f1;have H1:=Ai (hA.wr.fr f1 (λh2 (h1:0<x.wn/\g2=g1)=>HC.d h1.1 h2 h1.2.symm));clear o1 f1 hA;go_wp2_with fail;refine(Tx a2 g2 x.rn x.rs c2 (Eu k0 x.ws x.wn) _ l2 Za hk3 H1).mono ?_;rintro e w2 ⟨rfl,o2,f2⟩;have O2:=Ai o2;have F2:=Ai f2;clear o2 f2 q1;go_wp2;go_ret;have d:=HC.d;refine⟨rfl,⟨O1.fr F2 (λh1 (h2:0<x.rn/\g1=g2)=>d h1 h2.1 h2.2),O2,d⟩,?_⟩;exact((Aq (Ae w _)).trans (F1.mono (λk h=>AD h))).trans (F2.mono (λk h=>Ax h))
theorem kV (x:Bu)(k0 g1 g2:Nat):Ph (cW k0 x) g1 g2=Ph x g1 g2:=rfl
end Go.Proofs.YtllmmkchokkaaaaGreatDoor
