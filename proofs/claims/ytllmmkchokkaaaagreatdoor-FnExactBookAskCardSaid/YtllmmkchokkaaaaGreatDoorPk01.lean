import Derived.Test.YtllmmkchokkaaaaGreatDoorAp
import Derived.Test.YtllmmkchokkaaaaGreatDoorRows
import Derived.WalkKit
import Derived.WalkSpells
import Derived.WalkLawsBesides
import Derived.Laws.IdiomStrings
import Derived.Deep.RegionWith
import Derived.Deep.QuietTactic
import Derived.BigQuiet
set_option maxRecDepth 100000
set_option maxHeartbeats 400000
namespace Go.Proofs.YtllmmkchokkaaaaGreatDoor
open Go.RowKit Go.Proofs.Tryz
theorem Ai{p:Prop}(h:p):Hid p:=h
def AB (w:World)(lo hi:Nat)(ad:OA)(n:Nat)(s:Nat->ByteArray):Prop:=∀i,i<n->∃b off,ad=some ⟨b,off,none⟩/\lo<=b/\b<hi/\w.cell? ⟨b,off+i,none⟩=some (.s (s i))
def AV (w:World)(lo hi:Nat)(ad:OA)(n:Nat)(s:Nat->ByteArray):Prop:=∀i,i<n->∃b off,ad=some ⟨b,off,none⟩/\lo<=b/\b<hi/\w.cell? ⟨b,off+i,none⟩=some (.s (s i))/\w.frozen? ⟨b,off+i,none⟩=false
def Du (w:World)(n:Nat)(ad:OA)(cap:Nat):Prop:=n<=cap/\((ad=none/\n=0/\cap=0)\/∃b off,ad=some ⟨b,off,none⟩/\b<w.1.size)
theorem Du.grow{w w':World}{n:Nat}{ad:OA}{cap:Nat}(h:Du w n ad cap)(hz:w.1.size<=w'.1.size):Du w' n ad cap:=⟨h.1,h.2.imp id (λ⟨b,off,e1,e2⟩=>⟨b,off,e1,Aa e2 hz⟩)⟩
theorem DZ:(prog.info? 9).map (λi=>(i.zero,i.size,i.bytes))=some (some (.s ByteArray.empty),1,16):=Zc
theorem UM{w':World}{g n:Nat}{base:Nat}{xs:List Value}(ho:w'.ownsRow base 9 1 (.l (some ⟨g,0,none⟩) n n) n xs):(∀j,j<n->∃u,w'.cell? ⟨g,j,none⟩=some u)/\(∀j,w'.frozen? ⟨g,j,none⟩=false)/\g<w'.1.size:=by
 refine⟨λj hj=>?_,λj=>ho.frozenAt j,?_⟩
 .rw[ho.cellAt j Za];have:j<xs.length:=by rw[ho.1];omega
  exact⟨xs[j],by simp[this]⟩
 .rcases ho.2 with⟨h,_⟩|⟨g',cap,cur,h,_,hh,_⟩;.simp at h
  .simp only[Value.slice.injEq,AR,Addr.mk.injEq,and_true,true_and]at h;obtain⟨rfl,rfl⟩:=h;exact(Cj.1 hh).1
theorem S1{w wr:World}{n k:Nat}{s:Nat->ByteArray}(hb:Below w.1.size w wr)(hsz:w.1.size<wr.1.size)(hce:∀j,j<n->∃u,wr.cell? ⟨w.1.size,j,none⟩=some u)(hfr:∀j,wr.frozen? ⟨w.1.size,j,none⟩=false)(hd:∀j,j<k->wr.cell? ⟨w.1.size,j,none⟩=some (.s (s j)))(hk:k<n):let w2:=wr.setCell ⟨w.1.size,k,none⟩ (.s (s k))
  Below w.1.size w w2/\w.1.size<w2.1.size/\(∀j,j<n->∃u,w2.cell? ⟨w.1.size,j,none⟩=some u)/\(∀j,w2.frozen? ⟨w.1.size,j,none⟩=false)/\∀j,j<k+1->w2.cell? ⟨w.1.size,j,none⟩=some (.s (s j)):=by
 refine⟨hb.setCell Bj _,by simpa[World.setCell]using hsz,λj hj=>?_,λj=>by rw[Ju];exact hfr j,λj hj=>?_⟩;.obtain⟨u,hu⟩:=hce j hj;exact cell?_setCell_some hu
 .obtain⟨u,hu⟩:=hce k hk;by_cases e:j=k;.subst e;exact Ct _ _ _ hu
  .rw[Cq _ _ _ _ (λh=>e (by cases h;rfl))];exact hd j Za
theorem VF (n:Nat)(s:Nat->ByteArray)(ad:OA)(cap:Nat)(w:World)(lo hi:Nat)(hhi:hi<=w.1.size)(hl:(n:Int)<=8796093022208)(hc:AB w lo hi ad n s):Calls prog 133 #[.l ad n cap] w λe w'=>∃ad' cap',e=.returned (.l ad' n cap')/\Du w' n ad' cap'/\AV w' w.1.size w'.1.size ad' n s/\Below w.1.size w w':=by
 obtain⟨i0,hi0,hz0,hz1,hz2⟩:=info_parts DZ;go_enter func133,ntmps133;go_wp2_with (first
  |(at_make;refine wpList_make_full _ rfl _ _ 108 rfl w.1.size 9 i0 (.s ByteArray.empty) 1 underlying108 hi0 hz0 hz1 .i64 .i64 _ _ n rfl rfl Za Za Sx Zn Za ?_;intro w1 hown1 hgrow1));obtain⟨r1,r2,r3⟩:=UM hown1;have hb1:Below w.1.size w w1:=(Ak _ _).grown hgrow1 Bj Ze;clear hown1 hgrow1 hi0 hz0 hz1 hz2;go_loopw[4] (λi wr=>∃k:Nat,k<=n/\i=.i k/\Below w.1.size w wr/\w.1.size<wr.1.size/\(∀j,j<n->∃u,wr.cell? ⟨w.1.size,j,none⟩=some u)/\(∀j,wr.frozen? ⟨w.1.size,j,none⟩=false)/\∀j,j<k->wr.cell? ⟨w.1.size,j,none⟩=some (.s (s j)))(λi _=>n-(intOf i).toNat);case atStart=>exact⟨0,Ap _,rfl,hb1,r3,r1,r2,λj hj=>absurd hj (Al _)⟩
 case round=>
  obtain⟨k,hk,rfl,hb,hsz,hce,hfr,hdone⟩:=hrel;clear r1 r2 r3 hb1;by_cases hkn:k<n
  .obtain⟨b,off,rfl,hlo,hbh,hcx⟩:=hc k hkn;have hcx':wr.cell? ⟨b,off+k,none⟩=some (.s (s k)):=(hb.cell (p:=⟨b,off+k,none⟩) Zj).trans hcx;obtain⟨u,hu⟩:=hce k hkn;have hfk:=hfr k;have R:=S1 (s:=s) hb hsz hce hfr hdone hkn;clear hc hcx hce hfr hdone;have HR:=Ai R;clear R;go_wp2;go_roundw;case rel=>exact⟨k+1,Za,by go_num,HR⟩
   case measure=>simp[intOf];omega
  .have:k=n:=Za;subst this;have HR:=Ai (Lh hsz (Lh hfr hdone));clear hc hce hfr hdone;go_wp2;go_ret;exact⟨_,_,rfl,⟨Aw _,Ax ⟨_,_,rfl,HR.out.1⟩⟩,λi hi=>⟨_,0,rfl,Aw _,HR.out.1,by simpa using HR.out.2.2 i hi,by simpa using HR.out.2.1 i⟩,hb⟩
def AN (f:Nat->Nat):Nat->Nat|0=>0|k+1=>AN f k+f k
theorem DX (f:Nat->Nat){k n:Nat}(h:k<=n):AN f k<=AN f n:=by induction n with
 |zero=>have:k=0:=Za;subst this;exact Aw _
 |succ m ih=>
   rcases As m k with h1|h1;.have:k=m+1:=Za;subst this;exact Aw _
   .exact AA (ih h1) (by simp[AN])
def Ig (n:Nat)(s:Nat->ByteArray):Nat:=n+AN (λi=>(s i).size) n
def CU (left:Int)(s:Nat):Int:=if(s:Int)<=left then left-s else-1
theorem Cp{left:Int}{s:Nat}(h:left<s):CU left s=-1:=if_neg Za
theorem Dx{left:Int}{s:Nat}(h:(s:Int)<=left):CU left s=left-s:=if_pos h
theorem Bs{k:IntKind}{a b:Int}(h:a=b):Ending.returned (.int k a)=.returned (.int k b):=by rw[h]
theorem Vx (n:Nat)(s:Nat->ByteArray)(ad:OA)(cap:Nat)(left:Int)(w:World)(hl:(n:Int)<=140737488355328)(h0:0<=left)(h1:left<=1048576)(hm:∀i,i<n->((s i).size:Int)<=140737488355328)(lo hi:Nat)(hc:AB w lo hi ad n s):Calls prog 125 #[.l ad n cap,.i left] w λe w'=>e=.returned (.i (CU left (Ig n s)))/\w'=w:=by
 by_cases hlt:left-n<0;.go_enter func125,ntmps125;go_wp2;go_ret;refine⟨Bs ?_,rfl⟩;rw[Cp (by unfold Ig;omega)]
 .go_enter func125,ntmps125;go_wp2;go_loop[1,5] (λt i=>∃k:Nat,k<=n/\i=.i k/\t=.i (left-n-(AN (λi=>(s i).size) k:Nat))/\0<=left-n-(AN (λi=>(s i).size) k:Nat))(λ_ i=>n-(intOf i).toNat);case atStart=>exact⟨0,Ap _,rfl,by simp[AN],by simp[AN];omega⟩
  case round=>
   obtain⟨k,hk,rfl,rfl,hnn⟩:=hrel;have hst:AN (λi=>(s i).size) (k+1)=AN (λi=>(s i).size) k+(s k).size:=rfl;have hmo:k<n->AN (λi=>(s i).size) (k+1)<=AN (λi=>(s i).size) n:=λh=>DX _ h;generalize hq:AN (λi=>(s i).size) k=q at*;generalize hq1:AN (λi=>(s i).size) (k+1)=q1 at*;by_cases hkn:k<n
   .obtain⟨b,off,ha,hlo,hbh,hcx⟩:=hc k hkn;have hmx:=hm k hkn;have hmo:=hmo hkn;generalize hs:s k=sk at*;have HS:Hid (q1=q+sk.size):=hst;have HQ:Hid (AN (λi=>(s i).size) (k+1)=q1):=hq1;have HA:Hid (ad=some ⟨b,off,none⟩):=ha;clear hst hq hq1 hs hc hm;subst ha;clear HA;go_wp2;.go_ret;refine⟨Bs ?_,rfl⟩;have:=HS.out;rw[Cp (by unfold Ig;omega)]
    .have hs:=HS.out;go_round;case rel=>exact⟨k+1,Za,by go_num,by rw[HQ.out];apply congrArg;omega,by rw[HQ.out];omega⟩
     case measure=>simp[intOf];omega
   .have:k=n:=Za;subst this;clear hc hm hst hmo hq1;have HQ:Hid (AN (λi=>(s i).size) k=q):=hq;clear hq;go_wp2;go_ret;refine⟨Bs ?_,rfl⟩;have:=HQ.out;rw[Dx (by unfold Ig;omega)];unfold Ig;omega
structure Fr (lo hi:Nat)(w w':World):Prop where
 os:w'.os=w.os
 tape:w'.tape=w.tape
 output:w'.output=w.output
 size:w.1.size<=w'.1.size
 block:∀k,k<w.1.size->(k<lo\/hi<=k)->w'.heap[k]?=w.heap[k]?
theorem Fr.refl (lo hi:Nat)(w:World):Fr lo hi w w:=⟨rfl,rfl,rfl,Aw _,λ_ _ _=>rfl⟩
theorem Fr.trans{lo hi:Nat}{a b c:World}(h:Fr lo hi a b)(k:Fr lo hi b c):Fr lo hi a c:=⟨k.os.trans h.os,k.tape.trans h.tape,k.output.trans h.output,AA h.size k.size,λi hi ho=>(k.block i (Aa hi h.size) ho).trans (h.block i hi ho)⟩
theorem DP{lo hi:Nat}{w w':World}(h:Below w.1.size w w'):Fr lo hi w w':=⟨h.os,h.tape,h.output,h.size,λi hi _=>h.block i hi⟩
theorem Fr.setCell{lo hi:Nat}{a w:World}(h:Fr lo hi a w){p:Addr}(h1:lo<=p.block)(h2:p.block<hi)(u:Value):Fr lo hi a (w.setCell p u):=h.trans ⟨rfl,rfl,rfl,by simp[World.setCell],λk _ ho=>Below.heap_setCell _ _ _ _ Za⟩
theorem Fr.cell{lo hi:Nat}{w w':World}(h:Fr lo hi w w'){p:Addr}(hp:p.block<w.1.size)(ho:p.block<lo\/hi<=p.block):w'.cell? p=w.cell? p:=World.cell?_of_block (w:=w) (h.block p.block hp ho)
theorem Fr.frozen{lo hi:Nat}{w w':World}(h:Fr lo hi w w'){p:Addr}(hp:p.block<w.1.size)(ho:p.block<lo\/hi<=p.block):w'.frozen? p=w.frozen? p:=World.frozen?_of_block (w:=w) (h.block p.block hp ho)
theorem Fr.below{lo hi:Nat}{w w':World}(h:Fr lo hi w w'){B:Nat}(hB:B<=lo)(hs:B<=w.1.size):Below B w w':=⟨h.os,h.tape,h.output,h.size,λk hk=>h.block k Za (AD Za)⟩
def Qq:Nat->Nat->List UInt8->List UInt8
 |0,_,acc=>acc
 |f+1,k,acc=>if k=0 then acc else Qq f (k/10) ((48+UInt8.ofNat (k%10))::acc)
theorem Ys (f:Nat)(acc:List UInt8):Qq f 0 acc=acc:=by cases f<;>simp[Qq]
theorem XS (f k:Nat)(acc:List UInt8)(h:k<=f)(hk:0<k):Qq f k acc=Qq (f-1) (k/10) ((48+UInt8.ofNat (k%10))::acc):=by
 obtain⟨f,rfl⟩:∃g,f=g+1:=⟨f-1,Za⟩;conv=>lhs;unfold Qq
 rw[if_neg Za];rfl
def mt (k:Nat):ByteArray:=⟨(109::Qq k k []).toArray⟩
theorem kE (w:World)(x:Int)(hx0:0<=x)(hx1:x<256):(convert 217 9 (Value.slice (some ⟨w.1.size,0,none⟩) 1 1)).run prog (w.alloc (.cells #[.int .u8 x] 5))=.ok (.s ⟨#[UInt8.ofNat x.toNat]⟩) (w.alloc (.cells #[.int .u8 x] 5)):=by
 have:=run_convert_bytes_back (P:=prog) (w.alloc (.cells #[.int .u8 x] 5)) 217 9 5 ⟨w.1.size,0,none⟩ 1 [UInt8.ofNat x.toNat] underlying217 underlying5 underlying9 (by
  intro i hi;have:i=0:=by simpa using hi
  subst this;have e:((⟨w.1.size,0,none⟩:Addr).add 0)=⟨w.1.size,0,none⟩:=by simp[Addr.add]
  rw[e,At];simp;omega);simpa using this
theorem JE (k:Nat)(w:World)(h1:1<=(k:Int))(h2:(k:Int)<=1099511627776):Calls prog 107 #[.i k] w λe w'=>e=.returned (.s (mt k))/\Below w.1.size w w':=by
 go_enter func107,ntmps107;go_wp2;go_loopw[0,3] (λt o wr=>∃(j f:Nat)(acc:List UInt8),t=.i j/\o=.s ⟨acc.toArray⟩/\j<=f/\acc.length+j<=k/\Qq f j acc=Qq k k []/\Below w.1.size w wr)(λt _ _=>(intOf t).toNat);case atStart=>exact⟨k,k,[],rfl,rfl,Aw _,Ze,rfl,Ak _ _⟩
 case round=>
  obtain⟨j,f,acc,rfl,rfl,hjf,hal,hgo,hb⟩:=hrel;have HG:=Ai hgo;clear hgo;have hsz:((⟨acc.toArray⟩:ByteArray).size)=acc.length:=by simp[ByteArray.size]
  by_cases hj0:0<(j:Int)
  .have hcv':=kE wr (48+(j:Int)%10) Za Za;go_wp2;go_roundw;case rel=>exact⟨j/10,f-1,_::acc,by go_num,rfl,Za,Zd,by rw[<-HG.out,XS f j acc hjf Za],hb.alloc hb.size _⟩
   case measure=>simp[intOf];omega
  .have hj:j=0:=Za;subst hj;have aa:Hid (acc=Qq k k []):=by have:=HG.out;rw[Ys]at this;exact this
   clear HG;go_wp2;go_ret;refine⟨?_,hb⟩;rw[mt,<-aa.out];exact congrArg (λx=>Ending.returned (Value.string x)) rfl
theorem iJ{wr w1:World}{lo hi b off n k k0:Nat}{s:Nat->ByteArray}(hown:AV wr lo hi (some ⟨b,off,none⟩) n (λi=>if i<k then mt (k0+i)else s i))(hb1:Below wr.1.size wr w1)(hhi:hi<=wr.1.size)(hkn:k<n){u:Value}(hu:w1.cell? ⟨b,off+k,none⟩=some u):AV (w1.setCell ⟨b,off+k,none⟩ (.s (mt (k0+k)))) lo hi (some ⟨b,off,none⟩) n (λi=>if i<k+1 then mt (k0+i)else s i):=by
 intro i hi';obtain⟨b',off',e,e1,e2,e3,e4⟩:=hown i hi';cases e;refine⟨b,off,rfl,e1,e2,?_,by rw[Ju,hb1.frozen (p:=⟨b,off+i,none⟩) (Aa e2 hhi)];exact e4⟩;by_cases e:i=k;.subst e;rw[Ct _ _ _ hu];dsimp only;rw[if_pos Za]
 .rw[Cq _ _ _ _ (λh=>e (by injection h;omega)),hb1.cell (p:=⟨b,off+i,none⟩) (Aa e2 hhi),e3];dsimp only;by_cases h:i<k;.rw[if_pos h,if_pos Za]
  .rw[if_neg h,if_neg Za]
theorem MF (n:Nat)(s:Nat->ByteArray)(ad:OA)(cap k0:Nat)(w:World)(lo hi:Nat)(hhi:hi<=w.1.size)(hl:(n:Int)<=1073741824)(hk1:1<=(k0:Int))(hk2:(k0:Int)<=1073741824)(hc:AV w lo hi ad n s):Calls prog 108 #[.l ad n cap,.i k0] w λe w'=>e=.returned (.i (k0+n:Nat))/\AV w' lo hi ad n (λi=>mt (k0+i))/\Fr lo hi w w':=by
 go_enter func108,ntmps108;go_wp2;go_loopw[1,5] (λt i wr=>∃k:Nat,k<=n/\i=.i k/\t=.i (k0+k:Nat)/\Fr lo hi w wr/\AV wr lo hi ad n (λi=>if i<k then mt (k0+i)else s i))(λ_ i _=>n-(intOf i).toNat);case atStart=>exact⟨0,Ap _,rfl,rfl,Fr.refl _ _ _,by simpa using hc⟩
 case round=>
  obtain⟨k,hk,rfl,rfl,hfr,hown⟩:=hrel;clear hc;by_cases hkn:k<n
  .obtain⟨b,off,rfl,hlo,hbh,hcx,hfx⟩:=hown k hkn;go_wp2_with (go_at_call 107;refine(JE (k0+k) _ Za Za).mono ?_;rintro e w1 ⟨rfl,hb1⟩;have hcx1:=(hb1.cell (p:=⟨b,off+k,none⟩) (Aa hbh (AA hhi hfr.size))).trans hcx;have hfx1:=(hb1.frozen (p:=⟨b,off+k,none⟩) (Aa hbh (AA hhi hfr.size))).trans hfx);go_roundw;case rel=>exact⟨k+1,Za,by go_num,by go_num,(hfr.trans (DP hb1)).setCell hlo hbh _,iJ hown hb1 (AA hhi hfr.size) hkn hcx1⟩
   case measure=>simp[intOf];omega
  .have:k=n:=Za;subst this;have HR:Hid (AV wr lo hi ad k (λi=>mt (k0+i))):=λi hi'=>by have:=hown i hi';dsimp only at this;rwa[if_pos hi']at this
   clear hown;go_wp2;go_ret;exact⟨rfl,HR,hfr⟩
theorem MS (n:Nat)(ad:OA)(cap k0:Nat)(w:World)(lo hi:Nat)(hhi:hi<=w.1.size)(hl:(n:Int)<=1073741824)(hk1:1<=(k0:Int))(hk2:(k0:Int)<=1073741824)(hc:AV w lo hi ad n (λi=>mt (k0+i))):Calls prog 124 #[.l ad n cap,.i k0] w λe w'=>e=.returned (.i (k0+n:Nat))/\Below w.1.size w w':=by
 go_enter func124,ntmps124;go_wp2;go_loopw[1,5] (λt i wr=>∃k:Nat,k<=n/\i=.i k/\t=.i (k0+k:Nat)/\Below w.1.size w wr)(λ_ i _=>n-(intOf i).toNat);case atStart=>exact⟨0,Ap _,rfl,rfl,Ak _ _⟩
 case round=>
  obtain⟨k,hk,rfl,rfl,hb⟩:=hrel;by_cases hkn:k<n;.obtain⟨b,off,rfl,hlo,hbh,hcx,hfx⟩:=hc k hkn;clear hc hfx;have hcx1:wr.cell? ⟨b,off+k,none⟩=some (.s (mt (k0+k))):=(hb.cell (p:=⟨b,off+k,none⟩) Zj).trans hcx;clear hcx;go_wp2;go_region_with(go_at_call 107;refine(JE (k0+k) _ Za Za).mono ?_;rintro e w1 ⟨rfl,hb1⟩;have hcx2:=(hb1.cell (p:=⟨b,off+k,none⟩) (Aa hbh (AA hhi hb.size))).trans hcx1);all_goals
    go_wp2;go_roundw;case rel=>exact⟨k+1,Za,by go_num,by go_num,hb.drew.trans (hb1.mono hb.size)⟩
    case measure=>simp[intOf];omega
  .have:k=n:=Za;subst this;clear hc;go_wp2;go_ret;exact⟨rfl,hb⟩
theorem AB.below{w w':World}{B lo hi:Nat}{ad:OA}{n:Nat}{s:Nat->ByteArray}(h:AB w lo hi ad n s)(hb:Below B w w')(hB:hi<=B):AB w' lo hi ad n s:=λi hi'=>by obtain⟨b,off,e1,e2,e3,e4⟩:=h i hi';exact⟨b,off,e1,e2,e3,(hb.cell (p:=⟨b,off+i,none⟩) (Aa e3 hB)).trans e4⟩
theorem AB.alloc{w:World}{lo hi:Nat}{ad:OA}{n:Nat}{s:Nat->ByteArray}(h:AB w lo hi ad n s)(hB:hi<=w.1.size)(o:Obj):AB (w.alloc o) lo hi ad n s:=h.below ((Ak w.1.size w).alloc Bj o) hB
theorem GV{l:Int}{s:Nat}(h:CU l s<0):l<s:=by unfold CU at h;split at h<;>omega
theorem C8{l:Int}{s:Nat}(h:0<=CU l s):(s:Int)<=l/\CU l s=l-s:=by
 unfold CU at*;split at h;.rw[if_pos M0];exact⟨by assumption,rfl⟩
 .omega
theorem Vo (n:Nat)(s:Nat->ByteArray)(ad ad2:OA)(cap cap2:Nat)(w:World)(lo hi lo2 hi2:Nat)(hl:(n:Int)<=140737488355328)(hc:AB w lo hi ad n s)(hc2:AB w lo2 hi2 ad2 n s):Calls prog 166 #[.l ad n cap,.l ad2 n cap2] w λe w'=>e=.returned (.bool true)/\∃q,w'=w.drewN q:=by
 go_enter func166,ntmps166;go_wp2;go_loopw[5] (λi wr=>∃k:Nat,k<=n/\i=.i k/\∃q,wr=w.drewN q)(λi _=>n-(intOf i).toNat);case atStart=>exact⟨0,Ap _,rfl,0,rfl⟩
 case round=>
  obtain⟨k,hk,rfl,q,rfl⟩:=hrel;by_cases hkn:k<n
  .obtain⟨b,off,rfl,hlo,hbh,hcx⟩:=hc k hkn;obtain⟨b2,off2,rfl,hlo2,hbh2,hcx2⟩:=hc2 k hkn;clear hc hc2;go_wp2;go_quiet(fail);go_wp2;go_roundw;case rel=>exact⟨k+1,Za,by go_num,_,rfl⟩
   case measure=>simp[intOf];omega
  .have:k=n:=Za;subst this;clear hc hc2;go_wp2;go_ret;exact⟨rfl,q,rfl⟩
structure Ob where
 kind:ByteArray
 name:ByteArray
 ver:Int
 born:Int
 text:ByteArray
 ending:Bool
 hn:Nat
 hs:Nat->ByteArray
abbrev vO (x:Ob)(A:OA)(C:Nat):Array Value:=#[.s x.kind,.s x.name,.i x.ver,.i x.born,.s x.text,.bool x.ending,.l A x.hn C]
abbrev bj (x:Ob)(A:OA)(C:Nat):List Value:=[.s x.kind,.s x.name,.i x.ver,.i x.born,.s x.text,.bool x.ending,.l A x.hn C]
def Jh (o:Ob):Nat:=o.kind.size+o.name.size+o.text.size+Ig o.hn o.hs
theorem U4{P:Prop}(h:P:=by go_ret;exact⟨Bs (Cp Za).symm,(Ak _ _).alloc Bj _⟩):P:=h
theorem bR (ki na te:ByteArray)(ve bo:Int)(en:Bool)(hn:Nat)(hs:Nat->ByteArray)(ad:OA)(cap:Nat)(left:Int)(w:World)(h0:0<=left)(h1:left<=1048576)(lo hi:Nat)(hhi:hi<=w.1.size)(hk:(ki.size:Int)<=140737488355328)(hna:(na.size:Int)<=140737488355328)(ht:(te.size:Int)<=140737488355328)(hl:(hn:Int)<=140737488355328)(hm:∀i,i<hn->((hs i).size:Int)<=140737488355328)(hc:AB w lo hi ad hn hs):Calls prog 67 #[.agg #[.s ki,.s na,.i ve,.i bo,.s te,.bool en,.l ad hn cap],.i left] w λe w'=>e=.returned (.i (CU left (ki.size+na.size+te.size+Ig hn hs)))/\Below w.1.size w w':=by
 go_enter func67,ntmps67;go_wp2_with (go_at_call 125;refine(Vx hn hs ad cap _ _ hl Za Za hm lo hi (hc.alloc hhi _)).mono ?_;rintro e w' ⟨rfl,rfl⟩);.exact U4
 .exact U4
 .exact U4
 .go_ret;exact⟨Bs (Cp sJ).symm,(Ak _ _).alloc Bj _⟩
 .go_ret;refine⟨Bs ?_,(Ak _ _).alloc Bj _⟩;obtain⟨g1,g2⟩:=C8 M0;rw[g2,Dx Za];omega
end Go.Proofs.YtllmmkchokkaaaaGreatDoor
