import Derived.Test.YtofencldleijcaaGreatPk46
import Derived.BigQuiet
import Derived.Deep.AppendSrc
import Derived.Deep.Cut
import Derived.Deep.CutRange
import Derived.Deep.Draws
import Derived.Deep.Light
import Derived.Deep.QuietTactic
import Derived.Deep.RegionWith
import Derived.Deep.Slices
import Derived.Deep.Strs
import Derived.Laws.CopyOwn
import Derived.Laws.IdiomCopy
import Derived.Laws.IdiomStrings
import Derived.Laws.Tables
import Derived.LoopIn
import Derived.LoopNIn
import Derived.Maps.AppendAt
import Derived.Maps.OwnIn
import Derived.Maps.OwnOps
import Derived.Maps.OwnSet
import Derived.Orders
import Derived.OrdersIn
import Derived.OwnWalkIn
import Derived.ProofKit
import Derived.RangeFuncBound
import Derived.RangeFuncCalls
import Derived.RangeFuncLeaves
import Derived.RangeFuncNested
import Derived.Shelf.Abstract
import Derived.Shelf.Lay
import Derived.Shelf.RegionOpen
import Derived.SizedLaws
import Derived.Sort.Grow
import Derived.Sort.Statements
import Derived.TacticsInMore
import Derived.WalkKit
import Derived.WalkLawsBesides
import Derived.WalkSpells
import Derived.Test.YtofencldleijcaaGreatSx
import Derived.Ground.SlsfProg
import Derived.Shelf.SlSortCmp.WholeK
set_option maxRecDepth 100000
set_option maxHeartbeats 4000000
namespace Go.Proofs.YtofencldleijcaaGreat
open Go.RowKit Go.Maps Go.Shelf Go.Proofs.Tryz
attribute [local go_sem] Cv
def IN(sel:Nat->Bool)(o:Nat)(L0 l:List Nat):List Nat:=L0++(l.filter sel).map (o+.)
theorem WE{sel:Nat->Bool}{o:Nat}{L0 l:List Nat}{j:Nat}(h:sel j=true):IN sel o L0 (l++[j])=IN sel o L0 l++[o+j]:=by simp[IN,h]
theorem aO{sel:Nat->Bool}{o:Nat}{L0 l:List Nat}{j:Nat}(h:sel j=false):IN sel o L0 (l++[j])=IN sel o L0 l:=by simp[IN,h]
theorem Ri(sel:Nat->Bool)(o:Nat)(L0 l:List Nat):(IN sel o L0 l).length<=L0.length+l.length:=by unfold IN;have:=List.length_filter_le sel l;simp;omega
theorem UP(F:Fence)(m:Nat)(hcv:∀(k f:Nat)(args:Array Value)(w:World)(R:Ending->World->Prop),Calls prog f args w R->CallsIn F k prog f args w R)(hall:∀f,F.fn f)(hro:F.round=none)(hm:4<=m)(hPl:∀(q:Nat)(R:Nat)(v:Int)(w:World),0<=v->v<=1000000->CallsIn F q prog 53 #[.pointer (some ⟨R,0,none⟩),.int .i64 v] w λe w'=>e=.returned (.pointer (some ⟨R,(v%200).toNat*9,none⟩))/\w'=w)(p0 p1 p2 p3 p4 p5 p6 DA Du DC Dx Da CY CV CX CW CR C4 CU CS CQ Dl C6 Db C9 C7 Dj Dg Df Dk Dh De Dt Di:Value)(Ba Bu Br Bm Bl R M N N1 base hi:Nat)(f n o:Nat)(D:DataW Unit)(cV:Nat->Int)(x:Nat->Ch)(z:Nat->Ob)(A:Nat->Option Addr)(C:Nat->Nat)(L0:List Nat)(v0:Value)(A0:Nat->Option Addr)(C0 h0:Nat->Nat)(hn2:n<=200)(hfn:f+n<=1000000)(hL0:L0.length<=1000)(hfit:∀i,i<n->DD (x i).ob)(W0:World)(hz:∀i,i<n->z (o+i)=(x i).ob)(hcV:∀i,i<n->D.atKey (kl (x i).ob.kind (x i).ob.name) (.lit (.int .i64 0))=.lit (.int .i64 (cV i)))(hBa:W0.cell? ⟨Ba,0,none⟩=some (.int .i64 ((f+0:Nat):Int)))(hBu:W0.cell? ⟨Bu,0,none⟩=some (.int .i64 ((f+n:Nat):Int)))(hBr:W0.cell? ⟨Br,0,none⟩=some (.pointer (some ⟨R,0,none⟩)))(ha:N1<=Ba/\Ba<W0.1.size)(hu:N1<=Bu/\Bu<W0.1.size)(hr:N1<=Br/\Br<W0.1.size)(hBm:Bm<base\/N1<=Bm)(hBl:N1<=Bl)(hne:Bu≠Bl/\Br≠Bl/\Bm≠Bl)(hR:R<base)(hM:M<base)(hhi:hi<=base)(hb1:base<=N1)(hs:DQ W0 R n f x A C)(hst:∀i,i<n->Ax W0 0 hi (A i) (x i).ob.hn (x i).ob.hs)(bM:Boxed W0 Bm 53 (.map (some M)))(hown:W0.ownsMap prog 65 (plainElem prog 3) M N D)(bL:Boxed W0 Bl 23 v0)(bd0:Sb (λq=>(base<=q/\q<N1)\/W0.1.size<=q) W0 base v0 L0.length (DR z L0) A0 C0 h0)(Q:Exit->Act->World->Prop)(hQ:∀D' v A' C' hb W,W0.1.size<=D'->W.heap[D']?=some (.deferred (some []))->Boxed W Bl 23 v->Sb (λq=>(base<=q/\q<N1)\/W0.1.size<=q) W base v (IN (λj=>!(x j).gone&&cV j==(x j).ver) o L0 (List.range n)).length (DR z (IN (λj=>!(x j).gone&&cV j==(x j).ver) o L0 (List.range n))) A' C' hb->AB (λq=>q=Bl\/(base<=q/\q<N1)\/W0.1.size<=q) W0 W->Q .normal {tmps:=#[p0,p1,p2,p3,p4,p5,p6,.pointer (some ⟨Bm,0,none⟩),.pointer (some ⟨Bl,0,none⟩),undef,DA,Du,DC,Dx,Da,CY,CV,CX,CW,CR,C4,CU,CS,CQ,Dl,C6,Db,C9,C7,Dj,Dg,Df,Dk,Dh,De,Dt,Di,.func (.func 54) #[] #[.pointer (some ⟨Ba,0,none⟩),.pointer (some ⟨Bu,0,none⟩),.pointer (some ⟨Br,0,none⟩)],undef,undef,undef,undef,undef,undef,undef,undef,undef,undef,undef,undef,undef,undef,undef,undef,undef,undef,undef,undef,undef,undef,undef,undef,undef,undef,undef,undef,undef,undef],defers:=[{target:=.collected D',args:=#[]}]} W):Code.wpIn F m prog (Code.rangeFunc (Operand.tmp 37) #[38] (Code.region 7 #[⟨some 9,.alloc 63,0, "l5_book_history.go:34",#[],none⟩,⟨none,.store 63 (.tmp 9) (.tmp 38),0, "l5_book_history.go:34",#[⟨0,.data⟩,⟨0,.phase⟩],none⟩] false) (Code.block 1 ((Code.region 8 #[⟨some 39,.fieldAddr 63 (.tmp 9) 1,0, "l5_book_history.go:35",#[],none⟩,⟨some 40,.load 4 (.tmp 39),4, "l5_book_history.go:35",#[⟨0,.data⟩],none⟩,⟨some 41,.unOp .not 4 (.tmp 40),4, "l5_book_history.go:35",#[⟨1,.data⟩],none⟩,⟨some 42,.move (.tmp 41),4, "l5_book_history.go:35",#[⟨2,.data⟩],none⟩,⟨some 43,.load 53 (.tmp 7),53, "l5_book_history.go:35",#[⟨3,.guard⟩],some (3,true)⟩,⟨some 44,.fieldAddr 63 (.tmp 9) 2,0, "l5_book_history.go:35",#[⟨3,.guard⟩],some (3,true)⟩,⟨some 45,.load 61 (.tmp 44),61, "l5_book_history.go:35",#[⟨5,.data⟩,⟨3,.guard⟩],some (3,true)⟩,⟨some 46,.call ⟨.value (.func 23),#[.tmp 45],#[61]⟩,65, "l5_book_history.go:35",#[⟨6,.data⟩,⟨3,.chain⟩,⟨3,.guard⟩],some (3,true)⟩,⟨some 47,.lookup 53 (.tmp 43) (.tmp 46) false,3, "l5_book_history.go:35",#[⟨4,.data⟩,⟨7,.data⟩,⟨3,.guard⟩],some (3,true)⟩,⟨some 48,.fieldAddr 63 (.tmp 9) 0,0, "l5_book_history.go:35",#[⟨3,.guard⟩],some (3,true)⟩,⟨some 49,.load 3 (.tmp 48),3, "l5_book_history.go:35",#[⟨9,.data⟩,⟨3,.guard⟩],some (3,true)⟩,⟨some 50,.binOp .eql 3 (.tmp 47) (.tmp 49) 3,4, "l5_book_history.go:35",#[⟨8,.data⟩,⟨10,.data⟩,⟨3,.guard⟩],some (3,true)⟩,⟨some 51,.pick (.tmp 42) (.tmp 50) (.const (.bool false)),4, "l5_book_history.go:35",#[⟨3,.data⟩,⟨11,.data⟩],none⟩] true).seq (Code.cond (Operand.tmp 51) (Code.region 9 #[⟨some 52,.load 23 (.tmp 8),23, "l5_book_history.go:36",#[],none⟩,⟨some 53,.fieldAddr 63 (.tmp 9) 2,0, "l5_book_history.go:36",#[],none⟩,⟨some 54,.load 61 (.tmp 53),61, "l5_book_history.go:36",#[⟨1,.data⟩],none⟩,⟨some 55,.call ⟨.value (.func 24),#[.tmp 54],#[61]⟩,61, "l5_book_history.go:36",#[⟨2,.data⟩],none⟩,⟨some 56,.buildSlice 23 1 #[(0,.tmp 55)],23, "l5_book_history.go:36",#[⟨3,.data⟩],none⟩,⟨some 57,.call ⟨.builtin .append,#[.tmp 52,.tmp 56],#[23,23]⟩,23, "l5_book_history.go:36",#[⟨0,.data⟩,⟨4,.data⟩,⟨3,.chain⟩],none⟩,⟨none,.store 23 (.tmp 8) (.tmp 57),0, "l5_book_history.go:36",#[⟨5,.data⟩,⟨5,.chain⟩,⟨0,.phase⟩,⟨1,.phase⟩,⟨2,.phase⟩,⟨3,.phase⟩,⟨4,.phase⟩,⟨5,.phase⟩],none⟩] true) Code.skip)))) Q {tmps:=#[p0,p1,p2,p3,p4,p5,p6,.pointer (some ⟨Bm,0,none⟩),.pointer (some ⟨Bl,0,none⟩),undef,DA,Du,DC,Dx,Da,CY,CV,CX,CW,CR,C4,CU,CS,CQ,Dl,C6,Db,C9,C7,Dj,Dg,Df,Dk,Dh,De,Dt,Di,.func (.func 54) #[] #[.pointer (some ⟨Ba,0,none⟩),.pointer (some ⟨Bu,0,none⟩),.pointer (some ⟨Br,0,none⟩)],undef,undef,undef,undef,undef,undef,undef,undef,undef,undef,undef,undef,undef,undef,undef,undef,undef,undef,undef,undef,undef,undef,undef,undef,undef,undef,undef,undef,undef,undef],defers:=[]} W0:=by
 have h1:1<=m:=Zb;obtain⟨P,hP⟩:∃P:Nat->Prop,P=λq=>(base<=q/\q<N1)\/W0.1.size<=q:=⟨_,rfl⟩;obtain⟨Pk,hPk⟩:∃Pk:Nat->Prop,Pk=λq=>q=Bl\/(base<=q/\q<N1)\/W0.1.size<=q:=⟨_,rfl⟩;obtain⟨sel,hsel⟩:∃sel:Nat->Bool,sel=λj=>!(x j).gone&&cV j==(x j).ver:=⟨_,rfl⟩;rw[<-hP,<-hPk,<-hsel]at hQ;rw[<-hP]at bd0;have hPkB:∀{X Y:World},Below W0.1.size X Y->AB Pk X Y:=λ{X Y}h=>⟨h.os,h.tape,h.output,h.size,λq _ hq=>h.block q (by
  rw[hPk]at hq;rcases At q W0.1.size with h1|h1;.exact h1
  .exact absurd (AD (AD h1)) hq)⟩;have hPkN:∀q,¬Pk q↔¬(q=Bl\/(base<=q/\q<N1)\/W0.1.size<=q):=λq=>by rw[hPk]
 have zL:=bL.lt;have zM:=hown.lt;have zm:=bM.lt;have hPl':¬P Bl:=by rw[hP];omega
 have hPP:∀q,P q->Pk q:=λq hq=>by rw[hP]at hq;rw[hPk];exact AD hq
 refine wpIn_rangeFunc_ownH (α:=Ix n) hro h1 (gf:=54) (lb:=#[.pointer (some ⟨Ba,0,none⟩),.pointer (some ⟨Bu,0,none⟩),.pointer (some ⟨Br,0,none⟩)]) (encs:=λi=>#[MW (x i.1) (A i.1) (C i.1)]) (Kp:=AB Pk) (S:=λys=>Ev ys=List.range n) (Sp:=λpre=>∃j,j<=n/\Ev pre=List.range j) (N:=n) (w0:=W0) rfl (hall 54) (enters_of func54 Ze rfl)
  ?seq (λh1 h2=>h1.trans h2) (λX l o o' hl ho1 ho2 ho3=>hPkB (belowK_b (w:=W0) (n₀:=W0.1.size) Bg X l o o' hl ho1 ho2 ho3)) Ck (λ_=>rfl)
  (λpre W=>(∃v A' C' hb,Boxed W Bl 23 v/\Sb P W base v (IN sel o L0 (Ev pre)).length (DR z (IN sel o L0 (Ev pre))) A' C' hb)/\AB Pk W0 W)
  (λ_ _ _=>False) ?own (λ_ _ _ _ _ hs _ _=>hs) ?start
  (λi a' W=>∃Bx,W.heap[Bx]?=some (.cells #[.int .i64 (x i.1).ver,.bool (x i.1).gone,.string (x i.1).ob.kind,.string (x i.1).ob.name,.int .i64 (x i.1).ob.ver,.int .i64 (x i.1).ob.born,.string (x i.1).ob.text,.bool (x i.1).ob.ending,.slice (A i.1) (x i.1).ob.hn (C i.1)] 63 (0,0))/\a'={tmps:=#[p0,p1,p2,p3,p4,p5,p6,.pointer (some ⟨Bm,0,none⟩),.pointer (some ⟨Bl,0,none⟩),.pointer (some ⟨Bx,0,none⟩),DA,Du,DC,Dx,Da,CY,CV,CX,CW,CR,C4,CU,CS,CQ,Dl,C6,Db,C9,C7,Dj,Dg,Df,Dk,Dh,De,Dt,Di,.func (.func 54) #[] #[.pointer (some ⟨Ba,0,none⟩),.pointer (some ⟨Bu,0,none⟩),.pointer (some ⟨Br,0,none⟩)],MW (x i.1) (A i.1) (C i.1),undef,undef,undef,undef,undef,undef,undef,undef,undef,undef,undef,undef,undef,undef,undef,undef,undef,undef,undef,undef,undef,undef,undef,undef,undef,undef,undef,undef,undef],defers:=[]})
  (λi a' _ X Y row hs hg hr=>by obtain⟨Bx,e2,e3⟩:=hs;refine⟨Bx,(hg.block Bx (AS.1 e2).1 (λe=>?_)).trans e2,e3⟩;obtain⟨_,o,ho,hc⟩:=hr Bx e.symm;rw[e2]at ho;cases ho;cases hc)
  ?assign ?body ?done ?stop;case seq=>
  intro l J Jx W hW _ _ hY h0';have h:=Ma F (m-1) (hall 54) (hall 53) hro Zb l Ba Bu Br R Pk f 0 n x A C OM hfn;simp only[Nat.sub_zero,Bq]at h;exact h J Jx (hPl _ R) W hY
   ((hW.cell (p:=⟨Ba,0,none⟩) ha.2).trans hBa) ((hW.cell (p:=⟨Bu,0,none⟩) hu.2).trans hBu) ((hW.cell (p:=⟨Br,0,none⟩) hr.2).trans hBr)
   ⟨by have:=hW.size;omega,(hPkN _).2 Zb⟩ ⟨by have:=hW.size;omega,(hPkN _).2 Zb⟩ ⟨by have:=hW.size;omega,(hPkN _).2 Zb⟩ (hs.below hW Zb Bg) h0'
 case own=>intro pre X Y row hs hg hr;obtain⟨⟨v,A',C',hb,e1,e2⟩,e3⟩:=hs;exact⟨⟨v,A',C',hb,e1.kept hg (λe=>by have:=(hr _ e.symm).1;omega),e2.turn hg (λr e=>(hr r e).2)⟩,e3.trans (hPkB ((Al W0.1.size X).grown hg e3.size (λr e=>(hr r e).1)))⟩
 case start=>exact⟨⟨v0,A0,C0,h0,bL,by simpa[IN,Ev]using bd0⟩,AB.refl _ _⟩
 case assign=>rintro l pre i W K⟨⟨v,A',C',hb,e1,e2⟩,e3⟩hK;simp only[MW];gi_wp2;exact hK _ _ ((KeepsOthers.alloc _ _).from _) (Ap EC) ⟨⟨v,A',C',hb,e1.alloc _,e2.grow EC⟩,e3.trans (Ap EC)⟩ ⟨W.1.size,World.alloc_heap_new W _,rfl⟩
 case body=>
  rintro l0 pre i a' W hl⟨r,hr'⟩⟨⟨v,A',C',hb,bV,bd⟩,hf⟩⟨Bx,bX,rfl⟩hlt;have zW:=hf.size;have hin:=i.2;have hX:DS W Bx #[.int .i64 (x i.1).ver,.bool (x i.1).gone,.string (x i.1).ob.kind,.string (x i.1).ob.name,.int .i64 (x i.1).ob.ver,.int .i64 (x i.1).ob.born,.string (x i.1).ob.text,.bool (x i.1).ob.ending,.slice (A i.1) (x i.1).ob.hn (C i.1)]:=λi=>by simp[World.cell?,bX]
  have zBx:Bx<W.1.size:=(AS.1 bX).1;have hft:=hfit i.1 hin;obtain⟨fk,fn,_,fh,_⟩:=hft;have hsk:(x i.1).ob.kind.size<=maxLen:=by unfold maxLen;omega
  have hsn:(x i.1).ob.name.size<=maxLen:=by unfold maxLen;omega
  have hky:=KM (x i.1).ob.kind (x i.1).ob.name hsk hsn;have hc:=hcV i.1 hin;have hzi:=hz i.1 hin;have bMW:Boxed W Bm 53 (.map (some M)):=(hf.block Bm zm ((hPkN _).2 Zb)).trans bM;have hownW:W.ownsMap prog 65 (plainElem prog 3) M N D:=by obtain⟨es,clock,h1,r⟩:=hown;exact⟨es,clock,(hf.block M zM ((hPkN _).2 Zb)).trans h1,r⟩
  have hstW:Ax W 0 hi (A i.1) (x i.1).ob.hn (x i.1).ob.hs:=λj hj=>by obtain⟨b,off,e1,e2,e3,e4⟩:=hst i.1 hin j hj;exact⟨b,off,e1,e2,e3,(hf.cell (p:=⟨b,_,none⟩) Zq ((hPkN _).2 (by show¬(b=Bl\/(base<=b/\b<N1)\/W0.1.size<=b);omega))).trans e4⟩
  have hLl:(IN sel o L0 (Ev pre)).length<1048576:=by have:=Ri sel o L0 (Ev pre);rw[IJ]at this;omega
  have EX:Ev (pre++[i])=Ev pre++[i.1]:=EN _ _;have hsi:sel i.1=(!(x i.1).gone&&cV i.1==(x i.1).ver):=by rw[hsel]
  have h1':1<=m-1-1:=Zb;gi_wp2;refine Xl F l0 (m-1-1) (hall 23) h1' _ _ _ _ _ _ _ _ _ _ _ _ _ _ _ _ _ _ _ _ _ _ _ _ _ _ _ _ _ _ _ _ _ _ _ _ _ Bm Bx M N D (cV i.1) (x i.1) (A i.1) (C i.1) W (λw=>CallsIn.inRound l0 (hcv _ _ _ _ _ (BG (x i.1).ob (A i.1) (C i.1) w))) hX zBx bMW hownW hky hc _ ?_;intro t0 t1 t2 t3 t4 t5 t6 t7 t8 t9 t10 t11 w' hb';have zw':=hb'.size;cases hse:(!(x i.1).gone&&cV i.1==(x i.1).ver)with
  |false=>rw[hse]at hsi;gi_wp2;exact⟨(CB hb').from _,Ap hb',⟨⟨v,A',C',hb,AW bV hb',by rw[EX,aO hsi];exact bd.grow hb'⟩,hf.trans (Ap hb')⟩⟩
  |true=>
   rw[hse]at hsi;have hX2:=hX.below hb' zBx;have x2:=hX2 2;have x3:=hX2 3;have x4:=hX2 4;have x5:=hX2 5;have x6:=hX2 6;have x7:=hX2 7;have x8:=hX2 8;simp only[Ac,Ab,Aa]at x2 x3 x4 x5 x6 x7 x8;gi_wp2;refine bW F l0 (m-1-1) (hall 24) h1' _ _ _ _ _ _ _ _ _ _ _ _ _ _ _ _ _ _ _ _ _ _ _ _ _ _ _ _ _ _ _ _ _ _ _ _ _ _ _ _ _ _ _ _ _ _ _ _ _ _ Bx Bl base P Pk (IN sel o L0 (Ev pre)) (o+i.1) z v (A i.1) (C i.1) A' C' hb w' hLl Zb (λw5 hb5=>?_) (by rw[hzi];exact⟨x2,x3,x4,x5,x6,x7,x8⟩) (AW bV hb') (bd.grow hb') hPl' (λq hq=>by rw[hP];exact AD Zb) (λq hq=>hPP q (bd.pr q hq)) (by rw[hPk];exact AO rfl) _ ?_;.rw[hzi];exact CallsIn.inRound l0 (hcv _ _ _ _ _ (KQ (x i.1).ob (A i.1) (C i.1) w5 0 hi (by have:=hb5.size;omega) fh ((hstW.below hb' Zb).below hb5 Zb)))
   .intro u0 u1 u2 u3 u4 v' A2 C2 h2 w3 hbd hbx hko hfr;gi_wp2;have hfr2:AB Pk W w3:=(Ap hb').trans hfr;exact⟨((CB hb').trans hko).from _,hfr2,⟨⟨v',A2,C2,h2,hbx,by rw[EX,WE hsi];exact hbd⟩,hf.trans hfr2⟩⟩
 case done=>rintro D' ys W hD hS⟨⟨v,A',C',hb,bV,bd⟩,hf⟩hK;rw[hS]at bd;exact hQ D' v A' C' hb W hD hK bV bd hf
 case stop=>rintro D c pre W _ _ h _;exact h.elim
end Go.Proofs.YtofencldleijcaaGreat
namespace Go.Proofs.YtofencldleijcaaGreat
open Go.RowKit Go.Maps Go.Shelf Go.Sort Go.Proofs.Tryz
attribute [local go_sem] Cv
theorem Q9:∀a b:List UInt8,Op.bytesLess a b=false->Op.bytesLess b a=false->a=b
 |[],[],_,_=>rfl
 |[],_::_,h,_=>by simp[Op.bytesLess]at h
 |_::_,[],_,h=>by simp[Op.bytesLess]at h
 |x::a,y::b,h1,h2=>by simp only[Op.bytesLess,Bool.or_eq_false_iff,decide_eq_false_iff_not,Jd,beq_eq_false_iff_ne]at h1 h2;have e:x=y:=UInt8.le_antisymm (UInt8.not_lt.1 h2.1) (UInt8.not_lt.1 h1.1);subst e;have e2:=Q9 a b (by rcases h1.2 with h|h;exact absurd rfl h;exact h) (by rcases h2.2 with h|h;exact absurd rfl h;exact h);rw[e2]
theorem T5{a b:ByteArray}(h1:ER a b=false)(h2:ER b a=false):a.toList=b.toList:=Q9 _ _ h1 h2
theorem Qy{x y:Ob}(h1:CN x y=false)(h2:CN y x=false):x.kind.toList=y.kind.toList/\x.name.toList=y.name.toList:=by
 unfold CN at*;by_cases e1:x.kind.toList=y.kind.toList;.rw[if_pos e1]at h1;rw[if_pos e1.symm]at h2;exact⟨e1,T5 h1 h2⟩
 .rw[if_neg e1]at h1;rw[if_neg (λe=>e1 e.symm)]at h2;exact absurd (T5 h1 h2) e1
theorem N7:SWO CN where
 irrefl:=λ_=>JX rfl rfl
 trans:=λ_ _ _=>Fn
 ntrans:=λx y z h1 h2=>by cases h:CN x z with
  |false=>rfl
  |true=>cases h3:CN y x with
   |false=>rw[QD (Qy h1 h3).1 (Qy h1 h3).2 h]at h2;cases h2
   |true=>rw[Fn h3 h]at h2;cases h2
def LL (m:Nat)(y:Nat->Ob):List Ob:=(List.range m).map y
def pU (n:Nat)(x:Nat->Ob):Prop:=∀i j,i<j->j<n->CN (x i) (x j)=true
def Gr (w w':World):Prop:=∃(q:Nat)(os':Array Obj),w'=grow (w.drewN q) os'
theorem Gr.refl (w:World):Gr w w:=⟨0,#[],by simp[grow,World.drewN]⟩
theorem Gr.trans{a b c:World}(h:Gr a b)(k:Gr b c):Gr a c:=by obtain⟨q,os,rfl⟩:=h;obtain⟨q',os',rfl⟩:=k;exact⟨q+q',os++os',by simp[grow,World.drewN,Array.append_assoc,AY]⟩
theorem Gr.alloc{a b:World}(h:Gr a b)(o:Obj):Gr a (b.alloc o):=h.trans ⟨0,#[o],by rw[alloc_eq_grow];rfl⟩
theorem Gr.drew{a b:World}(h:Gr a b):Gr a b.drew:=h.trans ⟨1,#[],by rw[grow_empty];rfl⟩
theorem Gr.below{a b:World}(h:Gr a b):Below a.1.size a b:=by obtain⟨q,os,rfl⟩:=h;refine⟨rfl,rfl,rfl,by simp[grow,World.drewN],λk hk=>?_⟩;simp[grow,World.drewN,Array.getElem?_append,hk]
theorem Rt (k1 n1 ki na:ByteArray)(w:World):Calls prog 58 #[.agg #[.string k1,.string n1],.agg #[.string ki,.string na]] w λe w'=>e=.returned (.int .i64 (KV (Cl k1 ki) (Cl n1 na)))/\Gr w w':=by
 go_enter func58,ntmps58;go_wp2;refine CA Ze (Cc w k1 n1 ki na) ?_ ?_ ?_ ?_;.unfold Cc;refine⟨_,_,_,_,_,_,_,_,_,_,_,_,_,rfl,Zc,?_⟩;simp
 .intro l a w' hI;obtain⟨t4,t5,t6,t7,t8,t9,t10,t11,t12,t13,t14,t15,t16,rfl,hls,_⟩:=hI;exact hls
 .intro l a w' hI hr;obtain⟨t4,t5,t6,t7,t8,t9,t10,t11,t12,t13,t14,t15,t16,rfl,hls,f0,f1,f2,f3,f4,f5,f6,f7,f8,f9,f10,f11,f12,f13⟩:=hI;have AL:=CC Ze (by rw[hls];rfl) hr;obtain rfl:=f12 (AL 12 Za);obtain rfl:=(f10 (AL 10 Za)).2;clear f0 f1 f2 f3 f4 f5 f6 f7 f8 f9 f10 f11 f12 f13 AL hr hls;go_wp2;go_ret;exact⟨rfl,((((Gr.refl _).alloc _).alloc _).drew).alloc _⟩
 .intro l a w' i hI hr;obtain⟨t4,t5,t6,t7,t8,t9,t10,t11,t12,t13,t14,t15,t16,rfl,hls,f0,f1,f2,f3,f4,f5,f6,f7,f8,f9,f10,f11,f12,f13⟩:=hI;obtain⟨hu,o',ho,hdep⟩:=mem_ready.1 hr;have hi16:i<13:=by
   rcases At i 13 with h|h;.exact h
   .rw[AP TX]at ho;cases ho
  have kp:∀j,¬j=i->(l.setIfInBounds i true).getD j false=l.getD j false:=λj hj=>by rw[BM Zb,if_neg hj]
  have ki':(l.setIfInBounds i true).getD i false=true:=by rw[BM Zb,if_pos rfl]
  have hsz':(l.setIfInBounds i true).size=13:=by simp[hls]
  have hui:l.getD i false=false:=by simpa[Array.getD,hls,hi16]using hu
  have hcell:∀j,w'.cell? ⟨w.1.size,j,none⟩=(#[.string k1,.string n1]:Array Value)[j]?/\w'.cell? ⟨w.1.size+1,j,none⟩=(#[.string ki,.string na]:Array Value)[j]?:=λj=>by cases h10:l.getD 10 false with
   |false=>rw[f13 h10];simp
   |true=>
    rw[(f10 h10).2];refine⟨?_,?_⟩;.rw[Aq _ _ _ Zd];simp
    .rw[Aq _ _ _ Zc];simp
  have p0:=(hcell 0).1;have p1:=(hcell 1).1;have s0:=(hcell 0).2;have s1:=(hcell 1).2;simp only[Ac,Ab,Aa]at p0 p1 s0 s1;clear hr hu hcell;rcases(show i=0\/i=1\/i=2\/i=3\/i=4\/i=5\/i=6\/i=7\/i=8\/i=9\/i=10\/i=11\/i=12 by omega)with rfl|rfl|rfl|rfl|rfl|rfl|rfl|rfl|rfl|rfl|rfl|rfl|rfl;.simp only[Ac,Aa,Aj]at ho;subst ho;clear hdep;refine Ar rfl rfl ?_;generalize hK:Cc w k1 n1 ki na (l.setIfInBounds 0 true)=K;go_simp;rw[<-hK];unfold Cc;exact⟨t4,_,t6,t7,t8,t9,t10,t11,t12,t13,t14,t15,t16,rfl,hsz',(λ_=>rfl),Zk,Zn,Zo,Zp,Zr,MX,MQ,MI,MO,Zu,Zv,Zw,Zx⟩
  .simp only[Ac,Ab,Aa,Aj]at ho;subst ho;have q0:l.getD 0 false=true:=hdep ⟨0,.data⟩ Zc rfl;clear hdep;obtain rfl:=f0 q0;refine Ar rfl rfl ?_;generalize hK:Cc w k1 n1 ki na (l.setIfInBounds 1 true)=K;go_simp;rw[<-hK];unfold Cc;exact⟨t4,_,_,t7,t8,t9,t10,t11,t12,t13,t14,t15,t16,rfl,hsz',Zl,(λ_=>rfl),Zn,Zo,Zp,Zr,MX,MQ,MI,MO,Zu,Zv,Zw,Zx⟩
  .simp only[Ac,Ab,Aa,Aj]at ho;subst ho;clear hdep;refine Ar rfl rfl ?_;generalize hK:Cc w k1 n1 ki na (l.setIfInBounds 2 true)=K;go_simp;rw[<-hK];unfold Cc;exact⟨t4,t5,t6,_,t8,t9,t10,t11,t12,t13,t14,t15,t16,rfl,hsz',Zl,Zk,(λ_=>rfl),Zo,Zp,Zr,MX,MQ,MI,MO,Zu,Zv,Zw,Zx⟩
  .simp only[Ac,Ab,Aa,Aj]at ho;subst ho;have q2:l.getD 2 false=true:=hdep ⟨2,.data⟩ Zc rfl;clear hdep;obtain rfl:=f2 q2;refine Ar rfl rfl ?_;generalize hK:Cc w k1 n1 ki na (l.setIfInBounds 3 true)=K;go_simp;rw[<-hK];unfold Cc;exact⟨t4,t5,t6,_,_,t9,t10,t11,t12,t13,t14,t15,t16,rfl,hsz',Zl,Zk,Zn,(λ_=>rfl),Zp,Zr,MX,MQ,MI,MO,Zu,Zv,Zw,Zx⟩
  .simp only[Ac,Ab,Aa,Aj]at ho;subst ho;have q1:l.getD 1 false=true:=hdep ⟨1,.data⟩ Zc rfl;have q3:l.getD 3 false=true:=hdep ⟨3,.data⟩ Zc rfl;clear hdep;obtain rfl:=f1 q1;obtain rfl:=f3 q3;refine Ar rfl rfl ?_;generalize hK:Cc w k1 n1 ki na (l.setIfInBounds 4 true)=K;go_simp;go_at_call 96;refine(II _ _ _).mono ?_;rintro e w1 ⟨rfl,rfl⟩;rw[<-hK];unfold Cc;exact⟨t4,t5,_,t7,_,_,t10,t11,t12,t13,t14,t15,t16,rfl,hsz',Zl,Zk,Zn,Zo,(λ_=>rfl),Zr,MX,MQ,MI,MO,Zu,Zv,Zw,Zx⟩
  .simp only[Ac,Ab,Aa,Aj]at ho;subst ho;clear hdep;refine Ar rfl rfl ?_;generalize hK:Cc w k1 n1 ki na (l.setIfInBounds 5 true)=K;go_simp;rw[<-hK];unfold Cc;exact⟨t4,t5,t6,t7,t8,t9,_,t11,t12,t13,t14,t15,t16,rfl,hsz',Zl,Zk,Zn,Zo,Zp,(λ_=>rfl),MX,MQ,MI,MO,Zu,Zv,Zw,Zx⟩
  .simp only[Ac,Ab,Aa,Aj]at ho;subst ho;have q5:l.getD 5 false=true:=hdep ⟨5,.data⟩ Zc rfl;clear hdep;obtain rfl:=f5 q5;refine Ar rfl rfl ?_;generalize hK:Cc w k1 n1 ki na (l.setIfInBounds 6 true)=K;go_simp;rw[<-hK];unfold Cc;exact⟨t4,t5,t6,t7,t8,t9,_,_,t12,t13,t14,t15,t16,rfl,hsz',Zl,Zk,Zn,Zo,Zp,Zr,(λ_=>rfl),MQ,MI,MO,Zu,Zv,Zw,Zx⟩
  .simp only[Ac,Ab,Aa,Aj]at ho;subst ho;clear hdep;refine Ar rfl rfl ?_;generalize hK:Cc w k1 n1 ki na (l.setIfInBounds 7 true)=K;go_simp;rw[<-hK];unfold Cc;exact⟨t4,t5,t6,t7,t8,t9,t10,t11,_,t13,t14,t15,t16,rfl,hsz',Zl,Zk,Zn,Zo,Zp,Zr,MX,(λ_=>rfl),MI,MO,Zu,Zv,Zw,Zx⟩
  .simp only[Ac,Ab,Aa,Aj]at ho;subst ho;have q7:l.getD 7 false=true:=hdep ⟨7,.data⟩ Zc rfl;clear hdep;obtain rfl:=f7 q7;refine Ar rfl rfl ?_;generalize hK:Cc w k1 n1 ki na (l.setIfInBounds 8 true)=K;go_simp;rw[<-hK];unfold Cc;exact⟨t4,t5,t6,t7,t8,t9,t10,t11,_,_,t14,t15,t16,rfl,hsz',Zl,Zk,Zn,Zo,Zp,Zr,MX,MQ,(λ_=>rfl),MO,Zu,Zv,Zw,Zx⟩
  .simp only[Ac,Ab,Aa,Aj]at ho;subst ho;have q6:l.getD 6 false=true:=hdep ⟨6,.data⟩ Zc rfl;have q8:l.getD 8 false=true:=hdep ⟨8,.data⟩ Zc rfl;clear hdep;obtain rfl:=f6 q6;obtain rfl:=f8 q8;refine Ar rfl rfl ?_;generalize hK:Cc w k1 n1 ki na (l.setIfInBounds 9 true)=K;go_simp;go_at_call 96;refine(II _ _ _).mono ?_;rintro e w1 ⟨rfl,rfl⟩;rw[<-hK];unfold Cc;exact⟨t4,t5,t6,t7,t8,t9,t10,_,t12,_,_,t15,t16,rfl,hsz',Zl,Zk,Zn,Zo,Zp,Zr,MX,MQ,MI,(λ_=>rfl),Zu,Zv,Zw,Zx⟩
  .simp only[Ac,Ab,Aa,Aj]at ho;subst ho;have q4:l.getD 4 false=true:=hdep ⟨4,.data⟩ Zc rfl;have q9:l.getD 9 false=true:=hdep ⟨9,.data⟩ Zc rfl;clear hdep;obtain rfl:=f4 q4;obtain rfl:=f9 q9;obtain rfl:=f13 hui;refine Ar rfl rfl ?_;generalize hK:Cc w k1 n1 ki na (l.setIfInBounds 10 true)=K;go_simp;rw[<-hK];unfold Cc;exact⟨t4,t5,t6,t7,t8,_,t10,t11,t12,t13,_,_,t16,rfl,hsz',Zl,Zk,Zn,Zo,Zp,Zr,MX,MQ,MI,MO,(λ_=>⟨Zc,rfl⟩),Zv,Zw,(λh=>absurd (ki'.symm.trans h) Za)⟩
  .simp only[Ac,Ab,Aa,Aj]at ho;subst ho;have q10:l.getD 10 false=true:=hdep ⟨10,.data⟩ Zc rfl;clear hdep;obtain⟨rfl,rfl⟩:=f10 q10;refine Ar rfl rfl ?_;generalize hK:Cc w k1 n1 ki na (l.setIfInBounds 11 true)=K;go_simp;go_at_call 95;refine(Wa (Cl k1 ki) (Cl n1 na) _ _ _ (by have h:=Ao ((w.alloc (.cells #[.string k1,.string n1] 65)).alloc (.cells #[.string ki,.string na] 65)) #[.int .i64 (Cl k1 ki),.int .i64 (Cl n1 na)] 3 0;simpa using h) (by have h:=Ao ((w.alloc (.cells #[.string k1,.string n1] 65)).alloc (.cells #[.string ki,.string na] 65)) #[.int .i64 (Cl k1 ki),.int .i64 (Cl n1 na)] 3 1;simpa using h)).mono ?_;rintro e w1 ⟨rfl,rfl⟩;rw[<-hK];unfold Cc;exact⟨t4,t5,t6,t7,t8,t9,t10,t11,t12,t13,t14,_,_,rfl,hsz',Zl,Zk,Zn,Zo,Zp,Zr,MX,MQ,MI,MO,Zu,(λ_=>rfl),Zw,Zx⟩
  .simp only[Ac,Ab,Aa,Aj]at ho;subst ho;have q11:l.getD 11 false=true:=hdep ⟨11,.data⟩ Zc rfl;clear hdep;obtain rfl:=f11 q11;refine Ar rfl rfl ?_;generalize hK:Cc w k1 n1 ki na (l.setIfInBounds 12 true)=K;go_simp;rw[<-hK];unfold Cc;exact⟨_,t5,t6,t7,t8,t9,t10,t11,t12,t13,t14,t15,_,rfl,hsz',Zl,Zk,Zn,Zo,Zp,Zr,MX,MQ,MI,MO,Zu,Zv,(λ_=>rfl),Zx⟩
theorem NE (x:Ob)(ad:OA)(cap:Nat)(w:World):Calls prog 23 #[.agg #[.string x.kind,.string x.name,.int .i64 x.ver,.int .i64 x.born,.string x.text,.bool x.ending,.slice ad x.hn cap]] w λe w'=>e=.returned (.agg #[.string x.kind,.string x.name])/\Gr w w':=by go_enter func23,ntmps23;go_wp2;refine bodyPost_ret (v:=.agg #[.string x.kind,.string x.name]) (by simp[results,results23,go_sem]) rfl ⟨rfl,?_⟩;exact((Gr.refl _).alloc _).alloc _
def Hq (mk:(Nat->Value)->Array Value)(n:Nat)(W:World)(vs:Nat->Value)(l:Array Bool)(a:Act)(w':World):Prop:=∃t:Nat->Value,a=⟨mk t,[]⟩/\l.size=n/\(∀i,i<n->l.getD i false=true->t i=vs i)/\Gr W w'
theorem Hq.step{mk:(Nat->Value)->Array Value}{n:Nat}{W:World}{vs:Nat->Value}{l:Array Bool}{a:Act}{w':World}{t:Nat->Value}(hls:l.size=n)(ht:∀i,i<n->l.getD i false=true->t i=vs i)(hb:Gr W w')(i:Nat)(hi:i<n)(ha:a=⟨mk (Jc t i (vs i)),[]⟩):Hq mk n W vs (l.setIfInBounds i true) a w':=⟨Jc t i (vs i),ha,by simp[hls],λj hj hl=>by
  by_cases e:j=i;.subst e;simp[Jc]
  .rw[BM Zb,if_neg e]at hl;rw[<-ht j hj hl];have e2:(j==i)=false:=by simpa using e
   simp[Jc,e2],hb⟩
theorem QN (x z:Ob)(ad ad2:OA)(cap cap2:Nat)(w:World):Calls prog 26 #[.agg #[.string x.kind,.string x.name,.int .i64 x.ver,.int .i64 x.born,.string x.text,.bool x.ending,.slice ad x.hn cap],.agg #[.string z.kind,.string z.name,.int .i64 z.ver,.int .i64 z.born,.string z.text,.bool z.ending,.slice ad2 z.hn cap2]] w λe w'=>e=.returned (.int .i64 (KV (Cl x.kind z.kind) (Cl x.name z.name)))/\Gr w w':=by
 have hX0:=(DJ w #[.string x.kind,.string x.name,.int .i64 x.ver,.int .i64 x.born,.string x.text,.bool x.ending,.slice ad x.hn cap] 61).below (An (w.alloc (.cells #[.string x.kind,.string x.name,.int .i64 x.ver,.int .i64 x.born,.string x.text,.bool x.ending,.slice ad x.hn cap] 61)) (.cells #[.string z.kind,.string z.name,.int .i64 z.ver,.int .i64 z.born,.string z.text,.bool z.ending,.slice ad2 z.hn cap2] 61)) Zc;have hZ0:=DJ (w.alloc (.cells #[.string x.kind,.string x.name,.int .i64 x.ver,.int .i64 x.born,.string x.text,.bool x.ending,.slice ad x.hn cap] 61)) #[.string z.kind,.string z.name,.int .i64 z.ver,.int .i64 z.born,.string z.text,.bool z.ending,.slice ad2 z.hn cap2] 61;obtain⟨W1,hW1⟩:∃W1,(w.alloc (.cells #[.string x.kind,.string x.name,.int .i64 x.ver,.int .i64 x.born,.string x.text,.bool x.ending,.slice ad x.hn cap] 61)).alloc (.cells #[.string z.kind,.string z.name,.int .i64 z.ver,.int .i64 z.born,.string z.text,.bool z.ending,.slice ad2 z.hn cap2] 61)=W1:=⟨_,rfl⟩;have hX1:DS W1 w.1.size #[.string x.kind,.string x.name,.int .i64 x.ver,.int .i64 x.born,.string x.text,.bool x.ending,.slice ad x.hn cap]:=by rw[<-hW1];exact hX0
 have hZ1:DS W1 (w.1.size+1) #[.string z.kind,.string z.name,.int .i64 z.ver,.int .i64 z.born,.string z.text,.bool z.ending,.slice ad2 z.hn cap2]:=by rw[<-hW1];have h:=hZ0;rw[Au]at h;exact h
 have G1:Gr w W1:=by rw[<-hW1];exact((Gr.refl _).alloc _).alloc _
 clear hX0 hZ0;go_enter func26,ntmps26;go_wp2;refine CA Ze (Hq (λt:Nat->Value=>#[.agg #[.string x.kind,.string x.name,.int .i64 x.ver,.int .i64 x.born,.string x.text,.bool x.ending,.slice ad x.hn cap],.agg #[.string z.kind,.string z.name,.int .i64 z.ver,.int .i64 z.born,.string z.text,.bool z.ending,.slice ad2 z.hn cap2],.pointer (some ⟨w.1.size,0,none⟩),.pointer (some ⟨w.1.size+1,0,none⟩),t 5,t 0,t 1,t 2,t 3,t 4]) 6 W1 (λi=>[.agg #[.string x.kind,.string x.name,.int .i64 x.ver,.int .i64 x.born,.string x.text,.bool x.ending,.slice ad x.hn cap],.agg #[.string x.kind,.string x.name],.agg #[.string z.kind,.string z.name,.int .i64 z.ver,.int .i64 z.born,.string z.text,.bool z.ending,.slice ad2 z.hn cap2],.agg #[.string z.kind,.string z.name],.int .i64 (KV (Cl x.kind z.kind) (Cl x.name z.name)),.int .i64 (KV (Cl x.kind z.kind) (Cl x.name z.name))].getD i undef)) ?_ ?_ ?_ ?_;.exact⟨λi=>if i=5 then .int .i64 0 else undef,rfl,Zc,λi hi h=>by simp[Array.getD,hi]at h,(Gr.refl _).drew⟩
 .intro l a w' hI;obtain⟨t,rfl,hls,_⟩:=hI;exact hls
 .intro l a w' hI hr';obtain⟨t,rfl,hls,ht,hb⟩:=hI;have AL:=CC Ze (by rw[hls];rfl) hr';have e5:t 5=.int .i64 (KV (Cl x.kind z.kind) (Cl x.name z.name)):=ht 5 Za (AL 5 Za);clear AL ht hr';go_wp2;go_ret;exact⟨congrArg Ending.returned e5,G1.trans hb⟩
 .intro l a w' i' hI hr';obtain⟨t,rfl,hls,ht,bB⟩:=hI;obtain⟨hu',o',ho,hdep⟩:=mem_ready.1 hr';have hi16:i'<6:=by
   rcases At i' 6 with h|h;.exact h
   .rw[AP TX]at ho;cases ho
  clear hr' hu';rcases(show i'=0\/i'=1\/i'=2\/i'=3\/i'=4\/i'=5 by omega)with rfl|rfl|rfl|rfl|rfl|rfl;.simp only[Ac,Aa,Aj]at ho;subst ho;clear hdep;have hh:=hX1.below bB.below (by rw[<-hW1];simp;omega);have x0:=hh 0;have x1:=hh 1;have x2:=hh 2;have x3:=hh 3;have x4:=hh 4;have x5:=hh 5;have x6:=hh 6;simp only[Ac,Ab,Aa]at x0 x1 x2 x3 x4 x5 x6;refine Ar rfl rfl ?_;generalize hK:Hq (λt:Nat->Value=>#[.agg #[.string x.kind,.string x.name,.int .i64 x.ver,.int .i64 x.born,.string x.text,.bool x.ending,.slice ad x.hn cap],.agg #[.string z.kind,.string z.name,.int .i64 z.ver,.int .i64 z.born,.string z.text,.bool z.ending,.slice ad2 z.hn cap2],.pointer (some ⟨w.1.size,0,none⟩),.pointer (some ⟨w.1.size+1,0,none⟩),t 5,t 0,t 1,t 2,t 3,t 4]) 6 W1 (λi=>[.agg #[.string x.kind,.string x.name,.int .i64 x.ver,.int .i64 x.born,.string x.text,.bool x.ending,.slice ad x.hn cap],.agg #[.string x.kind,.string x.name],.agg #[.string z.kind,.string z.name,.int .i64 z.ver,.int .i64 z.born,.string z.text,.bool z.ending,.slice ad2 z.hn cap2],.agg #[.string z.kind,.string z.name],.int .i64 (KV (Cl x.kind z.kind) (Cl x.name z.name)),.int .i64 (KV (Cl x.kind z.kind) (Cl x.name z.name))].getD i undef) (l.setIfInBounds 0 true)=K;go_simp;rw[<-hK];refine Hq.step (t:=t) hls ht bB 0 Za ?_;simp[Jc]
  .simp only[Ac,Ab,Aa,Aj]at ho;subst ho;have e0:t 0=.agg #[.string x.kind,.string x.name,.int .i64 x.ver,.int .i64 x.born,.string x.text,.bool x.ending,.slice ad x.hn cap]:=ht 0 Za (hdep ⟨0,.data⟩ Zc rfl);clear hdep;refine Ar rfl rfl ?_;generalize hK:Hq (λt:Nat->Value=>#[.agg #[.string x.kind,.string x.name,.int .i64 x.ver,.int .i64 x.born,.string x.text,.bool x.ending,.slice ad x.hn cap],.agg #[.string z.kind,.string z.name,.int .i64 z.ver,.int .i64 z.born,.string z.text,.bool z.ending,.slice ad2 z.hn cap2],.pointer (some ⟨w.1.size,0,none⟩),.pointer (some ⟨w.1.size+1,0,none⟩),t 5,t 0,t 1,t 2,t 3,t 4]) 6 W1 (λi=>[.agg #[.string x.kind,.string x.name,.int .i64 x.ver,.int .i64 x.born,.string x.text,.bool x.ending,.slice ad x.hn cap],.agg #[.string x.kind,.string x.name],.agg #[.string z.kind,.string z.name,.int .i64 z.ver,.int .i64 z.born,.string z.text,.bool z.ending,.slice ad2 z.hn cap2],.agg #[.string z.kind,.string z.name],.int .i64 (KV (Cl x.kind z.kind) (Cl x.name z.name)),.int .i64 (KV (Cl x.kind z.kind) (Cl x.name z.name))].getD i undef) (l.setIfInBounds 1 true)=K;go_simp;refine(NE x ad cap _).mono ?_;rintro e w5 ⟨rfl,k4⟩;rw[<-hK];refine Hq.step (t:=t) hls ht (bB.trans k4) 1 Za ?_;simp[Jc,e0]
  .simp only[Ac,Ab,Aa,Aj]at ho;subst ho;clear hdep;have hh:=hZ1.below bB.below (by rw[<-hW1];simp);have x0:=hh 0;have x1:=hh 1;have x2:=hh 2;have x3:=hh 3;have x4:=hh 4;have x5:=hh 5;have x6:=hh 6;simp only[Ac,Ab,Aa]at x0 x1 x2 x3 x4 x5 x6;refine Ar rfl rfl ?_;generalize hK:Hq (λt:Nat->Value=>#[.agg #[.string x.kind,.string x.name,.int .i64 x.ver,.int .i64 x.born,.string x.text,.bool x.ending,.slice ad x.hn cap],.agg #[.string z.kind,.string z.name,.int .i64 z.ver,.int .i64 z.born,.string z.text,.bool z.ending,.slice ad2 z.hn cap2],.pointer (some ⟨w.1.size,0,none⟩),.pointer (some ⟨w.1.size+1,0,none⟩),t 5,t 0,t 1,t 2,t 3,t 4]) 6 W1 (λi=>[.agg #[.string x.kind,.string x.name,.int .i64 x.ver,.int .i64 x.born,.string x.text,.bool x.ending,.slice ad x.hn cap],.agg #[.string x.kind,.string x.name],.agg #[.string z.kind,.string z.name,.int .i64 z.ver,.int .i64 z.born,.string z.text,.bool z.ending,.slice ad2 z.hn cap2],.agg #[.string z.kind,.string z.name],.int .i64 (KV (Cl x.kind z.kind) (Cl x.name z.name)),.int .i64 (KV (Cl x.kind z.kind) (Cl x.name z.name))].getD i undef) (l.setIfInBounds 2 true)=K;go_simp;rw[<-hK];refine Hq.step (t:=t) hls ht bB 2 Za ?_;simp[Jc]
  .simp only[Ac,Ab,Aa,Aj]at ho;subst ho;have e2:t 2=.agg #[.string z.kind,.string z.name,.int .i64 z.ver,.int .i64 z.born,.string z.text,.bool z.ending,.slice ad2 z.hn cap2]:=ht 2 Za (hdep ⟨2,.data⟩ Zc rfl);clear hdep;refine Ar rfl rfl ?_;generalize hK:Hq (λt:Nat->Value=>#[.agg #[.string x.kind,.string x.name,.int .i64 x.ver,.int .i64 x.born,.string x.text,.bool x.ending,.slice ad x.hn cap],.agg #[.string z.kind,.string z.name,.int .i64 z.ver,.int .i64 z.born,.string z.text,.bool z.ending,.slice ad2 z.hn cap2],.pointer (some ⟨w.1.size,0,none⟩),.pointer (some ⟨w.1.size+1,0,none⟩),t 5,t 0,t 1,t 2,t 3,t 4]) 6 W1 (λi=>[.agg #[.string x.kind,.string x.name,.int .i64 x.ver,.int .i64 x.born,.string x.text,.bool x.ending,.slice ad x.hn cap],.agg #[.string x.kind,.string x.name],.agg #[.string z.kind,.string z.name,.int .i64 z.ver,.int .i64 z.born,.string z.text,.bool z.ending,.slice ad2 z.hn cap2],.agg #[.string z.kind,.string z.name],.int .i64 (KV (Cl x.kind z.kind) (Cl x.name z.name)),.int .i64 (KV (Cl x.kind z.kind) (Cl x.name z.name))].getD i undef) (l.setIfInBounds 3 true)=K;go_simp;refine(NE z ad2 cap2 _).mono ?_;rintro e w5 ⟨rfl,k4⟩;rw[<-hK];refine Hq.step (t:=t) hls ht (bB.trans k4) 3 Za ?_;simp[Jc,e2]
  .simp only[Ac,Ab,Aa,Aj]at ho;subst ho;have e1:t 1=.agg #[.string x.kind,.string x.name]:=ht 1 Za (hdep ⟨1,.data⟩ Zc rfl);have e3:t 3=.agg #[.string z.kind,.string z.name]:=ht 3 Za (hdep ⟨3,.data⟩ Zc rfl);clear hdep;refine Ar rfl rfl ?_;generalize hK:Hq (λt:Nat->Value=>#[.agg #[.string x.kind,.string x.name,.int .i64 x.ver,.int .i64 x.born,.string x.text,.bool x.ending,.slice ad x.hn cap],.agg #[.string z.kind,.string z.name,.int .i64 z.ver,.int .i64 z.born,.string z.text,.bool z.ending,.slice ad2 z.hn cap2],.pointer (some ⟨w.1.size,0,none⟩),.pointer (some ⟨w.1.size+1,0,none⟩),t 5,t 0,t 1,t 2,t 3,t 4]) 6 W1 (λi=>[.agg #[.string x.kind,.string x.name,.int .i64 x.ver,.int .i64 x.born,.string x.text,.bool x.ending,.slice ad x.hn cap],.agg #[.string x.kind,.string x.name],.agg #[.string z.kind,.string z.name,.int .i64 z.ver,.int .i64 z.born,.string z.text,.bool z.ending,.slice ad2 z.hn cap2],.agg #[.string z.kind,.string z.name],.int .i64 (KV (Cl x.kind z.kind) (Cl x.name z.name)),.int .i64 (KV (Cl x.kind z.kind) (Cl x.name z.name))].getD i undef) (l.setIfInBounds 4 true)=K;go_simp;refine(Rt _ _ _ _ _).mono ?_;rintro e w5 ⟨rfl,k4⟩;rw[<-hK];refine Hq.step (t:=t) hls ht (bB.trans k4) 4 Za ?_;simp[Jc,e1,e3]
  .simp only[Ac,Ab,Aa,Aj]at ho;subst ho;have e4:t 4=.int .i64 (KV (Cl x.kind z.kind) (Cl x.name z.name)):=ht 4 Za (hdep ⟨4,.data⟩ Zc rfl);clear hdep;refine Ar rfl rfl ?_;generalize hK:Hq (λt:Nat->Value=>#[.agg #[.string x.kind,.string x.name,.int .i64 x.ver,.int .i64 x.born,.string x.text,.bool x.ending,.slice ad x.hn cap],.agg #[.string z.kind,.string z.name,.int .i64 z.ver,.int .i64 z.born,.string z.text,.bool z.ending,.slice ad2 z.hn cap2],.pointer (some ⟨w.1.size,0,none⟩),.pointer (some ⟨w.1.size+1,0,none⟩),t 5,t 0,t 1,t 2,t 3,t 4]) 6 W1 (λi=>[.agg #[.string x.kind,.string x.name,.int .i64 x.ver,.int .i64 x.born,.string x.text,.bool x.ending,.slice ad x.hn cap],.agg #[.string x.kind,.string x.name],.agg #[.string z.kind,.string z.name,.int .i64 z.ver,.int .i64 z.born,.string z.text,.bool z.ending,.slice ad2 z.hn cap2],.agg #[.string z.kind,.string z.name],.int .i64 (KV (Cl x.kind z.kind) (Cl x.name z.name)),.int .i64 (KV (Cl x.kind z.kind) (Cl x.name z.name))].getD i undef) (l.setIfInBounds 5 true)=K;go_simp;rw[<-hK];refine Hq.step (t:=t) hls ht bB 5 Za ?_;simp[Jc,e4]
end Go.Proofs.YtofencldleijcaaGreat
namespace Go.Proofs.YtofencldleijcaaGreat
open Go.RowKit Go.Maps Go.Shelf Go.Sort Go.Proofs.Tryz
attribute [local go_sem] Cv
instance:Inhabited Ob:=⟨⟨ByteArray.empty,ByteArray.empty,0,0,ByteArray.empty,false,0,λ_=>ByteArray.empty⟩⟩
abbrev St:=Ob×Option Addr×Nat
def Gh (a:St):List Value:=[.string a.1.kind,.string a.1.name,.int .i64 a.1.ver,.int .i64 a.1.born,.string a.1.text,.bool a.1.ending,.slice a.2.1 a.1.hn a.2.2]
def i4 (a b:St):Int:=KV (Cl a.1.kind b.1.kind) (Cl a.1.name b.1.name)
theorem mB (a b:St):ltOf i4 a b=CN a.1 b.1:=(QJ a.1 b.1).symm
theorem nP:SWO (ltOf i4)where
 irrefl x:=by rw[mB];exact N7.irrefl _
 trans x y z h1 h2:=by rw[mB]at*;exact N7.trans _ _ _ h1 h2
 ntrans x y z h1 h2:=by rw[mB]at*;exact N7.ntrans _ _ _ h1 h2
theorem oA (blk off size:Nat)(w:World):CmpLays prog 26 #[] Gh 7 i4 blk off size w:=λ_ _ _ _ x y=>QN x.1 y.1 x.2.1 y.2.1 x.2.2 y.2.2 _
theorem YR (blk off cap:Nat)(d:Array St)(w:World)(hH:HoldsK Gh 7 w blk off d)(hblk:blk<w.1.size)(hsz:d.size<4611686018427387904):Calls prog 25 #[.slice (some ⟨blk,off,none⟩) d.size cap,.func (.func 26) #[] #[]] w λe w'=>e=.returned (.tuple #[])/\∃d' n os,PermIn 0 d.size d d'/\SortedIn (ltOf i4) 0 d.size d'/\w'=sortWorldK Gh 7 w blk off n d' os:=by have eg:∀args w,(callFunc 26 args).run prog w=.ok (.enter 26 args) w:=enters_of func26 Ze rfl;exact AnyQ.slices_SortFunc sortOb 7 isAgg61 sizeOf61 Gh (λ_=>rfl) (λx v hv=>by simp[Gh]at hv;rcases hv with rfl|rfl|rfl|rfl|rfl|rfl|rfl<;>rfl) i4 nP 26 #[] blk off cap d w eg (oA blk off d.size w) hH hblk hsz
def JF:Option Addr->Nat
 |some p=>p.block
 |none=>0
theorem Gz{w:World}{b:Nat}{ad:OA}{n:Nat}{s:Nat->ByteArray}(h:Bd w b (b+1) ad n s)(h0:n≠0):JF ad=b:=by obtain⟨q,off,rfl,e2,e3,_⟩:=h 0 Zb;show q=b;omega
theorem SV{w:World}{b b':Nat}{ad:OA}{n:Nat}{s:Nat->ByteArray}(h:Bd w b (b+1) ad n s)(hb:n≠0->b'=b):Bd w b' (b'+1) ad n s:=λi hi=>by obtain rfl:=hb Zb;exact h i hi
def lO (w:World)(base g:Nat)(a:St):Prop:=Bd w (JF a.2.1) (JF a.2.1+1) a.2.1 a.1.hn a.1.hs/\(a.1.hn≠0->base<=JF a.2.1/\JF a.2.1<w.1.size/\JF a.2.1≠g)
def dO (a b:St):Prop:=a.1.hn≠0->b.1.hn≠0->JF a.2.1≠JF b.2.1
def KI (n:Nat)(x:Nat->Ob)(A:Nat->Option Addr)(C:Nat->Nat):Array St:=((List.range n).map (λi=>(x i,A i,C i))).toArray
theorem Hd (n:Nat)(x:Nat->Ob)(A:Nat->Option Addr)(C:Nat->Nat):(KI n x A C).size=n:=by simp[KI]
theorem aU{n:Nat}{x:Nat->Ob}{A:Nat->Option Addr}{C:Nat->Nat}{i:Nat}(hi:i<n):(KI n x A C)[i]! =(x i,A i,C i):=by rw[getElem!_pos _ i (by rw[Hd];exact hi)];simp[KI]
theorem Ua (a:St):(Gh a)[0]! =.string a.1.kind/\(Gh a)[1]! =.string a.1.name/\(Gh a)[2]! =.int .i64 a.1.ver/\(Gh a)[3]! =.int .i64 a.1.born/\(Gh a)[4]! =.string a.1.text/\(Gh a)[5]! =.bool a.1.ending/\(Gh a)[6]! =.slice a.2.1 a.1.hn a.2.2:=⟨rfl,rfl,rfl,rfl,rfl,rfl,rfl⟩
theorem NP{w:World}{g n:Nat}{c:Nat->Value}{x:Nat->Ob}{A:Nat->Option Addr}{C:Nat->Nat}(hr:AM w g (n*7) c)(hat:∀i,i<n->K0 c i (x i) (A i) (C i)):HoldsK Gh 7 w g 0 (KI n x A C):=by
 intro j hj;rw[size_flatK,Hd]at hj;have hd:j/7<n:=Zb;refine⟨?_,by rw[Bq];exact hr.free j⟩;rw[Bq,hr.cell j hj,get_flatK _ _ _ _ (by rw[Hd];exact hj),aU hd];obtain⟨e0,e1,e2,e3,e4,e5,e6⟩:=Ua (x (j/7),A (j/7),C (j/7));obtain⟨a0,a1,a2,a3,a4,a5,a6⟩:=hat _ hd;have hm:j=j/7*7+j%7:=Zb;congr 1;rcases(show j%7=0\/j%7=1\/j%7=2\/j%7=3\/j%7=4\/j%7=5\/j%7=6 by omega)with h|h|h|h|h|h|h<;>rw[h]at hm⊢;.exact(congrArg c hm).trans (a0.trans e0.symm)
 .exact(congrArg c hm).trans (a1.trans e1.symm)
 .exact(congrArg c hm).trans (a2.trans e2.symm)
 .exact(congrArg c hm).trans (a3.trans e3.symm)
 .exact(congrArg c hm).trans (a4.trans e4.symm)
 .exact(congrArg c hm).trans (a5.trans e5.symm)
 .exact(congrArg c hm).trans (a6.trans e6.symm)
theorem S8{w:World}{g n:Nat}{d:Array St}(h:HoldsK Gh 7 w g 0 d)(hn:d.size=n)(hf:∀j,w.frozen? ⟨g,j,none⟩=false)(hl:g<w.1.size):∃c,AM w g (n*7) c/\∀i,i<n->K0 c i (d[i]!).1 (d[i]!).2.1 (d[i]!).2.2:=by
 subst hn;refine⟨λj=>(Gh d[j/7]!)[j%7]!,⟨hl,hf,λj hj=>?_⟩,λi hi=>?_⟩;.have h1:=(h j (by rw[size_flatK];exact hj)).1;rw[Bq,get_flatK _ _ _ _ hj]at h1;exact h1
 .have q:∀c,c<7->(i*7+c)/7=i/\(i*7+c)%7=c:=λc hc=>by omega
  obtain⟨e0,e1,e2,e3,e4,e5,e6⟩:=Ua d[i]!;have z:=q 0 Zb;rw[Ks]at z;refine⟨?_,?_,?_,?_,?_,?_,?_⟩;.show(Gh d[i*7/7]!)[i*7%7]! =_;rw[z.1,z.2];exact e0
  .show(Gh d[(i*7+1)/7]!)[(i*7+1)%7]! =_;rw[(q 1 Zb).1,(q 1 Zb).2];exact e1
  .show(Gh d[(i*7+2)/7]!)[(i*7+2)%7]! =_;rw[(q 2 Zb).1,(q 2 Zb).2];exact e2
  .show(Gh d[(i*7+3)/7]!)[(i*7+3)%7]! =_;rw[(q 3 Zb).1,(q 3 Zb).2];exact e3
  .show(Gh d[(i*7+4)/7]!)[(i*7+4)%7]! =_;rw[(q 4 Zb).1,(q 4 Zb).2];exact e4
  .show(Gh d[(i*7+5)/7]!)[(i*7+5)%7]! =_;rw[(q 5 Zb).1,(q 5 Zb).2];exact e5
  .show(Gh d[(i*7+6)/7]!)[(i*7+6)%7]! =_;rw[(q 6 Zb).1,(q 6 Zb).2];exact e6
theorem Lk (w:World)(g m:Nat)(d:Array St)(os:Array Obj):AB (λq=>q=g) w (sortWorldK Gh 7 w g 0 m d os):=by refine⟨rfl,rfl,rfl,by unfold sortWorldK putRowK putRow mapBlock grow Go.Sort.ahead;simp,λk hk hne=>?_⟩;show(w.heap.modify g (onCells (putCells id 0 (flatK Gh 7 d)))++os)[k]? =w.heap[k]?;rw[Gm (by simpa using hk),Array.getElem?_modify,if_neg (λe=>hne e.symm)]
theorem Qx (w:World)(g m:Nat)(d:Array St)(os:Array Obj)(hg:g<w.1.size)(j:Nat):(sortWorldK Gh 7 w g 0 m d os).frozen? ⟨g,j,none⟩=w.frozen? ⟨g,j,none⟩:=by unfold sortWorldK putRowK;rw[frozen?_grow _ _ _ (by simpa[putRow,mapBlock]using hg),frozen?_putRow];rfl
theorem U8{n:Nat}{d d':Array St}(h:PermIn 0 n d d')(hn:d.size=n):d'.toList.Perm d.toList:=by
 have e1:d'.extract 0 n=d':=by rw[<-hn,<-h.1];simp
 have e2:d.extract 0 n=d:=by rw[<-hn];simp
 have:=h.2.2;rw[e1,e2]at this;exact this
theorem Un{d:Array St}{i:Nat}(hi:i<d.size):d[i]!∈d.toList:=by rw[getElem!_pos _ i hi];exact Array.mem_toList_iff.2 (F2 hi)
theorem Sq{w:World}{base g cap n m:Nat}{x:Nat->Ob}{A:Nat->Option Addr}{C hb:Nat->Nat}{d':Array St}{os:Array Obj}(h:JG w base (.slice (some ⟨g,0,none⟩) n cap) n x A C hb)(hp:PermIn 0 n (KI n x A C) d'):∃(y:Nat->Ob)(A':Nat->Option Addr)(C' hb':Nat->Nat),(∀i,d'[i]! =(y i,A' i,C' i))/\D5 (sortWorldK Gh 7 w g 0 m d' os) (some ⟨g,0,none⟩) g n y A' C' hb'/\(∀q,Gy g n (λi=>(y i).hn) hb' q->base<=q/\((Value.slice (some ⟨g,0,none⟩) n cap).ownBlock=some q\/∃i,i<n/\(x i).hn≠0/\q=hb i))/\(LL n y).Perm (LL n x):=by
 obtain⟨c,r,hat⟩:=h.row;have R:=Fj r;have hg:g<w.1.size/\base<=g:=⟨(r.lt g rfl).2,(r.lt g rfl).1⟩;have hsz:=Hd n x A C;have hd':d'.size=n:=by rw[hp.1,hsz]
 have HK:=NP R hat;have HK':=holdsK_sortWorldK_c Gh 7 w g 0 (KI n x A C) d' m os HK hg.1 (by rw[hd',hsz]);have hpl:=U8 hp hsz;have hok:∀a,a∈(KI n x A C).toList->lO w base g a:=λa ha=>by simp only[KI,CI,Bc]at ha;obtain⟨i,hi,rfl⟩:=ha;have hB:=h.hold i hi;refine⟨SV hB (λh0=>Gz hB h0),λh0=>?_⟩;have e:JF (A i)=hb i:=Gz hB h0;show base<=JF (A i)/\JF (A i)<_/\JF (A i)≠g;rw[e];exact⟨(h.hlt i hi h0).1,(h.hlt i hi h0).2,λe=>h.ne i hi h0 (by rw[e];rfl)⟩
 have hdf:(KI n x A C).toList.Pairwise dO:=by simp only[KI,IZ];refine List.Pairwise.imp_of_mem ?_ (List.pairwise_lt_range (n:=n));intro i j hi hj hij h0 h1 e;rw[Bc]at hi hj;have e1:JF (A i)=hb i:=Gz (h.hold i hi) h0;have e2:JF (A j)=hb j:=Gz (h.hold j hj) h1;have e':JF (A i)=JF (A j):=e;rw[e1,e2]at e';have:=h.inj i j hi hj h0 h1 e';omega
 have hok':∀i,i<n->lO w base g d'[i]!:=λi hi=>hok _ (hpl.mem_iff.1 (Un Zb));have hdf':d'.toList.Pairwise dO:=(hpl.pairwise_iff (λ{a b}h h0 h1 e=>h h1 h0 e.symm)).2 hdf;obtain⟨c',r',hat'⟩:=S8 HK' hd' (λj=>(Qx w g m d' os hg.1 j).trans (R.free j)) (Ad hg.1 (Lk w g m d' os).size);refine⟨λi=>(d'[i]!).1,λi=>(d'[i]!).2.1,λi=>(d'[i]!).2.2,λi=>JF (d'[i]!).2.1,λi=>rfl,⟨λ_=>rfl,λ_=>⟨c',r',hat'⟩,λi hi=>?_,λi hi h0=>?_,⟨λi hi h0=>((hok' i hi).2 h0).2.2,λi j hi hj h0 h1 e=>?_⟩⟩,λq hq=>?_,?_⟩;.exact(hok' i hi).1.frP (Lk w g m d' os) (λh0=>⟨((hok' i hi).2 h0).2.2,((hok' i hi).2 h0).2.1⟩)
 .exact Ad ((hok' i hi).2 h0).2.1 (Lk w g m d' os).size
 .have hp2:=Lv.1 hdf';have gi:∀{k:Nat}(hk:k<n),d'[k]! =d'.toList[k]'(by simpa[hd']using hk):=λ{k}hk=>by rw[getElem!_pos _ k Zb];simp
  rcases EH i j with hl|hl|hl;.have:=hp2 i j (by simpa[hd']using hi) (by simpa[hd']using hj) hl;rw[<-gi hi,<-gi hj]at this;exact absurd e (this h0 h1)
  .exact hl
  .have:=hp2 j i (by simpa[hd']using hj) (by simpa[hd']using hi) hl;rw[<-gi hi,<-gi hj]at this;exact absurd e.symm (this h1 h0)
 .rcases hq with⟨_,rfl⟩|⟨i,hi,h0,rfl⟩;.exact⟨hg.2,AO rfl⟩
  .refine⟨((hok' i hi).2 h0).1,AD ?_⟩;have hm:=hpl.mem_iff.1 (Un (d:=d') (i:=i) Zb);simp only[KI,CI,Bc]at hm;obtain⟨j,hj,e⟩:=hm;have e1:(d'[i]!).1=x j:=by rw[<-e]
   have e2:(d'[i]!).2.1=A j:=by rw[<-e]
   have h0':(x j).hn≠0:=by rw[<-e1];exact h0
   exact⟨j,hj,h0',by show JF (d'[i]!).2.1=hb j;rw[e2];exact Gz (h.hold j hj) h0'⟩
 .have e1:LL n (λi=>(d'[i]!).1)=d'.toList.map (·.1):=by
   apply MH;.simp[LL,hd']
   .intro i h1 h2;simp only[LL,J5,Ds]at h1;simp only[LL,List.getElem_map,List.getElem_range];rw[getElem!_pos _ i Zb];simp
  have e2:LL n x=(KI n x A C).toList.map (·.1):=by simp[LL,KI,Function.comp_def]
  rw[e1,e2];exact hpl.map _
theorem Xg{n:Nat}{d':Array St}{y:Nat->Ob}{A:Nat->Option Addr}{C:Nat->Nat}(he:∀i,d'[i]! =(y i,A i,C i))(hs:SortedIn (ltOf i4) 0 n d'):(LL n y).Pairwise (λa b=>CN b a=false):=by rw[Lv];intro i j hi hj hij;simp only[LL,J5,Ds]at hi hj;simp only[LL,List.getElem_map,List.getElem_range];have h:=hs i j OM hij hj;rw[mB,he i,he j]at h;exact h
theorem M9 (x:Nat->Ch)(a b:ByteArray):∀n,tl x (List.range n) a b=(CM x a b n).isSome
 |0=>rfl
 |n+1=>by
  have ih:=M9 x a b n;unfold tl at ih⊢;rw[Fy,List.any_append,ih];by_cases h:(x n).ob.kind=a/\(x n).ob.name=b;.rw[Fb h];simp[h]
  .rw[ES h];simp[h]
theorem HZ.has{x:Nat->Ch}{n:Nat}{D:DataW Unit}(h:HZ x n D):OR x (List.range n) D:=λa b ha hb=>by obtain⟨h1,h2⟩:=h a b ha hb;rw[M9];cases e:CM x a b n with
 |none=>rw[h2 e];rfl
 |some i=>rw[(h1 i e).1];rfl
theorem Re{h:Nat->Ch}{a b:ByteArray}:∀{n:Nat},CM h a b n=none->∀j,j<n->¬((h j).ob.kind=a/\(h j).ob.name=b)
 |0,_,j,hj=>absurd hj (Ai _)
 |n+1,e,j,hj=>by
  by_cases h2:(h n).ob.kind=a/\(h n).ob.name=b;.rw[Fb h2]at e;cases e
  .rw[ES h2]at e;by_cases e2:j=n;.subst e2;exact h2
   .exact Re e j Zb
def JN (B:Bk)(k:Nat):List Ob:=(JL B (List.range B.on)).map B.os++((List.range k).filter (λj=>!(B.hs j).gone&&CM B.hs (B.hs j).ob.kind (B.hs j).ob.name k==some j)).map (λj=>(B.hs j).ob)
theorem Tc{n:Nat}{x:Nat->Ob}(h:E3 n x=true):pU n x:=by
 have h1:∀j,j+1<n->CN (x j) (x (j+1))=true:=λj hj=>by have h2:=AC.1 h (j+1) hj;simpa using h2
 intro i j hij;induction j with
 |zero=>omega
 |succ j ih=>
  intro hj;by_cases e:i=j;.subst e;exact h1 i hj
  .exact Fn (ih Zb Zb) (h1 j hj)
theorem UW{B:Bk}(hv:Be (Hw B) 7=true):B.on<=100/\pU B.on B.os:=by have h1:DK B.on B.os B.now=true:=AC.1 hv 1 Zb;unfold DK at h1;simp only[Ak,decide_eq_true_eq]at h1;exact⟨h1.1,Tc h1.2.1⟩
def Wj (x:Nat->Ch)(k j:Nat):Int:=match CM x (x j).ob.kind (x j).ob.name k with|some i=>(x i).ver|none=>0
theorem TI{x:Nat->Ch}{k j:Nat}(hj:j<k):∃i,CM x (x j).ob.kind (x j).ob.name k=some i:=by cases e:CM x (x j).ob.kind (x j).ob.name k with
 |some i=>exact⟨i,rfl⟩
 |none=>exact absurd ⟨rfl,rfl⟩ (Re e j hj)
theorem HZ.at_{x:Nat->Ch}{k:Nat}{D:DataW Unit}(h:HZ x k D){j:Nat}(hj:j<k)(hk:(x j).ob.kind.size<=maxLen)(hn:(x j).ob.name.size<=maxLen):D.atKey (kl (x j).ob.kind (x j).ob.name) (.lit (.int .i64 0))=.lit (.int .i64 (Wj x k j)):=by obtain⟨i,hi⟩:=TI (x:=x) hj;have h1:=((h _ _ hk hn).1 i hi).2;unfold Wj;rw[hi];exact h1
theorem Z6{x:Nat->Ch}{k j:Nat}{f:Int}(hv:∀i,i<k->(x i).ver=f+1+i)(hj:j<k):(Wj x k j==(x j).ver)=(CM x (x j).ob.kind (x j).ob.name k==some j):=by
 obtain⟨i,hi⟩:=TI (x:=x) hj;unfold Wj;rw[hi];have h1:=hv i (DZ hi).1;have h2:=hv j hj;show((x i).ver==(x j).ver)=_;by_cases e:i=j;.subst e;simp
 .have e1:¬(x i).ver=(x j).ver:=Zb;rw[beq_eq_false_iff_ne.2 e1];exact(beq_eq_false_iff_ne.2 (λh=>e (Option.some.inj h))).symm
theorem YU (z:Nat->Ob)(L:List Nat):LL L.length (DR z L)=L.map z:=by
 apply MH;.simp[LL]
 .intro i h1 h2;have hi:i<L.length:=by simpa[LL]using h1
  simp[LL,DR,hi]
def cG (B:Bk)(i:Nat):Ob:=if i<B.on then B.os i else(B.hs (i-B.on)).ob
theorem YL (B:Bk)(i:Nat):cG B (B.on+i)=(B.hs i).ob:=by unfold cG;rw[if_neg Zb,DY]
theorem XA{B:Bk}{i:Nat}(h:i<B.on):cG B i=B.os i:=if_pos h
theorem SG{B:Bk}{k:Nat}(hv:Be (Hw B) 7=true)(hk:k<=B.hn):(IN (λj=>!(B.hs j).gone&&Wj B.hs k j==(B.hs j).ver) B.on (JL B (List.range B.on)) (List.range k)).map (cG B)=JN B k:=by
 obtain⟨_,_,_,_,_,hh⟩:=KJ hv;unfold IN JN;rw[List.map_append,List.map_map];congr 1;.apply Ki;intro i hi;exact XA (Bc.1 (BL.1 hi).1)
 .rw[List.filter_congr (q:=λj=>!(B.hs j).gone&&CM B.hs (B.hs j).ob.kind (B.hs j).ob.name k==some j) (λj hj=>by rw[Z6 (f:=B.floor) (λi hi=>(hh i Zb)) (Bc.1 hj)])];apply Ki;intro j _;exact YL B j
theorem QI (s:ByteArray):s.extract 0 0=⟨#[]⟩:=by apply ByteArray.ext;rw[ByteArray.extract];show#[].extract 0 0++s.data.extract 0 (0+(0-0))++_=_;simp
theorem Uk (o:Ob):Md o ⟨#[]⟩ ⟨#[]⟩=true:=by
 have e1:(ByteArray.mk #[]).toList=[]:=by unfold ByteArray.toList;unfold ByteArray.toList.loop;rfl
 have e2:(ByteArray.mk #[]).size=0:=rfl;unfold Md dR;rw[e2,QI,e1];simp
theorem PL{p:Nat->Bool}:∀n,(∀i,i<n->p i=true)->Ms p n=List.range n
 |0,_=>rfl
 |n+1,h=>by rw[TO (h n (Bj _)),PL n (λi hi=>h i Zb),Fy]
theorem Xc{P:Prop}(h:P:=by refine bodyPost_ret (v:=.tuple #[.slice none 0 0,.bool false]) (by simp[results,results6,go_sem]) rfl ⟨rfl,?_⟩;exact(An _ _).trans (hb1.mono Zc)):P:=h
theorem Py (B:Bk)(a1 a2 a3:OA)(c1 c2 c3:Nat)(ver:Int)(w:World)(lo hi:Nat)(hhi:hi<=w.1.size)(hfit:Dm B)(hin:B7 w lo hi B a1 a2 a3)(hv:(Be (Hw B) 7&&DW ver B.floor B.now)=false):Calls prog 6 #[.agg #[.int .i64 B.now,.int .i64 B.floor,.slice a1 B.on c1,.slice a2 B.hn c2,.slice a3 B.tn c3],.int .i64 ver] w λe w'=>e=.returned (.tuple #[.slice none 0 0,.bool false])/\Below w.1.size w w':=by cases hc:Be (Hw B) 7 with
 |false=>go_enter func6,ntmps6;go_wp2_with (go_at_call 17;go_must(refine(Gn B a1 a2 a3 c1 c2 c3 _ lo hi Zd hfit (hin.below EC hhi)).mono ?_;rw[hc];rintro e w1 ⟨rfl,hb1⟩));exact Xc
 |true=>
  rw[hc]at hv;have hi2:DW ver B.floor B.now=false:=by simpa using hv
  go_enter func6,ntmps6;go_wp2_with (first
   |(go_at_call 17;go_must(refine(Gn B a1 a2 a3 c1 c2 c3 _ lo hi Zd hfit (hin.below EC hhi)).mono ?_;rw[hc];rintro e w1 ⟨rfl,hb1⟩;have H1:=(DJ w (Er B a1 a2 a3 c1 c2 c3) 27).below hb1 Zc;obtain⟨p0,p1,p2,p3,p4⟩:=DU H1))
   |(go_at_call 18;go_must(refine(Fo _ _ _ _).mono ?_;rw[hi2];rintro e w2 ⟨rfl,rfl⟩)));exact Xc
end Go.Proofs.YtofencldleijcaaGreat
