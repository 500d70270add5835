import Derived.Test.YtofencldleijcaaGreatPk42
import Derived.Deep.Light
import Derived.Test.YtofencldleijcaaGreatPk27
import Derived.BigQuiet
import Derived.Deep.AppendSrc
import Derived.Deep.Cut
import Derived.Deep.CutRange
import Derived.Deep.Draws
import Derived.Deep.QuietTactic
import Derived.Deep.RegionWith
import Derived.Deep.Slices
import Derived.Deep.Strs
import Derived.Laws.CopyOwn
import Derived.Laws.IdiomCopy
import Derived.Laws.IdiomStrings
import Derived.Laws.Tables
import Derived.LoopIn
import Derived.LoopNIn
import Derived.Maps.AppendAt
import Derived.Maps.OwnIn
import Derived.Maps.OwnOps
import Derived.Maps.OwnSet
import Derived.Orders
import Derived.OrdersIn
import Derived.OwnWalkIn
import Derived.ProofKit
import Derived.RangeFuncBound
import Derived.RangeFuncCalls
import Derived.RangeFuncLeaves
import Derived.RangeFuncNested
import Derived.Shelf.Abstract
import Derived.Shelf.Lay
import Derived.Shelf.RegionOpen
import Derived.SizedLaws
import Derived.Sort.Grow
import Derived.Sort.Statements
import Derived.TacticsInMore
import Derived.WalkKit
import Derived.WalkLawsBesides
import Derived.WalkSpells
set_option maxRecDepth 100000
set_option maxHeartbeats 8000000
namespace Go.Proofs.YtofencldleijcaaGreat
open Go.RowKit Go.Proofs.Tryz
def rI (B:Bk)(w:World)(e:Ending)(w':World):Prop:=Below w.1.size w w'/\∃(cd:Int)(Y:Bk)(b1 b2 b3:OA)(e1 e2 e3:Nat)(ve:Int),e=.returned (.agg #[.int .i64 cd,.int .i64 Y.now,.int .i64 Y.floor,.slice b1 Y.on e1,.slice b2 Y.hn e2,.slice b3 Y.tn e3,.int .i64 ve])/\EZ w' Y b1 b2 b3 e3/\(cd=0->B.hn<200->Y.hn=B.hn+1)
theorem U3 (B:Bk)(v:Wr)(a1 a2 a3:OA)(c1 c2 c3:Nat)(w:World)(hb:EZ w B a1 a2 a3 c3)(hv:OE v):Calls prog 14 #[.agg #[.int .i64 B.now,.int .i64 B.floor,.slice a1 B.on c1,.slice a2 B.hn c2,.slice a3 B.tn c3],.agg #[.int .i64 v.op,.string v.kind,.string v.name,.int .i64 v.seen,.string v.text,.string v.hold]] w λe w'=>rI B w e w':=by cases hw:EU v with
 |false=>refine(N5 B v a1 a2 a3 c1 c2 c3 w hw hv.fit).mono ?_;rintro e w' ⟨rfl,h⟩;exact⟨h,_,B,a1,a2,a3,c1,c2,c3,_,rfl,hb.below h,λh=>absurd h Za⟩
 |true=>
  have hok:=M5 hb.f (I6 hb.v) hw hv.fit;by_cases h0:Bv B v=0;.refine(MZ B v a1 a2 a3 c1 c2 c3 w hok hb.i h0).mono ?_;rintro e w' ⟨h,x1,x2,x3,y1,y2,y3,rfl,hin,rfl,rfl⟩;refine⟨h,_,Eg B v,x1,x2,x3,y1,y2,y3,_,rfl,⟨I8 hb.v hok h0,(MJ hok).1,hin,hb.c.grow h.size⟩,λ_ hl=>?_⟩;show B.hn-GG B+1=B.hn+1;unfold GG;rw[if_neg Zb];omega
  .by_cases h4:Bv B v=4;.refine(P5 B v a1 a2 a3 c1 c2 c3 w hok hb.i h4).mono ?_;rintro e w' ⟨rfl,h⟩;exact⟨h,_,B,a1,a2,a3,c1,c2,c3,_,rfl,hb.below h,λh=>absurd h Za⟩
   .refine(Lj B v a1 a2 a3 c1 c2 c3 w hok hb.i h0 h4).mono ?_;rintro e w' ⟨rfl,h⟩;exact⟨h,_,B,a1,a2,a3,c1,c2,c3,_,rfl,hb.below h,λh=>absurd h h0⟩
def rL (R:Nat)(ad:OA)(nn cap p:Nat)(w:World)(e:Ending)(w':World):Prop:=∃(Y:Bk)(b1 b2 b3:OA)(k1 k2 k3:Nat),e=.returned (.agg #[.int .i64 Y.now,.int .i64 Y.floor,.slice b1 Y.on k1,.slice b2 Y.hn k2,.slice b3 Y.tn k3])/\EZ w' Y b1 b2 b3 k3/\Dn R ad nn cap p 200000 w w'
structure U6 (w:World)(R:Nat)(ad:OA)(nn cap p:Nat)(Y:Bk)(b1 b2 b3:OA)(k1 k2 k3:Nat)(X:World):Prop where
 f:AB (λq=>q=R) w X
 r:Rd X R ad nn cap p
 a:AM X w.1.size 5 (A7 [.int .i64 0,.int .i64 0,.slice none 0 0,.slice none 0 0,.slice none 0 0])an:G7 X w.1.size
 b:AM X (w.1.size+1) 5 (A7 [.int .i64 Y.now,.int .i64 Y.floor,.slice b1 Y.on k1,.slice b2 Y.hn k2,.slice b3 Y.tn k3])bn:G7 X (w.1.size+1)y:EZ X Y b1 b2 b3 k3
theorem U6.pick{w:World}{R:Nat}{ad:OA}{nn cap p:Nat}{Y:Bk}{b1 b2 b3:OA}{k1 k2 k3:Nat}{X:World}{X':World}{p':Nat}(h:U6 w R ad nn cap p Y b1 b2 b3 k1 k2 k3 X)(hR:R<w.1.size)(hf:AB (λq=>q=R) X X')(hr:Rd X' R ad nn cap p'):U6 w R ad nn cap p' Y b1 b2 b3 k1 k2 k3 X':=⟨h.f.trans hf,hr,h.a.fr2 hf Zb,h.an.fr hf h.a.lt Zb,h.b.fr2 hf Zb,h.bn.fr hf h.b.lt Zb,h.y.pick hf h.r.ns⟩
theorem U6.below{w:World}{R:Nat}{ad:OA}{nn cap p:Nat}{Y:Bk}{b1 b2 b3:OA}{k1 k2 k3:Nat}{X:World}{X':World}(h:U6 w R ad nn cap p Y b1 b2 b3 k1 k2 k3 X)(hR:R<w.1.size)(hb:Below X.1.size X X'):U6 w R ad nn cap p Y b1 b2 b3 k1 k2 k3 X':=h.pick hR (Ap hb) (h.r.below hb)
theorem U6.put{w:World}{R:Nat}{ad:OA}{nn cap p:Nat}{Y:Bk}{b1 b2 b3:OA}{k1 k2 k3:Nat}{X:World}{p0:Nat}{V:Bk}{f1 f2 f3:OA}{h1 h2 h3:Nat}(h:U6 w R ad nn cap p Y b1 b2 b3 k1 k2 k3 X)(hw:Rd w R ad nn cap p0)(hV:EZ X V f1 f2 f3 h3):U6 w R ad nn cap p V f1 f2 f3 h1 h2 h3 (((((X.setCell ⟨w.1.size+1,0,none⟩ (.int .i64 V.now)).setCell ⟨w.1.size+1,1,none⟩ (.int .i64 V.floor)).setCell ⟨w.1.size+1,2,none⟩ (.slice f1 V.on h1)).setCell ⟨w.1.size+1,3,none⟩ (.slice f2 V.hn h2)).setCell ⟨w.1.size+1,4,none⟩ (.slice f3 V.tn h3)):=by have hR:=hw.lt;have F:=((((((AB.refl (λq=>q=w.1.size+1) X).setCell (p:=⟨w.1.size+1,0,none⟩) rfl (.int .i64 V.now)).setCell (p:=⟨w.1.size+1,1,none⟩) rfl (.int .i64 V.floor)).setCell (p:=⟨w.1.size+1,2,none⟩) rfl (.slice f1 V.on h1)).setCell (p:=⟨w.1.size+1,3,none⟩) rfl (.slice f2 V.hn h2)).setCell (p:=⟨w.1.size+1,4,none⟩) rfl (.slice f3 V.tn h3));have f2':=((((h.f.far (z:=w.1.size+1) Zb 0 (.int .i64 V.now)).far (z:=w.1.size+1) Zb 1 (.int .i64 V.floor)).far (z:=w.1.size+1) Zb 2 (.slice f1 V.on h1)).far (z:=w.1.size+1) Zb 3 (.slice f2 V.hn h2)).far (z:=w.1.size+1) Zb 4 (.slice f3 V.tn h3);have M:=(((((h.b.set (o:=0) Za (.int .i64 V.now)).set (o:=1) Za (.int .i64 V.floor)).set (o:=2) Za (.slice f1 V.on h1)).set (o:=3) Za (.slice f2 V.hn h2)).set (o:=4) Za (.slice f3 V.tn h3));refine⟨f2',hw.keep h.r f2' (F.mono (λk hk e=>by omega)),h.a.fr F Zb,h.an.fr F h.a.lt Zb,M.congr (λj hj=>?_),WK h.bn h.b V f1 f2 f3 h1 h2 h3,hV.pick F h.bn⟩;rcases(show j=0\/j=1\/j=2\/j=3\/j=4 by omega)with rfl|rfl|rfl|rfl|rfl<;>rfl
def mJ (w:World)(R:Nat)(ad:OA)(nn cap p k:Nat)(X:World):Prop:=∃Y b1 b2 b3 k1 k2 k3 p',p<=p'/\p'<=p+k/\U6 w R ad nn cap p' Y b1 b2 b3 k1 k2 k3 X
def k9:Bk:=⟨0,0,0,λ_=>⟨⟨#[]⟩,⟨#[]⟩,0,0,⟨#[]⟩,false,0,λ_=>⟨#[]⟩⟩,0,λ_=>⟨0,false,⟨⟨#[]⟩,⟨#[]⟩,0,0,⟨#[]⟩,false,0,λ_=>⟨#[]⟩⟩⟩,0,λ_=>⟨⟨#[]⟩,0,⟨#[]⟩,0,0⟩⟩
theorem dG:VB k9:=lE Za
theorem YY (w:World):G7 (w.alloc (.cells #[.int .i64 0,.int .i64 0,.slice none 0 0,.slice none 0 0,.slice none 0 0] 27)) w.1.size:=λj s e=>by rw[Ao w #[.int .i64 0,.int .i64 0,.slice none 0 0,.slice none 0 0,.slice none 0 0] 27 j]at e;match j,e with
 |0,e=>cases e
 |1,e=>cases e
 |2,e=>cases e
 |3,e=>cases e
 |4,e=>cases e
 |n+5,e=>simp at e
theorem eX (w:World)(R:Nat)(ad:OA)(nn cap p:Nat)(hr:Rd w R ad nn cap p):U6 w R ad nn cap p k9 none none none 0 0 0 ((w.alloc (.cells #[.int .i64 0,.int .i64 0,.slice none 0 0,.slice none 0 0,.slice none 0 0] 27)).alloc (.cells #[.int .i64 0,.int .i64 0,.slice none 0 0,.slice none 0 0,.slice none 0 0] 27)):=by have hb:Below w.1.size w ((w.alloc (.cells #[.int .i64 0,.int .i64 0,.slice none 0 0,.slice none 0 0,.slice none 0 0] 27)).alloc (.cells #[.int .i64 0,.int .i64 0,.slice none 0 0,.slice none 0 0,.slice none 0 0] 27)):=((Al _ _).alloc Bg _).alloc Zc _;have h1:=AM.new (w:=w.alloc (.cells #[.int .i64 0,.int .i64 0,.slice none 0 0,.slice none 0 0,.slice none 0 0] 27)) (l:=[.int .i64 0,.int .i64 0,.slice none 0 0,.slice none 0 0,.slice none 0 0]) (t:=27) Ck;have n1:=YY (w.alloc (.cells #[.int .i64 0,.int .i64 0,.slice none 0 0,.slice none 0 0,.slice none 0 0] 27));rw[Au]at h1 n1;exact⟨Ap hb,hr.below hb,AM.new (l:=[.int .i64 0,.int .i64 0,.slice none 0 0,.slice none 0 0,.slice none 0 0]) EC,(YY w).below EC Zc,h1,n1,⟨dG,S4 dG,⟨λi hi=>absurd hi (Ai _),λi hi=>absurd hi (Ai _),λi hi=>absurd hi (Ai _)⟩,⟨Az _,AO ⟨rfl,rfl,rfl⟩⟩⟩⟩
def Qk (Bb:Nat)(w:World):Nat:=match w.cell? ⟨Bb,3,none⟩with
 |some (.slice _ n _)=>200-n
 |_=>0
theorem Yj{P:Prop}(h:P:=by intro t V f1 f2 f3 h1 h2 h3 pz X0 X hX hV hf hp1 hp2 hrd;subst hX;go_wp2_with fail;go_meet;case rel=>exact⟨V,f1,f2,f3,h1,h2,h3,pz,Zb,Zb,(I1.pick hRw hf hrd).put HR hV⟩):P:=h
theorem Tg (R:Nat)(ad:OA)(nn cap p:Nat)(w:World)(hr:Rd w R ad nn cap p)(hp:p<=100):Calls prog 11 #[.pointer (some ⟨R,0,none⟩)] w λe w'=>rL R ad nn cap p w e w':=by
 have HS:=Ag (eX w R ad nn cap p hr);have HR:=Ag hr;have hRw:=hr.lt;clear hr;go_enter func11,ntmps11;go_upto_region 2 with fail;generalize(w.alloc (.cells #[.int .i64 0,.int .i64 0,.slice none 0 0,.slice none 0 0,.slice none 0 0] 27)).alloc (.cells #[.int .i64 0,.int .i64 0,.slice none 0 0,.slice none 0 0,.slice none 0 0] 27)=X0 at HS⊢;go_upto_block 0 with(go_at_call 12;go_must(refine(BV R ad nn cap _ 24 _ HS.r Zb Za Za).mono ?_;rintro e w3 ⟨y,rfl,_,hy,hf3,hr3⟩;have hy3:=hy Za;clear hy));have Po:=Ag (HS.pick hRw hf3 hr3);clear HS hf3 hr3;go_cut[](λwx=>mJ w R ad nn cap p 160000 wx);case first=>
  --<l1
  go_wp2_with fail;go_loopw[4](λs wr=>∃n:Nat,s=.int .i64 n/\n<=23/\Hid (mJ w R ad nn cap p (1+6900*(23-n)) wr))(λs _=>(intOf s).toNat);case atStart=>exact⟨y,rfl,Zb,Ag ⟨_,_,_,_,_,_,_,_,Nat.le_succ _,Zb,Po⟩⟩
  case round=>
   clear Po;obtain⟨n,rfl,hn2,HL⟩:=hrel;by_cases hn0:n=0;.subst hn0;go_wp2_with fail;go_meet;case rel=>obtain⟨Y,b1,b2,b3,k1,k2,k3,p',hq1,hq2,hL⟩:=HL.out;exact⟨Y,b1,b2,b3,k1,k2,k3,p',hq1,Zb,hL⟩
   .go_upto_block 1 with fail;go_cut[](λwx=>mJ w R ad nn cap p (6901+6900*(23-n)) wx);case first=>
     --<b1
     obtain⟨Y,b1,b2,b3,k1,k2,k3,p',hq1,hq2,hL⟩:=HL.out;have Fs:=Ag hL;clear HL hL;go_upto_block 2 with(go_at_call 12;go_must(refine(BV R ad nn cap _ 10 _ Fs.r Zb Za Za).mono ?_;rintro e w3 ⟨y,rfl,_,hy,hf3,hr3⟩;have hy3:=hy Za;clear hy));have I1:=Ag (Fs.pick hRw hf3 hr3);clear Fs hf3 hr3;have hBl:=I1.b.lt;by_cases y0:y=0;.subst y0;go_wp2_with fail;refine iJ (A7 [_,_,_,_,_,_,_]) R ad nn cap (p'+1) (w.1.size+1) Y b1 b2 b3 k1 k2 k3 _ I1.r Zb hBl Zb I1.b I1.y rfl _ ?_;exact Yj
     .by_cases y1:y=1;.subst y1;go_wp2_with fail;refine bJ (A7 [_,_,_,_,_,_,_,_,_,_,_,_,_,_,_,_,_]) R ad nn cap (p'+1) (w.1.size+1) Y b1 b2 b3 k1 k2 k3 _ I1.r Zb hBl Zb I1.b I1.y rfl _ ?_;exact Yj
      .go_wp2_with fail;refine eT (A7 [_,_,_,_,_,_]) R ad nn cap (p'+1) (w.1.size+1) Y b1 b2 b3 k1 k2 k3 _ I1.r Zb hBl Zb I1.b I1.y rfl _ ?_;intro t z cd V f1 f2 f3 h1 h2 h3 ve pz X ht hz hrow hV hf hp1 hp2 hrd;rw[ht];have G0:=Ag (I1.pick hRw hf hrd);have r1:=hrow.cell 1 Za;have r2:=hrow.cell 2 Za;have r3:=hrow.cell 3 Za;have r4:=hrow.cell 4 Za;have r5:=hrow.cell 5 Za;have rl:=hrow.lt;have m0:=G0.b.cell 0 Za;have m1:=G0.b.cell 1 Za;have m2:=G0.b.cell 2 Za;have m3:=G0.b.cell 3 Za;have m4:=G0.b.cell 4 Za;have mf:=G0.b.free;have ml:=G0.b.lt;simp only[A7,Ae,Af]at r1 r2 r3 r4 r5 m0 m1 m2 m3 m4;have HV:=Ag hV;clear hrow hV hf hrd ht I1;go_wp2_with fail;go_meet;case rel=>exact⟨V,f1,f2,f3,h1,h2,h3,pz,Zb,Zb,G0.put HR HV⟩
     --b1>
    case rest=>
     have G0:=Ag hcut;clear hcut HL;have hw1:IntKind.i64.wrap ((n:Int)-1)=((n-1:Nat):Int):=by rw[AE _ ⟨Zb,Zb⟩];omega
     go_wp2;refine⟨⟨n-1,rfl,Zb,Ag ?_⟩,?_⟩;.obtain⟨Y,b1,b2,b3,k1,k2,k3,p',hq1,hq2,hL⟩:=G0.out;exact⟨Y,b1,b2,b3,k1,k2,k3,p',hq1,Zb,hL⟩
     .show(((n-1:Nat):Int)).toNat<((n:Int)).toNat;omega
  --l1>
 case rest=>
  have HL:=Ag hcut;clear hcut Po;obtain⟨Y,b1,b2,b3,k1,k2,k3,p',hq1,hq2,hL⟩:=HL.out;have Fs:=Ag hL;clear HL hL;go_upto_if 57 with(go_at_call 12;go_must(refine(BV R ad nn cap _ 24 _ Fs.r Zb Za Za).mono ?_;rintro e w3 ⟨y,rfl,_,hy,hf3,hr3⟩;have hy3:=hy Za;clear hy));have I1:=Ag (Fs.pick hRw hf3 hr3);clear Fs hf3 hr3;go_cut[](λwx=>mJ w R ad nn cap p 170000 wx);case first=>
   --<f2
   by_cases y0:y=0
   .subst y0;go_wp2_with fail;go_loopw[6](λs wr=>∃i:Int,s=.int .i64 i/\Hid (∃Y b1 b2 b3 k1 k2 k3 p',p<=p'/\p'<=p+160001+7*Y.hn/\U6 w R ad nn cap p' Y b1 b2 b3 k1 k2 k3 wr))(λ_ wr=>Qk (w.1.size+1) wr);case atStart=>exact⟨0,rfl,Ag ⟨Y,b1,b2,b3,k1,k2,k3,p'+1,Zb,Zb,I1⟩⟩
    case round=>
     clear I1 hq1 hq2 Y b1 b2 b3 k1 k2 k3 p';obtain⟨i,rfl,HL⟩:=hrel;obtain⟨Y,b1,b2,b3,k1,k2,k3,p',hq1,hq2,hL⟩:=HL.out;have Fs:=Ag hL;clear HL hL;have hhn:=Fs.y.v.hn;have hBl:=Fs.b.lt;go_upto_region 14 with fail;refine cC (A7 [_,_,_,_,_,_,_]) R ad nn cap p' (w.1.size+1) Y b1 b2 b3 k1 k2 k3 _ Fs.r Zb hBl Zb Fs.b rfl _ ?_;intro t b pz X ht hbt hf hp1 hp2 hrd;rw[ht];have I1:=Ag (Fs.pick hRw hf hrd);have hms:Qk (w.1.size+1) wr=200-Y.hn:=by unfold Qk;rw[show wr.cell? ⟨w.1.size+1,3,none⟩=some (.slice b2 Y.hn k2)from Fs.b.cell 3 Za]
     have qF:=Ag hms;clear Fs hf hrd ht hms;cases b with
     |false=>go_wp2_with fail;go_meet;case rel=>exact⟨Y,b1,b2,b3,k1,k2,k3,pz,Zb,Zb,I1⟩
     |true=>
      have hlt:=hbt rfl;clear hbt;go_upto_region 17 with fail;have G0:=Ag (I1.below hRw (An X (.cells #[.int .i64 2,.string ⟨#[98,101,114,116,104]⟩,.string ⟨#[120]⟩,.int .i64 0,.string ⟨#[118]⟩,.string ⟨#[]⟩] 36)));have HM:=Ag (show AM (X.alloc (.cells #[.int .i64 2,.string ⟨#[98,101,114,116,104]⟩,.string ⟨#[120]⟩,.int .i64 0,.string ⟨#[118]⟩,.string ⟨#[]⟩] 36)) X.1.size 6 (A7 (wv ⟨2,⟨#[98,101,114,116,104]⟩,⟨#[120]⟩,0,⟨#[118]⟩,⟨#[]⟩⟩))from AM.new (l:=[.int .i64 2,.string ⟨#[98,101,114,116,104]⟩,.string ⟨#[120]⟩,.int .i64 0,.string ⟨#[118]⟩,.string ⟨#[]⟩]) (t:=36) Ck);have hMb:w.1.size+1<X.1.size:=I1.b.lt;have hMl:X.1.size<(X.alloc (.cells #[.int .i64 2,.string ⟨#[98,101,114,116,104]⟩,.string ⟨#[120]⟩,.int .i64 0,.string ⟨#[118]⟩,.string ⟨#[]⟩] 36)).1.size:=Zc;have Pn:=Ag (An X (.cells #[.int .i64 2,.string ⟨#[98,101,114,116,104]⟩,.string ⟨#[120]⟩,.int .i64 0,.string ⟨#[118]⟩,.string ⟨#[]⟩] 36));generalize X.alloc (.cells #[.int .i64 2,.string ⟨#[98,101,114,116,104]⟩,.string ⟨#[120]⟩,.int .i64 0,.string ⟨#[118]⟩,.string ⟨#[]⟩] 36)=X3 at G0 HM hMl Pn⊢;obtain⟨M,hM⟩:∃M,X.1.size=M:=⟨_,rfl⟩;rw[hM]at HM hMb hMl⊢;have pG:=Ag hM;clear hM;have m0:=G0.b.cell 0 Za;have m1:=G0.b.cell 1 Za;have m2:=G0.b.cell 2 Za;have m3:=G0.b.cell 3 Za;have m4:=G0.b.cell 4 Za;have ml:=G0.b.lt;simp only[A7,Ae,Af]at m0 m1 m2 m3 m4;go_upto_if 74 with(go_at_call 38;go_must(refine(BP Y.now Y.floor Y.on Y.os b1 b2 b3 k1 Y.hn k2 Y.tn k3 ⟨#[98,101,114,116,104]⟩ ⟨#[120]⟩ _ 0 X3.1.size Bg (by have:=G0.y.v.on;omega) G0.y.f.os G0.y.i.o).mono ?_;rintro e w5 ⟨ad5,cp5,rfl,hs5,_,hb5⟩));have hB5:∀o,Below X3.1.size X3 (w5.alloc o):=λo=>hb5.alloc hb5.size _;have VV:=Ag (HM.below hb5 hMl);have h50:=VV.cell 0 Za;have h5f:=VV.free 0;have h5l:=VV.lt;simp only[wv,A7,Ae]at h50;have Qh:=Ag hB5;have jJ:=Ag hb5;clear hB5 hs5 hb5 m0 m1 m2 m3 m4 ml;go_cut[9](λ_ wx=>∃v:Wr,OE v/\AM wx M 6 (A7 (wv v))/\U6 w R ad nn cap pz Y b1 b2 b3 k1 k2 k3 wx);case first=>have wi:∀o:Int,1<=o->o<=5->OE ⟨o,⟨#[98,101,114,116,104]⟩,⟨#[120]⟩,0,⟨#[118]⟩,⟨#[]⟩⟩:=λo h1 h2=>⟨⟨by show((⟨#[98,101,114,116,104]⟩:ByteArray).size:Int)<=_;decide,by show((⟨#[120]⟩:ByteArray).size:Int)<=_;decide,by show((⟨#[118]⟩:ByteArray).size:Int)<=_;decide,by show((⟨#[]⟩:ByteArray).size:Int)<=_;decide⟩,h1,h2,by show(0:Int)<=_;decide⟩;have d9:=Ag wi;clear wi;cases hfi:B8 Y.os ⟨#[98,101,114,116,104]⟩ ⟨#[120]⟩ Y.on with
       |true=>go_wp2_with fail;go_meet;case rel=>exact⟨_,d9 2 Za Za,VV.below EC h5l,G0.below hRw (Qh _)⟩
       |false=>go_wp2_with fail;go_meet;case rel=>have bA:Below X.1.size X w5:=Pn.trans (jJ.mono Pn.size);have bB:Below X.1.size w5 (w5.setCell ⟨M,0,none⟩ (.int .i64 1)):=((AB.refl (λq=>q=M) w5).setCell (p:=⟨M,0,none⟩) rfl _).below (λq hq e=>by have:=pG.out;have e':q=M:=e;omega) bA.size;exact⟨⟨1,⟨#[98,101,114,116,104]⟩,⟨#[120]⟩,0,⟨#[118]⟩,⟨#[]⟩⟩,d9 1 Za Za,((VV.set (o:=0) Za _).congr (λj hj=>by rcases kS hj with rfl|rfl|rfl|rfl|rfl|rfl<;>rfl)).below EC (by rw[Bi];exact h5l),I1.below hRw ((bA.trans bB).trans ((An _ _).mono (by rw[Bi];exact bA.size)))⟩
      case rest=>
       obtain⟨v,hv,hrm,hL⟩:=hcut;have P8:=Ag hL;have cU:=Ag hrm;clear hL hrm G0 HM VV h50 h5f h5l Qh jJ I1 Pn pG;have m0:=P8.b.cell 0 Za;have m1:=P8.b.cell 1 Za;have m2:=P8.b.cell 2 Za;have m3:=P8.b.cell 3 Za;have m4:=P8.b.cell 4 Za;have ml:=P8.b.lt;have v0:=cU.cell 0 Za;have v1:=cU.cell 1 Za;have v2:=cU.cell 2 Za;have v3:=cU.cell 3 Za;have v4:=cU.cell 4 Za;have v5:=cU.cell 5 Za;have vl:=cU.lt;simp only[wv,A7,Ae,Af]at m0 m1 m2 m3 m4 v0 v1 v2 v3 v4 v5;go_upto_region 21 with(go_at_call 14;go_must(refine(U3 Y v b1 b2 b3 k1 k2 k3 _ P8.y hv).mono ?_;rintro e w6 ⟨hb6,cd,V,f1,f2,f3,h1,h2,h3,ve,rfl,hV,hcd⟩));have Y8:=Ag ((P8.below hRw hb6).below hRw (An w6 (.cells #[.int .i64 cd,.int .i64 V.now,.int .i64 V.floor,.slice f1 V.on h1,.slice f2 V.hn h2,.slice f3 V.tn h3,.int .i64 ve] 33)));have HD:=Ag (AM.new (w:=w6) (l:=[.int .i64 cd,.int .i64 V.now,.int .i64 V.floor,.slice f1 V.on h1,.slice f2 V.hn h2,.slice f3 V.tn h3,.int .i64 ve]) (t:=33) Ck);have HV:=Ag (hV.below (An w6 (.cells #[.int .i64 cd,.int .i64 V.now,.int .i64 V.floor,.slice f1 V.on h1,.slice f2 V.hn h2,.slice f3 V.tn h3,.int .i64 ve] 33)));generalize w6.alloc (.cells #[.int .i64 cd,.int .i64 V.now,.int .i64 V.floor,.slice f1 V.on h1,.slice f2 V.hn h2,.slice f3 V.tn h3,.int .i64 ve] 33)=X6 at Y8 HD HV⊢;generalize w6.1.size=Dd at HD⊢;clear P8 cU m0 m1 m2 m3 m4 ml v0 v1 v2 v3 v4 v5 vl hb6 hV;have d0:=HD.cell 0 Zc;have d1:=HD.cell 1 Zc;have d2:=HD.cell 2 Zc;have d3:=HD.cell 3 Zc;have d4:=HD.cell 4 Zc;have d5:=HD.cell 5 Zc;have dl:=HD.lt;have m0:=Y8.b.cell 0 Za;have m1:=Y8.b.cell 1 Za;have m2:=Y8.b.cell 2 Za;have m3:=Y8.b.cell 3 Za;have m4:=Y8.b.cell 4 Za;have mf:=Y8.b.free;have ml:=Y8.b.lt;simp only[A7,Ae,Af]at d0 d1 d2 d3 d4 d5 m0 m1 m2 m3 m4;have iO:=Ag hcd;clear hcd;by_cases c0:cd=0
       .have hVn:=iO c0 hlt;have pA:=Ag hVn;clear hVn iO;subst c0;go_wp2;have HP:=Y8.put (h1:=h1) (h2:=h2) HR HV;refine⟨⟨_,rfl,Ag ⟨V,f1,f2,f3,h1,h2,h3,pz,Zb,by have:=pA.out;omega,HP⟩⟩,?_⟩;have hms2:Qk (w.1.size+1) (((((X6.setCell ⟨w.1.size+1,0,none⟩ (.int .i64 V.now)).setCell ⟨w.1.size+1,1,none⟩ (.int .i64 V.floor)).setCell ⟨w.1.size+1,2,none⟩ (.slice f1 V.on h1)).setCell ⟨w.1.size+1,3,none⟩ (.slice f2 V.hn h2)).setCell ⟨w.1.size+1,4,none⟩ (.slice f3 V.tn h3))=200-V.hn:=by unfold Qk;rw[show World.cell? (((((X6.setCell ⟨w.1.size+1,0,none⟩ (.int .i64 V.now)).setCell ⟨w.1.size+1,1,none⟩ (.int .i64 V.floor)).setCell ⟨w.1.size+1,2,none⟩ (.slice f1 V.on h1)).setCell ⟨w.1.size+1,3,none⟩ (.slice f2 V.hn h2)).setCell ⟨w.1.size+1,4,none⟩ (.slice f3 V.tn h3)) ⟨w.1.size+1,3,none⟩=some (.slice f2 V.hn h2)from HP.b.cell 3 Za]
        rw[hms2,qF.out,pA.out];omega
       .go_wp2_with fail;go_meet;case rel=>exact⟨Y,b1,b2,b3,k1,k2,k3,pz,Zb,Zb,Y8⟩
      --b4>
   .go_wp2_with fail;go_meet;case rel=>exact⟨Y,b1,b2,b3,k1,k2,k3,p'+1,Zb,Zb,I1⟩
   --f2>
  case rest=>
   have HL:=Ag hcut;clear hcut I1;obtain⟨Y,b1,b2,b3,k1,k2,k3,p',hq1,hq2,hL⟩:=HL.out;have Fs:=Ag hL;clear HL hL;have m0:=Fs.b.cell 0 Za;have m1:=Fs.b.cell 1 Za;have m2:=Fs.b.cell 2 Za;have m3:=Fs.b.cell 3 Za;have m4:=Fs.b.cell 4 Za;have ml:=Fs.b.lt;simp only[A7,Ae,Af]at m0 m1 m2 m3 m4;go_wp2_with (go_at_call 16;go_must(refine(Qq Y b1 b2 b3 k1 k2 k3 _ Fs.y).mono ?_;rintro e w4 ⟨hb4,f1,f2,f3,h1,h2,h3,rfl,hin,hcp⟩;have RX:=Ag (Fs.below hRw hb4);have A0:=RX.a.cell 0 Za;have A1:=RX.a.cell 1 Za;have A2:=RX.a.cell 2 Za;have A3:=RX.a.cell 3 Za;have A4:=RX.a.cell 4 Za;have AF:=RX.a.free;have AL:=RX.a.lt;simp only[A7,Ae,Af]at A0 A1 A2 A3 A4));have V0:=Ag (show EZ w4 Y f1 f2 f3 h3 from⟨Fs.y.v,Fs.y.f,hin.lo0,hcp⟩);have F:=((((((AB.refl (λq=>q=w.1.size) w4).setCell (p:=⟨w.1.size,0,none⟩) rfl (.int .i64 Y.now)).setCell (p:=⟨w.1.size,1,none⟩) rfl (.int .i64 Y.floor)).setCell (p:=⟨w.1.size,2,none⟩) rfl (.slice f1 Y.on h1)).setCell (p:=⟨w.1.size,3,none⟩) rfl (.slice f2 Y.hn h2)).setCell (p:=⟨w.1.size,4,none⟩) rfl (.slice f3 Y.tn h3));have Z:=(((((RX.a.set (o:=0) Za (.int .i64 Y.now)).set (o:=1) Za (.int .i64 Y.floor)).set (o:=2) Za (.slice f1 Y.on h1)).set (o:=3) Za (.slice f2 Y.hn h2)).set (o:=4) Za (.slice f3 Y.tn h3));have z0:=Z.cell 0 Za;have z1:=Z.cell 1 Za;have z2:=Z.cell 2 Za;have z3:=Z.cell 3 Za;have z4:=Z.cell 4 Za;simp[Jm]at z0 z1 z2 z3 z4;refine bodyPost_ret (v:=.agg #[.int .i64 Y.now,.int .i64 Y.floor,.slice f1 Y.on h1,.slice f2 Y.hn h2,.slice f3 Y.tn h3]) (by simp[results,results11,go_sem,z0,z1,z2,z3,z4]) rfl ⟨Y,f1,f2,f3,h1,h2,h3,rfl,V0.pick F RX.an,?_,p',Zb,Zb,?_⟩;.exact((((RX.f.far Bg _ _).far Bg _ _).far Bg _ _).far Bg _ _).far Bg _ _
   .exact HR.far (HR.far (HR.far (HR.far (HR.far RX.r Bg _ _) Bg _ _) Bg _ _) Bg _ _) Bg _ _
   --fin>
  --l2>
end Go.Proofs.YtofencldleijcaaGreat
namespace Go.Proofs.YtofencldleijcaaGreat
open Go.RowKit Go.Maps Go.Proofs.Tryz
def lF:Ob:=⟨ByteArray.empty,ByteArray.empty,0,0,ByteArray.empty,false,0,λ_=>ByteArray.empty⟩
def Cm (os:Nat->Ob)(fl:Int):Nat->Nat×(Nat->Ob)
 |0=>(0,λ_=>lF)
 |k+1=>if(os k).ver<=fl then((Cq (Cm os fl k).1 (Cm os fl k).2 (os k) false).m,(Cq (Cm os fl k).1 (Cm os fl k).2 (os k) false).y)else Cm os fl k
def Dv (s:Nat×(Nat->Ob))(hs:Nat->Ch)(ver:Int):Nat->Nat×(Nat->Ob)
 |0=>s
 |k+1=>if(hs k).ver<=ver then((Cq (Dv s hs ver k).1 (Dv s hs ver k).2 (hs k).ob (hs k).gone).m,(Cq (Dv s hs ver k).1 (Dv s hs ver k).2 (hs k).ob (hs k).gone).y)else Dv s hs ver k
def GH (hs:Nat->Ch)(ver:Int):Nat->Bool
 |0=>true
 |k+1=>GH hs ver k&&(decide ((hs k).ver<=ver)||!(decide (D7 hs (hs k).ob k<0)&&!FK (hs k)))
theorem K5 (os:Nat->Ob)(fl:Int):∀k,(Cm os fl k).1<=k
 |0=>Az _
 |k+1=>by
  have ih:=K5 os fl k;unfold Cm;split;.have:=Ka (Cm os fl k).1 (Cm os fl k).2 (os k) false;show(Cq _ _ _ _).m<=k+1;omega
  .omega
theorem MP (s:Nat×(Nat->Ob))(hs:Nat->Ch)(ver:Int):∀k,(Dv s hs ver k).1<=s.1+k
 |0=>Az _
 |k+1=>by
  have ih:=MP s hs ver k;unfold Dv;split;.have:=Ka (Dv s hs ver k).1 (Dv s hs ver k).2 (hs k).ob (hs k).gone;show(Cq _ _ _ _).m<=s.1+(k+1);omega
  .omega
theorem VK.objs{w:World}{base lo hi:Nat}{v:Value}{m:Nat}{y:Nat->Ob}{A:Nat->Option Addr}{C:Nat->Nat}(h:VK w base lo hi v m y A C)(hhi:hi<=w.1.size):∃ad cap,v=.slice ad m cap/\Bs w 0 w.1.size ad m y:=by
 obtain⟨c,r,hat⟩:=h.row;rcases r.2 with⟨rfl,rfl⟩|⟨g,cap,cur,rfl,_⟩;.exact⟨none,0,rfl,λi hi'=>absurd hi' (Ai _)⟩
 .have rw:=Fj r;refine⟨_,cap,rfl,λi hi'=>?_⟩;obtain⟨a0,a1,a2,a3,a4,a5,a6⟩:=hat i hi';refine⟨g,0,A i,C i,rfl,Aw _,rw.lt,?_,λj hj=>?_⟩;.rw[Bq];exact⟨(rw.cell _ Zb).trans (congrArg some a0),(rw.cell _ Zb).trans (congrArg some a1),(rw.cell _ Zb).trans (congrArg some a2),(rw.cell _ Zb).trans (congrArg some a3),(rw.cell _ Zb).trans (congrArg some a4),(rw.cell _ Zb).trans (congrArg some a5),(rw.cell _ Zb).trans (congrArg some a6)⟩
  .obtain⟨b,off,e1,e2,e3,e4⟩:=h.hold i hi' j hj;exact⟨b,off,e1,Aw _,Zb,e4⟩
theorem Na{P:Ob->Prop}{os:Nat->Ob}{fl:Int}:∀k,(∀i,i<k->P (os i))->∀i,i<(Cm os fl k).1->P ((Cm os fl k).2 i)
 |0,_,i,hi=>absurd hi (Ai _)
 |k+1,hx,i,hi=>by
  have ih:=Na (fl:=fl) k (λi hi=>hx i Zb);revert hi;unfold Cm;split;.exact λ_=>Js (hx k Zb) ih i
  .exact ih i
theorem Nu{P:Ob->Prop}{s:Nat×(Nat->Ob)}{hs:Nat->Ch}{ver:Int}(h0:∀i,i<s.1->P (s.2 i)):∀k,(∀i,i<k->P (hs i).ob)->∀i,i<(Dv s hs ver k).1->P ((Dv s hs ver k).2 i)
 |0,_,i,hi=>h0 i hi
 |k+1,hx,i,hi=>by
  have ih:=Nu (ver:=ver) h0 k (λi hi=>hx i Zb);revert hi;unfold Dv;split;.exact λ_=>Js (hx k Zb) ih i
  .exact ih i
def nO (x:Bk)(w1:World)(o i:Value)(wr:World):Prop:=∃(k:Nat)(ad:OA)(cap:Nat),k<=x.on/\i=.int .i64 (k:Nat)/\o=.slice ad (Cm x.os x.floor k).1 cap/\Below w1.1.size w1 wr/\Bs wr 0 wr.1.size ad (Cm x.os x.floor k).1 (Cm x.os x.floor k).2
def oF (x:Bk)(ver:Int)(w1:World)(o al i:Value)(wr:World):Prop:=∃(k:Nat)(ad:OA)(cap:Nat),k<=x.hn/\i=.int .i64 (k:Nat)/\al=.bool (GH x.hs ver k)/\o=.slice ad (Dv (Cm x.os x.floor x.on) x.hs ver k).1 cap/\Below w1.1.size w1 wr/\Bs wr 0 wr.1.size ad (Dv (Cm x.os x.floor x.on) x.hs ver k).1 (Dv (Cm x.os x.floor x.on) x.hs ver k).2
theorem Ax.up{w:World}{lo hi:Nat}{ad:OA}{n:Nat}{s:Nat->ByteArray}(h:Ax w lo hi ad n s)(h2:hi<=w.1.size):Ax w 0 w.1.size ad n s:=λi hi'=>by obtain⟨b,off,e1,e2,e3,e4⟩:=h i hi';exact⟨b,off,e1,Aw _,Zb,e4⟩
theorem Bs.up{w w':World}{ad:OA}{n:Nat}{x:Nat->Ob}(h:Bs w 0 w.1.size ad n x)(hb:Below w.1.size w w'):Bs w' 0 w'.1.size ad n x:=λi hi'=>by obtain⟨b,off,ah,ch,e1,e2,e3,e4,e5⟩:=h.below hb Bg i hi';have:=hb.size;exact⟨b,off,ah,ch,e1,e2,Zb,e4,λj hj=>by obtain⟨b',o',f1,f2,f3,f4⟩:=e5 j hj;exact⟨b',o',f1,f2,Zb,f4⟩⟩
theorem Xm{P:Prop}(h:P:=by go_wp2_with (first|(go_at_call 30;go_must(refine(Hy x.hn k x.hs (x.hs k).ob _ ah c2 ch _ lo hi Zd Zb zn (by exact oZ.out.below EC Zb)).mono ?_;rw[oQ.out];rintro e w3 ⟨rfl,hb3⟩;have r0:=(hb3.cell (p:=⟨wr.1.size,0,none⟩) Zc).trans g0;have r1:=(hb3.cell (p:=⟨wr.1.size,1,none⟩) Zc).trans g1;have r2:=(hb3.cell (p:=⟨wr.1.size,2,none⟩) Zc).trans g2;have r3:=(hb3.cell (p:=⟨wr.1.size,3,none⟩) Zc).trans g3;have r4:=(hb3.cell (p:=⟨wr.1.size,4,none⟩) Zc).trans g4;have r5:=(hb3.cell (p:=⟨wr.1.size,5,none⟩) Zc).trans g5;have r6:=(hb3.cell (p:=⟨wr.1.size,6,none⟩) Zc).trans g6;have r7:=(hb3.cell (p:=⟨wr.1.size,7,none⟩) Zc).trans g7;have r8:=(hb3.cell (p:=⟨wr.1.size,8,none⟩) Zc).trans g8))|(go_at_call 31;go_must(refine(Mm (x.hs k) ah ch _).mono ?_;rw[hcr];rintro e w4 ⟨rfl,hb4⟩)));exact⟨⟨k+1,ad,cap,Zb,Zc,by rw[HA.out,lX.out];simp[hl2,hcr],by rw[J6.out,HM.out],hb.trans ((((An _ _).trans (hb3.mono Zc)).trans (hb4.mono (by have:=hb3.size;simp at this;omega))).mono zr),by rw[J6.out,HM.out,iP.out];exact RT.out.up ((((An _ _).trans (hb3.mono Zc)).trans (hb4.mono (by have:=hb3.size;simp at this;omega))))⟩,by simp[intOf];omega⟩):P:=h
theorem Ov (x:Bk)(a1 a2 a3:OA)(c1 c2 c3:Nat)(ver:Int)(w:World)(lo hi:Nat)(hhi:hi<=w.1.size)(l1:(x.on:Int)<=1048576)(hf:Dm x)(hc:B7 w lo hi x a1 a2 a3)(hv:Be (Hw x) 7=true)(h100:x.on<=100)(h200:x.hn<=200)(hin:DW ver x.floor x.now=true):Calls prog 7 #[.agg #[.int .i64 x.now,.int .i64 x.floor,.slice a1 x.on c1,.slice a2 x.hn c2,.slice a3 x.tn c3],.int .i64 ver] w λe w'=>∃ad' cap' g A C hb,e=.returned (.tuple #[.slice ad' (Dv (Cm x.os x.floor x.on) x.hs ver x.hn).1 cap',.bool (GH x.hs ver x.hn)])/\D5 w' ad' g (Dv (Cm x.os x.floor x.on) x.hs ver x.hn).1 (Dv (Cm x.os x.floor x.on) x.hs ver x.hn).2 A C hb/\(∀q,Gy g (Dv (Cm x.os x.floor x.on) x.hs ver x.hn).1 (λi=>((Dv (Cm x.os x.floor x.on) x.hs ver x.hn).2 i).hn) hb q->w.1.size<=q)/\Below w.1.size w w':=by
 have HC:=Ag hc;have HF:=Ag hf;go_enter func7,ntmps7;go_wp2_with (first
  |(go_at_call 15;go_must(refine(Gp x a1 a2 a3 c1 c2 c3 _ lo hi Zd hf (HC.out.below ((An _ _).alloc Zc _) hhi)).mono ?_;rw[hv];rintro e w1 ⟨rfl,hb1⟩;have hB1:Below w.1.size w w1:=((An _ _).alloc Zc _).trans (hb1.mono Zd);have H1:DS w1 w.1.size (Er x a1 a2 a3 c1 c2 c3):=((DJ w _ 27).below EC Zc).below hb1 Zd;obtain⟨p0,p1,p2,p3,p4⟩:=DU H1))
  |(go_at_call 28;go_must(refine(BY ver x.floor x.now _).mono ?_;rw[hin];rintro e w2 ⟨rfl,hw2⟩;replace hw2:=hw2.symm;subst hw2)));have zw1:w.1.size+1<w1.1.size:=by have:=hb1.size;simp at this;omega
 have H0:Bs w1 0 w1.1.size (some ⟨w.1.size+1,0,none⟩) (Cm x.os x.floor 0).1 (Cm x.os x.floor 0).2:=λi hi'=>absurd hi' (Ai _);clear p0 p1 p2 p3 p4 hb1;go_loopw[6,8](λo i wr=>nO x w1 o i wr)(λ_ i _=>x.on-(intOf i).toNat);case atStart=>exact⟨0,_,0,Aw _,rfl,rfl,Al _ _,H0⟩
 case round=>
  obtain⟨k,ad,cap,hk,rfl,rfl,hb,ho⟩:=hrel;clear H0;obtain⟨p0,p1,p2,p3,p4⟩:=DU (H1.below hb Zb);have zr:=hb.size;have HO:=Ag ho;clear ho;by_cases hkn:k<x.on
  .obtain⟨b,off,ah,ch,rfl,hlo,hbh,hcx,hsx⟩:=HC.out.o k hkn;obtain⟨e0,e1,e2,e3,e4,e5,e6⟩:=(hcx.below hB1 Zb).below hb Zb;have ZD:=Ag (((hsx.below hB1 hhi).below hb Zb).up Zb);have hle:=K5 x.os x.floor k;obtain⟨m,hm⟩:∃m,(Cm x.os x.floor k).1=m:=⟨_,rfl⟩;obtain⟨y,hy⟩:∃y,(Cm x.os x.floor k).2=y:=⟨_,rfl⟩;rw[hm]at hle;by_cases hver:(x.os k).ver<=x.floor
   .have J6:=Ag (show(Cm x.os x.floor (k+1)).1=(Cq m y (x.os k) false).m by rw[Cm,if_pos hver,hm,hy]);have Si:=Ag (show(Cm x.os x.floor (k+1)).2=(Cq m y (x.os k) false).y by rw[Cm,if_pos hver,hm,hy]);have RT:=Ag (show Bs wr 0 wr.1.size ad m y from hm▸hy▸HO.out);rw[hm];clear hm hy HO;go_wp2;go_region;all_goals go_wp2_with (go_at_call 29;go_must(refine(LD m y ad cap ⟨0,false,x.os k⟩ ah ch _ 0 wr.1.size Zc Zb (by exact RT.out.below ((Al _ _).drew) Bg) (by exact ZD.out.below ((Al _ _).drew) Bg)).mono ?_;rintro e w3 ⟨v3,A3,C3,rfl,hr3,hb3⟩;have ZC:=Ag hr3;clear hr3))
    all_goals have z3:=hb3.size;simp only[World.size_drew]at z3;obtain⟨ad3,cap3,hv3,ho3⟩:=ZC.out.objs z3;subst hv3;exact⟨⟨k+1,ad3,cap3,Zb,Zc,by rw[J6.out],hb.trans ((((Al _ _).drew).trans hb3).mono zr),by rw[J6.out,Si.out];exact ho3⟩,by simp[intOf];omega⟩
   .have J6:=Ag (show Cm x.os x.floor (k+1)=Cm x.os x.floor k by rw[Cm,if_neg hver]);have RT:=Ag (show Bs wr 0 wr.1.size ad m y from hm▸hy▸HO.out);have HM:=Ag hm;have iP:=Ag hy;rw[hm];clear hm hy HO;go_wp2;go_region;all_goals go_wp2
    all_goals exact⟨⟨k+1,ad,cap,Zb,Zc,by rw[J6.out,HM.out],hb.trans ((Al _ _).drew),by rw[J6.out,HM.out,iP.out];exact RT.out.up ((Al _ _).drew)⟩,by simp[intOf];omega⟩
  .have hke:k=x.on:=Zb;subst hke;obtain⟨W0,hW0⟩:∃W0,W0=wr:=⟨_,rfl⟩;subst hW0;go_wp2;go_loopw[6,7,9](λo al i wr=>oF x ver w1 o al i wr)(λ_ _ i _=>x.hn-(intOf i).toNat);case atStart=>exact⟨0,ad,cap,Aw _,rfl,rfl,rfl,hb,HO.out⟩
   case round=>
    obtain⟨k,ad,cap,hk,rfl,rfl,rfl,hb,ho⟩:=hrel;clear HO p0 p1 p2 p3 p4 zr;obtain⟨p0,p1,p2,p3,p4⟩:=DU (H1.below hb Zb);have zr:=hb.size;have HO:=Ag ho;clear ho;by_cases hkn:k<x.hn
    .obtain⟨b,off,ah,ch,ha2,hlo,hbh,hcx,hsx⟩:=HC.out.h k hkn;obtain⟨e0,e1,e2,e3,e4,e5,e6,e7,e8⟩:=(hcx.below hB1 Zb).below hb Zb;have ZD:=Ag (((hsx.below hB1 hhi).below hb Zb).up Zb);have oZ:=Ag ((HC.out.h.below hB1 hhi).below hb Zb);have hle:=MP (Cm x.os x.floor x.on) x.hs ver k;have hle0:=K5 x.os x.floor x.on;obtain⟨m,hm⟩:∃m,(Dv (Cm x.os x.floor x.on) x.hs ver k).1=m:=⟨_,rfl⟩;obtain⟨y,hy⟩:∃y,(Dv (Cm x.os x.floor x.on) x.hs ver k).2=y:=⟨_,rfl⟩;rw[hm]at hle;have RT:=Ag (show Bs wr 0 wr.1.size ad m y from hm▸hy▸HO.out);have hB:=(DJ wr #[.int .i64 (x.hs k).ver,.bool (x.hs k).gone,.string (x.hs k).ob.kind,.string (x.hs k).ob.name,.int .i64 (x.hs k).ob.ver,.int .i64 (x.hs k).ob.born,.string (x.hs k).ob.text,.bool (x.hs k).ob.ending,.slice ah (x.hs k).ob.hn ch] 63);have g0:=hB 0;have g1:=hB 1;have g2:=hB 2;have g3:=hB 3;have g4:=hB 4;have g5:=hB 5;have g6:=hB 6;have g7:=hB 7;have g8:=hB 8;simp only[Ac,Ab,Aa]at g0 g1 g2 g3 g4 g5 g6 g7 g8;have q3:∀o,(wr.alloc o).cell? ⟨w.1.size,3,none⟩=some (.slice a2 x.hn c2):=λo=>(Aq _ _ _ Zb).trans p3;clear hB;by_cases hver:(x.hs k).ver<=ver;.have J6:=Ag (show(Dv (Cm x.os x.floor x.on) x.hs ver (k+1)).1=(Cq m y (x.hs k).ob (x.hs k).gone).m by rw[Dv,if_pos hver,hm,hy]);have Si:=Ag (show(Dv (Cm x.os x.floor x.on) x.hs ver (k+1)).2=(Cq m y (x.hs k).ob (x.hs k).gone).y by rw[Dv,if_pos hver,hm,hy]);have HA:=Ag (show GH x.hs ver (k+1)=GH x.hs ver k by rw[GH,decide_eq_true hver];simp);rw[hm];clear hm hy HO;generalize hal:GH x.hs ver k=al;subst ha2;go_wp2_with (go_at_call 29;go_must(refine(LD m y ad cap (x.hs k) ah ch _ 0 wr.1.size Zc Zb (by exact RT.out.below EC Bg) (by exact ZD.out.below EC Bg)).mono ?_;rintro e w3 ⟨v3,A3,C3,rfl,hr3,hb3⟩;have ZC:=Ag hr3;clear hr3));have z3:=hb3.size;simp only[Au]at z3;obtain⟨ad3,cap3,hv3,ho3⟩:=ZC.out.objs Zb;subst hv3;exact⟨⟨k+1,ad3,cap3,Zb,Zc,by rw[HA.out,hal],by rw[J6.out],hb.trans (((An _ _).trans (hb3.mono Zc)).mono zr),by rw[J6.out,Si.out];exact ho3⟩,by simp[intOf];omega⟩
     .have J6:=Ag (show Dv (Cm x.os x.floor x.on) x.hs ver (k+1)=Dv (Cm x.os x.floor x.on) x.hs ver k by rw[Dv,if_neg hver]);have HA:=Ag (show GH x.hs ver (k+1)=(GH x.hs ver k&&!(decide (D7 x.hs (x.hs k).ob k<0)&&!FK (x.hs k)))by rw[GH,decide_eq_false hver];simp);have HM:=Ag hm;have iP:=Ag hy;rw[hm];clear hm hy HO;generalize hal:GH x.hs ver k=al;have lX:=Ag hal;clear hal;subst ha2;have zn:k<=x.hn:=Zb;have hl0:∀r,D7 x.hs (x.hs k).ob k=r->D7 x.hs (x.hs k).ob k=r:=λ_ h=>h;clear hl0;obtain⟨r,hrr⟩:∃r,D7 x.hs (x.hs k).ob k=r:=⟨_,rfl⟩;have oQ:=Ag hrr;by_cases hl:r<0
      .have hl2:D7 x.hs (x.hs k).ob k<0:=by rw[hrr];exact hl
       cases hcr:FK (x.hs k)with
       |true=>exact Xm
       |false=>exact Xm
      .have hl2:¬D7 x.hs (x.hs k).ob k<0:=by rw[hrr];exact hl
       go_wp2_with (go_at_call 30;go_must(refine(Hy x.hn k x.hs (x.hs k).ob _ ah c2 ch _ lo hi Zd Zb zn (by exact oZ.out.below EC Zb)).mono ?_;rw[oQ.out];rintro e w3 ⟨rfl,hb3⟩;have r0:=(hb3.cell (p:=⟨wr.1.size,0,none⟩) Zc).trans g0;have r1:=(hb3.cell (p:=⟨wr.1.size,1,none⟩) Zc).trans g1;have r2:=(hb3.cell (p:=⟨wr.1.size,2,none⟩) Zc).trans g2;have r3:=(hb3.cell (p:=⟨wr.1.size,3,none⟩) Zc).trans g3;have r4:=(hb3.cell (p:=⟨wr.1.size,4,none⟩) Zc).trans g4;have r5:=(hb3.cell (p:=⟨wr.1.size,5,none⟩) Zc).trans g5;have r6:=(hb3.cell (p:=⟨wr.1.size,6,none⟩) Zc).trans g6;have r7:=(hb3.cell (p:=⟨wr.1.size,7,none⟩) Zc).trans g7;have r8:=(hb3.cell (p:=⟨wr.1.size,8,none⟩) Zc).trans g8));exact⟨⟨k+1,ad,cap,Zb,Zc,by rw[HA.out,lX.out];simp[hl2],by rw[J6.out,HM.out],hb.trans (((An _ _).trans (hb3.mono Zc)).mono zr),by rw[J6.out,HM.out,iP.out];exact RT.out.up (((An _ _).trans (hb3.mono Zc)))⟩,by simp[intOf];omega⟩
    .have hke:k=x.hn:=Zb;subst hke;have Tr:=Ag (Nu (ver:=ver) (P:=DD) (Na (fl:=x.floor) x.on HF.out.os) x.hn HF.out.hs);have hle:=MP (Cm x.os x.floor x.on) x.hs ver x.hn;have hle0:=K5 x.os x.floor x.on;obtain⟨m,hm⟩:∃m,(Dv (Cm x.os x.floor x.on) x.hs ver x.hn).1=m:=⟨_,rfl⟩;obtain⟨y,hy⟩:∃y,(Dv (Cm x.os x.floor x.on) x.hs ver x.hn).2=y:=⟨_,rfl⟩;rw[hm]at hle;have RT:=Ag (show Bs wr 0 wr.1.size ad m y from hm▸hy▸HO.out);have nA:=Ag (show∀i,i<m->DD (y i)from λi hi'=>by rw[<-hy];exact Tr.out i (by rw[hm];exact hi'));generalize hal:GH x.hs ver x.hn=al;have lX:=Ag hal;have HM:=Ag hm;have iP:=Ag hy;rw[hm];clear hm hy HO Tr hal;go_wp2_with (go_at_call 32;go_must(refine(L4 m y ad cap _ 0 wr.1.size Bg Zb nA.out RT.out).mono ?_;rintro e w3 ⟨ad',cap',g,A,C,hb',rfl,hat,hq,hb3⟩;have RO:=Ag hat;have HQ:=Ag hq;clear hat hq));refine bodyPost_ret (v:=.tuple #[.slice ad' m cap',.bool al]) (by simp[results,results7,go_sem]) rfl ?_;rw[HM.out,iP.out,lX.out];exact⟨ad',cap',g,A,C,hb',rfl,RO.out,λq hq=>AG Zb (HQ.out.1 q hq),(hB1.trans (hb.mono Zb)).trans (hb3.mono Zb)⟩
end Go.Proofs.YtofencldleijcaaGreat
