import Derived.Test.YtofencldleijcaaGreatPk52
import Derived.Deep.Light
import Derived.Deep.RegionWith
import Derived.Deep.DeepCutAuto
import Derived.Test.YtofencldleijcaaGreatPk27
import Derived.ProofKit
import Derived.SizedLaws
import Derived.Deep.Slices
import Derived.Deep.Strs
set_option maxRecDepth 100000
set_option maxHeartbeats 8000000
namespace Go.Proofs.YtofencldleijcaaGreat
open Go.RowKit Go.Proofs.Tryz
theorem GA.box{w w':World}{z n:Nat}{ad:OA}{x:Nat->Wr}(h:GA w 0 w.1.size ad n x)(hf:AB (λq=>q=z) w w')(hn:G7 w z):GA w' 0 w'.1.size ad n x:=λi hi=>by obtain⟨b,off,e1,e2,e3,e4⟩:=h i hi;have hz:¬b=z:=λe=>hn _ _ (by rw[<-e];exact e4.c1);have c:∀{j v},w.cell? ⟨b,j,none⟩=some v->w'.cell? ⟨b,j,none⟩=some v:=λ{j v}q=>(hf.cell (p:=⟨b,j,none⟩) e3 hz).trans q;exact⟨b,off,e1,e2,Ad e3 hf.size,⟨c e4.c0,c e4.c1,c e4.c2,c e4.c3,c e4.c4,c e4.c5⟩⟩
theorem GA.up{w w':World}{n:Nat}{ad:OA}{x:Nat->Wr}(h:GA w 0 w.1.size ad n x)(hb:Below w.1.size w w'):GA w' 0 w'.1.size ad n x:=(h.below hb Bg).mono Bg hb.size
def rO (X:World)(v:Value)(l:List Ob):Prop:=∃a k,v=.slice a (l.map GI).length k/\PX X a (l.map GI)
structure TD (w:World)(T:Nat)(Y:Bk)(b1 b2 b3:OA)(k1 k2 k3:Nat)(u:OA)(n:Nat)(x:Nat->Wr)(pa:OA)(pg pc:Nat)(pl:List (List Ob))(c:Nat->Value)(X:World):Prop where
 B:Below w.1.size w X
 T0:w.1.size<=T
 t:AM X T 5 (A7 [.int .i64 Y.now,.int .i64 Y.floor,.slice b1 Y.on k1,.slice b2 Y.hn k2,.slice b3 Y.tn k3])tn:G7 X T
 y:EZ X Y b1 b2 b3 k3
 ws:GA X 0 X.1.size u n x
 p:Rw X pa pg pl.length pc 1 c
 pn:0<pc->G7 X pg/\w.1.size<=pg/\¬pg=T
 pj:∀j,j<pl.length->rO X (c j) (pl.getD j [])
theorem TD.below{w X:World}{T:Nat}{Y:Bk}{b1 b2 b3:OA}{k1 k2 k3:Nat}{u:OA}{n:Nat}{x:Nat->Wr}{pa:OA}{pg pc:Nat}{pl:List (List Ob)}{c:Nat->Value}{Z:World}(h:TD w T Y b1 b2 b3 k1 k2 k3 u n x pa pg pc pl c X)(hb:Below X.1.size X Z):TD w T Y b1 b2 b3 k1 k2 k3 u n x pa pg pc pl c Z:=⟨h.B.trans (hb.mono h.B.size),h.T0,h.t.below hb h.t.lt,h.tn.below hb h.t.lt,h.y.below hb,h.ws.up hb,h.p.grow hb,λh0=>⟨(h.pn h0).1.below hb (h.p.room h0).lt,(h.pn h0).2⟩,λj hj=>by obtain⟨a,k,e,q⟩:=h.pj j hj;exact⟨a,k,e,q.below hb⟩⟩
theorem TD.put{w X:World}{T:Nat}{Y:Bk}{b1 b2 b3:OA}{k1 k2 k3:Nat}{u:OA}{n:Nat}{x:Nat->Wr}{pa:OA}{pg pc:Nat}{pl:List (List Ob)}{c:Nat->Value}{V:Bk}{f1 f2 f3:OA}{h1 h2 h3:Nat}(h:TD w T Y b1 b2 b3 k1 k2 k3 u n x pa pg pc pl c X)(hv:EZ X V f1 f2 f3 h3):TD w T V f1 f2 f3 h1 h2 h3 u n x pa pg pc pl c (((((X.setCell ⟨T,0,none⟩ (.int .i64 V.now)).setCell ⟨T,1,none⟩ (.int .i64 V.floor)).setCell ⟨T,2,none⟩ (.slice f1 V.on h1)).setCell ⟨T,3,none⟩ (.slice f2 V.hn h2)).setCell ⟨T,4,none⟩ (.slice f3 V.tn h3)):=by
 have F:=((((((AB.refl (λq=>q=T) X).setCell (p:=⟨T,0,none⟩) rfl (.int .i64 V.now)).setCell (p:=⟨T,1,none⟩) rfl (.int .i64 V.floor)).setCell (p:=⟨T,2,none⟩) rfl (.slice f1 V.on h1)).setCell (p:=⟨T,3,none⟩) rfl (.slice f2 V.hn h2)).setCell (p:=⟨T,4,none⟩) rfl (.slice f3 V.tn h3));have M:=(((((h.t.set (o:=0) Za (.int .i64 V.now)).set (o:=1) Za (.int .i64 V.floor)).set (o:=2) Za (.slice f1 V.on h1)).set (o:=3) Za (.slice f2 V.hn h2)).set (o:=4) Za (.slice f3 V.tn h3));have hT:=h.T0;refine⟨h.B.trans (F.below (λq hq e=>by omega) h.B.size),h.T0,M.congr (λj hj=>?_),WK h.tn h.t V f1 f2 f3 h1 h2 h3,hv.pick F h.tn,h.ws.box F h.tn,h.p.fr F (λh0=>(h.pn h0).2.2),λh0=>⟨(h.pn h0).1.fr F (h.p.room h0).lt (h.pn h0).2.2,(h.pn h0).2⟩,λj hj=>?_⟩;.rcases(show j=0\/j=1\/j=2\/j=3\/j=4 by omega)with rfl|rfl|rfl|rfl|rfl<;>rfl
 .obtain⟨a,k,e,q⟩:=h.pj j hj;exact⟨a,k,e,q.box F h.tn⟩
theorem XW{X:World}{Y:Bk}{b1 b2 b3:OA}{k3:Nat}(h:EZ X Y b1 b2 b3 k3):Y.on=((Eo Y.on Y.os).map GI).length/\PX X b1 ((Eo Y.on Y.os).map GI):=P6 h.i.o (λi hi=>(h.f.os i hi).h) rfl
theorem TD.add{w X:World}{T:Nat}{Y:Bk}{b1 b2 b3:OA}{k1 k2 k3:Nat}{u:OA}{n:Nat}{x:Nat->Wr}{pa:OA}{pg pc:Nat}{pl:List (List Ob)}{c:Nat->Value}{Z:World}{pa':OA}{pc' pg':Nat}(h:TD w T Y b1 b2 b3 k1 k2 k3 u n x pa pg pc pl c X)(hr:Rw Z pa' pg' (pl.length+1) pc' 1 (Cd c (pl.length*1) (A7 [.slice b1 Y.on k1])))(hns:G7 Z pg')(hf:AB (λq=>0<pc/\q=pg) X Z)(hg:(0<pc/\pg'=pg)\/X.1.size<=pg'):TD w T Y b1 b2 b3 k1 k2 k3 u n x pa' pg' pc' (pl++[Eo Y.on Y.os]) (Cd c (pl.length*1) (A7 [.slice b1 Y.on k1])) Z:=by
 obtain⟨z,hz,hzn,hzw⟩:∃z,AB (λq=>q=z) X Z/\G7 X z/\w.1.size<=z:=by
  rcases BF pc with h0|h0;.exact⟨T,hf.mono (λq e=>by omega),h.tn,h.T0⟩
  .exact⟨pg,hf.mono (λq e=>e.2),(h.pn h0).1,(h.pn h0).2.1⟩
 have tl:=h.t.lt;have hT:=h.T0;have hpT:¬(0<pc/\T=pg):=λe=>(h.pn e.1).2.2 e.2.symm;have hBs:=h.B.size;have el:(pl++[Eo Y.on Y.os]).length=pl.length+1:=Zc;have hy:=h.y.pick hz hzn;refine⟨h.B.trans (hz.below (λq hq e=>by omega) h.B.size),h.T0,h.t.fr hf hpT,h.tn.fr hf tl hpT,hy,h.ws.box hz hzn,by rw[el];exact hr,λ_=>⟨hns,?_,?_⟩,λj hj=>?_⟩
 .rcases hg with⟨h0,e⟩|e;.rw[e];exact(h.pn h0).2.1
  .omega
 .rcases hg with⟨h0,e⟩|e;.rw[e];exact(h.pn h0).2.2
  .omega
 .rw[el]at hj;unfold Cd;by_cases hlt:j<pl.length*1;.rw[if_pos hlt,A6,GD Zb,<-A6];obtain⟨a,k,e,q⟩:=h.pj j Zb;exact⟨a,k,e,q.box hz hzn⟩
  .rw[if_neg hlt,show j=pl.length by omega,A6,KT Bg,Nat.sub_self,show pl.length-pl.length*1=0 by omega];obtain⟨e1,e2⟩:=XW hy;exact⟨b1,k1,by show Value.slice b1 Y.on k1=Value.slice b1 ((Eo Y.on Y.os).map GI).length k1;rw[<-e1],e2⟩
structure gU (Y:Bk)(first:Int)(pl:List (List Ob)):Prop where
 ok:Ny Y first pl
 pw:∀l∈pl,Ol l
theorem YN{B:Bk}(h:VB B):Ol (Eo B.on B.os):=KN.1 (J0 h.asc)
theorem VD{B:Bk}(h:VB B):gU B B.now [Eo B.on B.os]:=⟨Ns h,λl hl=>by rw[List.mem_singleton]at hl;subst hl;exact YN h⟩
theorem gU.add{B:Bk}{v:Wr}{first:Int}{pl:List (List Ob)}(h:gU B first pl)(hv:VB B)(hf:Dm B)(hw:EU v=true)(hwf:Ml v)(h0:Bv B v=0):gU (Eg B v) first (pl++[Eo (Eg B v).on (Eg B v).os]):=by
 have hok:=M5 hf (I6 hv) hw hwf;refine⟨S9 hv hok h0 h.ok,λl hl=>?_⟩;rcases List.mem_append.1 hl with e|e;.exact h.pw l e
 .rw[List.mem_singleton]at e;subst e;exact YN (I8 hv hok h0)
def nW (w:World)(first:Int)(T:Nat)(u:OA)(n:Nat)(x:Nat->Wr)(km:Nat)(s:Value)(X:World):Prop:=∃Y b1 b2 b3 k1 k2 k3 pa pg pc pl c,s=.slice pa pl.length pc/\pl.length<=km/\gU Y first pl/\TD w T Y b1 b2 b3 k1 k2 k3 u n x pa pg pc pl c X
end Go.Proofs.YtofencldleijcaaGreat
namespace Go.Proofs.YtofencldleijcaaGreat
open Go.RowKit Go.Proofs.Tryz
theorem YC (ad:OA)(n cap:Nat)(w:World)(hn:(n:Int)<=140737488355328)(hc:n<=cap)(hb:J7 w ad n):Calls prog 3 #[.slice ad n cap] w λe w'=>e=.returned (.bool true)/\Below w.1.size w w':=by
 by_cases hbig:(1048576:Int)<n
 .clear hb;go_enter func3,ntmps3;go_wp2_with fail;go_ret;exact⟨rfl,Al _ _⟩
 have oI:=Ag hb;have hn2:(n:Int)<=1048576:=Zb;clear hb;go_enter func3,ntmps3;go_upto_region 4 with(go_at_call 4;go_must(refine(PB ad n cap _ hn2 hc oI.out).mono ?_;rintro e w2 ⟨B,b1,b2,b3,e1,e2,e3,m,x,u,d,rfl,hV,hm,hwi,hws,hB2⟩));have hA2:=An w2 (.cells #[.int .i64 B.now,.int .i64 B.floor,.slice b1 B.on e1,.slice b2 B.hn e2,.slice b3 B.tn e3] 27);have HT:=Ag (AM.new (w:=w2) (l:=[.int .i64 B.now,.int .i64 B.floor,.slice b1 B.on e1,.slice b2 B.hn e2,.slice b3 B.tn e3]) (t:=27) Ck);have HN:=Ag (UV (w:=w2) (l:=[.int .i64 B.now,.int .i64 B.floor,.slice b1 B.on e1,.slice b2 B.hn e2,.slice b3 B.tn e3]) (t:=27) (λj s hj e=>by rcases(show j=0\/j=1\/j=2\/j=3\/j=4 by simp at hj;omega)with rfl|rfl|rfl|rfl|rfl<;>simp[A7]at e));have hN0:G7 (w2.alloc (.cells #[.int .i64 B.now,.int .i64 B.floor,.slice b1 B.on e1,.slice b2 B.hn e2,.slice b3 B.tn e3] 27)) w2.1.size:=HN.out;have Qd:=Ag hN0;have HV:=Ag (hV.below hA2);have mX:=Ag (hws.up hA2);have d9:=Ag hwi;have HB:=Ag (hB2.trans (hA2.mono hB2.size));have hT0:w.1.size<=w2.1.size:=hB2.size;generalize w2.alloc (.cells #[.int .i64 B.now,.int .i64 B.floor,.slice b1 B.on e1,.slice b2 B.hn e2,.slice b3 B.tn e3] 27)=X at HT Qd HV mX HB⊢;generalize w2.1.size=T at HT Qd hT0⊢;clear hA2 HN hN0 hV hws hwi hB2 oI;have t0:=HT.out.cell 0 Zc;have t1:=HT.out.cell 1 Zc;have t2:=HT.out.cell 2 Zc;have t3:=HT.out.cell 3 Zc;have t4:=HT.out.cell 4 Zc;simp only[A7,Ae,Af]at t0 t1 t2 t3 t4;have tl:=HT.out.lt;go_upto_region 6 with fail;have hA3:=An X (.cells #[.slice b1 B.on e1] 23);have hP:AM (X.alloc (.cells #[.slice b1 B.on e1] 23)) X.1.size 1 (A7 [.slice b1 B.on e1]):=AM.new (w:=X) (l:=[.slice b1 B.on e1]) (t:=23) Ck;have hPN:G7 (X.alloc (.cells #[.slice b1 B.on e1] 23)) X.1.size:=UV (w:=X) (l:=[.slice b1 B.on e1]) (t:=23) (λj s hj e=>by
  obtain rfl:j=0:=by simp at hj;omega
  simp[A7]at e);have Cz:=Ag (show TD w T B b1 b2 b3 e1 e2 e3 u m x (some ⟨X.1.size,0,none⟩) X.1.size 1 [Eo B.on B.os] (A7 [.slice b1 B.on e1]) (X.alloc (.cells #[.slice b1 B.on e1] 23))from⟨HB.out.trans (hA3.mono HB.out.size),hT0,HT.out.below hA3 tl,Qd.out.below hA3 tl,HV.out.below hA3,mX.out.up hA3,⟨λ_=>rfl,Az _,λ_=>⟨λj hj=>⟨_,hP.cell j hj⟩,hP.free,hP.lt⟩,λj hj=>hP.cell j hj⟩,λ_=>⟨hPN,HB.out.size,Zb⟩,λj hj=>by
   obtain rfl:j=0:=by simp at hj;omega
   obtain⟨q1,q2⟩:=XW (HV.out.below hA3);exact⟨b1,e1,by show Value.slice b1 B.on e1=Value.slice b1 ((Eo B.on B.os).map GI).length e1;rw[<-q1],q2⟩⟩);have lW:=Ag (VD HV.out.v);generalize X.alloc (.cells #[.slice b1 B.on e1] 23)=X1 at Cz⊢;generalize hG:X.1.size=G at Cz⊢;clear hG hA3 hP hPN HT Qd HV mX HB t0 t1 t2 t3 t4 tl X;obtain⟨first,hfirst⟩:∃first:Int,B.now=first:=⟨_,rfl⟩;have rT:=Ag hfirst;rw[hfirst]at lW⊢;clear hfirst;go_upto_block 0 with fail;go_cut[6](λs6 wx=>nW w first T u m x (m+1) s6 wx);case first=>
  --<l1
  go_wp2_with fail;go_loopw[6,7](λs6 s7 wr=>∃i:Nat,s7=.int .i64 i/\i<=m/\Hid (nW w first T u m x (i+1) s6 wr))(λ_ s7 _=>m-(intOf s7).toNat);case atStart=>exact⟨0,rfl,Aw _,Ag ⟨_,_,_,_,_,_,_,_,_,_,_,_,rfl,Az _,lW.out,Cz.out⟩⟩
  case round=>
   clear Cz lW;obtain⟨i,rfl,him,HL⟩:=hrel;by_cases hi:i<m
   .go_upto_block 1 with fail;go_cut[6](λs6 wx=>nW w first T u m x (i+1+1) s6 wx);case first=>
     --<b1
     obtain⟨Y,c1,c2,c3,k1,k2,k3,pa,pg,pc,pl,c,e6,hpl,hP,hS⟩:=HL.out;subst e6;have HS:=Ag hS;have HP:=Ag hP;clear HL hS hP;go_upto_region 9 with fail;refine eM _ _ _ _ _ _ _ _ _ _ _ _ _ _ _ _ _ _ _ _ _ _ _ _ _ _ _ _ _ _ _ _ _ _ _ _ _ _ _ _ _ _ _ _ _ _ _ _ _ _ _ _ _ _ _ _ _ _ _ _ _ _ _ _ _ _ _ _ _ _ _ _ _ _ _ _ _ _ _ _ _ _ _ _ _ _ _ _ _ _ _ _ _ _ _ _ _ _ _ _ _ _ _ _ _ _ _ _ _ _ _ _ _ _ _ _ _ _ _ _ _ _ _ _ _ _ _ (A7 [_,_,_,_,_,_,_]) T Y c1 c2 c3 k1 k2 k3 u m d i x _ HS.out.t.lt HS.out.t HS.out.y hi d9.out HS.out.ws _ ?_;intro t z cd V f1 f2 f3 h1 h2 h3 ve X2 ht hz hrow hB hV;rw[ht];have C8:=Ag (HS.out.below hB);have lZ:=Ag hV;have hTz:¬T=z:=by have:=HS.out.t.lt;omega
     have HY:=Ag HS.out.y.v;have qA:=Ag HS.out.y.f;have r0:=hrow.cell 0 Za;have r1:=hrow.cell 1 Za;have r2:=hrow.cell 2 Za;have r3:=hrow.cell 3 Za;have r4:=hrow.cell 4 Za;have r5:=hrow.cell 5 Za;have r6:=hrow.cell 6 Za;simp only[A7,Ae,Af]at r0 r1 r2 r3 r4 r5 r6;have rl:=hrow.lt;have HR:=Ag hrow;clear hrow hB hV HS ht;by_cases h0:cd=0
     .subst h0;obtain⟨q1,q2,q3,q4⟩:=lZ.out rfl;have HV:=Ag q4;have qE:=Ag q3;clear q4 q3 lZ;have t0:=C8.out.t.cell 0 Za;have t1:=C8.out.t.cell 1 Za;have t2:=C8.out.t.cell 2 Za;have t3:=C8.out.t.cell 3 Za;have t4:=C8.out.t.cell 4 Za;simp only[A7,Ae,Af]at t0 t1 t2 t3 t4;have tl:=C8.out.t.lt;have tf:=C8.out.t.free;go_upto_region 12 with fail;have Ok:=Ag (C8.out.put (h1:=h1) (h2:=h2) HV.out);generalize(((((X2.setCell ⟨T,0,none⟩ (.int .i64 V.now)).setCell ⟨T,1,none⟩ (.int .i64 V.floor)).setCell ⟨T,2,none⟩ (.slice f1 V.on h1)).setCell ⟨T,3,none⟩ (.slice f2 V.hn h2)).setCell ⟨T,4,none⟩ (.slice f3 V.tn h3))=X3 at Ok⊢;clear C8 HV HR r0 r1 r2 r3 r4 r5 r6 rl t0 t1 t2 t3 t4 tl tf;have t0:=Ok.out.t.cell 0 Za;have t1:=Ok.out.t.cell 1 Za;have t2:=Ok.out.t.cell 2 Za;have t3:=Ok.out.t.cell 3 Za;have t4:=Ok.out.t.cell 4 Za;simp only[A7,Ae,Af]at t0 t1 t2 t3 t4;have tl:=Ok.out.t.lt;have hpl2:pl.length<=1000:=Zb;have hone:∀j,j<[Value.slice f1 V.on h1].length->(A7 [Value.slice f1 V.on h1] j).oneCell'=true:=λj hj=>by
       obtain rfl:j=0:=by simp at hj;omega
       rfl
      go_wp2_with ((with_reducible show wpList _ _ _ (⟨some 54,_,_,_,_,_⟩::_) _ _);obtain⟨ad',cap',g',Z,hrun,hrw,hns,hfZ,hg⟩:=Uz (X3.alloc (.cells #[.slice f1 V.on h1] 23)) 31 pa pg pl.length pc c f1 V.on h1 (Ok.out.p.grow EC) (λj hj=>(λ⟨a,k,e,_⟩=>⟨a,_,k,e⟩) (Ok.out.pj j hj)) (λh0=>((Ok.out.below EC).pn h0).1) X3.1.size (X3.1.size+1) (some ⟨X3.1.size,0,none⟩) 1 (MS X3 [.slice f1 V.on h1] 23 hone) hpl2;refine EG rfl _ _ _ _ rfl _ _ _ _ rfl rfl hrun ?_;have HA:=Ag (Ok.out.below (An X3 (.cells #[.slice f1 V.on h1] 23))));go_meet;case rel=>have hp2:=HP.out.add HY.out qA.out q1 (d9.out i hi).fit q2;rw[<-qE.out]at hp2;exact⟨V,f1,f2,f3,h1,h2,h3,ad',g',cap',pl++[Eo V.on V.os],_,Zc,Zd,hp2,HA.out.add hrw hns hfZ hg⟩
     .go_wp2_with fail;go_meet;case rel=>exact⟨Y,c1,c2,c3,k1,k2,k3,pa,pg,pc,pl,c,rfl,Zb,HP.out,C8.out⟩
     --b1>
    case rest=>
     have G0:=Ag hcut;clear hcut HL;have hw1:IntKind.i64.wrap ((i:Int)+1)=((i+1:Nat):Int):=by rw[AE _ ⟨Zb,Zb⟩];omega
     go_wp2;refine⟨⟨i+1,rfl,Zb,G0⟩,?_⟩;show m-(((i+1:Nat):Int)).toNat<m-((i:Int)).toNat;omega
   .obtain rfl:i=m:=Zb;go_wp2_with fail;go_meet;case rel=>exact HL.out
  --l1>
 case rest=>
  obtain⟨Y,c1,c2,c3,k1,k2,k3,pa,pg,pc,pl,c,e6,hpl,hP,hS⟩:=hcut;subst e6;clear Cz lW;have HS:=Ag hS;have HP:=Ag hP;clear hS hP;have hfl:=HS.out.y.v.n0;have hnow:=HS.out.y.v.hnow;have hmx:=HS.out.y.v.n2;have hlen:=HP.out.ok.len;have t0:=HS.out.t.cell 0 Za;have t1:=HS.out.t.cell 1 Za;have t2:=HS.out.t.cell 2 Za;have t3:=HS.out.t.cell 3 Za;have t4:=HS.out.t.cell 4 Za;simp only[A7,Ae,Af]at t0 t1 t2 t3 t4;have tl:=HS.out.t.lt;go_upto_block 2 with fail;clear t0 t1 t2 t3 t4 tl;go_cut[](λwx=>TD w T Y c1 c2 c3 k1 k2 k3 u m x pa pg pc pl c wx);case first=>
   --<l2
   go_wp2_with fail;go_loopw[9](λs9 wr=>∃q:Nat,s9=.int .i64 (Y.floor+q)/\q<=Y.hn+1/\Hid (TD w T Y c1 c2 c3 k1 k2 k3 u m x pa pg pc pl c wr))(λs9 _=>Y.hn+1-(intOf s9-Y.floor).toNat);case atStart=>exact⟨0,Zc,Aw _,HS⟩
   case round=>
    clear HS;obtain⟨q,rfl,hq,HL⟩:=hrel;have t0:=HL.out.t.cell 0 Za;have t1:=HL.out.t.cell 1 Za;have t2:=HL.out.t.cell 2 Za;have t3:=HL.out.t.cell 3 Za;have t4:=HL.out.t.cell 4 Za;simp only[A7,Ae,Af]at t0 t1 t2 t3 t4;have tl:=HL.out.t.lt;by_cases hqn:q<=Y.hn
    .go_upto_block 3 with fail;go_cut[](λwx=>TD w T Y c1 c2 c3 k1 k2 k3 u m x pa pg pc pl c wx);case first=>go_upto_region 17 with(go_at_call 6;go_must(refine(Q0 Y c1 c2 c3 k1 k2 k3 q _ _ HL.out.y hqn rfl).mono ?_;rintro e w3 ⟨a3,p3,rfl,hl3,hb3⟩));have G0:=Ag (HL.out.below hb3);have jR:=Ag hl3;clear t0 t1 t2 t3 t4 tl HL hl3 hb3;have t0:=G0.out.t.cell 0 Za;have t1:=G0.out.t.cell 1 Za;have t2:=G0.out.t.cell 2 Za;have t3:=G0.out.t.cell 3 Za;have t4:=G0.out.t.cell 4 Za;simp only[A7,Ae,Af]at t0 t1 t2 t3 t4;have tl:=G0.out.t.lt;go_upto_region 18 with(go_at_call 7;go_must(refine(WQ Y c1 c2 c3 k1 k2 k3 q _ _ G0.out.y hqn rfl).mono ?_;rintro e w4 ⟨a4,p4,rfl,hl4,hb4⟩));have RX:=Ag (G0.out.below hb4);have eJ:=Ag (jR.out.below hb4);have iS:=Ag hl4;have hlq:=Um RX.out.y.v q;clear t0 t1 t2 t3 t4 tl G0 jR hl4 hb4;generalize hAK:GH Y.hs (Y.floor+(q:Int)) Y.hn=bb;have qS:=Ag hAK;clear hAK;cases bb with
      |false=>go_wp2_with (go_at_call 8;go_must(refine(mF (Rb Y q) a3 a4 p3 p4 _ eJ.out iS.out hlq).mono ?_;rintro e w5 ⟨rfl,hb5⟩));go_meet;case rel=>exact RX.out.below hb5
      |true=>
       go_upto_region 20 with(go_at_call 8;go_must(refine(mF (Rb Y q) a3 a4 p3 p4 _ eJ.out iS.out hlq).mono ?_;rintro e w5 ⟨rfl,hb5⟩));have P8:=Ag (RX.out.below hb5);have nD:=Ag (eJ.out.below hb5);clear RX eJ iS hb5;by_cases hf:first<=Y.floor+(q:Int)
       .obtain⟨mm,hmm⟩:∃mm:Nat,Y.floor+(q:Int)=first+(mm:Int):=⟨(Y.floor+(q:Int)-first).toNat,Zb⟩;have hml:mm<pl.length:=Zb;have hat:Rb Y q=(pl.getD mm []).map GI:=Ug P8.out.y.v HP.out.ok HP.out.pw rfl hqn hml hmm qS.out;obtain⟨a,kk,ec,hli⟩:=P8.out.pj mm hml;have hc0:0<pc:=by have:=P8.out.p.le;omega
        have had:=P8.out.p.addr hc0;have hcell:=P8.out.p.cell mm Zb;rw[ec,<-hat]at hcell;rw[<-hat]at hli;have Oi:=Ag hli;have hpl5:=(P8.out.p.room hc0).lt;have hw2:IntKind.i64.wrap (Y.floor+(q:Int)-first)=(mm:Int):=by rw[AE _ ⟨Zb,Zb⟩];omega
        have hf2:¬(Y.floor+(q:Int)<first):=Zb;subst had;clear hmm hat hli ec;go_wp2_with (go_at_call 8;go_must(refine(mF (Rb Y q) a3 a p3 kk _ nD.out Oi.out hlq).mono ?_;rintro e w6 ⟨rfl,hb6⟩));go_meet;case rel=>exact P8.out.below hb6
       .go_wp2_with fail;go_meet;case rel=>exact P8.out
      --b3>
     case rest=>
      have G0:=Ag hcut;clear hcut HL t0 t1 t2 t3 t4 tl;have hw1:IntKind.i64.wrap (Y.floor+(q:Int)+1)=Y.floor+((q+1:Nat):Int):=by rw[AE _ ⟨Zb,Zb⟩];omega
      go_wp2;refine⟨⟨q+1,rfl,Zb,G0⟩,?_⟩;show Y.hn+1-(Y.floor+((q+1:Nat):Int)-Y.floor).toNat<Y.hn+1-(Y.floor+(q:Int)-Y.floor).toNat;omega
    .have hgt:Y.now<Y.floor+(q:Int):=Zb;go_wp2_with fail;go_meet;case rel=>exact HL.out
   --l2>
  case rest=>
   --<r3
   have C8:=Ag hcut;clear hcut HS hlen hnow;have hnow:=C8.out.y.v.hnow;have Uy:=Ag hnow;clear hnow;have t0:=C8.out.t.cell 0 Za;have t1:=C8.out.t.cell 1 Za;have t2:=C8.out.t.cell 2 Za;have t3:=C8.out.t.cell 3 Za;have t4:=C8.out.t.cell 4 Za;simp only[A7,Ae,Af]at t0 t1 t2 t3 t4;have tl:=C8.out.t.lt;go_upto_region 23 with(go_at_call 6;go_must(refine(Q0 Y c1 c2 c3 k1 k2 k3 Y.hn _ _ C8.out.y Bg (by have:=Uy.out;omega)).mono ?_;rintro e w3 ⟨a3,p3,rfl,hl3,hb3⟩));have Ok:=Ag (C8.out.below hb3);have jR:=Ag hl3;have hAN:=iC Ok.out.y.v;have pF:=Ag hAN;clear hAN t0 t1 t2 t3 t4 tl C8 hl3 hb3;have t0:=Ok.out.t.cell 0 Za;have t1:=Ok.out.t.cell 1 Za;have t2:=Ok.out.t.cell 2 Za;have t3:=Ok.out.t.cell 3 Za;have t4:=Ok.out.t.cell 4 Za;simp only[A7,Ae,Af]at t0 t1 t2 t3 t4;have tl:=Ok.out.t.lt;go_upto_region 24 with(go_at_call 9;go_must(refine(SQ Y c1 c2 c3 k1 k2 k3 _ Ok.out.y).mono ?_;rintro e w4 ⟨a4,p4,rfl,hl4,hb4⟩));have ZB:=Ag (Ok.out.below hb4);have eJ:=Ag (jR.out.below hb4);have iS:=Ag hl4;clear t0 t1 t2 t3 t4 tl Ok jR hl4 hb4;have t0:=ZB.out.t.cell 0 Za;have t1:=ZB.out.t.cell 1 Za;have t2:=ZB.out.t.cell 2 Za;have t3:=ZB.out.t.cell 3 Za;have t4:=ZB.out.t.cell 4 Za;simp only[A7,Ae,Af]at t0 t1 t2 t3 t4;have tl:=ZB.out.t.lt;have hw3:IntKind.i64.wrap (Y.now+1)=Y.now+1:=AE _ ⟨by have:=ZB.out.y.v.n1;omega,Zb⟩;go_upto_region 25 with(go_at_call 6;go_must(refine(Vb Y c1 c2 c3 k1 k2 k3 _ ZB.out.y).mono ?_;rintro e w5 ⟨rfl,hb5⟩));have VE:=Ag (ZB.out.below hb5);have nD:=Ag (eJ.out.below hb5);have pL:=Ag (iS.out.below hb5);have hlq:=Um VE.out.y.v Y.hn;have heq:S6 Y=Rb Y Y.hn:=by unfold Rb S6;rw[show Y.floor+(Y.hn:Int)=Y.now by have:=Uy.out;omega];exact pF.out.2.symm
   clear t0 t1 t2 t3 t4 tl ZB eJ iS hb5;rw[heq]at pL⊢;rw[pF.out.1];have t0:=VE.out.t.cell 0 Za;have t1:=VE.out.t.cell 1 Za;have t2:=VE.out.t.cell 2 Za;have t3:=VE.out.t.cell 3 Za;have t4:=VE.out.t.cell 4 Za;simp only[A7,Ae,Af]at t0 t1 t2 t3 t4;have tl:=VE.out.t.lt;go_wp2_with (go_at_call 8;go_must(refine(mF (Rb Y Y.hn) a3 a4 p3 p4 _ nD.out pL.out hlq).mono ?_;rintro e w6 ⟨rfl,hb6⟩));go_ret;exact⟨rfl,(VE.out.below hb6).B⟩
   --r3>
end Go.Proofs.YtofencldleijcaaGreat
namespace Go.Proofs.YtofencldleijcaaGreat
open Go.ChangeShapes Go.WideShapes Go.ChangeAt Go.RowKit Go.Deep Go.Proofs.Tryz
open Go.WideMaps Go.WideElems Go.Proofs.Tryz
theorem Tryz.c5:prog.cellsOf 5=1:=Ze
theorem cQ:prog.bytesOf 5=1:=Ze
theorem Y6:ownKnob prog.godebug=none:=Ze
theorem cP:prog.underlying 5=some (.int .u8):=Ze
theorem bH{W:World}{b0:Nat}{a:Addr}{len cap:Nat}(h:Value.okWide prog W .any b0 22 (.slice (some a) len cap)):len<=cap/\a.spot=none/\a.block<W.1.size:=by
 unfold Value.okWide at h;simp only[underlying22]at h;unfold Cell.okWide at h;simp only[underlying22]at h;unfold Cell.ok at h;simp only[underlying22]at h;obtain⟨h1,_,_,h2,row,cs,hsh,_⟩:=h;refine⟨h1,h2,?_⟩;unfold World.shape? at hsh;rcases At a.block W.1.size with q|q;.exact q
 .rw[AP q]at hsh;cases hsh
theorem XP{H:Type}{enc:TypeId×Value->H}{W:World}{b0:Nat}{v:Value}{d:DataW H}{p:List MemPlace}(hv:Value.okWide prog W .any b0 22 v)(h:DataW.Trod enc prog W 0 (λ_=>true) true 22 v d p)(hs:∀x∈DataW.weights prog 22 d,x<=reachBytes):∃ad n cap,v=.slice ad n cap/\(n:Int)<=140737488355328/\n<=cap/\J7 W ad n/\∀b off,ad=some ⟨b,off,none⟩->b<W.1.size:=by
 obtain⟨ad',n',cap',rfl⟩:∃ad n cap,v=.slice ad n cap:=okWide_slice underlying22 hv;obtain⟨fuel,hf0⟩:=h;have hf1:DataW.trod enc prog W 0 (λ_=>true) true fuel 22 [.slice ad' n' cap']=some (d,p):=hf0;rcases open_slice underlying22 hf1 with⟨hc,_⟩|⟨a,len,cap,m,n,D,Pl,hc,_,hl,_,hm,hx,hel⟩;.simp only[List.cons.injEq,and_true]at hc;exact⟨none,0,0,hc,Za,Az _,λi hi=>absurd hi (Ai _),λb off e=>by cases e⟩
 .simp only[List.cons.injEq,and_true]at hc;simp only[if_true]at hm;subst hm;cases hc;obtain⟨k1,k2,k3⟩:=bH hv;have hd:d=_:=congrArg Prod.fst hx;subst hd;have f1:=hs _ (by simp only[DataW.weights,underlying22];exact Cs ..);simp only[J5,Ds,cQ,reachBytes]at f1;obtain⟨b1,off1,spot⟩:=a;simp only at k2;subst k2;refine⟨_,_,_,rfl,Zb,k1,λi hi=>?_,λb off e=>by cases e;exact k3⟩;obtain⟨cs,h1,h2⟩:=hel i Zb;rw[Tryz.c5]at h1;obtain⟨_,hcl,hcc⟩:=World.cells?_some h1;obtain⟨c,rfl⟩:∃c,cs=[c]:=by match cs,hcl with
   |[c],_=>exact⟨c,rfl⟩
  obtain⟨k,hk,_,hwf⟩:=DataW.trod_int cP h2;simp only[List.cons.injEq,and_true]at hk;subst hk;have hc0:W.cell? (((⟨b1,off1,none⟩:Addr).add (i*1)).add 0)=some (.int .u8 k):=hcc 0 Zb;have ea:(((⟨b1,off1,none⟩:Addr).add (i*1)).add 0)=⟨b1,off1+i,none⟩:=by simp[add_plain]
  rw[ea]at hc0;simp only[Lit.wf,Ak,decide_eq_true_eq]at hwf;have m0:IntKind.u8.min=0:=Za;have m1:IntKind.u8.max=255:=Za;exact⟨b1,off1,k,rfl,k3,hc0,Zb,Zb⟩
theorem Qn (os:Os)(started:os.Started)(H:Type)(enc:TypeId×Value->H):ReturnsInHanded {} checked os 3 .any (Rows.fnBookPastSpec.pre6 enc prog Tryz.f3 Rows.fnBookPastRow.domain false) (Rows.fnBookPastSpec.post enc prog Tryz.f3 false true false false):=by
 refine returnsInHanded_of_change_sized (C:=checked) Y6 started Ze func3
  (ChangeSpec.witness6 (enc:=enc) (C:=checked) false ⟨#[],#[.slice none 0 0],[]⟩ 8 Ze Ze Ze Ze) ?_;intro W base args ds gs before hval0 hW _ hsz0 _;have hsz:(DataW.weightsEach prog (Tryz.f3.params.toList++Rows.fnBookPastSpec.plain.varTypes prog) (ds++gs)).all (.<=reachBytes)=true:=hsz0;clear hsz0;have hval:∀(j:Nat) t v,Tryz.f3.params[j]?=some t->args[j]?=some v->Value.okWide prog W .any base t v:=hval0;have hW':=hW;obtain⟨p,q,hA0,hV,rfl,_,_⟩:=hW;have hA:DataW.TrodAll enc prog W 0 (λ_=>true) true Tryz.f3.params.toList args.toList ds p:=hA0;rw[params3]at hA hval hsz;obtain⟨v0,d0,rfl,rfl,h0⟩:=trodAll_one hA;obtain⟨rfl,rfl⟩:=trodVars_none hV;have hfit0:∀x∈DataW.weights prog 22 d0,x<=reachBytes:=λx hx=>by have:=Bt.1 hsz x (DataW.weights_mem_each (j:=0) (t:=22) rfl rfl x hx);simpa using this
 have h0k:=h0;obtain⟨ad,n,cap,rfl,hn,hc,hin,_⟩:=XP (hval 0 22 v0 rfl rfl) h0 hfit0;clear hA0 hval0 hsz;simp only[List.append_nil]at hW';have hlt:∀y∈p,y.block<W.1.size:=λy hy=>by simpa using hW'.lt y (by simpa using hy)
 refine(YC ad n cap W hn hc hin).mono λe W' ⟨he,hb⟩=>?_;subst he;refine⟨_,rfl,_,_,_,[],p,[],hW',?_,?_,rfl,hb.frame _,λh=>by cases h⟩;.exact trodAll_mk1 (shut_bool underlying4 true)
 .exact trodAll_mk1 (Below.trod Lu Ze (of_decide_eq_true Ze) h0k hb (λy hy=>hlt y (by simp[hy])))
theorem past_holds:Rows.FnBookPastSaid:=OpenClaim.holds_of_wide 3 Tryz.f3 rfl rfl rfl rfl rfl rfl rfl ⟨rfl,rfl,rfl,rfl,rfl⟩ rfl rfl rfl rfl rfl Ze func3 Ze
  (of_decide_eq_true Ze) (by unfold Func.isWrapper;rw[if_neg (of_decide_eq_false Ze)];exact⟨rfl,rfl⟩)
  (λos started H enc _=>Qn os started H enc)
end Go.Proofs.YtofencldleijcaaGreat
