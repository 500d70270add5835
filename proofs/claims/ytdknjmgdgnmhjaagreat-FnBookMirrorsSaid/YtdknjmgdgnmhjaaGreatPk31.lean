import Derived.Test.YtdknjmgdgnmhjaaGreatPk30
import Derived.Laws.StructEq
import Derived.Lib.MinMax
import Derived.Lib.SliceRun
set_option maxRecDepth 100000
set_option maxHeartbeats 4000000
namespace Go.Proofs.YtdknjmgdgnmhjaaGreat
open Go.RowKit Go.Maps Go.Shelf Go.Proofs.Tryz
variable {x y:Nat→Ob}{k base j n cap' b' B hi i:Nat}{ki pr:ByteArray}{most:Int}{w w' W w1:World}{A0 A:Nat→Option Addr}{C hb:Nat→Nat}{p:Nat→Bool}{v v' v0 v1 v2 v3 v4:Value}{P:Nat→Prop}{c:Array Value}{ad' ad:OA}
attribute [local go_sem] Ct
theorem Ty (o:Ob)(ad:OA)(cap:Nat)(ki pr:ByteArray)(w:World)(_hs:(o.n.size:Int)<=140737488355328)(_hp:(pr.size:Int)<=140737488355328):Calls prog 66 #[.agg (vO o ad cap),.s ki,.s pr] w λe w'=>e=.returned (.bool (Hv o ki pr))/\Below w.1.size w w':=by cases hk:(ki.toList==[]||o.k.toList==ki.toList)with
 |false=>
  have HE:=Ab (show Hv o ki pr=false by unfold Hv;rw[hk];rfl);have h1:(ki.toList==[])=false:=by cases h:(ki.toList==[])<;>simp_all
  have h2:(o.k.toList==ki.toList)=false:=by cases h:(o.k.toList==ki.toList)<;>simp_all
  clear hk;go_enter func66,ntmps66;go_wp2;exact Kx
 |true=>
  have HE:=Ab (show Hv o ki pr=kU o.n pr by unfold Hv;rw[hk];rfl);by_cases h3:(pr.size:Int)<=o.n.size;.have HF:=Ab (show kU o.n pr=((o.n.extract 0 pr.size).toList==pr.toList)by unfold kU;rw[decide_eq_true Za];rfl);cases h1:(ki.toList==[])with
   |true=>exact dO
   |false=>
    have h2:(o.k.toList==ki.toList)=true:=by rw[h1]at hk;simpa using hk
    exact dO
  .have HF:=Ab (show kU o.n pr=false by unfold kU;rw[decide_eq_false Za];rfl);cases h1:(ki.toList==[])with
   |true=>exact dO
   |false=>
    have h2:(o.k.toList==ki.toList)=true:=by rw[h1]at hk;simpa using hk
    exact dO
def Ub (x:Nat->Ch)(k:Nat)(ki pr:ByteArray)(most now:Int)(b7 base:Nat)(W0:World)(j:Nat)(wr:World):Prop:=((seen x k j ki pr).length:Int)<=most/\(∃v A C hb,wr.heap[b7]?=some (.cells #[.i 0,v,.i now] 28 (0,0))/\FI wr base v (seen x k j ki pr).length (CI (λi=>x (k+i)) (seen x k j ki pr)) A C hb)/\AB (λq=>q=b7\/base<=q) W0 wr
theorem Ub.keep{x:Nat->Ch}{now:Int}{b7:Nat}{W0:World}{j':Nat}{wr wr':World}(h:Ub x k ki pr most now b7 base W0 j wr)(hb:Below wr.1.size wr wr')(hs:seen x k j' ki pr=seen x k j ki pr):Ub x k ki pr most now b7 base W0 j' wr':=by obtain⟨h1,⟨v,A,C,hb',n1,bd⟩,hf⟩:=h;unfold Ub;rw[hs];exact⟨h1,⟨v,A,C,hb',(hb.block b7 (AM.1 n1).1).trans n1,bd.grow hb⟩,hf.trans (Aj hb)⟩
theorem zP{x:Nat->Ch}(h:j<k):seen x k (j+1) ki pr=seen x k j ki pr:=by unfold seen;rw[show j+1-k=0 by omega,show j-k=0 by omega]
theorem ly{x:Nat->Ch}(h:k<=j)(hs:Hv (x j).ob ki pr=false):seen x k (j+1) ki pr=seen x k j ki pr:=by exact h_
theorem zD{x:Nat->Ch}(h:k<=j)(hs:Hv (x j).ob ki pr=true):seen x k (j+1) ki pr=seen x k j ki pr++[j-k]:=by exact h_
theorem XV{x:Nat->Ch}:(seen x k j ki pr).length<=j:=by unfold seen;have:=D0 (λi=>Hv (x (k+i)).ob ki pr) (List.range (j-k));simp at this;omega
theorem ST (x:Bk)(a1 a2 a3:OA)(c1 c2 c3:Nat)(ki pr:ByteArray)(fr most:Int)(k:Nat)(w:World)(lo hi:Nat)(CD:hi<=w.1.size)(BG:BS x)(Cs:BL w lo hi x a1 a2 a3)(hv:Bj (ID x) 7=true)(hk:k<=x.hn)(Te:fr=x.f+k)(VW:1<=most)(LS:(pr.size:Int)<=140737488355328):Calls prog 35 #[.agg (vB x a1 a2 a3 c1 c2 c3),.agg #[.s ki,.s pr,.i fr],.i most] w λe w'=>∃v A C hb,e=.returned (.agg #[.i 0,v,.i (aO x k ki pr most)])/\FI w' w.1.size v (Qi x k ki pr most).length (CI (λi=>x.hs (k+i)) (Qi x k ki pr most)) A C hb/\Below w.1.size w w':=by
 obtain⟨i0,Fq,GH,C7,Fk⟩:=info_parts Gg;obtain⟨v0,v1,v2,v3,v4,v5⟩:=JL hv;have hi2:G6 fr 0 x.v=true:=by simp[G6];omega
 have hm1:¬most<1:=Za;have VP:¬fr<x.f:=Za;have HC:=Ab Cs.h;have HF:=Ab BG;have HFR:=Ab Te;have HV5:=Ab v5;have HV4:=Ab v4;clear Cs BG Te v5 v4 hv;go_enter func35,ntmps35;go_wp2_with (go_at_call 62;go_must(refine(FK fr 0 x.v _).mono ?_;rw[hi2];rintro e w2 ⟨rfl,Dq⟩;replace Dq:=Dq.symm;subst Dq));have E1:∀o1 o2 o3 o4,Below w.1.size w ((((w.alloc o1).alloc o2).alloc o3).alloc o4):=λo1 o2 o3 o4=>(((Ak _ _).alloc Ze _).alloc Zd _).alloc Zd _;obtain⟨A0,A1,A2,A3,F3⟩:=KT (w:=w) (c0:=(vB x a1 a2 a3 c1 c2 c3)) (c1:=#[.s ki,.s pr,.i fr]) (c2:=#[.i 0,.l none 0 0,.i 0]) (c3:=#[.i 0,.l none 0 0,.i x.v]) (t0:=36) (t1:=48) (t2:=28) (t3:=28) Dx;obtain⟨W0,Uy⟩:∃W0,(((w.alloc (.cells (vB x a1 a2 a3 c1 c2 c3) 36)).alloc (.cells #[.s ki,.s pr,.i fr] 48)).alloc (.cells #[.i 0,.l none 0 0,.i 0] 28)).alloc (.cells #[.i 0,.l none 0 0,.i x.v] 28)=W0:=⟨_,rfl⟩;have j9:=E1 (.cells (vB x a1 a2 a3 c1 c2 c3) 36) (.cells #[.s ki,.s pr,.i fr] 48) (.cells #[.i 0,.l none 0 0,.i 0] 28) (.cells #[.i 0,.l none 0 0,.i x.v] 28);have z0:w.1.size+4<=W0.1.size/\W0.1.size<=w.1.size+4:=by rw[<-Uy];simp
 have vm:W0.heap[w.1.size+1+1+1]?=some (.cells #[.i 0,.l none 0 0,.i x.v] 28 (0,0)):=by rw[<-Uy];have:=World.alloc_heap_new (((w.alloc (.cells (vB x a1 a2 a3 c1 c2 c3) 36)).alloc (.cells #[.s ki,.s pr,.i fr] 48)).alloc (.cells #[.i 0,.l none 0 0,.i 0] 28)) (.cells #[.i 0,.l none 0 0,.i x.v] 28);simpa using this
 have g2:∀i,W0.frozen? ⟨w.1.size+1+1,i,none⟩=false:=λi=>by rw[<-Uy,O7 _ _ _ Ze,De _ _ _ _ Ze]
 rw[Uy]at A0 A1 A2 A3 F3 j9;rw[Uy];have AA0:=Ab A0;have AA1:=Ab A1;have AA2:=Ab A2;have G2:=Ab g2;have YV:=Ab vm;clear A0 A1 A2 A3 F3 g2 vm Uy E1;go_loopw[8](λi wr=>∃j:Nat,j<=x.hn/\i=.i j/\Ub x.hs k ki pr most x.v (w.1.size+1+1+1) W0.1.size W0 j wr)(λi _=>x.hn-(intOf i).toNat);case atStart=>exact⟨0,Ar _,rfl,by simp[seen];omega,⟨_,λ_=>none,λ_=>0,λ_=>0,YV,⟨⟨λ_=>.i 0,by simpa[seen,AN]using Ou W0 W0.1.size 54 9,λi hi'=>absurd hi' (by simp[seen])⟩,λi hi'=>absurd hi' (by simp[seen]),λi hi'=>absurd hi' (by simp[seen]),λi hi'=>absurd hi' (by simp[seen]),λi j hi'=>absurd hi' (by simp[seen])⟩⟩,AB.refl _ _⟩
 case round=>
  obtain⟨j,hj,rfl,hnx⟩:=hrel;have HNX:=Ab hnx;obtain⟨gv,⟨v,A,C,hb,n1,bd⟩,Te⟩:=hnx;have zr:=Te.size;have zl:=XV (x:=x.hs) (k:=k) (j:=j) (ki:=ki) (pr:=pr);obtain⟨ad,cap,g,ev,_,bJ,_⟩:=bd.done;obtain⟨L,hL⟩:∃L,seen x.hs k j ki pr=L:=⟨_,rfl⟩;rw[hL]at bd gv ev zl bJ;obtain⟨nl,Ur⟩:∃nl,L.length=nl:=⟨_,rfl⟩;rw[Ur]at ev zl gv bJ;subst ev;have oc:∀b i,b<W0.1.size->b≠w.1.size+1+1+1->wr.cell? ⟨b,i,none⟩=W0.cell? ⟨b,i,none⟩:=λb i h1 h2=>Te.cell (p:=⟨b,i,none⟩) h1 (by show¬(b=_\/_<=b);omega);have p3:=(oc w.1.size 3 Za Za).trans (AA0.out 3);have q0:=(oc (w.1.size+1) 0 Za Za).trans (AA1.out 0);have q1:=(oc (w.1.size+1) 1 Za Za).trans (AA1.out 1);have q2:=(oc (w.1.size+1) 2 Za Za).trans (AA1.out 2);have r0:=(oc (w.1.size+1+1) 0 Za Za).trans (AA2.out 0);have r1:=(oc (w.1.size+1+1) 1 Za Za).trans (AA2.out 1);have r2:=(oc (w.1.size+1+1) 2 Za Za).trans (AA2.out 2);have rf:∀i,wr.frozen? ⟨w.1.size+1+1,i,none⟩=false:=λi=>(Te.frozen (p:=⟨w.1.size+1+1,i,none⟩) Zk (by show¬(w.1.size+1+1=_\/_<=w.1.size+1+1);omega)).trans (G2 i);simp only[Ah,Ai,Af]at p3 q0 q1 q2 r0 r1 r2;have n0:wr.cell? ⟨w.1.size+1+1+1,0,none⟩=some (.i 0):=by simp[World.cell?,n1]
  have n2:wr.cell? ⟨w.1.size+1+1+1,1,none⟩=some (.slice ad nl cap):=by simp[World.cell?,n1]
  have n3:wr.cell? ⟨w.1.size+1+1+1,2,none⟩=some (.i x.v):=by simp[World.cell?,n1]
  have nf:∀i,wr.frozen? ⟨w.1.size+1+1+1,i,none⟩=false:=λi=>by simp[World.frozen?,n1]
  have tk:Below w.1.size w wr:=j9.trans (Te.below (λq hq e=>by omega) Za);have lb0:w.1.size<wr.1.size:=Za;have lb1:w.1.size+1<wr.1.size:=Za;have lb2:w.1.size+1+1<wr.1.size:=Za;have lb3:w.1.size+1+1+1<wr.1.size:=Za;have St:=Ab n1;have P1:=Ab bd;have HFP:=Ab Te;have HLL:=Ab hL;have VN:=Ab Ur;have bM:=Ab bJ;have HLM:=Ab gv;have HJ:=Ab hj;clear n1 bd Te hL Ur bJ gv oc;by_cases kE:j<x.hn
  .obtain⟨b,off,ah,ch,ea,Gc,Ja,Dh,Il⟩:=HC j kE;obtain⟨e0,e1,e2,e3,e4,e5,e6,e7,e8⟩:=Dh.below tk Za;have HVJ:=Ab (HV5 j kE);have So:=Ab Il;clear Dh Il;subst ea;by_cases bZ:j<k
   .have Om:(x.hs j).t<=fr:=by rw[HVJ.out,HFR.out];omega
    go_wp2;go_roundw;case rel=>exact⟨j+1,Za,by go_num,HNX.keep Do (zP bZ)⟩
    case measure=>simp[intOf];omega
   .have Om:¬(x.hs j).t<=fr:=by rw[HVJ.out,HFR.out];omega
    have Ss:((x.hs j).ob.n.size:Int)<=140737488355328:=(HF.hs j kE).n;go_wp2_with fail;refine(Ty (x.hs j).ob ah ch ki pr _ Ss LS).mono ?_;rintro e wq ⟨rfl,fU⟩;have zq:wr.1.size+1<=wq.1.size:=by have:=fU.size;simpa using this
    have bq:Below wr.1.size wr wq:=(Ak _ _).trans (fU.mono Ze);cases ip:Hv (x.hs j).ob ki pr with
    |false=>
     have HSN:=Ab (ly (x:=x.hs) (k:=k) Za ip);have HBQ:=Ab bq;clear fU bq e0 e1 e2 e3 e4 e5 e6 e7 e8;go_wp2;go_roundw;case rel=>exact⟨j+1,Za,by go_num,HNX.keep HBQ HSN⟩
     case measure=>simp[intOf];omega
    |true=>
     have HSY:=Ab (zD (x:=x.hs) (k:=k) Za ip);rw[HLL.out]at HSY;have m0:=(bq.cell (p:=⟨w.1.size+1+1+1,0,none⟩) lb3).trans n0;have m1:=(bq.cell (p:=⟨w.1.size+1+1+1,1,none⟩) lb3).trans n2;have m2:=(bq.cell (p:=⟨w.1.size+1+1+1,2,none⟩) lb3).trans n3;have mf:∀i,wq.frozen? ⟨w.1.size+1+1+1,i,none⟩=false:=λi=>(bq.frozen (p:=⟨w.1.size+1+1+1,i,none⟩) lb3).trans (nf i);have mf1:=mf 1;have mf2:=mf 2;have VM:=Ab ((bq.block (w.1.size+1+1+1) lb3).trans St);have HBDq:=Ab (P1.grow bq);have s0:=(bq.cell (p:=⟨w.1.size+1+1,0,none⟩) lb2).trans r0;have s1:=(bq.cell (p:=⟨w.1.size+1+1,1,none⟩) lb2).trans r1;have s2:=(bq.cell (p:=⟨w.1.size+1+1,2,none⟩) lb2).trans r2;have sf:∀i,wq.frozen? ⟨w.1.size+1+1,i,none⟩=false:=λi=>(bq.frozen (p:=⟨w.1.size+1+1,i,none⟩) lb2).trans (rf i);have rv:AE wq wr.1.size 9 (AV (PE (x.hs j) ah ch)):=AE.new (w:=wr) (l:=(PE (x.hs j) ah ch)) (t:=54) fU;have BQ:=Ab bq;clear mf e0 e1 e2 e3 e4 e5 e6 e7 e8 p3 q0 q1 q2 r0 r1 r2 rf n0 n2 n3 nf bq fU Om;by_cases Wk:(nl:Int)=most
     .subst Wk;obtain⟨q,rfl⟩:∃q,nl=q+1:=⟨nl-1,Za⟩;obtain rfl:=bM.addr Za;obtain⟨cf,r9,e9⟩:=bM.row Za;have c9:wq.cell? ⟨g,q*9,none⟩=some (.i (CI (λi=>x.hs (k+i)) L q).t):=by rw[BQ.cell (p:=⟨g,q*9,none⟩) r9.lt,r9.cell (q*9) Za];exact congrArg some (e9 q Za).1
      have QM:g≠w.1.size+1+1+1:=by obtain⟨c0,rr,_⟩:=P1.row;have:=(rr.lt g rfl).1;omega
      have sf0:=sf 0;have sf1:=sf 1;have sf2:=sf 2;clear r9 e9 sf rv;have hq6:q+1<=1000000:=Za;have HMO:=Ab VW;clear VW zl;obtain⟨r9,lr⟩:=WU (x:=x.hs) (k:=k) (n:=x.hn) (ki:=ki) (pr:=pr) (j:=j+1-k) Za;rw[show(List.range (j+1-k)).filter (λi=>Hv (x.hs (k+i)).ob ki pr)=L++[j-k]from HSY.out]at lr;have HL':=Ab (show Qi x k ki pr ((q+1:Nat):Int)=L from by unfold Qi;rw[lr,show(((q+1:Nat):Int)).toNat=L.length by rw[VN.out];rfl];simp);have HF':=Ab (show aO x k ki pr ((q+1:Nat):Int)=(CI (λi=>x.hs (k+i)) L q).t from by
       have hn:¬(seen x.hs k x.hn ki pr).length<=(((q+1:Nat):Int)).toNat:=by rw[lr,show(((q+1:Nat):Int)).toNat=L.length by rw[VN.out];rfl];simp
       unfold aO;rw[if_neg hn,HL'.out,VN.out];rfl);clear lr;go_wp2;have F7:AB (λq=>q=w.1.size+1+1+1) wq (wq.setCell ⟨w.1.size+1+1+1,2,none⟩ (.i (CI (λi=>x.hs (k+i)) L q).t)):=AB.setCell (P:=λq=>q=w.1.size+1+1+1) (AB.refl _ _) (p:=⟨w.1.size+1+1+1,2,none⟩) KV _;obtain⟨Y,hY,fY,y0,y1,y2⟩:=L9 (X:=wq.setCell ⟨w.1.size+1+1+1,2,none⟩ (.i (CI (λi=>x.hs (k+i)) L q).t)) (rb:=w.1.size+1+1) (v0:=.i 0) (v1:=.l (some ⟨g,0,none⟩) (q+1) cap) (v2:=.i (CI (λi=>x.hs (k+i)) L q).t) ((AI _ _ _ _ Ze).trans s0) ((AI _ _ _ _ Ze).trans s1) ((AI _ _ _ _ Ze).trans s2);have bY:=((tk.trans (BQ.mono Za)).trans (F7.below (B:=w.1.size) (λq hq e=>by omega) Za)).trans (fY.below (B:=w.1.size) (λq hq e=>by omega) (by have:=F7.size;omega));rw[hY];exact bodyPost_ret (v:=.agg #[.i 0,.l (some ⟨g,0,none⟩) (q+1) cap,.i (CI (λi=>x.hs (k+i)) L q).t]) (by simp[results,results35,go_sem,y0,y1,y2]) rfl ⟨.l (some ⟨g,0,none⟩) (q+1) cap,A,C,hb,by rw[HF'.out],by rw[HL'.out];exact((HBDq.fr F7 (λq hq _ e=>by omega)).fr fY (λq hq _ e=>by omega)).lower Za,bY⟩
     .have ja:¬(nl:Int)=most:=Wk;obtain⟨q0,q1,q2,q3,q4,q5,q6,q7,q8⟩:=Sc rv;have RVQ:=Ab rv;clear rv s0 s1 s2 sf;go_wp2_with fail;refine(Iy (x.hs j).ob ah ch _ lo hi Za (HF.hs j kE).h ((So.below tk CD).below BQ Za)).mono ?_;rintro e w1 ⟨ad',cap',rfl,_,Ks,AU⟩;obtain⟨b',La,Ox⟩:=Ks.one;have z1:=AU.size;have gO:=Ab La;have EG:Hid ((x.hs j).ob.hn≠0->wq.1.size<=b'/\b'<w1.1.size):=λh0=>by have:=Ox h0;simpa using this
      have rv:=RVQ.fr (Aj (P:=λ_=>False) AU) (λe=>e);obtain⟨q0,q1,q2,q3,q4,q5,q6,q7,q8⟩:=Sc rv;have qf:=rv.free;have bW:Below wr.1.size wr w1:=BQ.trans (AU.mono Za);obtain⟨B9,hB9⟩:∃B9,B9=wr.1.size:=⟨_,rfl⟩;have zB9:B9<=wr.1.size/\wr.1.size<=B9:=Za;rw[<-hB9]at q0 q1 q2 q3 q4 q5 q6 q7 q8 qf;rw[<-hB9];have n71:w1.cell? ⟨w.1.size+1+1+1,1,none⟩=some (.slice ad nl cap):=(AU.cell (p:=⟨w.1.size+1+1+1,1,none⟩) Zt).trans m1;have hBS:Below wr.1.size wr (((((((w1.setCell ⟨B9,2,none⟩ (.s (x.hs j).ob.k)).setCell ⟨B9,3,none⟩ (.s (x.hs j).ob.n)).setCell ⟨B9,4,none⟩ (.i (x.hs j).ob.t)).setCell ⟨B9,5,none⟩ (.i (x.hs j).ob.b)).setCell ⟨B9,6,none⟩ (.s (x.hs j).ob.m)).setCell ⟨B9,7,none⟩ (.bool (x.hs j).ob.e)).setCell ⟨B9,8,none⟩ (.l ad' (x.hs j).ob.hn cap')):=by
       iterate 7 refine Bs ?_ (by show wr.1.size<=B9;omega) _
       exact bW
      have zS:((((((((w1.setCell ⟨B9,2,none⟩ (.s (x.hs j).ob.k)).setCell ⟨B9,3,none⟩ (.s (x.hs j).ob.n)).setCell ⟨B9,4,none⟩ (.i (x.hs j).ob.t)).setCell ⟨B9,5,none⟩ (.i (x.hs j).ob.b)).setCell ⟨B9,6,none⟩ (.s (x.hs j).ob.m)).setCell ⟨B9,7,none⟩ (.bool (x.hs j).ob.e)).setCell ⟨B9,8,none⟩ (.l ad' (x.hs j).ob.hn cap'))).1.size=w1.1.size:=Ze;have kc:=hBS.alloc (by rw[zS];omega) (.cells (vH (x.hs j) ad' cap') 54);have BD1:=Ab (P1.grow kc);obtain⟨c,CG,DR⟩:=BD1.row;have Qw:=Ab DR;have FS:AB (λq=>q=B9) w1 (((((((w1.setCell ⟨B9,2,none⟩ (.s (x.hs j).ob.k)).setCell ⟨B9,3,none⟩ (.s (x.hs j).ob.n)).setCell ⟨B9,4,none⟩ (.i (x.hs j).ob.t)).setCell ⟨B9,5,none⟩ (.i (x.hs j).ob.b)).setCell ⟨B9,6,none⟩ (.s (x.hs j).ob.m)).setCell ⟨B9,7,none⟩ (.bool (x.hs j).ob.e)).setCell ⟨B9,8,none⟩ (.l ad' (x.hs j).ob.hn cap')):=by
       iterate 7 refine AB.setCell (P:=λq=>q=B9) ?_ KV _
       exact AB.refl _ _
      have HO2:=Ab ((gO.frP FS (λh0=>⟨by have:=(EG h0).1;omega,(EG h0).2⟩)).frP (Aj (P:=λ_=>False) (Ak (((((((w1.setCell ⟨B9,2,none⟩ (.s (x.hs j).ob.k)).setCell ⟨B9,3,none⟩ (.s (x.hs j).ob.n)).setCell ⟨B9,4,none⟩ (.i (x.hs j).ob.t)).setCell ⟨B9,5,none⟩ (.i (x.hs j).ob.b)).setCell ⟨B9,6,none⟩ (.s (x.hs j).ob.m)).setCell ⟨B9,7,none⟩ (.bool (x.hs j).ob.e)).setCell ⟨B9,8,none⟩ (.l ad' (x.hs j).ob.hn cap')) (.cells (vH (x.hs j) ad' cap') 54))) (λh0=>⟨λh=>h,by rw[zS];exact(EG h0).2⟩));have Ahf:=Ab kc;have tH:=Ab CG;have MA:=Ab AU;have HM7:=Ab ((kc.block (w.1.size+1+1+1) lb3).trans St);have zL:L.length<=200:=by have:=VN.out;omega
      have HZS:=Ab zS;have HMM:=Ab ja;have HGR:=Ab (show¬(Value.slice ad nl cap).ownBlock=some (w.1.size+1+1+1)from λe=>by obtain⟨c0,r0,_⟩:=P1.row;have:=(r0.lt _ e).1;omega);clear DR FS hBS kc zS CG bW AU rv Ks La Ox hB9 ja Wk;go_wp2_with (at_builtin;go_must(refine wpList_append_own_at _ rfl _ _ 26 rfl W0.1.size 54 i0 _ 9 112 underlying26 Fq GH C7 Fk rfl Zb _ L.length (AN (L.length*9) c) rfl tH ⟨w1.1.size,0,none⟩ 1 1 (PE (x.hs j) ad' cap') rfl rfl (by have h:=DI (((((((w1.setCell ⟨B9,2,none⟩ (.s (x.hs j).ob.k)).setCell ⟨B9,3,none⟩ (.s (x.hs j).ob.n)).setCell ⟨B9,4,none⟩ (.i (x.hs j).ob.t)).setCell ⟨B9,5,none⟩ (.i (x.hs j).ob.b)).setCell ⟨B9,6,none⟩ (.s (x.hs j).ob.m)).setCell ⟨B9,7,none⟩ (.bool (x.hs j).ob.e)).setCell ⟨B9,8,none⟩ (.l ad' (x.hs j).ob.hn cap')) (PE (x.hs j) ad' cap') 54;simpa using h) kG Zl Za Zd ?_;intro v' w2 BH Bm Hs If;clear Hs;obtain⟨CY,cap2,UB⟩:=Mt BH;subst UB;have HM8:=Ab ((Bm.block (w.1.size+1+1+1) (AM.1 HM7).1 (λe=>HGR.out e.symm)).trans HM7);have k1:w2.cell? ⟨w.1.size+1+1+1,1,none⟩=some (.slice ad nl cap):=(by simp[World.cell?,HM8.out]);have kf:w2.frozen? ⟨w.1.size+1+1+1,1,none⟩=false:=(by simp[World.frozen?,HM8.out])));have hkj:k+(j-k)=j:=Za;have zg:=Bm.size;have z7:w.1.size+1+1+1<w2.1.size:=(AM.1 HM8).1;have zA:((((((((w1.setCell ⟨B9,2,none⟩ (.s (x.hs j).ob.k)).setCell ⟨B9,3,none⟩ (.s (x.hs j).ob.n)).setCell ⟨B9,4,none⟩ (.i (x.hs j).ob.t)).setCell ⟨B9,5,none⟩ (.i (x.hs j).ob.b)).setCell ⟨B9,6,none⟩ (.s (x.hs j).ob.m)).setCell ⟨B9,7,none⟩ (.bool (x.hs j).ob.e)).setCell ⟨B9,8,none⟩ (.l ad' (x.hs j).ob.hn cap'))).1.size+1=w1.1.size+1:=by rw[HZS.out]
      have BD2:=Ab (show FI w2 W0.1.size (.l CY (L.length+1) cap2) (L++[j-k]).length (CI (λi=>x.hs (k+i)) (L++[j-k])) (Cl A L.length ad') (Cl C L.length cap') (Cl hb L.length b')from by
       refine FI.push (x:=λi=>x.hs (k+i)) (k:=j-k) (cap':=cap') (ad':=ad') (b':=b') BD1 Qw ?_ Bm If ?_ ?_ ?_ ?_;.simp only[hkj];exact BH
       .simp only[hkj];exact HO2
       .simp only[hkj];exact λh0=>⟨by have:=(EG h0).1;omega,by have:=(EG h0).2;rw[Av,HZS.out];omega⟩
       .simp only[hkj];intro h0 e;obtain⟨c0,r0,_⟩:=P1.row;have h1:=(r0.lt _ e).2;have h2:=(EG h0).1;omega
       .simp only[hkj];intro i hi h0 h1 e;have h2:=(P1.hlt i hi h0).2;have h3:=(EG h1).1;omega);have FG:AB (λq=>q=w.1.size+1+1+1\/W0.1.size<=q) W0 w2:=(HFP.trans (Aj Ahf)).trans ((BB Bm).mono (λq e=>Az (by obtain⟨c0,r0,_⟩:=P1.row;exact(r0.lt q e).1)));have FS7:AB (λq=>q=w.1.size+1+1+1) w2 (w2.setCell ⟨w.1.size+1+1+1,1,none⟩ (.l CY (L.length+1) cap2)):=AB.setCell (P:=λq=>q=w.1.size+1+1+1) (AB.refl _ _) (p:=⟨w.1.size+1+1+1,1,none⟩) KV _;refine⟨⟨j+1,Za,by go_num,?_⟩,by simp[intOf];omega⟩;unfold Ub;rw[HSY.out];refine⟨by have:=HLM.out;have:=VN.out;have:=HMM.out;simp;omega,⟨.l CY (L.length+1) cap2,_,_,_,?_,BD2.fr FS7 (λq hq _ e=>by omega)⟩,FG.trans (FS7.mono (λq e=>AA e))⟩;rw[Go.Sort.setCell_eq];show(w2.heap.modify (w.1.size+1+1+1) _)[w.1.size+1+1+1]?=_;rw[Array.getElem?_modify,if_pos rfl,HM8.out];rfl
  .obtain rfl:j=x.hn:=Za;have HL':=Ab (show Qi x k ki pr most=L from by unfold Qi;rw[HLL.out];exact List.take_of_length_le (by have:=HLM.out;have:=VN.out;omega));have HF':=Ab (show aO x k ki pr most=x.v from by unfold aO;rw[HLL.out];exact if_pos (by have:=HLM.out;have:=VN.out;omega));have rf0:=rf 0;have rf1:=rf 1;have rf2:=rf 2;clear rf;go_wp2;obtain⟨Y,hY,fY,y0,y1,y2⟩:=L9 (v0:=.i 0) (v1:=.l ad nl cap) (v2:=.i x.v) r0 r1 r2;have bY:=tk.trans (fY.below (B:=w.1.size) (λq hq e=>by omega) Za);rw[hY];exact bodyPost_ret (v:=.agg #[.i 0,.l ad nl cap,.i x.v]) (by simp[results,results35,go_sem,y0,y1,y2]) rfl ⟨.l ad nl cap,A,C,hb,by rw[HF'.out],by rw[HL'.out];exact(P1.fr fY (λq hq _ e=>by omega)).lower Za,bY⟩
theorem UO (x:Bk)(a1 a2 a3:OA)(c1 c2 c3:Nat)(ki pr:ByteArray)(fr most:Int)(w:World)(hc:Bj (ID x) 7=true)(hv:KY x fr most≠0):Calls prog 35 #[.agg (vB x a1 a2 a3 c1 c2 c3),.agg #[.s ki,.s pr,.i fr],.i most] w λe w'=>e=.returned (.agg #[.i (KY x fr most),.l none 0 0,.i 0])/\Below w.1.size w w':=by
 have C6:∀o1 o2 o3,Below w.1.size w (((w.alloc o1).alloc o2).alloc o3):=λo1 o2 o3=>((Ak _ _).alloc Ze _).alloc Zd _;by_cases hm:most<1
 .have hK:KY x fr most=1:=by simp[KY,hc];omega
  rw[hK];clear hv hK;go_enter func35,ntmps35;go_wp2;exact P_
 cases hi2:G6 fr 0 x.v with
 |false=>
  have hK:KY x fr most=1:=by simp[KY,hi2]
  rw[hK];clear hv hK;go_enter func35,ntmps35;go_wp2_with (go_at_call 62;go_must(refine(FK fr 0 x.v _).mono ?_;rw[hi2];rintro e w2 ⟨rfl,Dq⟩;replace Dq:=Dq.symm;subst Dq));exact P_
 |true=>
  have hf:fr<x.f:=Decidable.byContradiction λh=>hv (by simp[KY,hc,hi2,h];omega);have hK:KY x fr most=2:=by simp[KY,hc,hi2,hf];omega
  rw[hK];clear hv hK;go_enter func35,ntmps35;go_wp2_with (go_at_call 62;go_must(refine(FK fr 0 x.v _).mono ?_;rw[hi2];rintro e w2 ⟨rfl,Dq⟩;replace Dq:=Dq.symm;subst Dq));exact bodyPost_ret (v:=.agg #[.i 2,.l none 0 0,.i 0]) (by simp[results,results35,go_sem]) rfl ⟨rfl,C6 _ _ _⟩
theorem NB (x:Bk)(a1 a2 a3:OA)(c1 c2 c3:Nat)(ki pr:ByteArray)(fr most:Int)(w:World)(lo hi:Nat)(CD:hi<=w.1.size)(BG:BS x)(Cs:BL w lo hi x a1 a2 a3)(LS:(pr.size:Int)<=140737488355328):Calls prog 15 #[.agg (vB x a1 a2 a3 c1 c2 c3),.agg #[.s ki,.s pr,.i fr],.i most] w λe w'=>nwP w w' x ki pr fr most e:=by have Tf:=Ab Cs;clear Cs;have C6:∀o1 o2 o3,Below w.1.size w (((w.alloc o1).alloc o2).alloc o3):=λo1 o2 o3=>((Ak _ _).alloc Ze _).alloc Zd _;cases hc:Bj (ID x) 7 with
 |false=>
  have hK:KY x fr most=1:=by simp[KY,hc]
  go_enter func15,ntmps15;have HK:=Ab hK;clear hK;go_wp2_with (go_at_call 34;go_must(refine(EE x a1 a2 a3 c1 c2 c3 _ lo hi Zd BG (Tf.below (C6 _ _ _) CD)).mono ?_;rw[hc];rintro e w1 ⟨rfl,AU⟩;obtain⟨A0,A1,A2,_,F2⟩:=BI AU;have p0:=A0 0;have p1:=A0 1;have p2:=A0 2;have p3:=A0 3;have p4:=A0 4;have q0:=A1 0;have q1:=A1 1;have q2:=A1 2;have r0:=A2 0;have r1:=A2 1;have r2:=A2 2;have f0:=F2 0;have f1:=F2 1;have f2:=F2 2;simp only[Ah,Ai,Af]at p0 p1 p2 p3 p4 q0 q1 q2 r0 r1 r2;clear A0 A1 A2 F2));obtain⟨Y,hY,fY,y0,y1,y2⟩:=L9 (v0:=.i 1) (v1:=.l none 0 0) (v2:=.i 0) r0 r1 r2;have z1:w.1.size+3<=w1.1.size:=by have:=AU.size;simp at this;omega
  have bY:=((C6 _ _ _).trans (AU.mono Zd)).trans (fY.below (B:=w.1.size) (λq hq e=>by omega) Za);rw[hY];refine bodyPost_ret (v:=.agg #[.i 1,.l none 0 0,.i 0]) Zcg rfl ⟨bY,.l none 0 0,0,λ_=>x.hs 0,0,λ_=>none,λ_=>0,λ_=>0,by rw[HK.out],ZT _ _ _,λ_=>⟨rfl,rfl⟩,λh=>by rw[HK.out]at h;cases h⟩
 |true=>
  obtain⟨v0,v1,v2,v3,v4,v5⟩:=JL hc;clear v5;by_cases hK:KY x fr most=0
  .have hx:1<=most/\G6 fr 0 x.v=true/\¬fr<x.f:=by
    unfold KY at hK;rw[hc]at hK;by_cases h1:1<=most;.cases h2:G6 fr 0 x.v with
     |false=>simp[h1,h2]at hK
     |true=>refine⟨h1,rfl,λh3=>?_⟩;simp[h1,h2,h3]at hK
    .simp[h1]at hK
   obtain⟨h1,h2,h3⟩:=hx;have h4:0<=fr/\fr<=x.v:=by simpa[G6]using h2
   obtain⟨k,hk⟩:∃k:Nat,fr=x.f+k:=⟨(fr-x.f).toNat,Za⟩;have B7:k<=x.hn:=Za;have uz:=Ab hk;have HK:=Ab hK;have HV4:=Ab v4;clear hK h2 h3 h4 hk v4;go_enter func15,ntmps15;go_wp2_with (go_at_call 34;go_must(refine(EE x a1 a2 a3 c1 c2 c3 _ lo hi Zd BG (Tf.below (C6 _ _ _) CD)).mono ?_;rw[hc];rintro e w1 ⟨rfl,AU⟩;obtain⟨A0,A1,A2,_,F2⟩:=BI AU;have p0:=A0 0;have p1:=A0 1;have p2:=A0 2;have p3:=A0 3;have p4:=A0 4;have q0:=A1 0;have q1:=A1 1;have q2:=A1 2;have r0:=A2 0;have r1:=A2 1;have r2:=A2 2;have f0:=F2 0;have f1:=F2 1;have f2:=F2 2;simp only[Ah,Ai,Af]at p0 p1 p2 p3 p4 q0 q1 q2 r0 r1 r2;clear A0 A1 A2 F2));refine(ST x a1 a2 a3 c1 c2 c3 ki pr fr most k w1 lo hi Zas BG (Tf.below ((C6 _ _ _).trans (AU.mono Zd)) CD) hc B7 uz h1 LS).mono ?_;rintro e w2 ⟨v,A,C,hb,rfl,bd,BT⟩;have z1:w.1.size+3<=w1.1.size:=by have:=AU.size;simp at this;omega
   have z2:=BT.size;have g0:=(BT.cell (p:=⟨w.1.size+1+1,0,none⟩) Zk).trans r0;have g1:=(BT.cell (p:=⟨w.1.size+1+1,1,none⟩) Zk).trans r1;have g2:=(BT.cell (p:=⟨w.1.size+1+1,2,none⟩) Zk).trans r2;have k0:=(BT.frozen (p:=⟨w.1.size+1+1,0,none⟩) Zk).trans f0;have k1:=(BT.frozen (p:=⟨w.1.size+1+1,1,none⟩) Zk).trans f1;have k2:=(BT.frozen (p:=⟨w.1.size+1+1,2,none⟩) Zk).trans f2;obtain⟨ad,cap,g,ev,_⟩:=bd.done;obtain⟨nl,Ur⟩:∃nl,(Qi x k ki pr most).length=nl:=⟨_,rfl⟩;rw[Ur]at ev;subst ev;have P1:=Ab bd;have VN:=Ab Ur;have YS:=Ab BT;have MA:=Ab AU;clear bd Ur BT AU p0 p1 p2 p3 p4 q0 q1 q2 r0 r1 r2 f0 f1 f2;go_wp2;obtain⟨Y,hY,fY,y0,y1,y2⟩:=L9 (v0:=.i 0) (v1:=.l ad nl cap) (v2:=.i (aO x k ki pr most)) g0 g1 g2;have bY:=(((C6 _ _ _).trans (MA.mono Zd)).trans (YS.mono Za)).trans (fY.below (B:=w.1.size) (λq hq e=>by omega) Za);rw[hY];refine bodyPost_ret (v:=.agg #[.i 0,.l ad nl cap,.i (aO x k ki pr most)]) Zcg rfl ⟨bY,.l ad nl cap,(Qi x k ki pr most).length,CI (λi=>x.hs (k+i)) (Qi x k ki pr most),aO x k ki pr most,A,C,hb,by rw[HK.out],(P1.fr fY (λq hq _ e=>by omega)).lower Za,λh=>absurd HK.out h,λ_ k' hk'=>?_⟩;obtain rfl:k'=k:=by have:=uz.out;omega
   exact⟨rfl,rfl,rfl⟩
  .have HK:=Ab hK;obtain⟨cd,Y5⟩:∃cd,KY x fr most=cd:=⟨_,rfl⟩;have HCD:=Ab Y5;clear hK Y5 v4;go_enter func15,ntmps15;go_wp2_with (go_at_call 34;go_must(refine(EE x a1 a2 a3 c1 c2 c3 _ lo hi Zd BG (Tf.below (C6 _ _ _) CD)).mono ?_;rw[hc];rintro e w1 ⟨rfl,AU⟩;obtain⟨A0,A1,A2,_,F2⟩:=BI AU;have p0:=A0 0;have p1:=A0 1;have p2:=A0 2;have p3:=A0 3;have p4:=A0 4;have q0:=A1 0;have q1:=A1 1;have q2:=A1 2;have r0:=A2 0;have r1:=A2 1;have r2:=A2 2;have f0:=F2 0;have f1:=F2 1;have f2:=F2 2;simp only[Ah,Ai,Af]at p0 p1 p2 p3 p4 q0 q1 q2 r0 r1 r2;clear A0 A1 A2 F2));refine(UO x a1 a2 a3 c1 c2 c3 ki pr fr most w1 hc HK).mono ?_;rw[HCD.out];rintro e w2 ⟨rfl,BT⟩;have z1:w.1.size+3<=w1.1.size:=by have:=AU.size;simp at this;omega
   have z2:=BT.size;have g0:=(BT.cell (p:=⟨w.1.size+1+1,0,none⟩) Zk).trans r0;have g1:=(BT.cell (p:=⟨w.1.size+1+1,1,none⟩) Zk).trans r1;have g2:=(BT.cell (p:=⟨w.1.size+1+1,2,none⟩) Zk).trans r2;have k0:=(BT.frozen (p:=⟨w.1.size+1+1,0,none⟩) Zk).trans f0;have k1:=(BT.frozen (p:=⟨w.1.size+1+1,1,none⟩) Zk).trans f1;have k2:=(BT.frozen (p:=⟨w.1.size+1+1,2,none⟩) Zk).trans f2;have YS:=Ab BT;have MA:=Ab AU;clear BT AU p0 p1 p2 p3 p4 q0 q1 q2 r0 r1 r2 f0 f1 f2;go_wp2;obtain⟨Y,hY,fY,y0,y1,y2⟩:=L9 (v0:=.i cd) (v1:=.l none 0 0) (v2:=.i 0) g0 g1 g2;have bY:=(((C6 _ _ _).trans (MA.mono Zd)).trans (YS.mono Za)).trans (fY.below (B:=w.1.size) (λq hq e=>by omega) Za);rw[hY];exact bodyPost_ret (v:=.agg #[.i cd,.l none 0 0,.i 0]) Zcg rfl ⟨bY,.l none 0 0,0,λ_=>x.hs 0,0,λ_=>none,λ_=>0,λ_=>0,by rw[HCD.out],ZT _ _ _,λ_=>⟨rfl,rfl⟩,λh=>absurd h HK⟩
attribute [local go_sem] Ct
def FR (f:Nat->Nat):Nat->Nat|0=>0|k+1=>FR f k+f k
theorem ZM (f:Nat->Nat)(h:k<=n):FR f k<=FR f n:=by induction n with
 |zero=>have:k=0:=Za;subst this;exact AG _
 |succ m ih=>
   rcases AD m k with h1|h1;.have:k=m+1:=Za;subst this;exact AG _
   .exact AJ (ih h1) (by simp[FR])
theorem Ve.rng{g:Nat}(h:Ve w g n n x A0 A C hb)(hk:Fm g n (λi=>(x i).hn) hb k):g<=k/\k<w.1.size:=by
 rcases hk with⟨h0,rfl⟩|⟨i,hi,h0,rfl⟩;.obtain⟨c,r,_⟩:=h.row h0;exact⟨AG _,r.lt⟩
 .exact⟨Nat.le_of_lt (h.hlt i hi h0).1,(h.hlt i hi h0).2⟩
def Ku (p:Nat->Bool):Nat->List Nat
 |0=>[]
 |k+1=>if p k then Ku p k++[k]else Ku p k
theorem eU (h:p k=true):Ku p (k+1)=Ku p k++[k]:=by rw[Ku,if_pos h]
theorem wB (h:p k=false):Ku p (k+1)=Ku p k:=by rw[Ku,if_neg Zcd]
theorem QB (p:Nat->Bool):∀k,(Ku p k).length<=k
 |0=>AG _
 |k+1=>by have:=QB p k;unfold Ku;split<;>simp<;>omega
structure Py (w:World)(base:Nat)(v:Value)(k:Nat)(x:Nat->Ob)(A:Nat->Option Addr)(C hb:Nat->Nat):Prop where
 row:∃c,w.ownsRow base 52 7 v k (AN (k*7) c)/\∀i,i<k->L0 c i (x i) (A i) (C i)hold:∀i,i<k->BA w (hb i) (hb i+1) (A i) (x i).hn (x i).hs
 hlt:∀i,i<k->(x i).hn≠0->base<=hb i/\hb i<w.1.size
 ne:∀i,i<k->(x i).hn≠0->v.ownBlock≠some (hb i)inj:∀i j,i<k->j<k->(x i).hn≠0->(x j).hn≠0->hb i=hb j->i=j
theorem Py.fr (h:Py w base v k x A C hb)(hf:AB P w w')(hp:∀q,base<=q->q<w.1.size->¬P q):Py w' base v k x A C hb:=⟨by obtain⟨c,r,e⟩:=h.row;exact⟨c,GU r hf (λg hg=>hp g (r.lt g hg).1 (r.lt g hg).2),e⟩,λi hi=>(h.hold i hi).frP hf (λh0=>⟨hp _ (h.hlt i hi h0).1 (h.hlt i hi h0).2,(h.hlt i hi h0).2⟩),λi hi h0=>⟨(h.hlt i hi h0).1,Aa (h.hlt i hi h0).2 hf.size⟩,h.ne,h.inj⟩
theorem Py.grow (h:Py w base v k x A C hb)(hf:Below w.1.size w w'):Py w' base v k x A C hb:=h.fr (Aj (P:=λ_=>False) hf) (λ_ _ _ h=>h)
theorem Py.app{c:Nat->Value}(h:Py w base v k x A C hb)(DR:∀i,i<k->L0 c i (x i) (A i) (C i))(ho:w'.ownsRow base 52 7 v' (k+1) (AN (k*7) c++(Qz (x k) ad' cap')))(hg:w.grownBy w' v.ownBlock)(hw:v'.ownBlock=v.ownBlock\/v'.ownBlock=some w.1.size)(hs:BA w b' (b'+1) ad' (x k).hn (x k).hs)(hl:(x k).hn≠0->base<=b'/\b'<w.1.size)(hv:(x k).hn≠0->v.ownBlock≠some b')(hd:∀i,i<k->(x i).hn≠0->(x k).hn≠0->hb i≠b'):Py w' base v' (k+1) x (Cl A k ad') (Cl C k cap') (Cl hb k b'):=by
 have F:=BB hg;refine⟨⟨SS c (k*7) (Qz (x k) ad' cap'),?_,λi hi=>?_⟩,λi hi=>?_,λi hi h0=>?_,λi hi h0=>?_,λi j hi hj h0 h1 e=>?_⟩
 .rw[GD]at ho;have e:k*7+((Qz (x k) ad' cap'):List Value).length=(k+1)*7:=by show k*7+7=_;omega
  rw[e]at ho;exact ho
 .exact P'
 .exact Aa7
 .exact Abu
 .exact Abi
 .exact Ac5
theorem Py.done (h:Py w base v k x A C hb):∃ad cap g,v=.l ad k cap/\D4 w ad g k x A C hb/\∀q,Fm g k (λi=>(x i).hn) hb q->base<=q:=by exact Ae0
theorem Py.congr (h:Py w base v k x A C hb)(e:∀i,i<k->x i=y i):Py w base v k y A C hb:=⟨by obtain⟨c,r,q⟩:=h.row;exact⟨c,r,λi hi=>e i hi▸q i hi⟩,λi hi=>e i hi▸h.hold i hi,λi hi h0=>h.hlt i hi Zbr,λi hi h0=>h.ne i hi Zbr,λi j hi hj h0 h1=>h.inj i j hi hj Zbr (by rw[e j hj];exact h1)⟩
theorem Py.push{l:List Nat}{c:Nat->Value}(h:Py w base v l.length (CI x l) A C hb)(DR:∀i,i<l.length->L0 c i (CI x l i) (A i) (C i))(ho:w'.ownsRow base 52 7 v' (l.length+1) (AN (l.length*7) c++(Qz (x k) ad' cap')))(hg:w.grownBy w' v.ownBlock)(hw:v'.ownBlock=v.ownBlock\/v'.ownBlock=some w.1.size)(hs:BA w b' (b'+1) ad' (x k).hn (x k).hs)(hl:(x k).hn≠0->base<=b'/\b'<w.1.size)(hv:(x k).hn≠0->v.ownBlock≠some b')(hd:∀i,i<l.length->(CI x l i).hn≠0->(x k).hn≠0->hb i≠b'):Py w' base v' (l++[k]).length (CI x (l++[k])) (Cl A l.length ad') (Cl C l.length cap') (Cl hb l.length b'):=by have e:(l++[k]).length=l.length+1:=Ze;rw[e];have hp:CI x (l++[k]) l.length=x k:=Yb;refine Py.app (x:=CI x (l++[k])) (h.congr (λi hi=>(K2 hi).symm)) (c:=c) (λi hi=>by rw[K2 hi];exact DR i hi) (by rw[hp];exact ho) hg hw (by rw[hp];exact hs) (by rw[hp];exact hl) (by rw[hp];exact hv) (λi hi=>by rw[hp,K2 hi];exact hd i hi)
theorem Vg (n:Nat)(x:Nat->Ob)(ad:OA)(cap:Nat)(ki pr:ByteArray)(w:World)(lo hi:Nat)(CD:hi<=w.1.size)(hl:(n:Int)<=1048576)(LS:(pr.size:Int)<=140737488355328)(hf:∀i,i<n->Cu (x i))(hc:Bh w lo hi ad n x):Calls prog 54 #[.l ad n cap,.s ki,.s pr] w λe w'=>∃ad' cap' g A C hb,e=.returned (.l ad' (Ku (λi=>Hv (x i) ki pr) n).length cap')/\D4 w' ad' g (Ku (λi=>Hv (x i) ki pr) n).length (CI x (Ku (λi=>Hv (x i) ki pr) n)) A C hb/\(∀q,Fm g (Ku (λi=>Hv (x i) ki pr) n).length (λi=>(CI x (Ku (λi=>Hv (x i) ki pr) n) i).hn) hb q->w.1.size<=q)/\Below w.1.size w w':=by
 obtain⟨i0,Fq,GH,C7,Fk⟩:=info_parts Eu;have HC:=Ab hc;have HF:=Ab hf;clear hc hf;go_enter func54,ntmps54;go_wp2;have tX:Py (w.alloc (.cells #[] 52)) w.1.size (.l (some ⟨w.1.size,0,none⟩) 0 0) (Ku (λi=>Hv (x i) ki pr) 0).length (CI x (Ku (λi=>Hv (x i) ki pr) 0)) (λ_=>none) (λ_=>0) (λ_=>0):=⟨⟨λ_=>.i 0,by simpa[AN,Ku]using Dy (base:=w.1.size) (e:=52) (size:=7) w #[] 0 A9 S4 rfl,λi hi=>absurd hi (Ae _)⟩,λi hi=>absurd hi (Ae _),λi hi=>absurd hi (Ae _),λi hi=>absurd hi (Ae _),λi j hi=>absurd hi (Ae _)⟩;go_loopw[7,8](λo i wr=>∃(k:Nat)(A:Nat->Option Addr)(C hb:Nat->Nat),k<=n/\i=.i k/\Below w.1.size w wr/\Py wr w.1.size o (Ku (λi=>Hv (x i) ki pr) k).length (CI x (Ku (λi=>Hv (x i) ki pr) k)) A C hb)(λ_ i _=>n-(intOf i).toNat);case atStart=>exact⟨0,_,_,_,Ar _,rfl,Ak _ _,tX⟩
 case round=>
  clear tX;obtain⟨k,A,C,hb,hk,rfl,b0,bd⟩:=hrel;by_cases B7:k<n;.obtain⟨b,off,ah,ch,rfl,Gc,Ja,Dh,Il⟩:=HC k B7;have My:=(HF k B7).h;have Pd:=(HF k B7).n;obtain⟨e0,e1,e2,e3,e4,e5,e6⟩:=Dh.below b0 Za;have So:=Ab (Il.below b0 CD);have zr:=b0.size;have BD:=Ab bd;have jY:=Ab (Dh.below b0 Za);clear Dh Il bd;go_wp2_with fail;refine(Ty (x k) ah ch ki pr _ Za LS).mono ?_;rintro e wq ⟨rfl,fU⟩;have zq:=fU.size;cases ip:Hv (x k) ki pr with
   |false=>
    have HN:=Ab (show Ku (λi=>Hv (x i) ki pr) (k+1)=Ku (λi=>Hv (x i) ki pr) k from wB ip);clear e0 e1 e2 e3 e4 e5 e6;go_wp2;go_roundw;case rel=>exact⟨k+1,A,C,hb,Za,by go_num,b0.trans (fU.mono zr),by rw[HN.out];exact BD.grow fU⟩
    case measure=>simp[intOf];omega
   |true=>
    have HN:=Ab (show Ku (λi=>Hv (x i) ki pr) (k+1)=Ku (λi=>Hv (x i) ki pr) k++[k]from eU ip);clear e0 e1 e2 e3 e4 e5 e6;obtain⟨e0,e1,e2,e3,e4,e5,e6⟩:=jY.below fU Za;have hln:=QB (λi=>Hv (x i) ki pr) k;obtain⟨L,hL⟩:∃L,Ku (λi=>Hv (x i) ki pr) k=L:=⟨_,rfl⟩;rw[hL]at BD HN hln;clear hL;go_wp2_with fail;refine(Iy (x k) ah ch _ lo hi Za My (So.below fU Za)).mono ?_;rintro e w1 ⟨ad',cap',rfl,_,Ks,AU⟩;obtain⟨b',La,Ox⟩:=Ks.one;have z1:=AU.size;have gO:=Ab La;have EG:=Ab Ox;have BD0:=Ab (BD.grow fU);have BD1:=Ab ((BD0.grow AU).grow (Ak w1 (.cells (vO (x k) ad' cap') 52)));obtain⟨c,CG,DR⟩:=BD1.row;have Qw:=Ab DR;clear Ks La Ox e0 e1 e2 e3 e4 e5 e6 DR;go_wp2_with (at_builtin;go_must(refine wpList_append_own_at _ rfl _ _ 23 rfl w.1.size 52 i0 _ 7 96 underlying23 Fq GH C7 Fk rfl Zb _ L.length (AN (L.length*7) c) rfl CG ⟨w1.1.size,0,none⟩ 1 1 (Qz (x k) ad' cap') rfl rfl (DI w1 _ 52) kG Zl Za Zd ?_;intro v' w2 BH Bm Hs If;clear Hs));have hg2:=Bm.size;have FB:∀o,AB (λ_=>False) w1 (w1.alloc o):=λo=>Aj (Ak w1 o);have BD2:=Ab (BD1.push (cap':=cap') Qw BH Bm If (gO.frP (FB _) (λh0=>⟨λh=>h,(EG h0).2⟩)) (λh0=>⟨by have:=(EG h0).1;omega,by have:=(EG h0).2;simp;omega⟩)
     (λh0 e=>by obtain⟨c0,r0,_⟩:=BD0.row;have h1:=(r0.lt _ e).2;have h2:=(EG h0).1;omega)
     (λi hi h0 h1 e=>by have h2:=(BD0.hlt i hi h0).2;have h3:=(EG h1).1;omega));have B2:Below w.1.size w w2:=by obtain⟨c0,r0,_⟩:=BD0.row;exact(((b0.trans (fU.mono zr)).trans (AU.mono Za)).alloc Za _).trans ((BB Bm).below (λq hq e=>by have:=(r0.lt q e).1;omega) Zd)
    clear CG BH Bm If FB;go_wp2;go_roundw;case rel=>exact⟨k+1,_,_,_,Za,by go_num,B2,by rw[HN.out];exact BD2⟩
    case measure=>simp[intOf];omega
  .have rN:k=n:=Za;subst rN;obtain⟨ad',cap',g,e,at',hq⟩:=bd.done;subst e;have AT':=Ab at';have HQ:=Ab hq;clear at' bd hq;go_wp2;go_ret;exact⟨ad',cap',g,A,C,hb,rfl,AT',HQ,b0⟩
def CJ (y:Ob)(ad:OA)(c:Nat):Array Value:=(vO y ad c)
theorem I0{y:Ob}{c:Nat}(h:Gp W B (CJ y ad c)):W.cell? ⟨B,0,none⟩=some (.s y.k)/\W.cell? ⟨B,1,none⟩=some (.s y.n)/\W.cell? ⟨B,2,none⟩=some (.i y.t)/\W.cell? ⟨B,3,none⟩=some (.i y.b)/\W.cell? ⟨B,4,none⟩=some (.s y.m)/\W.cell? ⟨B,5,none⟩=some (.bool y.e)/\W.cell? ⟨B,6,none⟩=some (.slice ad y.hn c):=⟨h 0,h 1,h 2,h 3,h 4,h 5,h 6⟩
structure TR (w:World)(hi:Nat)(ad:OA)(n:Nat)(x:Nat->Ob)(A:Nat->Option Addr)(C:Nat->Nat):Prop where
 cells:∀i,i<n->∃b off,ad=some ⟨b,off,none⟩/\b<hi/\DF w b (off+i*7) (x i) (A i) (C i)holds:∀i,i<n->AK w 0 hi (A i) (x i).hn (x i).hs
theorem Bh.choose{lo:Nat}(h:Bh w lo hi ad n x):∃A C,TR w hi ad n x A C:=by
 have h1:∀i,∃q:Option Addr×Nat,i<n->∃b off,ad=some ⟨b,off,none⟩/\b<hi/\DF w b (off+i*7) (x i) q.1 q.2/\AK w 0 hi q.1 (x i).hn (x i).hs:=λi=>by
  by_cases hi':i<n;.obtain⟨b,off,ah,ch,e1,_,e3,e4,e5⟩:=h i hi';exact⟨(ah,ch),λ_=>⟨b,off,e1,e3,e4,λj hj=>by obtain⟨b2,o2,f1,_,f3,f4⟩:=e5 j hj;exact⟨b2,o2,f1,Ar _,f3,f4⟩⟩⟩
  .exact⟨(none,0),λh=>absurd h hi'⟩
 obtain⟨q,hq⟩:=Classical.skolem.1 h1;exact⟨λi=>(q i).1,λi=>(q i).2,⟨λi hi'=>by obtain⟨b,off,e1,e2,e3,_⟩:=hq i hi';exact⟨b,off,e1,e2,e3⟩,λi hi'=>by obtain⟨b,off,_,_,_,e⟩:=hq i hi';exact e⟩⟩
theorem TR.frP (h:TR w hi ad n x A C)(hf:AB P w w')(hp:∀q,q<hi->¬P q)(CD:hi<=w.1.size):TR w' hi ad n x A C:=by have hb:Below hi w w':=hf.below hp CD;exact⟨λi hi'=>by obtain⟨b,off,e1,e2,e3⟩:=h.cells i hi';exact⟨b,off,e1,e2,e3.below hb e2⟩,λi hi'=>(h.holds i hi').below hb A9⟩
def VT (x:Ob)(a:OA)(c:Nat):Value:=.agg (vO x a c)
theorem cy (F:Fence)(m:Nat)(h51:F.fn 79)(h52:F.fn 48)(Np:F.round=none)(hm:1<=m)(l Bo Bk Bp hi:Nat)(Pk:Nat->Prop)(n:Nat)(x:Nat->Ob)(ad:OA)(cap:Nat)(A:Nat->Option Addr)(C:Nat->Nat)(ki pr:ByteArray)(hl:(n:Int)<=1048576)(J Jx:List (Ix n)->World->Prop)(hIs:∀(i:Nat)(w:World),i<n->CallsIn F (m-1) prog 48 #[VT (x i) (A i) (C i),.s ki,.s pr] w λe w'=>e=.returned (.bool (Hv (x i) ki pr))/\Below w.1.size w w')(W:World)(hJ:AbidesFrom W.1.size J)(hY:∀pre x' W1,J pre W1->pre.length<n->YieldAt F (m-1) prog l #[VT (x x'.1) (A x'.1) (C x'.1)] W1 λe W'=>(e=.returned (.bool true)/\J (pre++[x']) W'/\AB Pk W1 W')\/(e=.returned (.bool false)/\Jx (pre++[x']) W'))(hBo:W.cell? ⟨Bo,0,none⟩=some (.slice ad n cap))(j7:W.cell? ⟨Bk,0,none⟩=some (.s ki))(hBp:W.cell? ⟨Bp,0,none⟩=some (.s pr))(hk:Bk<W.1.size/\¬Pk Bk)(hp:Bp<W.1.size/\¬Pk Bp)(CD:hi<=W.1.size)(bN:∀q,q<hi->¬Pk q)(hs:TR W hi ad n x A C)(h0:J [] W):CallsIn F m prog 79 #[.func (.yield l) #[] #[],.p Bo 0,.p Bk 0,.p Bp 0] W λe W'=>(∃v,e=.returned v)/\((∃ys,I6 ys=Ku (λi=>Hv (x i) ki pr) n/\J ys W')\/(∃pre,True/\Jx pre W')):=by
 refine callsIn_of_wp func79 rfl h51 ?_ Np;simp only[ntmps79,C4,CT,FU,Nat.reduceAdd,Nat.reduceSub,DB,DC,EA,DM,Dt,Cy];have HS:=Ab hs;clear hs;gi_wp2;gi_loopw[9](λi wr=>∃(k:Nat)(pre:List (Ix n)),k<=n/\i=.i k/\I6 pre=Ku (λi=>Hv (x i) ki pr) k/\J pre wr/\AB Pk W wr)(λi _=>n-(intOf i).toNat);case atStart=>exact⟨0,[],Ar _,rfl,rfl,h0,AB.refl _ _⟩
 case round=>
  obtain⟨k,pre,B7,rfl,Ww,hJs,hf⟩:=hrel;have oK:wr.cell? ⟨Bk,0,none⟩=some (.s ki):=(hf.cell (p:=⟨Bk,0,none⟩) hk.1 hk.2).trans j7;have Mx:wr.cell? ⟨Bp,0,none⟩=some (.s pr):=(hf.cell (p:=⟨Bp,0,none⟩) hp.1 hp.2).trans hBp;by_cases hlt:k<n
  .obtain⟨b,off,rfl,Ja,Dh⟩:=HS.cells k hlt;have Gr:Below hi W wr:=hf.below bN CD;obtain⟨e0,e1,e2,e3,e4,e5,e6⟩:=Dh.below Gr Ja;have hI:=hIs k;unfold VT at hI;have zr:=hf.size;have Ajq:∀o,(wr.alloc o).cell? ⟨Bk,0,none⟩=some (.s ki):=λo=>(At _ _ _ (by have:=hk.1;simp;omega)).trans oK;have Aj0:∀o,(wr.alloc o).cell? ⟨Bp,0,none⟩=some (.s pr):=λo=>(At _ _ _ (by have:=hp.1;simp;omega)).trans Mx;have HY:=Ab hY;clear hY hIs;have lG:pre.length<n:=by have h1:=Mm pre;rw[Ww]at h1;have h2:=QB (λi=>Hv (x i) ki pr) k;omega
   cases ip:Hv (x k) ki pr with
   |false=>
    simp only[ip]at hI;have HN:=Ab (show I6 pre=Ku (λi=>Hv (x i) ki pr) (k+1)from Ww.trans (wB ip).symm);clear HY;gi_wp2_with (gi_at_call 48;go_must(refine(hI _ hlt).mono ?_;rintro e w1 ⟨rfl,AU⟩;have nQ:Below wr.1.size wr w1:=(Ak wr _).trans (AU.mono Ze);clear e0 e1 e2 e3 e4 e5 e6));refine⟨λ_ h=>Ns,?_⟩;gi_wp2;go_roundw;case rel=>exact⟨k+1,pre,Za,by go_num,HN,hJ pre wr w1 none hJs (Hy nQ) (λr e=>by cases e),hf.trans (Aj nQ)⟩
    case measure=>simp[intOf];omega
   |true=>
    simp only[ip]at hI;have HN:=Ab (show I6 (pre++[⟨k,hlt⟩])=Ku (λi=>Hv (x i) ki pr) (k+1)from(L4 _ _).trans ((congrArg (.++[k]) Ww).trans (eU ip).symm));gi_wp2_with (gi_at_call 48;go_must(refine(hI _ hlt).mono ?_;rintro e w1 ⟨rfl,AU⟩;have nQ:Below wr.1.size wr w1:=(Ak wr _).trans (AU.mono Ze);clear e0 e1 e2 e3 e4 e5 e6;obtain⟨q0,q1,q2,q3,q4,q5,q6⟩:=I0 ((E5 wr (CJ (x k) (A k) (C k)) 52).below AU Ze);obtain⟨fn,tmps,assign,body,hy,hR⟩:=HY pre ⟨k,hlt⟩ w1 (hJ pre wr w1 none hJs (Hy nQ) (λr e=>by cases e)) lG;unfold VT at hy;dsimp only at hy));refine hR.mono ?_;rintro e W3 (⟨rfl,hJ3,ue⟩|⟨rfl,nH⟩)
    .gi_wp2;go_roundw;case rel=>exact⟨k+1,pre++[⟨k,hlt⟩],Za,by go_num,HN.out,hJ3,(hf.trans (Aj nQ)).trans ue⟩
     case measure=>simp[intOf];omega
    .gi_wp2;refine bodyPost_ret (results_none rfl _ _ _) rfl ?_;exact⟨⟨_,rfl⟩,.inr ⟨pre++[⟨k,hlt⟩],trivial,nH⟩⟩
  .obtain rfl:k=n:=Za;gi_wp2;go_end0;exact⟨⟨_,rfl⟩,.inl ⟨_,Ww,hJs⟩⟩
theorem Py.turn{row:Option Nat}(h:Py w base v k x A C hb)(hg:w.grownBy w' row)(hr:∀r,row=some r->∃o:Obj,w.heap[r]?=some o/\o.isCells=false):Py w' base v k x A C hb:=by
 have F:AB (λq=>row=some q) w w':=BB hg;have hn:∀(q:Nat),(∃off u,w.cell? ⟨q,off,none⟩=some u)->¬row=some q:=λq hq e=>by exact xp
 refine⟨?_,λi hi=>(h.hold i hi).frP F (λh0=>⟨hn _ ?_,(h.hlt i hi h0).2⟩),λi hi h0=>⟨(h.hlt i hi h0).1,Aa (h.hlt i hi h0).2 hg.size⟩,h.ne,h.inj⟩
 .obtain⟨c,r,e⟩:=h.row;refine⟨c,GU r F (λg QM e2=>?_),e⟩;rcases r.2 with⟨h1,_⟩|⟨g',cap,cur,h1,h2,h3,h4⟩;.rw[h1]at QM;cases QM
  .rw[h1]at QM;cases QM;obtain⟨o,ho,hc⟩:=hr _ e2;rw[h3]at ho;cases ho;cases hc
 .obtain⟨b,off,e1,e2,e3,e4,_⟩:=h.hold i hi 0 Za;have:b=hb i:=Za;subst this;exact⟨_,_,e4⟩
theorem Gk{l:Array Bool}(h:l.getD i false=true->l.getD j false=true)(hj:l.getD j false=false):l.getD i false=false:=by cases hi:l.getD i false with
 |false=>rfl
 |true=>rw[h hi]at hj;cases hj
theorem Bh.up (h:Bh w 0 w.1.size ad n x)(hb:Below w.1.size w w'):Bh w' 0 w'.1.size ad n x:=λi hi'=>by obtain⟨b,off,ah,ch,e1,e2,e3,e4,e5⟩:=h.below hb A9 i hi';have:=hb.size;exact⟨b,off,ah,ch,e1,e2,Za,e4,λj hj=>by obtain⟨b',o',f1,f2,f3,f4⟩:=e5 j hj;exact⟨b',o',f1,f2,Za,f4⟩⟩
theorem sk (F:Fence)(m:Nat)(h22:F.fn 53)(Np:F.round=none)(ad:OA)(n cap:Nat)(ki pr:ByteArray)(w:World):CallsIn F m prog 53 #[.l ad n cap,.s ki,.s pr] w λe w'=>e=.returned (.func (.func 79) #[] #[.p (w.1.size) 0,.p (w.1.size+1) 0,.p (w.1.size+1+1) 0])/\w'=((w.alloc (.cells #[.l ad n cap] 23)).alloc (.cells #[.s ki] 9)).alloc (.cells #[.s pr] 9):=by refine callsIn_of_wp func53 rfl h22 ?_ Np;simp only[ntmps53,C4,CT,FU,Nat.reduceAdd,Nat.reduceSub,DB,DC,EA,DM,Dt,Cy];gi_wp2;go_ret;exact⟨rfl,rfl⟩
def S7 (x:Bk)(ki pr:ByteArray)(fr most:Int):Nat:=if KY x fr most=0 then(Qi x (fr-x.f).toNat ki pr most).length else 0
def jK (x:Bk)(ki pr:ByteArray)(fr most:Int):Nat->Ch:=CI (λi=>x.hs ((fr-x.f).toNat+i)) (Qi x (fr-x.f).toNat ki pr most)
def rh (x:Bk)(ki pr:ByteArray)(fr most:Int):Int:=if KY x fr most=0 then aO x (fr-x.f).toNat ki pr most else 0
def nwA (x:Bk)(ki pr:ByteArray)(fr most:Int)(v:Value)(lo hi:Nat)(X:World):Prop:=∃adw cw gw Aw Cw hw,v=.agg #[.i (KY x fr most),.l adw (S7 x ki pr fr most) cw,.i (rh x ki pr fr most)]/\IQ X adw gw (S7 x ki pr fr most) (jK x ki pr fr most) Aw Cw hw/\(∀q,Fm gw (S7 x ki pr fr most) (λi=>(jK x ki pr fr most i).ob.hn) hw q->lo<=q/\q<hi)/\hi<=X.1.size
theorem nwP.ans{x:Bk}{fr:Int}{e:Ending}(h:nwP w w' x ki pr fr most e):∃v,e=.returned v/\nwA x ki pr fr most v w.1.size w'.1.size w'/\Below w.1.size w w':=by
 obtain⟨hb,v,n,y,fv,A,C,hb',rfl,bd,h1,h2⟩:=h;refine⟨_,rfl,?_,hb⟩;have hn:n=S7 x ki pr fr most/\fv=rh x ki pr fr most/\∀i,i<n->y i=jK x ki pr fr most i:=by
  by_cases hK:KY x fr most=0;.obtain⟨_,_,k,hk,_⟩:=Ra hK;obtain⟨e1,e2,e3⟩:=h2 hK k hk;obtain rfl:k=(fr-x.f).toNat:=Za;exact⟨by rw[e1,S7,if_pos hK],by rw[e3,rh,if_pos hK],λi _=>by rw[e2];rfl⟩
  .obtain⟨e1,e2⟩:=h1 hK;exact⟨by rw[e1,S7,if_neg hK],by rw[e2,rh,if_neg hK],λi hi=>by omega⟩
 obtain⟨e1,e2,e3⟩:=hn;have bd2:=bd.congr e3;rw[e1]at bd2;obtain⟨ad,cap,g,ev,_,hc,hq⟩:=bd2.done;refine⟨ad,cap,g,A,C,hb',by rw[ev,e2],hc,λq hq'=>⟨hq q hq',?_⟩,AG _⟩;exact hc.blt hq'
theorem UK (x:Bk)(ki pr:ByteArray)(fr most:Int):S7 x ki pr fr most<=x.hn:=by
 unfold S7 Qi;split;.rw[Ly];have:=XV (x:=x.hs) (k:=(fr-x.f).toNat) (j:=x.hn) (ki:=ki) (pr:=pr);omega
 .exact Ar _
theorem QA{x:Bk}{fr:Int}(hi:i<S7 x ki pr fr most):∃j,j<x.hn/\jK x ki pr fr most i=x.hs j:=by
 unfold S7 at hi;split at hi;case isFalse=>exact absurd hi (Ae _)
 case isTrue h=>unfold jK CI;have hm:(Qi x (fr-x.f).toNat ki pr most)[i]∈Qi x (fr-x.f).toNat ki pr most:=Fd hi;have cD:=List.mem_of_mem_take hm;unfold seen at cD;have hm3:=BF.1 (DS.1 cD).1;refine⟨(fr-x.f).toNat+(Qi x (fr-x.f).toNat ki pr most)[i],Za,?_⟩;simp[hi]
structure E8 (w:World)(b:Nat)(c:Array Value):Prop where
 cell:∀i,w.cell? ⟨b,i,none⟩=c[i]?
 free:∀i,w.frozen? ⟨b,i,none⟩=false
 lt:b<w.1.size
theorem D8{t:TypeId}(hb:Below (w.alloc (.cells c t)).1.size (w.alloc (.cells c t)) w1):E8 w1 w.1.size c:=⟨Ay hb,λi=>(hb.frozen (p:=⟨w.1.size,i,none⟩) Ze).trans (De _ _ _ _ rfl),by have:=hb.size;simp at this;omega⟩
theorem E8.below{b:Nat}(h:E8 w b c)(hb:Below w.1.size w w1):E8 w1 b c:=⟨λi=>(hb.cell (p:=⟨b,i,none⟩) h.lt).trans (h.cell i),λi=>(hb.frozen (p:=⟨b,i,none⟩) h.lt).trans (h.free i),Aa h.lt hb.size⟩
theorem UH (n:Nat)(c:Nat->Value)(ad:OA)(cap:Nat)(w:World)(lo hi:Nat)(CD:hi<=w.1.size)(hl:(n:Int)<=1099511627776)(hc:Cr w lo hi ad (n*7) c):Calls prog 36 #[.l ad n cap] w λe w'=>∃ad' cap',e=.returned (.l ad' n cap')/\(cap'=n/\(n=0->ad'=none))/\(0<n->ad'=some ⟨w.1.size,0,none⟩/\AE w' w.1.size (n*7) c)/\Below w.1.size w w':=by
 rcases Bi n with h0|YT;.subst h0;go_enter func36,ntmps36;go_wp2;go_ret;exact⟨_,_,rfl,⟨rfl,λ_=>rfl⟩,λh=>absurd h (Bc _),Ap _ _⟩
 .obtain⟨i0,Fq,GH,C7,Fk⟩:=info_parts Eu;obtain⟨b,off,rfl,Gc,Ja,_⟩:=hc.d 0 Za;have CF:((n:Int)==0)=false:=Zd;have JP:(prog.info? 52).map (·.size)=some 7:=by rw[Fq];simp[C7]
  have HC:=Ab hc;clear hc;go_enter func36,ntmps36;go_wp2_with (first
   |(at_make;refine wpList_make_full _ rfl _ _ 23 rfl w.1.size 52 i0 _ 7 underlying23 Fq GH C7 .i64 .i64 _ _ n rfl rfl Za Za Zcv Zl Za ?_;intro w1 CW LX;have PT:=Ab (TK CW);have AU:Below w.1.size w w1:=(Ap _ _).grown LX A9 Ze;clear CW LX;have CZ:=MK (P:=prog) w1 23 23 3 52 w.1.size 0 n n ⟨b,off,none⟩ n cap 7 (AN (n*7) c) underlying23 JP (by rw[Bq];simp) (by intro j u hj;obtain⟨h1,rfl⟩:=Jn hj;obtain⟨b',off',e',_,e3,e4⟩:=HC.d j h1;cases e';rw[show((⟨b,off,none⟩:Addr).add j)=⟨b,off+j,none⟩by simp[Addr.add],AU.cell (p:=⟨b,off+j,none⟩) Zj];exact e4) (by intro j hj;rw[Bq]at hj;obtain⟨u,hu⟩:=PT.has j hj;rw[A6,hu];rfl) (by intro j _;exact PT.free _) (by intro v hv;obtain⟨i,hi,rfl⟩:=Ec.1 hv;exact HC.one i Zci);have R1:=Ab (PP c PT);have R2:=Ab ((PQ (lo:=w.1.size) (hi:=w.1.size+1) AU).trans (Gf w.1.size (AN (n*7) c) 0 w1));clear PT HC));go_ret;exact⟨_,_,rfl,⟨rfl,λh=>absurd h Za⟩,λ_=>⟨rfl,by simpa using R1.out⟩,by simpa using R2.below A9 A9⟩
theorem CB3 (h:E8 W B #[v0,v1,v2]):W.cell? ⟨B,0,none⟩=some v0/\W.cell? ⟨B,1,none⟩=some v1/\W.cell? ⟨B,2,none⟩=some v2:=⟨h.cell 0,h.cell 1,h.cell 2⟩
theorem Ta (h:E8 W B #[v0,v1,v2,v3,v4]):W.cell? ⟨B,0,none⟩=some v0/\W.cell? ⟨B,1,none⟩=some v1/\W.cell? ⟨B,2,none⟩=some v2/\W.cell? ⟨B,3,none⟩=some v3/\W.cell? ⟨B,4,none⟩=some v4:=⟨h.cell 0,h.cell 1,h.cell 2,h.cell 3,h.cell 4⟩
theorem CB9{v5 v6 v7 v8:Value}(h:E8 W B #[v0,v1,v2,v3,v4,v5,v6,v7,v8]):W.cell? ⟨B,0,none⟩=some v0/\W.cell? ⟨B,1,none⟩=some v1/\W.cell? ⟨B,2,none⟩=some v2/\W.cell? ⟨B,3,none⟩=some v3/\W.cell? ⟨B,4,none⟩=some v4/\W.cell? ⟨B,5,none⟩=some v5/\W.cell? ⟨B,6,none⟩=some v6/\W.cell? ⟨B,7,none⟩=some v7/\W.cell? ⟨B,8,none⟩=some v8:=⟨h.cell 0,h.cell 1,h.cell 2,h.cell 3,h.cell 4,h.cell 5,h.cell 6,h.cell 7,h.cell 8⟩
theorem jf (h:E8 W B c):W.frozen? ⟨B,0,none⟩=false/\W.frozen? ⟨B,1,none⟩=false/\W.frozen? ⟨B,2,none⟩=false/\W.frozen? ⟨B,3,none⟩=false/\W.frozen? ⟨B,4,none⟩=false:=⟨h.free 0,h.free 1,h.free 2,h.free 3,h.free 4⟩
end Go.Proofs.YtdknjmgdgnmhjaaGreat
