import Derived.Test.YtdknjmgdgnmhjaaGreatPk28
import Derived.Laws.Tables
import Derived.LoopIn
import Derived.LoopNIn
import Derived.Maps.OwnIn
import Derived.OrdersIn
import Derived.OwnWalkIn
import Derived.RangeFuncBound
import Derived.RangeFuncCalls
import Derived.RangeFuncLeaves
import Derived.RangeFuncNested
import Derived.Shelf.Abstract
import Derived.Shelf.RegionOpen
import Derived.Sort.Statements
import Derived.TacticsInMore
set_option maxRecDepth 100000
set_option maxHeartbeats 2000000
namespace Go.Proofs.YtdknjmgdgnmhjaaGreat
open Go.RowKit Go.Maps Go.Proofs.Tryz
variable {w' w w1 B:World}{g k b R:Nat}{s:Nat→ByteArray}{c0 c1:Array Value}{α:Type}{l:List Nat}{ad:OA}
theorem TK{n sz:Nat}{base:Nat}{e:TypeId}{xs:List Value}(ho:w'.ownsRow base e sz (.l (some ⟨g,0,none⟩) n n) n xs):IR w' g (n*sz):=by
 refine⟨λj hj=>?_,λj=>ho.frozenAt j,?_⟩
 .rw[ho.cellAt j hj];have:j<xs.length:=by rw[ho.1];omega
  exact⟨xs[j],by simp[this]⟩
 .rcases ho.2 with⟨h,_⟩|⟨g',cap,cur,h,_,hh,_⟩;.simp at h
  .simp only[Value.slice.injEq,AZ,Addr.mk.injEq,and_true,true_and]at h;obtain⟨rfl,rfl⟩:=h;exact(AM.1 hh).1
theorem MK{P:Program}(w:World)(dT sT ty elem:TypeId)(b o dLen dCap:Nat)(a:Addr)(sLen sCap z:Nat)(cs:List Value)(hu:P.underlying dT=some (.slice elem))(hs:(P.info? elem).map (·.size)=some z)(hn:cs.length=Nat.min sLen dLen*z)(Mu:∀j v,cs[j]?=some v->w.cell? (a.add j)=some v)(hc:∀j,j<cs.length->(w.cell? ⟨b,o+j,none⟩).isSome=true)(hf:∀j,j<cs.length->w.frozen? ⟨b,o+j,none⟩=false)(h1:∀v∈cs,v.oneCell'=true):(Builtin.copy_ #[dT,sT] ty #[.l (some ⟨b,o,none⟩) dLen dCap,.l (some a) sLen sCap]).run P w=.ok (goInt (Nat.min sLen dLen)) (w.setCells b o cs):=by have hl:=run_loadCells_list (P:=P) w a cs Mu;have Df:=run_storeCells_cells (P:=P) b o cs 0 w (by simpa using hc) (by simpa using hf) h1;cases hq:P.info? elem with
 |none=>simp[hq]at hs
 |some i=>
  have hi:i.size=z:=by simpa[hq]using hs
  simp[Builtin.copy_,run_underlying hu,Builtin.lenOf,Builtin.firstCells,sizeOf,typeInfo,hq,hi,<-hn,hl,Df]
theorem PP{m:Nat}(c:Nat->Value)(h:IR w g m):AE (w.setCells g 0 (AN m c)) g m c:=⟨by rw[FC];exact h.lt,λj=>by rw[DL];exact h.free j,λj hj=>by have:=DA g (AN m c) 0 w (λj hj=>by rw[Bq]at hj;obtain⟨u,hu⟩:=h.has j hj;rw[A6,hu];rfl) j Zbq;rw[A6,Dr]at this;exact this⟩
theorem Xe (n:Nat)(c:Nat->Value)(ad:OA)(cap:Nat)(w:World)(lo hi:Nat)(CD:hi<=w.1.size)(hl:(n:Int)<=8796093022208)(hc:Cr w lo hi ad (n*1) c):Calls prog 67 #[.l ad n cap] w λe w'=>∃ad' cap',e=.returned (.l ad' n cap')/\(0<n->ad'=some ⟨w.1.size,0,none⟩/\AE w' w.1.size (n*1) c)/\Below w.1.size w w':=by
 rcases Bi n with h0|YT;.subst h0;go_enter func67,ntmps67;go_wp2;go_ret;exact⟨_,_,rfl,λh=>absurd h (Bc _),Ap _ _⟩
 .obtain⟨i0,Fq,GH,C7,Fk⟩:=info_parts Gh;obtain⟨b,off,rfl,Gc,Ja,_⟩:=hc.d 0 Za;have CF:((n:Int)==0)=false:=Zd;have JP:(prog.info? 9).map (·.size)=some 1:=by rw[Fq];simp[C7]
  have HC:=Ab hc;clear hc;go_enter func67,ntmps67;go_wp2_with (first
   |(at_make;refine wpList_make_full _ rfl _ _ 50 rfl w.1.size 9 i0 _ 1 underlying50 Fq GH C7 .i64 .i64 _ _ n rfl rfl Za Za Zcv Zl Za ?_;intro w1 CW LX;have PT:=Ab (TK CW);have AU:Below w.1.size w w1:=(Ap _ _).grown LX A9 Ze;clear CW LX;have CZ:=MK (P:=prog) w1 50 50 3 9 w.1.size 0 n n ⟨b,off,none⟩ n cap 1 (AN (n*1) c) underlying50 JP (by rw[Bq];simp) (by intro j u hj;obtain⟨h1,rfl⟩:=Jn hj;obtain⟨b',off',e',_,e3,e4⟩:=HC.d j h1;cases e';rw[show((⟨b,off,none⟩:Addr).add j)=⟨b,off+j,none⟩by simp[Addr.add],AU.cell (p:=⟨b,off+j,none⟩) Zj];exact e4) (by intro j hj;rw[Bq]at hj;obtain⟨u,hu⟩:=PT.has j hj;rw[A6,hu];rfl) (by intro j _;exact PT.free _) (by intro v hv;obtain⟨i,hi,rfl⟩:=Ec.1 hv;exact HC.one i Zci);have R1:=Ab (PP c PT);have R2:=Ab ((PQ (lo:=w.1.size) (hi:=w.1.size+1) AU).trans (Gf w.1.size (AN (n*1) c) 0 w1));clear PT HC));go_ret;exact⟨_,_,rfl,λ_=>⟨rfl,by simpa using R1.out⟩,by simpa using R2.below A9 A9⟩
theorem AE.strs{n:Nat}(h:AE w g (n*1) (λj=>.s (s j))):BA w g (g+1) (some ⟨g,0,none⟩) n s:=λi hi=>⟨g,0,rfl,AG _,BE _,by rw[A6];exact h.cell i Za,by rw[A6];exact h.free i⟩
theorem XZ (n:Nat)(s:Nat->ByteArray)(ad:OA)(cap:Nat)(w:World)(lo hi:Nat)(CD:hi<=w.1.size)(hl:(n:Int)<=8796093022208)(hc:AK w lo hi ad n s):Calls prog 67 #[.l ad n cap] w λe w'=>∃ad' cap',e=.returned (.l ad' n cap')/\BA w' w.1.size (w.1.size+1) ad' n s/\(n≠0->w.1.size<w'.1.size)/\Below w.1.size w w':=(Xe n _ ad cap w lo hi CD hl hc.src).mono λe w' ⟨ad',cap',h1,h2,h3⟩=>by
  refine⟨ad',cap',h1,?_,λh0=>(h2 Za).2.lt,h3⟩;by_cases h0:n=0;.subst h0;exact BA.zero
  .obtain⟨rfl,r⟩:=h2 Za;exact r.strs
theorem Ue{t0 t1:TypeId}(hb:Below ((w.alloc (.cells c0 t0)).alloc (.cells c1 t1)).1.size ((w.alloc (.cells c0 t0)).alloc (.cells c1 t1)) w1):(∀i,w1.cell? ⟨w.1.size,i,none⟩=c0[i]?)/\(∀i,w1.cell? ⟨w.1.size+1,i,none⟩=c1[i]?)/\(∀i,w1.frozen? ⟨w.1.size,i,none⟩=false)/\(∀i,w1.frozen? ⟨w.1.size+1,i,none⟩=false):=by
 refine⟨λi=>?_,λi=>?_,λi=>?_,λi=>?_⟩;.rw[hb.cell (p:=⟨w.1.size,i,none⟩) Zd,At _ _ _ Ze,Al]
 .rw[hb.cell (p:=⟨w.1.size+1,i,none⟩) Ze];have:=Al (w.alloc (.cells c0 t0)) c1 t1 i;rwa[Av]at this
 .rw[hb.frozen (p:=⟨w.1.size,i,none⟩) Zd];simp
 .rw[hb.frozen (p:=⟨w.1.size+1,i,none⟩) Ze];simp
theorem Lr (x:Ob)(ad:OA)(cap:Nat)(w:World)(lo hi:Nat)(CD:hi<=w.1.size)(hl:(x.hn:Int)<=8796093022208)(hc:AK w lo hi ad x.hn x.hs):Calls prog 37 #[.agg (vO x ad cap)] w λe w'=>∃ad' cap' b,e=.returned (.agg (vO x ad' cap'))/\w.1.size<=b/\(x.hn≠0->b<w'.1.size)/\BA w' b (b+1) ad' x.hn x.hs/\Below w.1.size w w':=by
 go_enter func37,ntmps37;go_wp2_with fail;refine(XZ x.hn x.hs ad cap _ lo hi Zd Za (hc.below (B:=w.1.size) (((Ap _ _).alloc A9 _).alloc Ze _) CD)).mono ?_;rintro e w1 ⟨ad',cap',rfl,CG,hlt,AU⟩;have PX:Below w.1.size w w1:=(((Ap _ _).alloc A9 _).alloc Ze _).trans (AU.mono Zd);have hz:w.1.size+1<w1.1.size:=by have:=AU.size;simp at this;omega
 obtain⟨A0,A1,F0,F1⟩:=Ue AU;obtain⟨p0,p1,p2,p3,p4,p5,p6⟩:=je A0;obtain⟨q0,q1,q2,q3,q4,q5,q6⟩:=je A1;simp only[Av]at CG hlt;have HO:=Ab CG;have HL:=Ab hlt;clear A0 A1 AU hc CG hlt;go_wp2;refine bodyPost_ret (v:=.agg (vO x ad' cap')) (by simp[results,results37,go_sem,q0,q1,q2,q3,q4,q5,q6]) rfl ⟨ad',cap',w.1.size+1+1,rfl,Za,λh0=>?_,?_,?_⟩;.simp only[Be];exact HL h0
 .refine BA.frP (P:=λq=>q=w.1.size\/q=w.1.size+1) HO ?_ (λh0=>⟨Za,HL h0⟩);iterate 8 refine AB.setCell ?_ Ze _
  exact AB.refl _ _
 .iterate 8 refine Bs ?_ Ze _
  exact PX
def CI{α:Type}(x:Nat->α)(l:List Nat):Nat->α:=λj=>x (l.getD j 0)
theorem K2{x:Nat->α}{i:Nat}(h:i<l.length):CI x (l++[k]) i=CI x l i:=by unfold CI;rw[IA,IA,I7 h]
theorem Yb{x:Nat->α}:CI x (l++[k]) l.length=x k:=by unfold CI;simp
theorem aG (x:Ch)(ad:OA)(cap:Nat)(w:World)(lo hi:Nat)(CD:hi<=w.1.size)(hl:(x.ob.hn:Int)<=8796093022208)(hc:AK w lo hi ad x.ob.hn x.ob.hs):Calls prog 52 #[.agg (vH x ad cap)] w λe w'=>∃ad' cap' b',e=.returned (.agg (vH x ad' cap'))/\w.1.size<=b'/\(x.ob.hn≠0->b'<w'.1.size)/\BA w' b' (b'+1) ad' x.ob.hn x.ob.hs/\Below w.1.size w w':=by
 have HC:=Ab hc;clear hc;go_enter func52,ntmps52;go_wp2_with fail;refine(Lr x.ob ad cap _ lo hi Zd hl (by exact HC.below ((Ak _ _).alloc Ze _) CD)).mono ?_;rintro e w2 ⟨ad',cap',b',rfl,hb',MV,ho',BT⟩;have Ds:Below w.1.size w w2:=((Ak _ _).alloc Ze _).trans (BT.mono Zd);have Fk:w.1.size+1<w2.1.size:=by have:=BT.size;simp at this;omega
 obtain⟨A0,A1,F0,F1⟩:=Ue BT;obtain⟨u0,u1,u2,u3,u4,u5,u6,u7,u8⟩:=WN A0;obtain⟨v0,v1,v2,v3,v4,v5,v6,v7,v8⟩:=WN A1;have HO:=Ab ho';have HL:=Ab MV;have HBB:w.1.size+2<=b':=by have:=hb';simp at this;omega
 clear ho' MV hb' A0 A1 BT;go_wp2;refine bodyPost_ret (v:=.agg (vH x ad' cap')) (by simp[results,results52,go_sem,v0,v1,v2,v3,v4,v5,v6,v7,v8]) rfl ⟨ad',cap',b',rfl,Za,λh0=>by simpa using HL.out h0,?_,?_⟩
 .refine HO.frP (P:=λq=>q=w.1.size\/q=w.1.size+1) ?_ (λh0=>⟨Za,HL h0⟩);iterate 16 refine AB.setCell (P:=λq=>q=w.1.size\/q=w.1.size+1) ?_ Ze _
  exact AB.refl _ _
 .iterate 16 refine Bs ?_ Ze _
  exact Ds
abbrev Ix (n:Nat):={k:Nat//k<n}
def I6{n:Nat}(l:List (Ix n)):List Nat:=l.map (·.1)
theorem L4{n:Nat}(l:List (Ix n))(k:Ix n):I6 (l++[k])=I6 l++[k.1]:=by simp[I6]
theorem Mm{n:Nat}(l:List (Ix n)):(I6 l).length=l.length:=by simp[I6]
theorem iD{off:Nat}{v:Value}(h:w.cell? ⟨b,off,none⟩=some v){o:Obj}(ho:w.heap[b]?=some o):o.isCells=true:=by unfold World.cell? at h;simp only[ho]at h;cases o<;>first|rfl|(simp at h)
theorem Tw (R:Nat)(v:Int)(w:World)(h0:0<=v)(h1:v<=1000000):Calls prog 77 #[.p R 0,.i v] w λe w'=>e=.returned (.pointer (some ⟨R,(v%200).toNat*9,none⟩))/\w'=w:=by go_enter func77,ntmps77;go_wp2;go_ret;exact⟨rfl,rfl⟩
theorem jA:zeroCells137.size=1800:=Zc
theorem H9.below{n f:Nat}{x:Nat->Ch}{A:Nat->Option Addr}{C:Nat->Nat}{B:Nat}(h:H9 w R n f x A C)(hb:Below B w w')(hB:R<B)(_hs:B<=w.1.size):H9 w' R n f x A C:=⟨⟨λj hj=>by obtain⟨u,hu⟩:=h.room.has j hj;exact⟨u,(hb.cell (p:=⟨R,j,none⟩) hB).trans hu⟩,λj=>(hb.frozen (p:=⟨R,j,none⟩) hB).trans (h.room.free j),Aa h.room.lt hb.size⟩,λi hi=>(h.d i hi).below hb hB⟩
theorem H9.step{wr:World}{f:Nat}{x:Nat->Ch}{A:Nat->Option Addr}{C:Nat->Nat}(h:H9 wr R k f x A C)(hk:k<200)(hb:Below wr.1.size wr w1):H9 (w1.setCells R ((f+1+k)%200*9) (PE (x k) (A k) (C k))).drew R (k+1) f x A C:=by
 have hg:=h.room.lt;have hR:=h.room.below hb hg;generalize vf:((PE (x k) (A k) (C k)):List Value)=vs;have MR:vs.length=9:=by rw[<-vf];rfl
 have Cs:=DA R vs ((f+1+k)%200*9) w1 (λj hj=>by obtain⟨u,hu⟩:=hR.has ((f+1+k)%200*9+j) Za;rw[hu];rfl);have Me:=hR.setCells (o:=(f+1+k)%200*9) vs Za;refine⟨⟨Me.has,Me.free,Me.lt⟩,λi hi=>?_⟩;by_cases e:i<k
 .have c:=(h.d i e).below hb hg;have c2:Dz (w1.setCells R ((f+1+k)%200*9) vs) R ((f+1+i)%200*9) (x i) (A i) (C i):=c.fr (λj hj=>by
   refine CQ R vs ((f+1+k)%200*9) w1 _ (λ_ _=>?_);have CF:(f+1+i)%200≠(f+1+k)%200:=Za;rcases Nat.lt_or_gt_of_ne CF with h1|h1;.exact AA (by show(f+1+i)%200*9+j<(f+1+k)%200*9;omega)
   .exact Az (by show(f+1+k)%200*9+vs.length<=(f+1+i)%200*9+j;omega));exact⟨c2.c0,c2.c1,c2.c2,c2.c3,c2.c4,c2.c5,c2.c6,c2.c7,c2.c8⟩
 .have:i=k:=Za;subst this;have f':=λj (hj:j<9)=>Cs j Za;have f0:=f' 0 Za;have f1:=f' 1 Za;have f2:=f' 2 Za;have f3:=f' 3 Za;have f4:=f' 4 Za;have f5:=f' 5 Za;have f6:=f' 6 Za;have f7:=f' 7 Za;have f8:=f' 8 Za;have c2:Dz (w1.setCells R ((f+1+i)%200*9) vs) R ((f+1+i)%200*9) (x i) (A i) (C i):=by subst vf;exact⟨f0,f1,f2,f3,f4,f5,f6,f7,f8⟩
  exact⟨c2.c0,c2.c1,c2.c2,c2.c3,c2.c4,c2.c5,c2.c6,c2.c7,c2.c8⟩
theorem aF (n:Nat)(x:Nat->Ch)(ad:OA)(g o cap:Nat)(A:Nat->Option Addr)(C:Nat->Nat)(f:Nat)(w:World)(hn:n<=200)(hf:f+n<=1000000)(hv:∀i,i<n->(x i).t=(f:Int)+1+i)(FO:0<n->ad=some ⟨g,o,none⟩)(hg:0<n->g<w.1.size)(hc:∀i,i<n->Dz w g (o+i*9) (x i) (A i) (C i)):Calls prog 50 #[.l ad n cap] w λe w'=>e=.returned (.p (w.1.size) 0)/\H9 w' w.1.size n f x A C/\Below w.1.size w w':=by
 have hs:=jA;go_enter func50,ntmps50;go_wp2;have R0:H9 (w.alloc (.cells zeroCells137 137)) w.1.size 0 f x A C:=⟨⟨λj hj=>⟨zeroCells137[j]'Za,by rw[Al];simp[hs,hj]⟩,λj=>by simp,Ze⟩,λi hi=>absurd hi (Ae _)⟩;clear hs;go_loopw[10](λi wr=>∃k:Nat,k<=n/\i=.i k/\Below w.1.size w wr/\w.1.size<wr.1.size/\H9 wr w.1.size k f x A C)(λi _=>n-(intOf i).toNat);case atStart=>exact⟨0,Ar _,rfl,Ak _ _,Ze,R0⟩
 case round=>
  clear R0;obtain⟨k,hk,rfl,hb,hz,hr⟩:=hrel;by_cases B7:k<n
  .obtain rfl:=FO Za;have uj:=hg Za;obtain⟨d0,d1,d2,d3,d4,d5,d6,d7,d8⟩:=(hc k B7).below hb uj;have hvk:=hv k B7;have Nw:((x k).t%200).toNat=(f+1+k)%200:=by rw[hvk];omega
   obtain⟨P,hP⟩:∃P,(f+1+k)%200=P:=⟨_,rfl⟩;have hP2:P<200:=Za;rw[hP]at Nw;have ju:0<=(x k).t:=Za;have hv1:(x k).t<=1000000:=Za;have HR:=Ab hr;have HC:=Ab hc;have HV:=Ab hv;have bS:IR wr w.1.size 1800:=hr.room;clear hr hc hv hvk;go_wp2;obtain⟨W1,Uv⟩:∃W1,wr.alloc (.cells (vH (x k) (A k) (C k)) 54)=W1:=⟨_,rfl⟩;have PX:Below wr.1.size wr W1:=by rw[<-Uv];exact Ak _ _
   have Ny:=bS.below PX bS.lt;obtain⟨_,q0⟩:=Ny.has (P*9) Za;obtain⟨_,q1⟩:=Ny.has (P*9+1) Za;obtain⟨_,q2⟩:=Ny.has (P*9+2) Za;obtain⟨_,q3⟩:=Ny.has (P*9+3) Za;obtain⟨_,q4⟩:=Ny.has (P*9+4) Za;obtain⟨_,q5⟩:=Ny.has (P*9+5) Za;obtain⟨_,q6⟩:=Ny.has (P*9+6) Za;obtain⟨_,q7⟩:=Ny.has (P*9+7) Za;obtain⟨_,q8⟩:=Ny.has (P*9+8) Za;have qf:=Ny.free;have b0:W1.cell? ⟨wr.1.size,0,none⟩=some (.i (x k).t):=by rw[<-Uv,Al];rfl
   have b1:W1.cell? ⟨wr.1.size,1,none⟩=some (.bool (x k).g):=by rw[<-Uv,Al];rfl
   have b2:W1.cell? ⟨wr.1.size,2,none⟩=some (.s (x k).ob.k):=by rw[<-Uv,Al];rfl
   have b3:W1.cell? ⟨wr.1.size,3,none⟩=some (.s (x k).ob.n):=by rw[<-Uv,Al];rfl
   have b4:W1.cell? ⟨wr.1.size,4,none⟩=some (.i (x k).ob.t):=by rw[<-Uv,Al];rfl
   have b5:W1.cell? ⟨wr.1.size,5,none⟩=some (.i (x k).ob.b):=by rw[<-Uv,Al];rfl
   have b6:W1.cell? ⟨wr.1.size,6,none⟩=some (.s (x k).ob.m):=by rw[<-Uv,Al];rfl
   have b7:W1.cell? ⟨wr.1.size,7,none⟩=some (.bool (x k).ob.e):=by rw[<-Uv,Al];rfl
   have b8:W1.cell? ⟨wr.1.size,8,none⟩=some (.slice (A k) (x k).ob.hn (C k)):=by rw[<-Uv,Al];rfl
   rw[Uv];have HW:=Ab PX;clear bS Ny Uv PX d0 d1 d2 d3 d4 d5 d6 d7 d8;go_region_with(go_at_call 77;go_must(refine(Tw _ (x k).t _ ju hv1).mono ?_;rw[Nw];rintro e w' ⟨rfl,rfl⟩));all_goals
    have HS:=Ab (show H9 (W1.setCells w.1.size (P*9) (PE (x k) (A k) (C k))).drew w.1.size (k+1) f x A C from hP▸HR.step Za HW);have HB:=Ab (show Below w.1.size w (W1.setCells w.1.size (P*9) (PE (x k) (A k) (C k))).drew from((hb.trans (HW.mono hb.size)).trans ((Gf w.1.size (PE (x k) (A k) (C k)) (P*9) W1).below A9 (hb.trans (HW.mono hb.size)).size)).trans ((Ap _ _).drew));have C7:w.1.size<W1.1.size:=Aa hz HW.size;clear q0 q1 q2 q3 q4 q5 q6 q7 q8 qf b0 b1 b2 b3 b4 b5 b6 b7 b8;go_wp2;go_roundw;case rel=>exact⟨k+1,Za,by go_num,HB,by simpa using C7,HS⟩
    case measure=>simp[intOf];omega
  .have rN:k=n:=Za;subst rN;go_wp2;go_ret;exact⟨rfl,hr,hb⟩
theorem ZP (F:Fence)(m:Nat)(h23:F.fn 51)(Np:F.round=none)(R:Nat)(ab up:Int)(w:World):CallsIn F m prog 51 #[.p R 0,.i ab,.i up] w λe w'=>e=.returned (.func (.func 78) #[] #[.p (w.1.size+1) 0,.p (w.1.size+1+1) 0,.p (w.1.size) 0])/\w'=((w.alloc (.cells #[.p R 0] 103)).alloc (.cells #[.i ab] 3)).alloc (.cells #[.i up] 3):=by refine callsIn_of_wp func51 rfl h23 ?_ Np;simp only[ntmps51,C4,CT,FU,Nat.reduceAdd,Nat.reduceSub,DB,DC,EA,DM,Dt,Cy];gi_wp2;go_ret;exact⟨rfl,rfl⟩
theorem Dz.frP{o:Nat}{x:Ch}{cap:Nat}{P:Nat->Prop}(h:Dz w b o x ad cap)(hf:AB P w w')(hb:b<w.1.size)(hp:¬P b):Dz w' b o x ad cap:=h.fr (λj _=>hf.cell (p:=⟨b,o+j,none⟩) hb hp)
def Ky (W W':World):Prop:=∀(q:Nat)(c:Array Value)(fr:Nat×Nat),W.heap[q]?=some (.cells c 99 fr)->W'.heap[q]?=some (.cells c 99 fr)
theorem Ky.trans{A C:World}(h:Ky A B)(k:Ky B C):Ky A C:=λq c fr e=>k q c fr (h q c fr e)
def KpN (Pk:Nat->Prop)(W W':World):Prop:=AB Pk W W'/\Ky W W'
theorem KpN.trans{Pk:Nat->Prop}{A C:World}(h:KpN Pk A B)(k:KpN Pk B C):KpN Pk A C:=⟨h.1.trans k.1,h.2.trans k.2⟩
def RgF (W:World)(n f:Nat)(x:Nat->Ch)(A:Nat->Option Addr)(C:Nat->Nat)(v:Value)(X:World):Prop:=∃R,v=.p R 0/\W.1.size<=R/\H9 X R n f x A C
structure BtC (W:World)(n f:Nat)(fr now:Int)(x:Nat->Ch)(A:Nat->Option Addr)(C:Nat->Nat)(R b:Nat)(X:World):Prop where
 r:W.1.size<=R/\R<b
 ring:H9 X R n f x A C
 c0:X.cell? ⟨b,0,none⟩=some (.p R 0)c1:X.cell? ⟨b+1,0,none⟩=some (.i fr)c2:X.cell? ⟨b+1+1,0,none⟩=some (.i now)lt:b+1+1<X.1.size
def BtF (W:World)(n f:Nat)(fr now:Int)(x:Nat->Ch)(A:Nat->Option Addr)(C:Nat->Nat)(v:Value)(X:World):Prop:=∃R b,v=.func (.func 78) #[] #[.p (b+1) 0,.p (b+1+1) 0,.p b 0]/\BtC W n f fr now x A C R b X
def FtF (W:World)(sw n f:Nat)(fr now:Int)(x:Nat->Ch)(A:Nat->Option Addr)(C:Nat->Nat)(v:Value)(X:World):Prop:=∃R b c,v=.func (.func 76) #[] #[.p c 0,.p (c+1) 0]/\BtC W n f fr now x A C R b X/\b+1+1<c/\X.cell? ⟨c,0,none⟩=some (.func (.func 78) #[] #[.p (b+1) 0,.p (b+1+1) 0,.p b 0])/\X.cell? ⟨c+1,0,none⟩=some (.func (.func 47) #[] #[.p sw 0])/\c+1<X.1.size
section
variable {W X Y:World} {n f:Nat} {fr now:Int} {x:Nat→Ch} {A:Nat→Option Addr} {C:Nat→Nat} {v:Value}
theorem RgF.below (h:RgF W n f x A C v X)(hb:Below X.1.size X Y):RgF W n f x A C v Y:=by obtain⟨R,e,z,hr⟩:=h;exact⟨R,e,z,hr.below hb hr.room.lt A9⟩
theorem BtC.below (h:BtC W n f fr now x A C R b X)(hb:Below X.1.size X Y):BtC W n f fr now x A C R b Y:=by have h1:=h.r;have h2:=h.lt;exact⟨h.r,h.ring.below hb h.ring.room.lt A9,(hb.cell (p:=⟨b,0,none⟩) Zj).trans h.c0,(hb.cell (p:=⟨b+1,0,none⟩) (by show b+1<_;omega)).trans h.c1,(hb.cell (p:=⟨b+1+1,0,none⟩) h2).trans h.c2,Aa h2 hb.size⟩
theorem BtF.below (h:BtF W n f fr now x A C v X)(hb:Below X.1.size X Y):BtF W n f fr now x A C v Y:=by obtain⟨R,b,e,hc⟩:=h;exact⟨R,b,e,hc.below hb⟩
theorem FtF.below{sw:Nat}(h:FtF W sw n f fr now x A C v X)(hb:Below X.1.size X Y):FtF W sw n f fr now x A C v Y:=by obtain⟨R,b,c,e,hc,z,c0,c1,z2⟩:=h;exact⟨R,b,c,e,hc.below hb,z,(hb.cell (p:=⟨c,0,none⟩) (by show c<_;omega)).trans c0,(hb.cell (p:=⟨c+1,0,none⟩) z2).trans c1,Aa z2 hb.size⟩
end
theorem QQ{X Y:World}{n:Nat}(h:BA X b (b+1) ad n s)(hz:n≠0->b<X.1.size)(hb:Below X.1.size X Y):BA Y b (b+1) ad n s:=h.frP (Aj (P:=λ_=>False) hb) (λh0=>⟨λe=>e,hz h0⟩)
end Go.Proofs.YtdknjmgdgnmhjaaGreat
