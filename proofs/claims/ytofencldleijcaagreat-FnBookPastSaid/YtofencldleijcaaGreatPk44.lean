import Derived.Test.YtofencldleijcaaGreatPk43
import Derived.Test.YtofencldleijcaaGreatPk42
import Derived.BigQuiet
import Derived.Deep.AppendSrc
import Derived.Deep.Cut
import Derived.Deep.CutRange
import Derived.Deep.Draws
import Derived.Deep.Light
import Derived.Deep.QuietTactic
import Derived.Deep.RegionWith
import Derived.Deep.Slices
import Derived.Deep.Strs
import Derived.Laws.CopyOwn
import Derived.Laws.IdiomCopy
import Derived.Laws.IdiomStrings
import Derived.Laws.Tables
import Derived.LoopIn
import Derived.LoopNIn
import Derived.Maps.AppendAt
import Derived.Maps.OwnIn
import Derived.Maps.OwnOps
import Derived.Maps.OwnSet
import Derived.Orders
import Derived.OrdersIn
import Derived.OwnWalkIn
import Derived.ProofKit
import Derived.RangeFuncBound
import Derived.RangeFuncCalls
import Derived.RangeFuncLeaves
import Derived.RangeFuncNested
import Derived.Shelf.Abstract
import Derived.Shelf.Lay
import Derived.Shelf.RegionOpen
import Derived.SizedLaws
import Derived.Sort.Grow
import Derived.Sort.Statements
import Derived.TacticsInMore
import Derived.WalkKit
import Derived.WalkLawsBesides
import Derived.WalkSpells
set_option maxRecDepth 100000
set_option maxHeartbeats 4000000
namespace Go.Proofs.YtofencldleijcaaGreat
open Go.RowKit Go.Maps Go.Shelf Go.Proofs.Tryz
attribute [local go_sem] Cv
theorem U7{w':World}{g n sz:Nat}{base:Nat}{e:TypeId}{xs:List Value}(ho:w'.ownsRow base e sz (.slice (some ⟨g,0,none⟩) n n) n xs):Fk w' g (n*sz):=by
 refine⟨λj hj=>?_,λj=>ho.frozenAt j,?_⟩
 .rw[ho.cellAt j hj];have:j<xs.length:=by rw[ho.1];omega
  exact⟨xs[j],by simp[this]⟩
 .rcases ho.2 with⟨h,_⟩|⟨g',cap,cur,h,_,hh,_⟩;.simp at h
  .simp only[Value.slice.injEq,Aj,Addr.mk.injEq,and_true,true_and]at h;obtain⟨rfl,rfl⟩:=h;exact(AS.1 hh).1
theorem Ox{P:Program}(w:World)(dT sT ty elem:TypeId)(b o dLen dCap:Nat)(a:Addr)(sLen sCap z:Nat)(cs:List Value)(hu:P.underlying dT=some (.slice elem))(hs:(P.info? elem).map (·.size)=some z)(hn:cs.length=Nat.min sLen dLen*z)(hsrc:∀j v,cs[j]?=some v->w.cell? (a.add j)=some v)(hc:∀j,j<cs.length->(w.cell? ⟨b,o+j,none⟩).isSome=true)(hf:∀j,j<cs.length->w.frozen? ⟨b,o+j,none⟩=false)(h1:∀v∈cs,v.oneCell'=true):(Builtin.copy_ #[dT,sT] ty #[.slice (some ⟨b,o,none⟩) dLen dCap,.slice (some a) sLen sCap]).run P w=.ok (goInt (Nat.min sLen dLen)) (w.setCells b o cs):=by have hl:=run_loadCells_list (P:=P) w a cs hsrc;have hst:=run_storeCells_cells (P:=P) b o cs 0 w (by simpa using hc) (by simpa using hf) h1;cases hq:P.info? elem with
 |none=>simp[hq]at hs
 |some i=>
  have hi:i.size=z:=by simpa[hq]using hs
  simp[Builtin.copy_,run_underlying hu,Builtin.lenOf,Builtin.firstCells,sizeOf,typeInfo,hq,hi,<-hn,hl,hst]
theorem RJ{w:World}{g m:Nat}(c:Nat->Value)(h:Fk w g m):AM (w.setCells g 0 (Ay m c)) g m c:=⟨by rw[Ey];exact h.lt,λj=>by rw[Fq];exact h.free j,λj hj=>by have:=DX g (Ay m c) 0 w (λj hj=>by rw[AK]at hj;obtain⟨u,hu⟩:=h.has j hj;rw[Bq,hu];rfl) j (by rw[AK];exact hj);rw[Bq,CF]at this;exact this⟩
theorem QK (n:Nat)(c:Nat->Value)(ad:OA)(cap:Nat)(w:World)(lo hi:Nat)(hhi:hi<=w.1.size)(hl:(n:Int)<=8796093022208)(hc:BR w lo hi ad (n*1) c):Calls prog 55 #[.slice ad n cap] w λe w'=>∃ad' cap',e=.returned (.slice ad' n cap')/\(0<n->ad'=some ⟨w.1.size,0,none⟩/\AM w' w.1.size (n*1) c)/\Below w.1.size w w':=by
 rcases BF n with h0|hpos;.subst h0;go_enter func55,ntmps55;go_wp2;go_ret;exact⟨_,_,rfl,λh=>absurd h (AJ _),Al _ _⟩
 .obtain⟨i0,hi0,hz0,hz1,hz2⟩:=info_parts Fp;obtain⟨b,off,rfl,hlo,hbh,_⟩:=hc.at_ 0 Zb;have hne:((n:Int)==0)=false:=Zd;have hsz:(prog.info? 9).map (·.size)=some 1:=by rw[hi0];simp[hz1]
  have HC:=Ag hc;clear hc;go_enter func55,ntmps55;go_wp2_with (first
   |(at_make;refine wpList_make_full _ rfl _ _ 59 rfl w.1.size 9 i0 _ 1 underlying59 hi0 hz0 hz1 .i64 .i64 _ _ n rfl rfl Zb Zb (by rw[hz2];omega) Zs Zb ?_;intro w1 hown1 hgrow1;have hr1:=Ag (U7 hown1);have hb1:Below w.1.size w w1:=(Al _ _).grown hgrow1 Bg Zc;clear hown1 hgrow1;have hrun:=Ox (P:=prog) w1 59 59 3 9 w.1.size 0 n n ⟨b,off,none⟩ n cap 1 (Ay (n*1) c) underlying59 hsz (by rw[AK];simp) (by intro j u hj;obtain⟨h1,rfl⟩:=Jn hj;obtain⟨b',off',e',_,e3,e4⟩:=HC.out.at_ j h1;cases e';rw[show((⟨b,off,none⟩:Addr).add j)=⟨b,off+j,none⟩by simp[Addr.add],hb1.cell (p:=⟨b,off+j,none⟩) Zq];exact e4) (by intro j hj;rw[AK]at hj;obtain⟨u,hu⟩:=hr1.out.has j hj;rw[Bq,hu];rfl) (by intro j _;exact hr1.out.free _) (by intro v hv;obtain⟨i,hi,rfl⟩:=CI.1 hv;exact HC.out.one i (by simpa using hi));have R1:=Ag (RJ c hr1.out);have R2:=Ag ((RL (lo:=w.1.size) (hi:=w.1.size+1) hb1).trans (Fv w.1.size (Ay (n*1) c) 0 w1));clear hr1 HC));go_ret;exact⟨_,_,rfl,λ_=>⟨rfl,by simpa using R1.out⟩,by simpa using R2.out.below Bg Bg⟩
theorem AM.strs{w:World}{g n:Nat}{s:Nat->ByteArray}(h:AM w g (n*1) (λj=>.string (s j))):Bd w g (g+1) (some ⟨g,0,none⟩) n s:=λi hi=>⟨g,0,rfl,Az _,Bj _,by rw[Bq];exact h.cell i Zb,by rw[Bq];exact h.free i⟩
theorem Rp (n:Nat)(s:Nat->ByteArray)(ad:OA)(cap:Nat)(w:World)(lo hi:Nat)(hhi:hi<=w.1.size)(hl:(n:Int)<=8796093022208)(hc:Ax w lo hi ad n s):Calls prog 55 #[.slice ad n cap] w λe w'=>∃ad' cap',e=.returned (.slice ad' n cap')/\Bd w' w.1.size (w.1.size+1) ad' n s/\(n≠0->w.1.size<w'.1.size)/\Below w.1.size w w':=(QK n _ ad cap w lo hi hhi hl hc.src).mono λe w' ⟨ad',cap',h1,h2,h3⟩=>by
  refine⟨ad',cap',h1,?_,λh0=>(h2 Zb).2.lt,h3⟩;by_cases h0:n=0;.subst h0;exact Bd.zero
  .obtain⟨rfl,r⟩:=h2 Zb;exact r.strs
theorem Vc{w w1:World}{c0 c1:Array Value}{t0 t1:TypeId}(hb:Below ((w.alloc (.cells c0 t0)).alloc (.cells c1 t1)).1.size ((w.alloc (.cells c0 t0)).alloc (.cells c1 t1)) w1):(∀i,w1.cell? ⟨w.1.size,i,none⟩=c0[i]?)/\(∀i,w1.cell? ⟨w.1.size+1,i,none⟩=c1[i]?)/\(∀i,w1.frozen? ⟨w.1.size,i,none⟩=false)/\(∀i,w1.frozen? ⟨w.1.size+1,i,none⟩=false):=by
 refine⟨λi=>?_,λi=>?_,λi=>?_,λi=>?_⟩;.rw[hb.cell (p:=⟨w.1.size,i,none⟩) Zd,Aq _ _ _ Zc,Ao]
 .rw[hb.cell (p:=⟨w.1.size+1,i,none⟩) Zc];have:=Ao (w.alloc (.cells c0 t0)) c1 t1 i;rwa[Au]at this
 .rw[hb.frozen (p:=⟨w.1.size,i,none⟩) Zd];simp
 .rw[hb.frozen (p:=⟨w.1.size+1,i,none⟩) Zc];simp
theorem KQ (x:Ob)(ad:OA)(cap:Nat)(w:World)(lo hi:Nat)(hhi:hi<=w.1.size)(hl:(x.hn:Int)<=8796093022208)(hc:Ax w lo hi ad x.hn x.hs):Calls prog 24 #[.agg #[.string x.kind,.string x.name,.int .i64 x.ver,.int .i64 x.born,.string x.text,.bool x.ending,.slice ad x.hn cap]] w λe w'=>∃ad' cap' b,e=.returned (.agg #[.string x.kind,.string x.name,.int .i64 x.ver,.int .i64 x.born,.string x.text,.bool x.ending,.slice ad' x.hn cap'])/\w.1.size<=b/\(x.hn≠0->b<w'.1.size)/\Bd w' b (b+1) ad' x.hn x.hs/\Below w.1.size w w':=by
 go_enter func24,ntmps24;go_wp2_with fail;refine(Rp x.hn x.hs ad cap _ lo hi Zd Zb (hc.below (B:=w.1.size) (((Al _ _).alloc Bg _).alloc Zc _) hhi)).mono ?_;rintro e w1 ⟨ad',cap',rfl,hown,hlt,hb1⟩;have hbW:Below w.1.size w w1:=(((Al _ _).alloc Bg _).alloc Zc _).trans (hb1.mono Zd);have hz:w.1.size+1<w1.1.size:=by have:=hb1.size;simp at this;omega
 obtain⟨A0,A1,F0,F1⟩:=Vc hb1;have p0:=A0 0;have p1:=A0 1;have p2:=A0 2;have p3:=A0 3;have p4:=A0 4;have p5:=A0 5;have p6:=A0 6;have q0:=A1 0;have q1:=A1 1;have q2:=A1 2;have q3:=A1 3;have q4:=A1 4;have q5:=A1 5;have q6:=A1 6;simp only[Ac,Ab,Aa]at p0 p1 p2 p3 p4 p5 p6 q0 q1 q2 q3 q4 q5 q6;simp only[Au]at hown hlt;have HO:=Ag hown;have HL:=Ag hlt;clear A0 A1 hb1 hc hown hlt;go_wp2;refine bodyPost_ret (v:=.agg #[.string x.kind,.string x.name,.int .i64 x.ver,.int .i64 x.born,.string x.text,.bool x.ending,.slice ad' x.hn cap']) (by simp[results,results24,go_sem,q0,q1,q2,q3,q4,q5,q6]) rfl ⟨ad',cap',w.1.size+1+1,rfl,Zb,λh0=>?_,?_,?_⟩;.simp only[Bi];exact HL.out h0
 .refine Bd.frP (P:=λq=>q=w.1.size\/q=w.1.size+1) HO.out ?_ (λh0=>⟨Zb,HL.out h0⟩);iterate 8 refine AB.setCell ?_ Zc _
  exact AB.refl _ _
 .iterate 8 refine BC ?_ Zc _
  exact hbW
def dR (s p:ByteArray):Bool:=decide (p.size<=s.size)&&((s.extract 0 p.size).toList==p.toList)
theorem M8 (s p:ByteArray)(w:World)(_hs:(s.size:Int)<=140737488355328)(_hp:(p.size:Int)<=140737488355328):Calls prog 110 #[.string s,.string p] w λe w'=>e=.returned (.bool (dR s p))/\w'=w:=by
 by_cases h:(p.size:Int)<=s.size;.go_enter func110,ntmps110;go_wp2;go_ret;exact⟨Av (by unfold dR;rw[decide_eq_true Zb];rfl),rfl⟩
 .go_enter func110,ntmps110;go_wp2;go_ret;exact⟨Av (by unfold dR;rw[decide_eq_false Zb];rfl),rfl⟩
theorem Oy (s p:ByteArray)(w:World)(hs:(s.size:Int)<=140737488355328)(hp:(p.size:Int)<=140737488355328):Calls prog 97 #[.string s,.string p] w λe w'=>e=.returned (.bool (dR s p))/\w'=w:=by go_enter func97,ntmps97;go_wp2_with (go_at_call 110;refine(M8 _ _ _ hs hp).mono ?_;rintro e w1 ⟨rfl,rfl⟩);go_ret;exact⟨rfl,rfl⟩
def Md (o:Ob)(ki pr:ByteArray):Bool:=(ki.toList==[]||o.kind.toList==ki.toList)&&dR o.name pr
theorem Wk{P:Prop}(h:P:=by go_enter func63,ntmps63;go_wp2_with (go_at_call 97;refine(Oy _ _ _ hs hp).mono ?_;rintro e w1 ⟨rfl,rfl⟩);go_ret;exact⟨Av HE.out.symm,Am _ _⟩):P:=h
theorem Rl (o:Ob)(ad:OA)(cap:Nat)(ki pr:ByteArray)(w:World)(hs:(o.name.size:Int)<=140737488355328)(hp:(pr.size:Int)<=140737488355328):Calls prog 63 #[.agg #[.string o.kind,.string o.name,.int .i64 o.ver,.int .i64 o.born,.string o.text,.bool o.ending,.slice ad o.hn cap],.string ki,.string pr] w λe w'=>e=.returned (.bool (Md o ki pr))/\Below w.1.size w w':=by cases h1:(ki.toList==[])with
 |true=>have HE:=Ag (show Md o ki pr=dR o.name pr by unfold Md;rw[h1];rfl);exact Wk
 |false=>cases h2:(o.kind.toList==ki.toList)with
  |true=>have HE:=Ag (show Md o ki pr=dR o.name pr by unfold Md;rw[h1,h2];rfl);exact Wk
  |false=>have HE:=Ag (show Md o ki pr=false by unfold Md;rw[h1,h2];rfl);go_enter func63,ntmps63;go_wp2;go_ret;exact⟨Av HE.out.symm,Am _ _⟩
def Ms (p:Nat->Bool):Nat->List Nat
 |0=>[]
 |k+1=>if p k then Ms p k++[k]else Ms p k
theorem TO{p:Nat->Bool}{k:Nat}(h:p k=true):Ms p (k+1)=Ms p k++[k]:=by rw[Ms,if_pos h]
theorem gF{p:Nat->Bool}{k:Nat}(h:p k=false):Ms p (k+1)=Ms p k:=by rw[Ms,if_neg (by rw[h];decide)]
theorem Ul (p:Nat->Bool):∀k,(Ms p k).length<=k
 |0=>Az _
 |k+1=>by have:=Ul p k;unfold Ms;split<;>simp<;>omega
def DR{α:Type}(x:Nat->α)(l:List Nat):Nat->α:=λj=>x (l.getD j 0)
theorem J1{α:Type}{x:Nat->α}{l:List Nat}{k i:Nat}(h:i<l.length):DR x (l++[k]) i=DR x l i:=by unfold DR;rw[A6,A6,GD h]
theorem QY{α:Type}{x:Nat->α}{l:List Nat}{k:Nat}:DR x (l++[k]) l.length=x k:=by unfold DR;simp
structure JG (w:World)(base:Nat)(v:Value)(k:Nat)(x:Nat->Ob)(A:Nat->Option Addr)(C hb:Nat->Nat):Prop where
 row:∃c,w.ownsRow base 61 7 v k (Ay (k*7) c)/\∀i,i<k->K0 c i (x i) (A i) (C i)hold:∀i,i<k->Bd w (hb i) (hb i+1) (A i) (x i).hn (x i).hs
 hlt:∀i,i<k->(x i).hn≠0->base<=hb i/\hb i<w.1.size
 ne:∀i,i<k->(x i).hn≠0->v.ownBlock≠some (hb i)inj:∀i j,i<k->j<k->(x i).hn≠0->(x j).hn≠0->hb i=hb j->i=j
theorem JG.fr{w:World}{base:Nat}{v:Value}{k:Nat}{x:Nat->Ob}{A:Nat->Option Addr}{C hb:Nat->Nat}{w':World}{P:Nat->Prop}(h:JG w base v k x A C hb)(hf:AB P w w')(hp:∀q,base<=q->q<w.1.size->¬P q):JG w' base v k x A C hb:=⟨by obtain⟨c,r,e⟩:=h.row;exact⟨c,Fm r hf (λg hg=>hp g (r.lt g hg).1 (r.lt g hg).2),e⟩,λi hi=>(h.hold i hi).frP hf (λh0=>⟨hp _ (h.hlt i hi h0).1 (h.hlt i hi h0).2,(h.hlt i hi h0).2⟩),λi hi h0=>⟨(h.hlt i hi h0).1,Ad (h.hlt i hi h0).2 hf.size⟩,h.ne,h.inj⟩
theorem JG.grow{w:World}{base:Nat}{v:Value}{k:Nat}{x:Nat->Ob}{A:Nat->Option Addr}{C hb:Nat->Nat}{w':World}(h:JG w base v k x A C hb)(hf:Below w.1.size w w'):JG w' base v k x A C hb:=h.fr (Ap (P:=λ_=>False) hf) (λ_ _ _ h=>h)
theorem JG.app{w:World}{base:Nat}{v:Value}{k:Nat}{x:Nat->Ob}{A:Nat->Option Addr}{C hb:Nat->Nat}{w':World}{v':Value}{c:Nat->Value}{ad':OA}{cap' b':Nat}(h:JG w base v k x A C hb)(hat:∀i,i<k->K0 c i (x i) (A i) (C i))(ho:w'.ownsRow base 61 7 v' (k+1) (Ay (k*7) c++[.string (x k).kind,.string (x k).name,.int .i64 (x k).ver,.int .i64 (x k).born,.string (x k).text,.bool (x k).ending,.slice ad' (x k).hn cap']))(hg:w.grownBy w' v.ownBlock)(hw:v'.ownBlock=v.ownBlock\/v'.ownBlock=some w.1.size)(hs:Bd w b' (b'+1) ad' (x k).hn (x k).hs)(hl:(x k).hn≠0->base<=b'/\b'<w.1.size)(hv:(x k).hn≠0->v.ownBlock≠some b')(hd:∀i,i<k->(x i).hn≠0->(x k).hn≠0->hb i≠b'):JG w' base v' (k+1) x (Eh A k ad') (Eh C k cap') (Eh hb k b'):=by
 have F:=Bz hg;refine⟨⟨OF c (k*7) [.string (x k).kind,.string (x k).name,.int .i64 (x k).ver,.int .i64 (x k).born,.string (x k).text,.bool (x k).ending,.slice ad' (x k).hn cap'],?_,λi hi=>?_⟩,λi hi=>?_,λi hi h0=>?_,λi hi h0=>?_,λi j hi hj h0 h1 e=>?_⟩
 .rw[E8]at ho;have e:k*7+([.string (x k).kind,.string (x k).name,.int .i64 (x k).ver,.int .i64 (x k).born,.string (x k).text,.bool (x k).ending,.slice ad' (x k).hn cap']:List Value).length=(k+1)*7:=by show k*7+7=_;omega
  rw[e]at ho;exact ho
 .by_cases e:i=k;.subst e;rw[Bw,Bw];exact⟨Kd _ _ _,Cx _ _ _ 1,Cx _ _ _ 2,Cx _ _ _ 3,Cx _ _ _ 4,Cx _ _ _ 5,Cx _ _ _ 6⟩
  .rw[BH _ _ e,BH _ _ e];obtain⟨a0,a1,a2,a3,a4,a5,a6⟩:=hat i Zb;exact⟨(if_pos Zb).trans a0,(if_pos Zb).trans a1,(if_pos Zb).trans a2,(if_pos Zb).trans a3,(if_pos Zb).trans a4,(if_pos Zb).trans a5,(if_pos Zb).trans a6⟩
 .by_cases e:i=k;.subst e;rw[Bw,Bw];exact hs.frP F (λh0=>⟨hv h0,(hl h0).2⟩)
  .rw[BH _ _ e,BH _ _ e];exact(h.hold i Zb).frP F (λh0=>⟨h.ne i Zb h0,(h.hlt i Zb h0).2⟩)
 .by_cases e:i=k;.subst e;rw[Bw];exact⟨(hl h0).1,Ad (hl h0).2 hg.size⟩
  .rw[BH _ _ e];exact⟨(h.hlt i Zb h0).1,Ad (h.hlt i Zb h0).2 hg.size⟩
 .by_cases e:i=k
  .subst e;rw[Bw];rcases hw with hw|hw;.rw[hw];exact hv h0
   .rw[hw];intro q;cases q;exact AJ _ (hl h0).2
  .rw[BH _ _ e];rcases hw with hw|hw;.rw[hw];exact h.ne i Zb h0
   .rw[hw];intro q;have h2:=(h.hlt i Zb h0).2;injection q with q;omega
 .by_cases e1:i=k
  .by_cases e2:j=k;.rw[e1,e2]
   .subst e1;rw[Bw,BH _ _ e2]at e;exact absurd e.symm (hd j Zb h1 h0)
  .by_cases e2:j=k;.subst e2;rw[Bw,BH _ _ e1]at e;exact absurd e (hd i Zb h0 h1)
   .rw[BH _ _ e1,BH _ _ e2]at e;exact h.inj i j Zb Zb h0 h1 e
theorem JG.done{w:World}{base:Nat}{v:Value}{k:Nat}{x:Nat->Ob}{A:Nat->Option Addr}{C hb:Nat->Nat}(h:JG w base v k x A C hb):∃ad cap g,v=.slice ad k cap/\D5 w ad g k x A C hb/\∀q,Gy g k (λi=>(x i).hn) hb q->base<=q:=by
 obtain⟨c,r,hat⟩:=h.row;rcases r.2 with⟨rfl,rfl⟩|⟨g,cap,cur,rfl,h1,_⟩;.exact⟨none,0,0,rfl,⟨λh0=>absurd h0 (AJ _),λh0=>absurd h0 (AJ _),λi hi=>absurd hi (Ai _),λi hi=>absurd hi (Ai _),⟨λi hi=>absurd hi (Ai _),λi j hi=>absurd hi (Ai _)⟩⟩,λq hq=>by
   rcases hq with⟨h0,_⟩|⟨i,hi,_⟩;.exact absurd h0 (AJ _)
   .exact absurd hi (Ai _)⟩
 .refine⟨_,cap,g,rfl,⟨λ_=>rfl,λ_=>⟨c,Fj r,hat⟩,h.hold,λi hi h0=>(h.hlt i hi h0).2,⟨λi hi h0 e=>h.ne i hi h0 (by rw[e];rfl),h.inj⟩⟩,λq hq=>?_⟩;rcases hq with⟨h0,rfl⟩|⟨i,hi,h0,rfl⟩;.exact h1
  .exact(h.hlt i hi h0).1
theorem JG.congr{w:World}{base:Nat}{v:Value}{k:Nat}{x y:Nat->Ob}{A:Nat->Option Addr}{C hb:Nat->Nat}(h:JG w base v k x A C hb)(e:∀i,i<k->x i=y i):JG w base v k y A C hb:=⟨by obtain⟨c,r,q⟩:=h.row;exact⟨c,r,λi hi=>e i hi▸q i hi⟩,λi hi=>e i hi▸h.hold i hi,λi hi h0=>h.hlt i hi (by rw[e i hi];exact h0),λi hi h0=>h.ne i hi (by rw[e i hi];exact h0),λi j hi hj h0 h1=>h.inj i j hi hj (by rw[e i hi];exact h0) (by rw[e j hj];exact h1)⟩
theorem JG.push{w:World}{base:Nat}{v:Value}{l:List Nat}{k:Nat}{x:Nat->Ob}{A:Nat->Option Addr}{C hb:Nat->Nat}{w':World}{v':Value}{c:Nat->Value}{ad':OA}{cap' b':Nat}(h:JG w base v l.length (DR x l) A C hb)(hat:∀i,i<l.length->K0 c i (DR x l i) (A i) (C i))(ho:w'.ownsRow base 61 7 v' (l.length+1) (Ay (l.length*7) c++[.string (x k).kind,.string (x k).name,.int .i64 (x k).ver,.int .i64 (x k).born,.string (x k).text,.bool (x k).ending,.slice ad' (x k).hn cap']))(hg:w.grownBy w' v.ownBlock)(hw:v'.ownBlock=v.ownBlock\/v'.ownBlock=some w.1.size)(hs:Bd w b' (b'+1) ad' (x k).hn (x k).hs)(hl:(x k).hn≠0->base<=b'/\b'<w.1.size)(hv:(x k).hn≠0->v.ownBlock≠some b')(hd:∀i,i<l.length->(DR x l i).hn≠0->(x k).hn≠0->hb i≠b'):JG w' base v' (l++[k]).length (DR x (l++[k])) (Eh A l.length ad') (Eh C l.length cap') (Eh hb l.length b'):=by have e:(l++[k]).length=l.length+1:=Zc;rw[e];have hp:DR x (l++[k]) l.length=x k:=QY;refine JG.app (x:=DR x (l++[k])) (h.congr (λi hi=>(J1 hi).symm)) (c:=c) (λi hi=>by rw[J1 hi];exact hat i hi) (by rw[hp];exact ho) hg hw (by rw[hp];exact hs) (by rw[hp];exact hl) (by rw[hp];exact hv) (λi hi=>by rw[hp,J1 hi];exact hd i hi)
def Ke (y:Ob)(ad:OA)(c:Nat):Array Value:=#[.string y.kind,.string y.name,.int .i64 y.ver,.int .i64 y.born,.string y.text,.bool y.ending,.slice ad y.hn c]
theorem Nm{W:World}{B:Nat}{y:Ob}{ad:OA}{c:Nat}(h:DS W B (Ke y ad c)):W.cell? ⟨B,0,none⟩=some (.string y.kind)/\W.cell? ⟨B,1,none⟩=some (.string y.name)/\W.cell? ⟨B,2,none⟩=some (.int .i64 y.ver)/\W.cell? ⟨B,3,none⟩=some (.int .i64 y.born)/\W.cell? ⟨B,4,none⟩=some (.string y.text)/\W.cell? ⟨B,5,none⟩=some (.bool y.ending)/\W.cell? ⟨B,6,none⟩=some (.slice ad y.hn c):=⟨h 0,h 1,h 2,h 3,h 4,h 5,h 6⟩
theorem JR{w w':World}(h:Below w.1.size w w'):w.grownBy w' none:=⟨h.os,h.tape,h.output,h.size,λk hk _=>h.block k hk⟩
structure Ng (w:World)(hi:Nat)(ad:OA)(n:Nat)(x:Nat->Ob)(A:Nat->Option Addr)(C:Nat->Nat):Prop where
 cells:∀i,i<n->∃b off,ad=some ⟨b,off,none⟩/\b<hi/\DT w b (off+i*7) (x i) (A i) (C i)holds:∀i,i<n->Ax w 0 hi (A i) (x i).hn (x i).hs
theorem Bs.choose{w:World}{lo hi:Nat}{ad:OA}{n:Nat}{x:Nat->Ob}(h:Bs w lo hi ad n x):∃A C,Ng w hi ad n x A C:=by
 have h1:∀i,∃q:Option Addr×Nat,i<n->∃b off,ad=some ⟨b,off,none⟩/\b<hi/\DT w b (off+i*7) (x i) q.1 q.2/\Ax w 0 hi q.1 (x i).hn (x i).hs:=λi=>by
  by_cases hi':i<n;.obtain⟨b,off,ah,ch,e1,_,e3,e4,e5⟩:=h i hi';exact⟨(ah,ch),λ_=>⟨b,off,e1,e3,e4,λj hj=>by obtain⟨b2,o2,f1,_,f3,f4⟩:=e5 j hj;exact⟨b2,o2,f1,Aw _,f3,f4⟩⟩⟩
  .exact⟨(none,0),λh=>absurd h hi'⟩
 obtain⟨q,hq⟩:=MF.1 h1;exact⟨λi=>(q i).1,λi=>(q i).2,⟨λi hi'=>by obtain⟨b,off,e1,e2,e3,_⟩:=hq i hi';exact⟨b,off,e1,e2,e3⟩,λi hi'=>by obtain⟨b,off,_,_,_,e⟩:=hq i hi';exact e⟩⟩
theorem Ng.frP{w w':World}{hi:Nat}{ad:OA}{n:Nat}{x:Nat->Ob}{A:Nat->Option Addr}{C:Nat->Nat}{P:Nat->Prop}(h:Ng w hi ad n x A C)(hf:AB P w w')(hp:∀q,q<hi->¬P q)(hhi:hi<=w.1.size):Ng w' hi ad n x A C:=by have hb:Below hi w w':=hf.below hp hhi;exact⟨λi hi'=>by obtain⟨b,off,e1,e2,e3⟩:=h.cells i hi';exact⟨b,off,e1,e2,e3.below hb e2⟩,λi hi'=>(h.holds i hi').below hb Bg⟩
abbrev Ix (n:Nat):={k:Nat//k<n}
def Hz (x:Ob)(a:OA)(c:Nat):Value:=.agg #[.string x.kind,.string x.name,.int .i64 x.ver,.int .i64 x.born,.string x.text,.bool x.ending,.slice a x.hn c]
def Ev{n:Nat}(l:List (Ix n)):List Nat:=l.map (·.1)
theorem EN{n:Nat}(l:List (Ix n))(k:Ix n):Ev (l++[k])=Ev l++[k.1]:=by simp[Ev]
theorem IJ{n:Nat}(l:List (Ix n)):(Ev l).length=l.length:=by simp[Ev]
theorem QF (F:Fence)(m:Nat)(h51:F.fn 62)(h52:F.fn 63)(hro:F.round=none)(hm:1<=m)(l Bo Bk Bp hi:Nat)(Pk:Nat->Prop)(n:Nat)(x:Nat->Ob)(ad:OA)(cap:Nat)(A:Nat->Option Addr)(C:Nat->Nat)(ki pr:ByteArray)(hl:(n:Int)<=1048576)(J Jx:List (Ix n)->World->Prop)(hIs:∀(i:Nat)(w:World),i<n->CallsIn F (m-1) prog 63 #[Hz (x i) (A i) (C i),.string ki,.string pr] w λe w'=>e=.returned (.bool (Md (x i) ki pr))/\Below w.1.size w w')(W:World)(hJ:AbidesFrom W.1.size J)(hY:∀pre x' W1,J pre W1->pre.length<n->YieldAt F (m-1) prog l #[Hz (x x'.1) (A x'.1) (C x'.1)] W1 λe W'=>(e=.returned (.bool true)/\J (pre++[x']) W'/\AB Pk W1 W')\/(e=.returned (.bool false)/\Jx (pre++[x']) W'))(hBo:W.cell? ⟨Bo,0,none⟩=some (.slice ad n cap))(hBk:W.cell? ⟨Bk,0,none⟩=some (.string ki))(hBp:W.cell? ⟨Bp,0,none⟩=some (.string pr))(hk:Bk<W.1.size/\¬Pk Bk)(hp:Bp<W.1.size/\¬Pk Bp)(hhi:hi<=W.1.size)(hPk:∀q,q<hi->¬Pk q)(hs:Ng W hi ad n x A C)(h0:J [] W):CallsIn F m prog 62 #[.func (.yield l) #[] #[],.pointer (some ⟨Bo,0,none⟩),.pointer (some ⟨Bk,0,none⟩),.pointer (some ⟨Bp,0,none⟩)] W λe W'=>(∃v,e=.returned v)/\((∃ys,Ev ys=Ms (λi=>Md (x i) ki pr) n/\J ys W')\/(∃pre,True/\Jx pre W')):=by
 refine callsIn_of_wp func62 rfl h51 ?_ hro;simp only[ntmps62,BU,Cj,Dz,Nat.reduceAdd,Nat.reduceSub,Cn,Co,CL,Cw,Cu,B4];have HS:=Ag hs;clear hs;gi_wp2;gi_loopw[9](λi wr=>∃(k:Nat)(pre:List (Ix n)),k<=n/\i=.int .i64 k/\Ev pre=Ms (λi=>Md (x i) ki pr) k/\J pre wr/\AB Pk W wr)(λi _=>n-(intOf i).toNat);case atStart=>exact⟨0,[],Aw _,rfl,rfl,h0,AB.refl _ _⟩
 case round=>
  obtain⟨k,pre,hkn,rfl,hpre,hJs,hf⟩:=hrel;have hck:wr.cell? ⟨Bk,0,none⟩=some (.string ki):=(hf.cell (p:=⟨Bk,0,none⟩) hk.1 hk.2).trans hBk;have hcp:wr.cell? ⟨Bp,0,none⟩=some (.string pr):=(hf.cell (p:=⟨Bp,0,none⟩) hp.1 hp.2).trans hBp;by_cases hlt:k<n
  .obtain⟨b,off,rfl,hbh,hcx⟩:=HS.out.cells k hlt;have hbw:Below hi W wr:=hf.below hPk hhi;obtain⟨e0,e1,e2,e3,e4,e5,e6⟩:=hcx.below hbw hbh;have hI:=hIs k;unfold Hz at hI;have zr:=hf.size;have hck':∀o,(wr.alloc o).cell? ⟨Bk,0,none⟩=some (.string ki):=λo=>(Aq _ _ _ (by have:=hk.1;simp;omega)).trans hck;have hcp':∀o,(wr.alloc o).cell? ⟨Bp,0,none⟩=some (.string pr):=λo=>(Aq _ _ _ (by have:=hp.1;simp;omega)).trans hcp;have HY:=Ag hY;clear hY hIs;have hpl:pre.length<n:=by have h1:=IJ pre;rw[hpre]at h1;have h2:=Ul (λi=>Md (x i) ki pr) k;omega
   cases hlk:Md (x k) ki pr with
   |false=>
    simp only[hlk]at hI;have HN:=Ag (show Ev pre=Ms (λi=>Md (x i) ki pr) (k+1)from hpre.trans (gF hlk).symm);clear HY;gi_wp2_with (gi_at_call 63;go_must(refine(hI _ hlt).mono ?_;rintro e w1 ⟨rfl,hb1⟩;have hbw1:Below wr.1.size wr w1:=(An wr _).trans (hb1.mono Zc);clear e0 e1 e2 e3 e4 e5 e6));refine⟨λ_ h=>KW,?_⟩;gi_wp2;go_roundw;case rel=>exact⟨k+1,pre,Zb,by go_num,HN.out,hJ pre wr w1 none hJs (JR hbw1) (λr e=>by cases e),hf.trans (Ap hbw1)⟩
    case measure=>simp[intOf];omega
   |true=>
    simp only[hlk]at hI;have HN:=Ag (show Ev (pre++[⟨k,hlt⟩])=Ms (λi=>Md (x i) ki pr) (k+1)from(EN _ _).trans ((congrArg (.++[k]) hpre).trans (TO hlk).symm));gi_wp2_with (gi_at_call 63;go_must(refine(hI _ hlt).mono ?_;rintro e w1 ⟨rfl,hb1⟩;have hbw1:Below wr.1.size wr w1:=(An wr _).trans (hb1.mono Zc);clear e0 e1 e2 e3 e4 e5 e6;obtain⟨q0,q1,q2,q3,q4,q5,q6⟩:=Nm ((DJ wr (Ke (x k) (A k) (C k)) 61).below hb1 Zc);obtain⟨fn,tmps,assign,body,hy,hR⟩:=HY.out pre ⟨k,hlt⟩ w1 (hJ pre wr w1 none hJs (JR hbw1) (λr e=>by cases e)) hpl;unfold Hz at hy;dsimp only at hy));refine hR.mono ?_;rintro e W3 (⟨rfl,hJ3,hk3⟩|⟨rfl,hJx3⟩)
    .gi_wp2;go_roundw;case rel=>exact⟨k+1,pre++[⟨k,hlt⟩],Zb,by go_num,HN.out,hJ3,(hf.trans (Ap hbw1)).trans hk3⟩
     case measure=>simp[intOf];omega
    .gi_wp2;refine bodyPost_ret (results_none rfl _ _ _) rfl ?_;exact⟨⟨_,rfl⟩,.inr ⟨pre++[⟨k,hlt⟩],trivial,hJx3⟩⟩
  .obtain rfl:k=n:=Zb;gi_wp2;go_end0;exact⟨⟨_,rfl⟩,.inl ⟨_,hpre,hJs⟩⟩
attribute [local go_sem] Cv
theorem Qz{F:Fence}{n:Nat}{P:Program}{ops:Array Oper}{Q:Exit->Act->World->Prop}{i:Nat}{K K':Act->World->Prop}{a:Act}{w:World}(h:∀a w,K a w->K' a w)(hh:wpOpIn F n P ops Q i K a w):wpOpIn F n P ops Q i K' a w:=by
 unfold wpOpIn at*;split at hh;.exact h _ _ hh
 .split at hh;.next hw=>rw[if_pos hw];exact Oper.wpIn_mono h hh
  .next hw=>rw[if_neg hw];exact⟨hh.1,h _ _ hh.2⟩
theorem L9{F:Fence}{n:Nat}{P:Program}{md:Region.Mode}{ops:Array Oper}{Q:Exit->Act->World->Prop}(Inv:Array Bool->Act->World->Prop)(hsz:∀l a w,Inv l a w->l.size=ops.size)(hdone:∀l a w,Inv l a w->Region.ready md ops l=[]->Q .normal a w)(hstep:∀l a w i,Inv l a w->i∈Region.ready md ops l->wpOpIn F n P ops Q i (Inv (l.setIfInBounds i true)) a w):∀fuel l a w,Inv l a w->VA l ops.size<=fuel->wpAnyIn F n P md ops Q fuel l a w
 |0,l,a,w,hI,hc=>by
  have hr:Region.ready md ops l=[]:=by
   rw[List.eq_nil_iff_forall_not_mem];intro i hi;have h1:=(BL.1 hi);have h2:i<ops.size:=by simpa using h1.1
   have h3:=h1.2;rw[Nd Zb i h2]at h3;simp at h3
  exact⟨hr,hdone l a w hI hr⟩
 |fuel+1,l,a,w,hI,hc=>by
  refine⟨λhr=>hdone l a w hI hr,λi hi=>?_⟩;have h1:=(BL.1 hi);have h2:i<ops.size:=by simpa using h1.1
  have h3:l.getD i true=false:=by have h4:=h1.2;simp only[Ak]at h4;simpa using h4.1
  have hs:=hsz l a w hI;have h5:=S3 (l:=l) (i:=i) Zb h3 ops.size h2;exact Qz (λa' w' hI'=>L9 Inv hsz hdone hstep fuel _ a' w' hI' Zb) (hstep l a w i hI hi)
theorem Dq{F:Fence}{n:Nat}{P:Program}{id:Nat}{ops:Array Oper}{Q:Exit->Act->World->Prop}{a:Act}{w:World}(hm:P.follows .mixedOrders=true)(Inv:Array Bool->Act->World->Prop)(h0:Inv (Array.replicate ops.size false) a w.drew)(hsz:∀l a w,Inv l a w->l.size=ops.size)(hdone:∀l a w,Inv l a w->Region.ready .any ops l=[]->Q .normal a w)(hstep:∀l a w i,Inv l a w->i∈Region.ready .any ops l->wpOpIn F n P ops Q i (Inv (l.setIfInBounds i true)) a w):(Code.region id ops true).wpIn F n P Q a w:=wpIn_region_any hm (L9 Inv hsz hdone hstep _ _ _ _ h0 (SA _ _))
theorem AX{F:Fence}{n:Nat}{P:Program}{ops:Array Oper}{Q:Exit->Act->World->Prop}{i:Nat}{K:Act->World->Prop}{a:Act}{w:World}{o:Oper}(ho:ops[i]?=some o)(hg:o.guard=none)(h:o.wpIn F n P a w K Q):wpOpIn F n P ops Q i K a w:=by unfold wpOpIn;rw[ho];simp only[Region.wanted,hg,if_true];exact h
theorem FO{F:Fence}{nF:Nat}{P:Program}{o:Oper}{a:Act}{w:World}{K:Act->World->Prop}{Q:Exit->Act->World->Prop}(s x:Operand)(t:TypeId)(ho:o.op=Op.call {callee:=Callee.builtin Builtin.append,args:=#[s,x],argTypes:=#[t,t]})(base:Nat)(e:TypeId)(i:TypeInfo)(z:Value)(size bytes:Nat)(ht:P.underlying t=some (.slice e))(hi:P.info? e=some i)(hz:i.zero=some z)(hsize:i.size=size)(hby:i.bytes=bytes)(hzs:z.cells.size=size)(hsz:0<size)(v:Value)(n:Nat)(xs:List Value)(hs:a.eval s=v)(hown:w.ownsRow base e size v n xs)(ad:Addr)(m c:Nat)(news:List Value)(hx:a.eval x=.slice (some ad) m c)(hl:news.length=m*size)(hnews:∀j u,news[j]?=some u->w.cell? (ad.add j)=some u)(h1:∀u∈news,u.oneCell'=true)(h63:n+m<=maxLen)(hbytes:(n+m)*bytes<=140737488355328)(hbase:base<=w.1.size)(hK:∀v' w',w'.ownsRow base e size v' (n+m) (xs++news)->w.grownBy w' v.ownBlock->(v'.ownBlock=v.ownBlock\/v'.ownBlock=some w.1.size)->K (a.put o.dst v') w'):o.wpIn F nF P a w K Q:=by obtain⟨v',w',hr,h2,h3,h4,h5⟩:=run_append_own_at (P:=P) w base t o.type e i z size bytes ht hi hz hsize hby hzs hsz v n xs hown ad m c news hl hnews h1 h63 hbytes hbase;unfold Oper.wpIn;refine⟨by simp[Oper.about,ho,resolve,Target.leads],?_⟩;rw[Oper.semAt_plain F _ _ (by rw[ho];intro c hc';cases hc')];simp[execOp,ho,resolve,invoke,builtin,hs,hx,hr,Result.andThen];exact hK v' w' h2 h3 h5
theorem CB{w w':World}(h:Below w.1.size w w'):KeepsOthers w w':=⟨h.size,λk _o hk _=>(h.block k (AS.1 hk).1).trans hk⟩
theorem UF{w:World}{b off:Nat}{v:Value}(h:w.cell? ⟨b,off,none⟩=some v){o:Obj}(ho:w.heap[b]?=some o):o.isCells=true:=by unfold World.cell? at h;simp only[ho]at h;cases o<;>first|rfl|(simp at h)
theorem JG.turn{w:World}{base:Nat}{v:Value}{k:Nat}{x:Nat->Ob}{A:Nat->Option Addr}{C hb:Nat->Nat}{w':World}{row:Option Nat}(h:JG w base v k x A C hb)(hg:w.grownBy w' row)(hr:∀r,row=some r->∃o:Obj,w.heap[r]?=some o/\o.isCells=false):JG w' base v k x A C hb:=by
 have F:AB (λq=>row=some q) w w':=Bz hg;have hn:∀(q:Nat),(∃off u,w.cell? ⟨q,off,none⟩=some u)->¬row=some q:=λq hq e=>by obtain⟨off,u,hu⟩:=hq;obtain⟨o,ho,hc⟩:=hr q e;rw[UF hu ho]at hc;cases hc
 refine⟨?_,λi hi=>(h.hold i hi).frP F (λh0=>⟨hn _ ?_,(h.hlt i hi h0).2⟩),λi hi h0=>⟨(h.hlt i hi h0).1,Ad (h.hlt i hi h0).2 hg.size⟩,h.ne,h.inj⟩
 .obtain⟨c,r,e⟩:=h.row;refine⟨c,Fm r F (λg hgb e2=>?_),e⟩;rcases r.2 with⟨h1,_⟩|⟨g',cap,cur,h1,h2,h3,h4⟩;.rw[h1]at hgb;cases hgb
  .rw[h1]at hgb;cases hgb;obtain⟨o,ho,hc⟩:=hr _ e2;rw[h3]at ho;cases ho;cases hc
 .obtain⟨b,off,e1,e2,e3,e4,_⟩:=h.hold i hi 0 Zb;have:b=hb i:=Zb;subst this;exact⟨_,_,e4⟩
theorem O3 (R:Nat)(v:Int)(w:World)(h0:0<=v)(h1:v<=1000000):Calls prog 53 #[.pointer (some ⟨R,0,none⟩),.int .i64 v] w λe w'=>e=.returned (.pointer (some ⟨R,(v%200).toNat*9,none⟩))/\w'=w:=by go_enter func53,ntmps53;go_wp2;go_ret;exact⟨rfl,rfl⟩
theorem UL:zeroCells102.size=1800:=Ze
theorem DQ.below{w w':World}{R n f:Nat}{x:Nat->Ch}{A:Nat->Option Addr}{C:Nat->Nat}{B:Nat}(h:DQ w R n f x A C)(hb:Below B w w')(hB:R<B)(_hs:B<=w.1.size):DQ w' R n f x A C:=⟨⟨λj hj=>by obtain⟨u,hu⟩:=h.room.has j hj;exact⟨u,(hb.cell (p:=⟨R,j,none⟩) hB).trans hu⟩,λj=>(hb.frozen (p:=⟨R,j,none⟩) hB).trans (h.room.free j),Ad h.room.lt hb.size⟩,λi hi=>(h.at_ i hi).below hb hB⟩
theorem DQ.step{wr w1:World}{R k f:Nat}{x:Nat->Ch}{A:Nat->Option Addr}{C:Nat->Nat}(h:DQ wr R k f x A C)(hk:k<200)(hb:Below wr.1.size wr w1):DQ (w1.setCells R ((f+1+k)%200*9) [.int .i64 (x k).ver,.bool (x k).gone,.string (x k).ob.kind,.string (x k).ob.name,.int .i64 (x k).ob.ver,.int .i64 (x k).ob.born,.string (x k).ob.text,.bool (x k).ob.ending,.slice (A k) (x k).ob.hn (C k)]).drew R (k+1) f x A C:=by
 have hg:=h.room.lt;have hR:=h.room.below hb hg;generalize hvs:([.int .i64 (x k).ver,.bool (x k).gone,.string (x k).ob.kind,.string (x k).ob.name,.int .i64 (x k).ob.ver,.int .i64 (x k).ob.born,.string (x k).ob.text,.bool (x k).ob.ending,.slice (A k) (x k).ob.hn (C k)]:List Value)=vs;have hlen:vs.length=9:=by rw[<-hvs];rfl
 have hin:=DX R vs ((f+1+k)%200*9) w1 (λj hj=>by obtain⟨u,hu⟩:=hR.has ((f+1+k)%200*9+j) Zb;rw[hu];rfl);have hr2:=hR.setCells (o:=(f+1+k)%200*9) vs Zb;refine⟨⟨hr2.has,hr2.free,hr2.lt⟩,λi hi=>?_⟩;by_cases e:i<k
 .have c:=(h.at_ i e).below hb hg;have c2:Do (w1.setCells R ((f+1+k)%200*9) vs) R ((f+1+i)%200*9) (x i) (A i) (C i):=c.fr (λj hj=>by
   refine ET R vs ((f+1+k)%200*9) w1 _ (λ_ _=>?_);have hne:(f+1+i)%200≠(f+1+k)%200:=Zb;rcases Nat.lt_or_gt_of_ne hne with h1|h1;.exact AO (by show(f+1+i)%200*9+j<(f+1+k)%200*9;omega)
   .exact AD (by show(f+1+k)%200*9+vs.length<=(f+1+i)%200*9+j;omega));exact⟨c2.c0,c2.c1,c2.c2,c2.c3,c2.c4,c2.c5,c2.c6,c2.c7,c2.c8⟩
 .have:i=k:=Zb;subst this;have f':=λj (hj:j<9)=>hin j Zb;have f0:=f' 0 Zb;have f1:=f' 1 Zb;have f2:=f' 2 Zb;have f3:=f' 3 Zb;have f4:=f' 4 Zb;have f5:=f' 5 Zb;have f6:=f' 6 Zb;have f7:=f' 7 Zb;have f8:=f' 8 Zb;have c2:Do (w1.setCells R ((f+1+i)%200*9) vs) R ((f+1+i)%200*9) (x i) (A i) (C i):=by subst hvs;exact⟨f0,f1,f2,f3,f4,f5,f6,f7,f8⟩
  exact⟨c2.c0,c2.c1,c2.c2,c2.c3,c2.c4,c2.c5,c2.c6,c2.c7,c2.c8⟩
theorem SK (n:Nat)(x:Nat->Ch)(ad:OA)(g o cap:Nat)(A:Nat->Option Addr)(C:Nat->Nat)(f:Nat)(w:World)(hn:n<=200)(hf:f+n<=1000000)(hv:∀i,i<n->(x i).ver=(f:Int)+1+i)(had:0<n->ad=some ⟨g,o,none⟩)(hg:0<n->g<w.1.size)(hc:∀i,i<n->Do w g (o+i*9) (x i) (A i) (C i)):Calls prog 19 #[.slice ad n cap] w λe w'=>e=.returned (.pointer (some ⟨w.1.size,0,none⟩))/\DQ w' w.1.size n f x A C/\Below w.1.size w w':=by
 have hs:=UL;go_enter func19,ntmps19;go_wp2;have R0:DQ (w.alloc (.cells zeroCells102 102)) w.1.size 0 f x A C:=⟨⟨λj hj=>⟨zeroCells102[j]'Zb,by rw[Ao];simp[hs,hj]⟩,λj=>by simp,Zc⟩,λi hi=>absurd hi (Ai _)⟩;clear hs;go_loopw[10](λi wr=>∃k:Nat,k<=n/\i=.int .i64 k/\Below w.1.size w wr/\w.1.size<wr.1.size/\DQ wr w.1.size k f x A C)(λi _=>n-(intOf i).toNat);case atStart=>exact⟨0,Aw _,rfl,An _ _,Zc,R0⟩
 case round=>
  clear R0;obtain⟨k,hk,rfl,hb,hz,hr⟩:=hrel;by_cases hkn:k<n
  .obtain rfl:=had Zb;have hgw:=hg Zb;obtain⟨d0,d1,d2,d3,d4,d5,d6,d7,d8⟩:=(hc k hkn).below hb hgw;have hvk:=hv k hkn;have hver:((x k).ver%200).toNat=(f+1+k)%200:=by rw[hvk];omega
   obtain⟨P,hP⟩:∃P,(f+1+k)%200=P:=⟨_,rfl⟩;have hP2:P<200:=Zb;rw[hP]at hver;have hv0:0<=(x k).ver:=Zb;have hv1:(x k).ver<=1000000:=Zb;have HR:=Ag hr;have HC:=Ag hc;have HV:=Ag hv;have hrm:Fk wr w.1.size 1800:=hr.room;clear hr hc hv hvk;go_wp2;obtain⟨W1,hW1⟩:∃W1,wr.alloc (.cells #[.int .i64 (x k).ver,.bool (x k).gone,.string (x k).ob.kind,.string (x k).ob.name,.int .i64 (x k).ob.ver,.int .i64 (x k).ob.born,.string (x k).ob.text,.bool (x k).ob.ending,.slice (A k) (x k).ob.hn (C k)] 63)=W1:=⟨_,rfl⟩;have hbW:Below wr.1.size wr W1:=by rw[<-hW1];exact An _ _
   have hrm1:=hrm.below hbW hrm.lt;obtain⟨_,q0⟩:=hrm1.has (P*9) Zb;obtain⟨_,q1⟩:=hrm1.has (P*9+1) Zb;obtain⟨_,q2⟩:=hrm1.has (P*9+2) Zb;obtain⟨_,q3⟩:=hrm1.has (P*9+3) Zb;obtain⟨_,q4⟩:=hrm1.has (P*9+4) Zb;obtain⟨_,q5⟩:=hrm1.has (P*9+5) Zb;obtain⟨_,q6⟩:=hrm1.has (P*9+6) Zb;obtain⟨_,q7⟩:=hrm1.has (P*9+7) Zb;obtain⟨_,q8⟩:=hrm1.has (P*9+8) Zb;have qf:=hrm1.free;have b0:W1.cell? ⟨wr.1.size,0,none⟩=some (.int .i64 (x k).ver):=by rw[<-hW1,Ao];rfl
   have b1:W1.cell? ⟨wr.1.size,1,none⟩=some (.bool (x k).gone):=by rw[<-hW1,Ao];rfl
   have b2:W1.cell? ⟨wr.1.size,2,none⟩=some (.string (x k).ob.kind):=by rw[<-hW1,Ao];rfl
   have b3:W1.cell? ⟨wr.1.size,3,none⟩=some (.string (x k).ob.name):=by rw[<-hW1,Ao];rfl
   have b4:W1.cell? ⟨wr.1.size,4,none⟩=some (.int .i64 (x k).ob.ver):=by rw[<-hW1,Ao];rfl
   have b5:W1.cell? ⟨wr.1.size,5,none⟩=some (.int .i64 (x k).ob.born):=by rw[<-hW1,Ao];rfl
   have b6:W1.cell? ⟨wr.1.size,6,none⟩=some (.string (x k).ob.text):=by rw[<-hW1,Ao];rfl
   have b7:W1.cell? ⟨wr.1.size,7,none⟩=some (.bool (x k).ob.ending):=by rw[<-hW1,Ao];rfl
   have b8:W1.cell? ⟨wr.1.size,8,none⟩=some (.slice (A k) (x k).ob.hn (C k)):=by rw[<-hW1,Ao];rfl
   rw[hW1];have HW:=Ag hbW;clear hrm hrm1 hW1 hbW d0 d1 d2 d3 d4 d5 d6 d7 d8;go_region_with(go_at_call 53;go_must(refine(O3 _ (x k).ver _ hv0 hv1).mono ?_;rw[hver];rintro e w' ⟨rfl,rfl⟩));all_goals
    have HS:=Ag (show DQ (W1.setCells w.1.size (P*9) [.int .i64 (x k).ver,.bool (x k).gone,.string (x k).ob.kind,.string (x k).ob.name,.int .i64 (x k).ob.ver,.int .i64 (x k).ob.born,.string (x k).ob.text,.bool (x k).ob.ending,.slice (A k) (x k).ob.hn (C k)]).drew w.1.size (k+1) f x A C from hP▸HR.out.step Zb HW.out);have HB:=Ag (show Below w.1.size w (W1.setCells w.1.size (P*9) [.int .i64 (x k).ver,.bool (x k).gone,.string (x k).ob.kind,.string (x k).ob.name,.int .i64 (x k).ob.ver,.int .i64 (x k).ob.born,.string (x k).ob.text,.bool (x k).ob.ending,.slice (A k) (x k).ob.hn (C k)]).drew from((hb.trans (HW.out.mono hb.size)).trans ((Fv w.1.size [.int .i64 (x k).ver,.bool (x k).gone,.string (x k).ob.kind,.string (x k).ob.name,.int .i64 (x k).ob.ver,.int .i64 (x k).ob.born,.string (x k).ob.text,.bool (x k).ob.ending,.slice (A k) (x k).ob.hn (C k)] (P*9) W1).below Bg (hb.trans (HW.out.mono hb.size)).size)).trans ((Al _ _).drew));have hz1:w.1.size<W1.1.size:=Ad hz HW.out.size;clear q0 q1 q2 q3 q4 q5 q6 q7 q8 qf b0 b1 b2 b3 b4 b5 b6 b7 b8;go_wp2;go_roundw;case rel=>exact⟨k+1,Zb,by go_num,HB.out,by simpa using hz1,HS.out⟩
    case measure=>simp[intOf];omega
  .have hke:k=n:=Zb;subst hke;go_wp2;go_ret;exact⟨rfl,hr,hb⟩
def MW (x:Ch)(a:OA)(c:Nat):Value:=.agg #[.int .i64 x.ver,.bool x.gone,.string x.ob.kind,.string x.ob.name,.int .i64 x.ob.ver,.int .i64 x.ob.born,.string x.ob.text,.bool x.ob.ending,.slice a x.ob.hn c]
theorem Td{α:Type}{x:Nat->α}{n i:Nat}(h:i<n):DR x (List.range n) i=x i:=by unfold DR;simp[h]
theorem KB (F:Fence)(m:Nat)(h23:F.fn 21)(hro:F.round=none)(R:Nat)(ab up:Int)(w:World):CallsIn F m prog 21 #[.pointer (some ⟨R,0,none⟩),.int .i64 ab,.int .i64 up] w λe w'=>e=.returned (.func (.func 54) #[] #[.pointer (some ⟨w.1.size+1,0,none⟩),.pointer (some ⟨w.1.size+1+1,0,none⟩),.pointer (some ⟨w.1.size,0,none⟩)])/\w'=((w.alloc (.cells #[.pointer (some ⟨R,0,none⟩)] 51)).alloc (.cells #[.int .i64 ab] 3)).alloc (.cells #[.int .i64 up] 3):=by refine callsIn_of_wp func21 rfl h23 ?_ hro;simp only[ntmps21,BU,Cj,Dz,Nat.reduceAdd,Nat.reduceSub,Cn,Co,CL,Cw,Cu,B4];gi_wp2;go_ret;exact⟨rfl,rfl⟩
theorem Q1 (F:Fence)(m:Nat)(h58:F.fn 54)(h56:F.fn 53)(hro:F.round=none)(hm:1<=m)(l Ba Bu Br n₀ R:Nat)(f k n:Nat)(x:Nat->Ch)(A:Nat->Option Addr)(C:Nat->Nat)(hkn:k<=n)(hfn:f+n<=1000000)(J Jx:List (Ix (n-k))->World->Prop)(hPl:∀(v:Int)(w:World),0<=v->v<=1000000->CallsIn F (m-1) prog 53 #[.pointer (some ⟨R,0,none⟩),.int .i64 v] w λe w'=>e=.returned (.pointer (some ⟨R,(v%200).toNat*9,none⟩))/\w'=w)(W:World)(hY:∀pre x' W1,J pre W1->pre.length<n-k->YieldAt F (m-1) prog l #[MW (x (k+x'.1)) (A (k+x'.1)) (C (k+x'.1))] W1 λe W'=>(e=.returned (.bool true)/\J (pre++[x']) W'/\Below n₀ W1 W')\/(e=.returned (.bool false)/\Jx (pre++[x']) W'))(hBa:W.cell? ⟨Ba,0,none⟩=some (.int .i64 ((f+k:Nat):Int)))(hBu:W.cell? ⟨Bu,0,none⟩=some (.int .i64 ((f+n:Nat):Int)))(hBr:W.cell? ⟨Br,0,none⟩=some (.pointer (some ⟨R,0,none⟩)))(hu:Bu<n₀)(hr:Br<n₀)(hR:R<n₀)(_hn₀:n₀<=W.1.size)(hs:DQ W R n f x A C)(h0:J [] W):CallsIn F m prog 54 #[.func (.yield l) #[] #[],.pointer (some ⟨Ba,0,none⟩),.pointer (some ⟨Bu,0,none⟩),.pointer (some ⟨Br,0,none⟩)] W λe W'=>(∃v,e=.returned v)/\((∃ys,Ev ys=List.range (n-k)/\J ys W')\/(∃pre,True/\Jx pre W')):=by
 refine callsIn_of_wp func54 rfl h58 ?_ hro;simp only[ntmps54,BU,Cj,Dz,Nat.reduceAdd,Nat.reduceSub,Cn,Co,CL,Cw,Cu,B4];have HS:=Ag hs;clear hs;gi_wp2;gi_loopw[5](λi wr=>∃(j:Nat)(pre:List (Ix (n-k))),j<=n-k/\i=.int .i64 ((f+k+1+j:Nat):Int)/\Ev pre=List.range j/\J pre wr/\Below n₀ W wr)(λi _=>f+n+1-(intOf i).toNat);case atStart=>exact⟨0,[],Aw _,by go_num,rfl,h0,Al _ _⟩
 case round=>
  obtain⟨j,pre,hjn,rfl,hpre,hJs,hf⟩:=hrel;have hcu:wr.cell? ⟨Bu,0,none⟩=some (.int .i64 ((f+n:Nat):Int)):=(hf.cell (p:=⟨Bu,0,none⟩) hu).trans hBu;have hcr:wr.cell? ⟨Br,0,none⟩=some (.pointer (some ⟨R,0,none⟩)):=(hf.cell (p:=⟨Br,0,none⟩) hr).trans hBr;by_cases hlt:j<n-k
  .have hpl:pre.length<n-k:=by have h1:=IJ pre;rw[hpre]at h1;simp at h1;omega
   obtain⟨P,hP⟩:∃P,(f+1+(k+j))%200=P:=⟨_,rfl⟩;have hc:=(HS.out.at_ (k+j) Zb).below hf hR;rw[hP]at hc;obtain⟨e0,e1,e2,e3,e4,e5,e6,e7,e8⟩:=hc;have hver:((((f+k+1+j:Nat):Int))%200).toNat=P:=Zb;have hI:=hPl ((f+k+1+j:Nat):Int);rw[hver]at hI;have HN:=Ag (show Ev (pre++[⟨j,hlt⟩])=List.range (j+1)by rw[EN,hpre,Fy]);obtain⟨fn,tmps,assign,body,hy,hRR⟩:=hY pre ⟨j,hlt⟩ wr hJs hpl;unfold MW at hy;dsimp only at hy;clear hP;gi_wp2_with (gi_at_call 53;go_must(refine(hI _ Zb Zb).mono ?_;rintro e w1 ⟨rfl,rfl⟩));refine hRR.mono ?_;rintro e W3 (⟨rfl,hJ3,hk3⟩|⟨rfl,hJx3⟩)
   .gi_wp2;go_roundw;case rel=>exact⟨j+1,pre++[⟨j,hlt⟩],Zb,by go_num,HN.out,hJ3,hf.trans hk3⟩
    case measure=>simp[intOf];omega
   .gi_wp2;refine bodyPost_ret (results_none rfl _ _ _) rfl ?_;exact⟨⟨_,rfl⟩,.inr ⟨pre++[⟨j,hlt⟩],trivial,hJx3⟩⟩
  .obtain rfl:j=n-k:=Zb;gi_wp2;go_end0;exact⟨⟨_,rfl⟩,.inl ⟨_,hpre,hJs⟩⟩
theorem LS (w:World):(Instr.makeMap 53 none).run prog w=.ok (.map (some w.1.size)) (w.alloc (.map #[] 0)):=by simp[Instr.makeMap,Result.andThen]
theorem LI{h g:Nat->Ch}{a b:ByteArray}:∀{n:Nat},(∀i,i<n->h i=g i)->CM h a b n=CM g a b n
 |0,_=>rfl
 |n+1,e=>by have e1:=e n (Bj _);have e2:=LI (a:=a) (b:=b) (λi hi=>e i (Nat.lt_succ_of_lt hi));unfold CM;rw[e1,e2]
def HZ (h:Nat->Ch)(n:Nat)(D:DataW Unit):Prop:=∀a b:ByteArray,a.size<=maxLen->b.size<=maxLen->(∀i,CM h a b n=some i->Maps.has D (kl a b)=true/\D.atKey (kl a b) (.lit (.int .i64 0))=.lit (.int .i64 (h i).ver))/\(CM h a b n=none->Maps.has D (kl a b)=false)
theorem QL (h:Nat->Ch):HZ h 0 (.map []):=λa b _ _=>⟨λi h=>KW,λ_=>rfl⟩
theorem HZ.congr{h g:Nat->Ch}{n:Nat}{D:DataW Unit}(ht:HZ h n D)(e:∀i,i<n->h i=g i):HZ g n D:=λa b ha hb=>by obtain⟨h1,h2⟩:=ht a b ha hb;rw[LI e]at h2;refine⟨λi hi=>?_,h2⟩;have h3:=h1 i ((LI e).trans hi);rw[e i (DZ hi).1]at h3;exact h3
theorem UT{h:Nat->Ch}{n:Nat}{D:DataW Unit}(ht:HZ h n D)(hD:IsMap D)(hk:(h n).ob.kind.size<=maxLen)(hn:(h n).ob.name.size<=maxLen):HZ h (n+1) (D.put (kl (h n).ob.kind (h n).ob.name) (.lit (.int .i64 (h n).ver))):=λa b ha hb=>by
 by_cases hh:(h n).ob.kind=a/\(h n).ob.name=b
 .obtain⟨rfl,rfl⟩:=hh;refine⟨λj hj=>?_,λhj=>?_⟩
  .rw[Fb ⟨rfl,rfl⟩]at hj;cases hj;exact⟨has_put_same hD (Kx _ _ hk hn) _,atKey_put_same hD (Kx _ _ hk hn) _ _⟩
  .rw[Fb ⟨rfl,rfl⟩]at hj;cases hj
 .have hne:kl a b≠kl (h n).ob.kind (h n).ob.name:=TU ha hb hk hn (λe=>hh ⟨e.1.symm,e.2.symm⟩);rw[has_put_other hne,atKey_put_other hne,ES hh];exact ht a b ha hb
theorem Sz{x:Nat->Ch}{L:List Nat}{k:Nat}{D:DataW Unit}(ht:HZ (DR x L) L.length D)(hD:IsMap D)(hk:(x k).ob.kind.size<=maxLen)(hn:(x k).ob.name.size<=maxLen):HZ (DR x (L++[k])) (L++[k]).length (D.put (kl (x k).ob.kind (x k).ob.name) (.lit (.int .i64 (x k).ver))):=by have e:(L++[k]).length=L.length+1:=Zc;rw[e];have h1:HZ (DR x (L++[k])) L.length D:=ht.congr (λi hi=>(J1 hi).symm);have e2:DR x (L++[k]) L.length=x k:=QY;have h2:=UT h1 hD (by rw[e2];exact hk) (by rw[e2];exact hn);rw[e2]at h2;exact h2
theorem JV{F:Fence}{nF:Nat}{P:Program}{o:Oper}{a:Act}{w:World}{K:Act->World->Prop}{Q:Exit->Act->World->Prop}{H:Type}(m x v:Operand)(t:TypeId)(hop:o.op=Op.mapUpdate t m x v)(k e:TypeId)(K':Keyed P k)(ht:P.underlying t=some (.map k e))(R:Value->Option (DataW H×List MemPlace))(b n:Nat)(D:DataW H)(hm:a.eval m=.map (some b))(hown:w.ownsMap P k R b n D)(hn:n<maxLen)(key val:Value)(kl:Lit)(hx:a.eval x=key)(hv:a.eval v=val)(KM:keyOf P k key=some kl)(d:DataW H)(ps:List MemPlace)(hval:R val=some (d,ps))(hK:∀w',w'.ownsMap P k R b (n+1) (D.put kl d)->w.grownBy w' (some b)->K (a.put o.dst undef) w'):o.wpIn F nF P a w K Q:=by obtain⟨w',hrun,r1,r2⟩:=hown.update K' ht hn KM hval;unfold Oper.wpIn;refine⟨by simp[Oper.about,hop],?_⟩;rw[Oper.semAt_plain F _ _ (by rw[hop];intro c hc';cases hc')];simp[execOp,hop,hm,hx,hv,hrun,Result.andThen];exact hK w' r1 r2
theorem BA{l:Array Bool}{i j:Nat}(h:l.getD i false=true->l.getD j false=true)(hj:l.getD j false=false):l.getD i false=false:=by cases hi:l.getD i false with
 |false=>rfl
 |true=>rw[h hi]at hj;cases hj
theorem AW{W W':World}{B:Nat}{t:TypeId}{v:Value}(h:Boxed W B t v)(hb:Below W.1.size W W'):Boxed W' B t v:=(hb.block B h.lt).trans h
def QR (mk:Value->Value->Value->Value->Value->Value->Array Value)(W:World)(v0 v1 v2 v3 v4 v5:Value)(Fin:World->Prop)(l:Array Bool)(a:Act)(w':World):Prop:=∃(t0 t1 t2 t3 t4 t5:Value),a=⟨mk t0 t1 t2 t3 t4 t5,[]⟩/\l.size=7/\(l.getD 2 false=true->l.getD 1 false=true)/\(l.getD 3 false=true->l.getD 2 false=true)/\(l.getD 5 false=true->l.getD 4 false=true)/\(l.getD 6 false=true->l.getD 0 false=true)/\(l.getD 6 false=true->l.getD 3 false=true)/\(l.getD 6 false=true->l.getD 5 false=true)/\(l.getD 0 false=true->t0=v0)/\(l.getD 1 false=true->t1=v1)/\(l.getD 2 false=true->t2=v2)/\(l.getD 3 false=true->t3=v3)/\(l.getD 4 false=true->t4=v4)/\(l.getD 5 false=true->t5=v5)/\(l.getD 6 false=false->Below W.1.size W w')/\(l.getD 6 false=true->Fin w')
attribute [local go_sem] Cv
theorem Qo (F:Fence)(m:Nat)(hcv:∀(k f:Nat)(args:Array Value)(w:World)(R:Ending->World->Prop),Calls prog f args w R->CallsIn F k prog f args w R)(h28:F.fn 20)(h31:F.fn 23)(h63:F.fn 54)(h62:F.fn 53)(hro:F.round=none)(hm:4<=m)(hPl:∀(q:Nat)(R:Nat)(v:Int)(w:World),0<=v->v<=1000000->CallsIn F q prog 53 #[.pointer (some ⟨R,0,none⟩),.int .i64 v] w λe w'=>e=.returned (.pointer (some ⟨R,(v%200).toNat*9,none⟩))/\w'=w)(Ba Bu Br R:Nat)(f k n:Nat)(x:Nat->Ch)(A:Nat->Option Addr)(C:Nat->Nat)(hkn:k<=n)(hn2:n<=200)(hfn:f+n<=1000000)(hfit:∀i,i<n->DD (x i).ob)(hwfs:∀i,i<n->(Lit.int .i64 (x i).ver).wf=true)(w:World)(hBa:w.cell? ⟨Ba,0,none⟩=some (.int .i64 ((f+k:Nat):Int)))(hBu:w.cell? ⟨Bu,0,none⟩=some (.int .i64 ((f+n:Nat):Int)))(hBr:w.cell? ⟨Br,0,none⟩=some (.pointer (some ⟨R,0,none⟩)))(ha:Ba<w.1.size)(hu:Bu<w.1.size)(hr:Br<w.1.size)(hR:R<w.1.size)(hs:DQ w R n f x A C):CallsIn F m prog 20 #[.func (.func 54) #[] #[.pointer (some ⟨Ba,0,none⟩),.pointer (some ⟨Bu,0,none⟩),.pointer (some ⟨Br,0,none⟩)]] w λe w'=>∃D:DataW Unit,e=.returned (.map (some w.1.size))/\w'.ownsMap prog 65 (plainElem prog 3) w.1.size (n-k) D/\HZ (λi=>x (k+i)) (n-k) D/\Below w.1.size w w':=by
 have h1:1<=m:=Zb;have hmm:=LS w;refine callsIn_of_wp_marks func20 rfl h28 ?_ hro;simp only[ntmps20,BU,Cj,Dz,Nat.reduceAdd,Nat.reduceSub,Cn,Co,CL,Cw,Cu,B4];gi_wp2;clear hmm;obtain⟨W0,hW0⟩:∃W0,(w.alloc (.map #[] 0)).alloc (.cells #[.map (some w.1.size)] 53)=W0:=⟨_,rfl⟩;have hsz0:W0.1.size=w.1.size+2:=by rw[<-hW0];simp
 have hB0:Below w.1.size w W0:=by rw[<-hW0];exact(An _ _).alloc Zc _
 have bM:Boxed W0 (w.1.size+1) 53 (.map (some w.1.size)):=by have h:=Boxed.new (w.alloc (.map #[] 0)) 53 (.map (some w.1.size));rw[hW0]at h;simpa using h
 have oM:W0.ownsMap prog 65 (plainElem prog 3) w.1.size 0 (.map []:DataW Unit):=by rw[<-hW0];exact(H8 _ _ _ _).alloc _
 rw[hW0];clear hW0;refine wpIn_rangeFunc_ownH (α:=Ix (n-k)) hro h1 (gf:=54) (lb:=#[.pointer (some ⟨Ba,0,none⟩),.pointer (some ⟨Bu,0,none⟩),.pointer (some ⟨Br,0,none⟩)]) (encs:=λi=>#[MW (x (k+i.1)) (A (k+i.1)) (C (k+i.1))]) (Kp:=Below w.1.size) (S:=λys=>Ev ys=List.range (n-k)) (Sp:=λ_=>True) (N:=n-k) (w0:=W0) rfl h63 (enters_of func54 Ze rfl)
  ?seq belowK_t (belowK_b Zb) Ck (λ_=>rfl)
  (λpre W=>(∃D:DataW Unit,W.ownsMap prog 65 (plainElem prog 3) w.1.size (Ev pre).length D/\HZ (DR (λi=>x (k+i)) (Ev pre)) (Ev pre).length D)/\Boxed W (w.1.size+1) 53 (.map (some w.1.size))/\Below w.1.size w W/\W0.1.size<=W.1.size)
  (λ_ _ _=>False) ?own (λ_ _ _ _ _ hs _ _=>hs) ?start
  (λi a' W=>∃Bx,W.heap[Bx]?=some (.cells #[.int .i64 (x (k+i.1)).ver,.bool (x (k+i.1)).gone,.string (x (k+i.1)).ob.kind,.string (x (k+i.1)).ob.name,.int .i64 (x (k+i.1)).ob.ver,.int .i64 (x (k+i.1)).ob.born,.string (x (k+i.1)).ob.text,.bool (x (k+i.1)).ob.ending,.slice (A (k+i.1)) (x (k+i.1)).ob.hn (C (k+i.1))] 63 (0,0))/\a'={tmps:=#[.func (.func 54) #[] #[.pointer (some ⟨Ba,0,none⟩),.pointer (some ⟨Bu,0,none⟩),.pointer (some ⟨Br,0,none⟩)],undef,.map none,.pointer (some ⟨w.1.size+1,0,none⟩),.pointer (some ⟨Bx,0,none⟩),.map (some w.1.size),.func (.func 54) #[] #[.pointer (some ⟨Ba,0,none⟩),.pointer (some ⟨Bu,0,none⟩),.pointer (some ⟨Br,0,none⟩)],MW (x (k+i.1)) (A (k+i.1)) (C (k+i.1)),undef,undef,undef,undef,undef,undef,undef],defers:=[]})
  (λi a' _ X Y row hs hg hr=>by obtain⟨Bx,e2,e3⟩:=hs;refine⟨Bx,(hg.block Bx (AS.1 e2).1 (λe=>?_)).trans e2,e3⟩;obtain⟨_,o,ho,hc⟩:=hr Bx e.symm;rw[e2]at ho;cases ho;cases hc)
  ?assign ?body ?done ?stop;case seq=>
  exact λl J Jx W hW _ _ hY h0=>Q1 F (m-1) h63 h62 hro Zb l Ba Bu Br w.1.size R f k n x A C hkn hfn J Jx (hPl _ R) W hY
   (((hB0.trans (hW.mono Zb)).cell (p:=⟨Ba,0,none⟩) ha).trans hBa) (((hB0.trans (hW.mono Zb)).cell (p:=⟨Bu,0,none⟩) hu).trans hBu) (((hB0.trans (hW.mono Zb)).cell (p:=⟨Br,0,none⟩) hr).trans hBr)
   hu hr hR (by have:=hW.size;omega) (hs.below (hB0.trans (hW.mono Zb)) hR Bg) h0
 case own=>intro pre X Y row hs hg hr;obtain⟨⟨D,e1,e2⟩,e3,e4,e5⟩:=hs;exact⟨⟨D,AQ e1 ((Al W0.1.size X).grown hg e5 (λr e=>(hr r e).1)) Zb,e2⟩,e3.kept hg (λe=>by have:=(hr _ e.symm).1;omega),e4.grown hg e4.size (λr e=>by have:=(hr r e).1;omega),AG e5 hg.size⟩
 case start=>exact⟨⟨.map [],oM,QL _⟩,bM,hB0,Az _⟩
 case assign=>rintro l pre i W K ⟨⟨D,e1,e2⟩,e3,e4,e5⟩hK;simp only[MW];gi_wp2;exact hK _ _ ((KeepsOthers.alloc _ _).from _) ((Al _ W).alloc e4.size _) ⟨⟨D,e1.alloc _,e2⟩,e3.alloc _,e4.alloc e4.size _,Zd⟩ ⟨W.1.size,World.alloc_heap_new W _,rfl⟩
 case body=>
  rintro l0 pre i a' W hl ⟨r,hr'⟩⟨⟨D,hown,htold⟩,bV,hB,hW0s⟩⟨Bx,bX,rfl⟩hlt;have hX:DS W Bx #[.int .i64 (x (k+i.1)).ver,.bool (x (k+i.1)).gone,.string (x (k+i.1)).ob.kind,.string (x (k+i.1)).ob.name,.int .i64 (x (k+i.1)).ob.ver,.int .i64 (x (k+i.1)).ob.born,.string (x (k+i.1)).ob.text,.bool (x (k+i.1)).ob.ending,.slice (A (k+i.1)) (x (k+i.1)).ob.hn (C (k+i.1))]:=λi=>by simp[World.cell?,bX]
  have zBx:Bx<W.1.size:=(AS.1 bX).1;obtain⟨fk,fn,_,_,_⟩:=hfit (k+i.1) (by have:=i.2;omega);have hsk:(x (k+i.1)).ob.kind.size<=maxLen:=by unfold maxLen;omega
  have hsn:(x (k+i.1)).ob.name.size<=maxLen:=by unfold maxLen;omega
  have hky:=KM (x (k+i.1)).ob.kind (x (k+i.1)).ob.name hsk hsn;have hwf:=hwfs (k+i.1) (by have:=i.2;omega);have HT:=Ag (Sz (k:=i.1) htold hown.isMap hsk hsn);have hzW:=hB.size;have h1':1<=m-1-1:=Zb;clear htold fk fn;obtain⟨Fin,hFin⟩:∃Fin:World->Prop,Fin=λw6=>w6.ownsMap prog 65 (plainElem prog 3) w.1.size ((Ev pre).length+1) (D.put (kl (x (k+i.1)).ob.kind (x (k+i.1)).ob.name) (.lit (.int .i64 (x (k+i.1)).ver)))/\Boxed w6 (w.1.size+1) 53 (.map (some w.1.size))/\KeepsFrom W0.1.size W w6/\Below w.1.size W w6/\W0.1.size<=w6.1.size:=⟨_,rfl⟩;gi_wp2;refine Dq Ze (QR (λt0 t1 t2 t3 t4 t5=>#[.func (.func 54) #[] #[.pointer (some ⟨Ba,0,none⟩),.pointer (some ⟨Bu,0,none⟩),.pointer (some ⟨Br,0,none⟩)],undef,.map none,.pointer (some ⟨w.1.size+1,0,none⟩),.pointer (some ⟨Bx,0,none⟩),.map (some w.1.size),.func (.func 54) #[] #[.pointer (some ⟨Ba,0,none⟩),.pointer (some ⟨Bu,0,none⟩),.pointer (some ⟨Br,0,none⟩)],MW (x (k+i.1)) (A (k+i.1)) (C (k+i.1)),t0,t1,t2,t3,t4,t5,undef]) W (.map (some w.1.size)) (.pointer (some ⟨Bx,2,none⟩)) (Hz (x (k+i.1)).ob (A (k+i.1)) (C (k+i.1))) (.agg #[.string (x (k+i.1)).ob.kind,.string (x (k+i.1)).ob.name]) (.pointer (some ⟨Bx,0,none⟩)) (.int .i64 (x (k+i.1)).ver) Fin) ?_ ?_ ?_ ?_;.refine⟨_,_,_,_,_,_,rfl,Zc,?_⟩;simp;exact(Al _ W).drew
  .intro l a w' hI;obtain⟨t0,t1,t2,t3,t4,t5,rfl,hls,_⟩:=hI;exact hls
  .intro l a w' hI hr';obtain⟨t0,t1,t2,t3,t4,t5,rfl,hls,n21,n32,n54,n60,n63,n65,f0,f1,f2,f3,f4,f5,g6,g7⟩:=hI;have AL:=CC Ze (by rw[hls];rfl) hr';have hF:=g7 (AL 6 Za);rw[hFin]at hF;obtain⟨j1,j2,j3,j4,j5⟩:=hF;clear n21 n32 n54 n60 n63 n65 f0 f1 f2 f3 f4 f5 g6 g7 AL hr' hls;gi_wp2;refine⟨j3,j4,⟨_,?_,by rw[EN];exact HT.out⟩,j2,hB.trans j4,j5⟩;rw[EN,CP];exact j1
  .intro l a w' i' hI hr';obtain⟨t0,t1,t2,t3,t4,t5,rfl,hls,n21,n32,n54,n60,n63,n65,f0,f1,f2,f3,f4,f5,g6,g7⟩:=hI;obtain⟨hu',o',ho,hdep⟩:=mem_ready.1 hr';have hi16:i'<7:=by
    rcases At i' 7 with h|h;.exact h
    .rw[AP TX]at ho;cases ho
   have kp:∀j,¬j=i'->(l.setIfInBounds i' true).getD j false=l.getD j false:=λj hj=>by rw[BM Zb,if_neg hj]
   have ki':(l.setIfInBounds i' true).getD i' false=true:=by rw[BM Zb,if_pos rfl]
   have hsz':(l.setIfInBounds i' true).size=7:=by simp[hls]
   have hui:l.getD i' false=false:=by simpa[Array.getD,hls,hi16]using hu'
   clear hr' hu';rcases(show i'=0\/i'=1\/i'=2\/i'=3\/i'=4\/i'=5\/i'=6 by omega)with rfl|rfl|rfl|rfl|rfl|rfl|rfl;.simp only[Ac,Aa,Aj]at ho;subst ho;clear hdep;have l6:=BA n60 hui;have bB:=g6 l6;have hc0:=(AW bV bB).cell;refine AX rfl rfl ?_;generalize hK:QR (λt0 t1 t2 t3 t4 t5=>#[.func (.func 54) #[] #[.pointer (some ⟨Ba,0,none⟩),.pointer (some ⟨Bu,0,none⟩),.pointer (some ⟨Br,0,none⟩)],undef,.map none,.pointer (some ⟨w.1.size+1,0,none⟩),.pointer (some ⟨Bx,0,none⟩),.map (some w.1.size),.func (.func 54) #[] #[.pointer (some ⟨Ba,0,none⟩),.pointer (some ⟨Bu,0,none⟩),.pointer (some ⟨Br,0,none⟩)],MW (x (k+i.1)) (A (k+i.1)) (C (k+i.1)),t0,t1,t2,t3,t4,t5,undef]) W (.map (some w.1.size)) (.pointer (some ⟨Bx,2,none⟩)) (Hz (x (k+i.1)).ob (A (k+i.1)) (C (k+i.1))) (.agg #[.string (x (k+i.1)).ob.kind,.string (x (k+i.1)).ob.name]) (.pointer (some ⟨Bx,0,none⟩)) (.int .i64 (x (k+i.1)).ver) Fin (l.setIfInBounds 0 true)=K;go_simp;rw[<-hK];exact⟨_,t1,t2,t3,t4,t5,rfl,hsz',Zy,Zz,Qc,(λ_=>ki'),kU,ZG,(λ_=>rfl),Zk,Zn,Zo,Zp,Zr,(by rw[kp 6 Za];exact g6),(by rw[kp 6 Za];exact g7)⟩
   .simp only[Ac,Ab,Aa,Aj]at ho;subst ho;clear hdep;refine AX rfl rfl ?_;generalize hK:QR (λt0 t1 t2 t3 t4 t5=>#[.func (.func 54) #[] #[.pointer (some ⟨Ba,0,none⟩),.pointer (some ⟨Bu,0,none⟩),.pointer (some ⟨Br,0,none⟩)],undef,.map none,.pointer (some ⟨w.1.size+1,0,none⟩),.pointer (some ⟨Bx,0,none⟩),.map (some w.1.size),.func (.func 54) #[] #[.pointer (some ⟨Ba,0,none⟩),.pointer (some ⟨Bu,0,none⟩),.pointer (some ⟨Br,0,none⟩)],MW (x (k+i.1)) (A (k+i.1)) (C (k+i.1)),t0,t1,t2,t3,t4,t5,undef]) W (.map (some w.1.size)) (.pointer (some ⟨Bx,2,none⟩)) (Hz (x (k+i.1)).ob (A (k+i.1)) (C (k+i.1))) (.agg #[.string (x (k+i.1)).ob.kind,.string (x (k+i.1)).ob.name]) (.pointer (some ⟨Bx,0,none⟩)) (.int .i64 (x (k+i.1)).ver) Fin (l.setIfInBounds 1 true)=K;go_simp;rw[<-hK];exact⟨t0,_,t2,t3,t4,t5,rfl,hsz',(λ_=>ki'),Zz,Qc,lT,kU,ZG,Zl,(λ_=>rfl),Zn,Zo,Zp,Zr,(by rw[kp 6 Za];exact g6),(by rw[kp 6 Za];exact g7)⟩
   .simp only[Ac,Ab,Aa,Aj]at ho;subst ho;have q1:l.getD 1 false=true:=hdep ⟨1,.data⟩ Zc rfl;clear hdep;have l6:=BA n63 (BA n32 hui);have bB:=g6 l6;obtain rfl:=f1 q1;have hX2:=hX.below bB (by exact zBx);have x0:=hX2 0;have x1:=hX2 1;have x2:=hX2 2;have x3:=hX2 3;have x4:=hX2 4;have x5:=hX2 5;have x6:=hX2 6;have x7:=hX2 7;have x8:=hX2 8;simp only[Ac,Ab,Aa]at x0 x1 x2 x3 x4 x5 x6 x7 x8;refine AX rfl rfl ?_;generalize hK:QR (λt0 t1 t2 t3 t4 t5=>#[.func (.func 54) #[] #[.pointer (some ⟨Ba,0,none⟩),.pointer (some ⟨Bu,0,none⟩),.pointer (some ⟨Br,0,none⟩)],undef,.map none,.pointer (some ⟨w.1.size+1,0,none⟩),.pointer (some ⟨Bx,0,none⟩),.map (some w.1.size),.func (.func 54) #[] #[.pointer (some ⟨Ba,0,none⟩),.pointer (some ⟨Bu,0,none⟩),.pointer (some ⟨Br,0,none⟩)],MW (x (k+i.1)) (A (k+i.1)) (C (k+i.1)),t0,t1,t2,t3,t4,t5,undef]) W (.map (some w.1.size)) (.pointer (some ⟨Bx,2,none⟩)) (Hz (x (k+i.1)).ob (A (k+i.1)) (C (k+i.1))) (.agg #[.string (x (k+i.1)).ob.kind,.string (x (k+i.1)).ob.name]) (.pointer (some ⟨Bx,0,none⟩)) (.int .i64 (x (k+i.1)).ver) Fin (l.setIfInBounds 2 true)=K;go_simp;rw[<-hK];exact⟨t0,_,_,t3,t4,t5,rfl,hsz',(λ_=>by rw[kp 1 Za];exact q1),(λ_=>ki'),Qc,lT,kU,ZG,Zl,Zk,(λ_=>rfl),Zo,Zp,Zr,(by rw[kp 6 Za];exact g6),(by rw[kp 6 Za];exact g7)⟩
   .simp only[Ac,Ab,Aa,Aj]at ho;subst ho;have q2:l.getD 2 false=true:=hdep ⟨2,.data⟩ Zc rfl;clear hdep;have l6:=BA n63 hui;have bB:=g6 l6;obtain rfl:=f2 q2;obtain rfl:=f1 (n21 q2);refine AX rfl rfl ?_;generalize hK:QR (λt0 t1 t2 t3 t4 t5=>#[.func (.func 54) #[] #[.pointer (some ⟨Ba,0,none⟩),.pointer (some ⟨Bu,0,none⟩),.pointer (some ⟨Br,0,none⟩)],undef,.map none,.pointer (some ⟨w.1.size+1,0,none⟩),.pointer (some ⟨Bx,0,none⟩),.map (some w.1.size),.func (.func 54) #[] #[.pointer (some ⟨Ba,0,none⟩),.pointer (some ⟨Bu,0,none⟩),.pointer (some ⟨Br,0,none⟩)],MW (x (k+i.1)) (A (k+i.1)) (C (k+i.1)),t0,t1,t2,t3,t4,t5,undef]) W (.map (some w.1.size)) (.pointer (some ⟨Bx,2,none⟩)) (Hz (x (k+i.1)).ob (A (k+i.1)) (C (k+i.1))) (.agg #[.string (x (k+i.1)).ob.kind,.string (x (k+i.1)).ob.name]) (.pointer (some ⟨Bx,0,none⟩)) (.int .i64 (x (k+i.1)).ver) Fin (l.setIfInBounds 3 true)=K;unfold Hz;go_simp;refine(CallsIn.inRound l0 (hcv _ _ _ _ _ (BG (x (k+i.1)).ob (A (k+i.1)) (C (k+i.1)) _))).mono ?_;rintro e w5 ⟨rfl,k4⟩;have bB5:Below W.1.size W w5:=bB.trans (k4.mono bB.size);rw[<-hK];exact⟨t0,_,_,_,t4,t5,rfl,hsz',Zy,(λ_=>by rw[kp 2 Za];exact q2),Qc,lT,(λ_=>ki'),ZG,Zl,Zk,Zn,(λ_=>rfl),Zp,Zr,(λ_=>bB5),(λh=>by rw[kp 6 Za,l6]at h;cases h)⟩
   .simp only[Ac,Ab,Aa,Aj]at ho;subst ho;clear hdep;refine AX rfl rfl ?_;generalize hK:QR (λt0 t1 t2 t3 t4 t5=>#[.func (.func 54) #[] #[.pointer (some ⟨Ba,0,none⟩),.pointer (some ⟨Bu,0,none⟩),.pointer (some ⟨Br,0,none⟩)],undef,.map none,.pointer (some ⟨w.1.size+1,0,none⟩),.pointer (some ⟨Bx,0,none⟩),.map (some w.1.size),.func (.func 54) #[] #[.pointer (some ⟨Ba,0,none⟩),.pointer (some ⟨Bu,0,none⟩),.pointer (some ⟨Br,0,none⟩)],MW (x (k+i.1)) (A (k+i.1)) (C (k+i.1)),t0,t1,t2,t3,t4,t5,undef]) W (.map (some w.1.size)) (.pointer (some ⟨Bx,2,none⟩)) (Hz (x (k+i.1)).ob (A (k+i.1)) (C (k+i.1))) (.agg #[.string (x (k+i.1)).ob.kind,.string (x (k+i.1)).ob.name]) (.pointer (some ⟨Bx,0,none⟩)) (.int .i64 (x (k+i.1)).ver) Fin (l.setIfInBounds 4 true)=K;go_simp;rw[<-hK];exact⟨t0,t1,t2,t3,_,t5,rfl,hsz',Zy,Zz,(λ_=>ki'),lT,kU,ZG,Zl,Zk,Zn,Zo,(λ_=>rfl),Zr,(by rw[kp 6 Za];exact g6),(by rw[kp 6 Za];exact g7)⟩
   .simp only[Ac,Ab,Aa,Aj]at ho;subst ho;have q4:l.getD 4 false=true:=hdep ⟨4,.data⟩ Zc rfl;clear hdep;have l6:=BA n65 hui;have bB:=g6 l6;obtain rfl:=f4 q4;have hX2:=hX.below bB (by exact zBx);have x0:=hX2 0;have x1:=hX2 1;have x2:=hX2 2;have x3:=hX2 3;have x4:=hX2 4;have x5:=hX2 5;have x6:=hX2 6;have x7:=hX2 7;have x8:=hX2 8;simp only[Ac,Ab,Aa]at x0 x1 x2 x3 x4 x5 x6 x7 x8;refine AX rfl rfl ?_;generalize hK:QR (λt0 t1 t2 t3 t4 t5=>#[.func (.func 54) #[] #[.pointer (some ⟨Ba,0,none⟩),.pointer (some ⟨Bu,0,none⟩),.pointer (some ⟨Br,0,none⟩)],undef,.map none,.pointer (some ⟨w.1.size+1,0,none⟩),.pointer (some ⟨Bx,0,none⟩),.map (some w.1.size),.func (.func 54) #[] #[.pointer (some ⟨Ba,0,none⟩),.pointer (some ⟨Bu,0,none⟩),.pointer (some ⟨Br,0,none⟩)],MW (x (k+i.1)) (A (k+i.1)) (C (k+i.1)),t0,t1,t2,t3,t4,t5,undef]) W (.map (some w.1.size)) (.pointer (some ⟨Bx,2,none⟩)) (Hz (x (k+i.1)).ob (A (k+i.1)) (C (k+i.1))) (.agg #[.string (x (k+i.1)).ob.kind,.string (x (k+i.1)).ob.name]) (.pointer (some ⟨Bx,0,none⟩)) (.int .i64 (x (k+i.1)).ver) Fin (l.setIfInBounds 5 true)=K;go_simp;rw[<-hK];exact⟨t0,t1,t2,t3,_,_,rfl,hsz',Zy,Zz,(λ_=>by rw[kp 4 Za];exact q4),lT,kU,(λ_=>ki'),Zl,Zk,Zn,Zo,Zp,(λ_=>rfl),(by rw[kp 6 Za];exact g6),(by rw[kp 6 Za];exact g7)⟩
   .simp only[Ac,Ab,Aa,Aj]at ho;subst ho;have q0:l.getD 0 false=true:=hdep ⟨0,.data⟩ Zc rfl;have q3:l.getD 3 false=true:=hdep ⟨3,.data⟩ Zc rfl;have q5:l.getD 5 false=true:=hdep ⟨5,.data⟩ Zc rfl;clear hdep;have l6:=hui;have bB:=g6 l6;obtain rfl:=f0 q0;obtain rfl:=f3 q3;obtain rfl:=f5 q5;have hown1:=AQ hown bB (by exact hown.lt);have bx1:=AW bV bB;have hln:(Ev pre).length<200:=by rw[IJ];omega
    refine AX rfl rfl ?_;generalize hK:QR (λt0 t1 t2 t3 t4 t5=>#[.func (.func 54) #[] #[.pointer (some ⟨Ba,0,none⟩),.pointer (some ⟨Bu,0,none⟩),.pointer (some ⟨Br,0,none⟩)],undef,.map none,.pointer (some ⟨w.1.size+1,0,none⟩),.pointer (some ⟨Bx,0,none⟩),.map (some w.1.size),.func (.func 54) #[] #[.pointer (some ⟨Ba,0,none⟩),.pointer (some ⟨Bu,0,none⟩),.pointer (some ⟨Br,0,none⟩)],MW (x (k+i.1)) (A (k+i.1)) (C (k+i.1)),t0,t1,t2,t3,t4,t5,undef]) W (.map (some w.1.size)) (.pointer (some ⟨Bx,2,none⟩)) (Hz (x (k+i.1)).ob (A (k+i.1)) (C (k+i.1))) (.agg #[.string (x (k+i.1)).ob.kind,.string (x (k+i.1)).ob.name]) (.pointer (some ⟨Bx,0,none⟩)) (.int .i64 (x (k+i.1)).ver) Fin (l.setIfInBounds 6 true)=K;refine JV _ _ _ 53 rfl 65 3 BK underlying53 _ w.1.size (Ev pre).length D rfl hown1 Zs _ _ _ rfl rfl hky _ [] (plainElem_int underlying3 hwf) ?_;intro w6 hown6 hgrow6;have bx6:=bx1.kept hgrow6 Zc;have kf6:KeepsFrom W0.1.size W w6:=((CB bB).from _).trans (KeepsFrom.of_grownBy hgrow6 (λj hj=>by cases hj;omega));have bw6:Below w.1.size W w6:=(bB.mono Zb).grown hgrow6 (by have:=bB.size;omega) (λj hj=>by cases hj;exact Az _);rw[<-hK];exact⟨_,t1,t2,_,t4,_,rfl,hsz',Zy,Zz,Qc,(λ_=>by rw[kp 0 Za];exact q0),(λ_=>by rw[kp 3 Za];exact q3),(λ_=>by rw[kp 5 Za];exact q5),Zl,Zk,Zn,Zo,Zp,Zr,(λh=>absurd (ki'.symm.trans h) Za),(λ_=>by rw[hFin];exact⟨hown6,bx6,kf6,bw6,by have:=kf6.size;omega⟩)⟩
 case done=>rintro D' ys W hD hS ⟨⟨D,hown,htold⟩,bV,hB,hW0s⟩hK;rw[hS,Ds]at hown htold;have b1:Below W0.1.size W (W.putObj D' (.deferred none)):=(Al _ _).grown (grownBy_putObj' W D' (.deferred none)) hW0s (λr e=>by cases e;exact hD);have HO:=Ag (And.intro (AQ hown b1 Zb) (htold.congr (g:=λi=>x (k+i)) (λi hi=>Td hi)));have hBf:Below w.1.size w (W.putObj D' (.deferred none)):=hB.trans (b1.mono Zb);have cV:=bV.cell;clear hown htold;gi_wp2;refine⟨Zc,.inl ⟨_,_,rfl,run_takeDeferred hK,?_⟩⟩;exact⟨_,results_tmp rfl _ _ _,D,rfl,HO.out.1,HO.out.2,hBf⟩
 case stop=>rintro D c pre W _ _ h _;exact h.elim
end Go.Proofs.YtofencldleijcaaGreat
