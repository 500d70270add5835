import Derived.Test.YtnnjcenacidceaaPk09
import Derived.Test.YtnnjcenacidceaaPk10
import Derived.Maps.OwnSet
import Derived.Maps.OwnOps
import Derived.ProofKit
import Derived.Test.YtnnjcenacidceaaPk04
import Derived.Deep.QuietTactic
import Derived.BigQuiet
import Derived.Deep.RegionWith
import Derived.Deep.AppendSrc
set_option maxRecDepth 100000
set_option maxHeartbeats 1000000
namespace Go.Proofs.Ytnnjcenacidceaa
open Go.RowKit Go.Maps Go.Proofs.Try
theorem BU (x:Ob)(ad:OA)(cap:Nat)(w:World):Calls prog 50 #[.agg (vO x ad cap)] w λe w'=>e=.returned (.agg #[.s x.kind,.s x.name])/\Below w.1.size w w':=by go_enter func50,ntmps50;go_wp2;refine bodyPost_ret (v:=.agg #[.s x.kind,.s x.name]) (by simp[results,results50,go_sem]) rfl ⟨rfl,?_⟩;exact((An _ _).alloc Zc _)
theorem Qe:laidOutB prog=true:=Ze
theorem Th:82<prog.types.size:=of_decide_eq_true Ze
theorem Cx:Keyed prog 82:=Keyed.of_law (deep_law_laid Qe (m:=2) Za Th Ze Ze)
theorem YQ:prog.keyType 82=true:=Ze
theorem Qf:prog.cellsOf 82=2:=Ze
theorem WO:prog.cellsOf 9=1:=Ze
def kl (a b:ByteArray):Lit:=.s (keyBytes [.s a.data.toList,.s b.data.toList])
theorem N8 (a b:ByteArray)(ha:a.size<=maxLen)(hb:b.size<=maxLen):keyOf prog 82 (.agg #[.s a,.s b])=some (kl a b):=by obtain⟨d,hd⟩:∃d,prog.types.size+1=d+2:=⟨prog.types.size-1,by have:=Th;omega⟩;unfold keyOf;rw[underlying82];simp only[YQ,Value.formed,underlying82,Qf,hd];simp[Program.keyLits,underlying82,underlying9,Qf,WO,Value.cells,ha,hb,kl]
theorem nQ{a b a' b':ByteArray}(ha:a.size<=maxLen)(hb:b.size<=maxLen)(ha':a'.size<=maxLen)(hb':b'.size<=maxLen)(h:¬(a=a'/\b=b')):kl a b≠kl a' b':=by intro e;have h1:=N8 a b ha hb;have h2:=N8 a' b' ha' hb';rw[<-e]at h2;have:=Cx.inj h1 h2;simp at this;exact h this
theorem Nm (w:World):(zeroValue 3).run prog w=.ok (.i 0) w:=Ze
def Nq (x:Nat->Ob)(a b:ByteArray):Nat->Option Nat
 |0=>none
 |n+1=>match Nq x a b n with
  |some i=>some i
  |none=>if(x n).kind=a/\(x n).name=b then some n else none
theorem Oh{x:Nat->Ob}{a b:ByteArray}:∀{n i:Nat},Nq x a b n=some i->i<n/\(x i).kind=a/\(x i).name=b
 |0,_,h=>by cases h
 |n+1,i,h=>by
  unfold Nq at h;split at h;.rename_i j hj;cases h;have:=Oh hj;exact⟨Za,this.2⟩
  .split at h;.rename_i hh;cases h;exact⟨Za,hh⟩
   .cases h
theorem Mm{x:Nat->Ob}{a b:ByteArray}{n i:Nat}(h:Nq x a b n=some i):Nq x a b (n+1)=some i:=by unfold Nq;rw[h]
theorem TS{x:Nat->Ob}{a b:ByteArray}{n:Nat}(h:Nq x a b n=none)(h2:(x n).kind=a/\(x n).name=b):Nq x a b (n+1)=some n:=by unfold Nq;rw[h];exact if_pos h2
theorem OP{x:Nat->Ob}{a b:ByteArray}{n:Nat}(h:Nq x a b n=none)(h2:¬((x n).kind=a/\(x n).name=b)):Nq x a b (n+1)=none:=by unfold Nq;rw[h];exact if_neg h2
def WE (x:Nat->Ob)(n:Nat)(D:DataW Unit):Prop:=∀a b:ByteArray,a.size<=maxLen->b.size<=maxLen->(∀i,Nq x a b n=some i->Maps.has D (kl a b)=true/\D.atKey (kl a b) (.lit (.i 0))=.lit (.i i))/\(Nq x a b n=none->Maps.has D (kl a b)=false)
theorem V2 (x:Nat->Ob):WE x 0 (.map []):=λa b _ _=>⟨λi h=>O7,λ_=>rfl⟩
theorem XX{x:Nat->Ob}{n i:Nat}{D:DataW Unit}(h:WE x n D)(hi:Nq x (x n).kind (x n).name n=some i):WE x (n+1) D:=λa b ha hb=>by
 obtain⟨h1,h2⟩:=h a b ha hb;by_cases hh:(x n).kind=a/\(x n).name=b
 .obtain⟨rfl,rfl⟩:=hh;refine⟨λj hj=>?_,λhj=>?_⟩;.rw[Mm hi]at hj;cases hj;exact h1 _ hi
  .rw[Mm hi]at hj;cases hj
 .cases hc:Nq x a b n with
  |none=>exact⟨λj hj=>(by rw[OP hc hh]at hj;cases hj),λ_=>h2 hc⟩
  |some m=>exact⟨λj hj=>(by rw[Mm hc]at hj;cases hj;exact h1 _ hc),λhj=>(by rw[Mm hc]at hj;cases hj)⟩
theorem TM (a b:ByteArray)(ha:a.size<=maxLen)(hb:b.size<=maxLen):WideAt.IsKeyLit (kl a b):=Cx.key (N8 a b ha hb)
theorem cB{x:Nat->Ob}{n:Nat}{D:DataW Unit}(h:WE x n D)(hD:IsMap D)(hi:Nq x (x n).kind (x n).name n=none)(hk:(x n).kind.size<=maxLen)(hn:(x n).name.size<=maxLen):WE x (n+1) (D.put (kl (x n).kind (x n).name) (.lit (.i n))):=λa b ha hb=>by
 obtain⟨h1,h2⟩:=h a b ha hb;by_cases hh:(x n).kind=a/\(x n).name=b
 .obtain⟨rfl,rfl⟩:=hh;refine⟨λj hj=>?_,λhj=>?_⟩
  .rw[TS hi ⟨rfl,rfl⟩]at hj;cases hj;exact⟨has_put_same hD (TM _ _ hk hn) _,atKey_put_same hD (TM _ _ hk hn) _ _⟩
  .rw[TS hi ⟨rfl,rfl⟩]at hj;cases hj
 .have hne:kl a b≠kl (x n).kind (x n).name:=nQ ha hb hk hn (λe=>hh ⟨e.1.symm,e.2.symm⟩);rw[has_put_other hne,atKey_put_other hne];cases hc:Nq x a b n with
  |none=>exact⟨λj hj=>(by rw[OP hc hh]at hj;cases hj),λ_=>h2 hc⟩
  |some m=>exact⟨λj hj=>(by rw[Mm hc]at hj;cases hj;exact h1 _ hc),λhj=>(by rw[Mm hc]at hj;cases hj)⟩
theorem Lx (n:Nat)(w:World):(Instr.makeMap 80 (some (.i (n:Int)))).run prog w=.ok (.map (some w.1.size)) (w.alloc (.map #[] 0)):=by simp[Instr.makeMap,run_underlying underlying80,asInt,asIntOf,Result.andThen]
theorem Wo (n:Nat)(x:Nat->Ob)(ad:OA)(cap:Nat)(w:World)(lo hi:Nat)(hhi:hi<=w.1.size)(hl:(n:Int)<=1099511627776)(hf:∀i,i<n->Ef (x i))(hc:B4 w lo hi ad n x):Calls prog 55 #[.l ad n cap] w λe w'=>∃D:DataW Unit,e=.returned (.map (some w.1.size))/\w'.ownsMap prog 82 (plainElem prog 3) w.1.size n D/\WE x n D/\Below w.1.size w w':=by
 have hmm:=Lx n w;go_enter func55,ntmps55;go_wp2_with fail;go_loopw[13](λi wr=>∃(k:Nat)(D:DataW Unit),k<=n/\i=.i k/\Below w.1.size w wr/\wr.ownsMap prog 82 (plainElem prog 3) w.1.size k D/\WE x k D)(λi _=>n-(intOf i).toNat);case atStart=>exact⟨0,.map [],At _,rfl,An _ _,Oz _ _ _ _,V2 x⟩
 case round=>
  obtain⟨k,D,hk,rfl,hb,hown,htold⟩:=hrel;clear hmm;by_cases hkn:k<n
  .obtain⟨b,off,ah,ch,rfl,hlo,hbh,hcx,hsx⟩:=hc k hkn;obtain⟨fk,fn,_,_,_⟩:=hf k hkn;have hsk:(x k).kind.size<=maxLen:=by unfold maxLen;omega
   have hsn:(x k).name.size<=maxLen:=by unfold maxLen;omega
   obtain⟨d0,d1,d2,d3,d4,d5,d6⟩:=hcx.below hb Za;clear hc hf hcx hsx;have hky:=N8 (x k).kind (x k).name hsk hsn;cases hfd:Nq x (x k).kind (x k).name k with
   |none=>
    have hhas:=(htold _ _ hsk hsn).2 hfd;have HT:=Ah (cB htold hown.isMap hfd hsk hsn);have NP:=Ah hown;clear hfd htold hown;go_wp2_with fail;refine(BU (x k) ah ch _).mono ?_;rintro e w1 ⟨rfl,hb1⟩;have hown1:=Ah (BC (NP.alloc _) hb1 (by simp;have:=NP.lt;omega));have hB1:=(hb.alloc hb.size (.cells (vO (x k) ah ch) 38)).trans (hb1.mono Zv);have p0:=Ar hb1 0;have p1:=Ar hb1 1;have p2:=Ar hb1 2;have p3:=Ar hb1 3;have p4:=Ar hb1 4;have p5:=Ar hb1 5;have p6:=Ar hb1 6;simp only[Af,Ae,Ad]at p0 p1 p2 p3 p4 p5 p6;clear hb1 d0 d1 d2 d3 d4 d5 d6 NP;go_wp2_with (at_lookup;go_must(refine wpList_lookup_own_ok_int _ rfl _ _ 80 rfl 82 3 .i64 Cx underlying80 underlying3 (Nm _) w.1.size k D rfl hown1 _ _ rfl hky ?_;intro c hat hwc));refine(BU (x k) ah ch _).mono ?_;rintro e w2 ⟨rfl,hb2⟩;have hown2:=Ah (BC hown1 hb2 hown1.lt);have hB2:=hB1.trans (hb2.mono hB1.size);clear hb2 p0 p1 p2 p3 p4 p5 p6 hat hwc hown1;go_wp2_with (at_mapUpdate;go_must(refine wpList_mapUpdate_own _ rfl _ _ _ 80 rfl 82 3 Cx underlying80 _ w.1.size k D rfl hown2 Zm _ _ _ rfl rfl hky _ [] (plainElem_int underlying3 (Qv Za)) ?_;intro w3 hown3 hgrow3));go_roundw;case rel=>exact⟨k+1,_,Za,by go_num,hB2.grown hgrow3 hB2.size (λj hj=>by cases hj;exact AD _),hown3,HT⟩
    case measure=>simp[intOf];omega
   |some i=>
    have hhas:=((htold _ _ hsk hsn).1 i hfd).1;have HT:=Ah (XX htold hfd);have NP:=Ah hown;clear hfd htold hown;go_wp2_with fail;refine(BU (x k) ah ch _).mono ?_;rintro e w1 ⟨rfl,hb1⟩;have hown1:=Ah (BC (NP.alloc _) hb1 (by simp;have:=NP.lt;omega));have hB1:=(hb.alloc hb.size (.cells (vO (x k) ah ch) 38)).trans (hb1.mono Zv);have p0:=Ar hb1 0;have p1:=Ar hb1 1;have p2:=Ar hb1 2;have p3:=Ar hb1 3;have p4:=Ar hb1 4;have p5:=Ar hb1 5;have p6:=Ar hb1 6;simp only[Af,Ae,Ad]at p0 p1 p2 p3 p4 p5 p6;clear hb1 d0 d1 d2 d3 d4 d5 d6 NP;clear p0 p1 p2 p3 p4 p5 p6;go_wp2_with (at_lookup;go_must(refine wpList_lookup_own_ok_int _ rfl _ _ 80 rfl 82 3 .i64 Cx underlying80 underlying3 (Nm _) w.1.size k D rfl hown1 _ _ rfl hky ?_;intro c hat hwc));go_roundw;case rel=>exact⟨k+1,D,Za,by go_num,hB1,hown1.mono Za,HT⟩
    case measure=>simp[intOf];omega
  .have:k=n:=Za;subst this;have HR:=Ah (And.intro hown htold);clear hc hf hown htold;go_wp2;go_ret;exact⟨D,rfl,HR.out.1,HR.out.2,hb⟩
end Go.Proofs.Ytnnjcenacidceaa
namespace Go.Proofs.Ytnnjcenacidceaa
open Go.RowKit Go.Proofs.Try
end Go.Proofs.Ytnnjcenacidceaa
namespace Go.Proofs.Ytnnjcenacidceaa
open Go.RowKit Go.Proofs.Try
theorem UJ{w w1:World}{c0 c1:Array Value}{t0 t1:TypeId}(hb:Below ((w.alloc (.cells c0 t0)).alloc (.cells c1 t1)).1.size ((w.alloc (.cells c0 t0)).alloc (.cells c1 t1)) w1):(∀i,w1.cell? ⟨w.1.size,i,none⟩=c0[i]?)/\(∀i,w1.cell? ⟨w.1.size+1,i,none⟩=c1[i]?)/\(∀i,w1.frozen? ⟨w.1.size,i,none⟩=false)/\(∀i,w1.frozen? ⟨w.1.size+1,i,none⟩=false):=by
 refine⟨λi=>?_,λi=>?_,λi=>?_,λi=>?_⟩;.rw[hb.cell (p:=⟨w.1.size,i,none⟩) Zd];rw[Ap _ _ _ Zc,CK _ _ _ _ rfl]
 .rw[hb.cell (p:=⟨w.1.size+1,i,none⟩) Zc];rw[CK _ _ _ _ Zc]
 .rw[hb.frozen (p:=⟨w.1.size,i,none⟩) Zd];rw[PN _ _ _ Zc,Fv _ _ _ _ rfl]
 .rw[hb.frozen (p:=⟨w.1.size+1,i,none⟩) Zc];rw[Fv _ _ _ _ Zc]
end Go.Proofs.Ytnnjcenacidceaa
namespace Go.Proofs.Ytnnjcenacidceaa
open Go.RowKit Go.Maps Go.Proofs.Try
theorem Mb{P:Program}{w:World}{ops:Array Oper}{rest:List Oper}{o:Oper}{a:Act}{Q:Exit->Act->World->Prop}(hgd:o.guard=none)(s x:Operand)(t:TypeId)(ho:o.op=.call {callee:=.builtin .append,args:=#[s,x],argTypes:=#[t,t]})(e:TypeId)(i:TypeInfo)(ht:P.underlying t=some (.slice e))(hi:P.info? e=some i)(b off sLen sCap:Nat)(hle:sLen<=sCap)(hs:a.eval s=.l (some ⟨b,off,none⟩) sLen sCap)(ad:OA)(c:Nat)(hx:a.eval x=.l ad 0 c)(h:wpList P ops Q rest (a.put o.dst (.l (some ⟨b,off,none⟩) sLen sCap)) w):wpList P ops Q (o::rest) a w:=by
 refine wpList_plain hgd λK hK=>?_;have hsrc:Src P i.size t (.l ad 0 c) 0 [] w:=by cases ad with
  |none=>exact Src.ofNil w ht c
  |some a0=>exact Src.ofSlice w ht a0 0 c [] Zc (λj u hj=>by simp at hj) (λu hu=>by cases hu)
 have hrun:=run_append_room_src (P:=P) w t t o.type e i ht hi b off sLen sCap _ 0 [] hsrc Za (λj hj=>by simp at hj) (λj hj=>by simp at hj);simp only[Bi,World.setCells]at hrun;unfold Oper.wp;simp[execOp,ho,resolve,invoke,builtin,hs,hx,hrun,Result.andThen];exact hK _ _ h
def Cq (n:Nat)(s:Nat->ByteArray):List Value:=(List.range n).map λi=>.s (s i)
theorem TH{n:Nat}{s:Nat->ByteArray}{j:Nat}{u:Value}(h:(Cq n s)[j]?=some u):j<n/\u=.s (s j):=by
 simp only[Cq,MQ]at h;rcases Au j n with h1|h1;.rw[Bh (by simpa using h1)]at h;simp at h;exact⟨h1,h.symm⟩
 .rw[List.getElem?_eq_none (by simpa using h1)]at h;cases h
theorem Ui{n:Nat}{s:Nat->ByteArray}{j:Nat}(h:j<n):(Cq n s)[j]?=some (.s (s j)):=by simp[Cq,h]
theorem Ub (n:Nat)(s:Nat->ByteArray):(Cq n s).length=n:=by simp[Cq]
theorem TQ (n:Nat)(s:Nat->ByteArray):∀u∈Cq n s,u.oneCell'=true:=by intro u hu;obtain⟨i,_,rfl⟩:=MR.1 hu;rfl
theorem NJ{w:World}{base n:Nat}{v:Value}{s:Nat->ByteArray}(h:w.ownsRow base 9 1 v n (Cq n s))(hn:0<n):∃g cap,v=.l (some ⟨g,0,none⟩) n cap/\n<=cap/\Bz w base w.1.size (some ⟨g,0,none⟩) n s:=by
 rcases h.2 with⟨_,h0⟩|⟨g,cap,cur,rfl,hg,hh,hr⟩;.omega
 .refine⟨g,cap,rfl,hr.1,λi hi=>⟨g,0,rfl,hg,(AK.1 hh).1,?_,?_⟩⟩;.have:=World.ownsRow.cellAt (g:=g) (cap:=cap) h i Za;simpa[Ui hi]using this
  .simpa using World.ownsRow.frozenAt (g:=g) (cap:=cap) h i
theorem UT{w w1:World}{c0 c1:Array Value}{t0 t1:TypeId}{o2:Obj}(hg:(((w.alloc (.cells c0 t0)).alloc (.cells c1 t1)).alloc o2).grownBy w1 (some (w.1.size+1+1))):(∀i,w1.cell? ⟨w.1.size,i,none⟩=c0[i]?)/\(∀i,w1.cell? ⟨w.1.size+1,i,none⟩=c1[i]?)/\(∀i,w1.frozen? ⟨w.1.size,i,none⟩=false)/\(∀i,w1.frozen? ⟨w.1.size+1,i,none⟩=false)/\Below w.1.size w w1/\w.1.size+2<w1.1.size:=by
 have hB2:Below (w.1.size+1+1) ((w.alloc (.cells c0 t0)).alloc (.cells c1 t1)) w1:=((Ao _ _).alloc Zc o2).grown hg Zc (λk hk=>by cases hk;exact AD _);have hB2':Below ((w.alloc (.cells c0 t0)).alloc (.cells c1 t1)).1.size ((w.alloc (.cells c0 t0)).alloc (.cells c1 t1)) w1:=by simpa using hB2
 obtain⟨A0,A1,F0,F1⟩:=UJ hB2';refine⟨A0,A1,F0,F1,((An _ _).alloc Zc _).trans (hB2.mono Za),?_⟩;have:=hg.size;simp at this;omega
structure kD (w:World)(base:Nat)(ad:OA)(n cap:Nat):Prop where
 le:n<=cap
 z:n=0->cap=0
 rm:0<cap->∃g,ad=some ⟨g,0,none⟩/\base<=g/\LT w g cap
theorem LT.frO{w w':World}{g m lo hi:Nat}(h:LT w g m)(hf:Fr lo hi w w')(ho:g<lo\/hi<=g):LT w' g m:=⟨λj hj=>by obtain⟨u,hu⟩:=h.has j hj;exact⟨u,(hf.cell (p:=⟨g,j,none⟩) h.lt ho).trans hu⟩,λj=>(hf.frozen (p:=⟨g,j,none⟩) h.lt ho).trans (h.free j),Ac h.lt hf.size⟩
theorem UM{w:World}{base e z n g l cap:Nat}{xs:List Value}(h:w.ownsRow base e z (.l (some ⟨g,0,none⟩) l cap) n xs):LT w g (cap*z)/\base<=g:=by
 rcases h.2 with⟨h1,_⟩|⟨g',cap',cur,h1,h2,h3,h4,h5,h6,h7⟩;.cases h1
 .injection h1 with e1 e2 e3;injection e1 with e1;injection e1 with e1;subst e1;subst e3;refine⟨⟨λj hj=>⟨cur[j]'(by omega),?_⟩,λj=>?_,?_⟩,h2⟩;.have hj':j<cur.size:=Za;simp[World.cell?,h3,hj']
  .simp[World.frozen?,h3]
  .exact(AK.1 h3).1
theorem VS{P:Prop}(h:P:=by
  iterate 8 refine Fr.setCell ?_ VG VG _
  exact Fr.refl _ _ _):P:=h
theorem M8 (x:Ob)(ad:OA)(cap:Nat)(w:World)(lo hi:Nat)(hhi:hi<=w.1.size)(hl:(x.hn:Int)<=8796093022208)(hc:AB w lo hi ad x.hn x.hs):Calls prog 42 #[.agg (vO x ad cap)] w λe w'=>∃ad' cap',e=.returned (.agg (vO x ad' cap'))/\kD w' w.1.size ad' x.hn cap'/\Bz w' w.1.size w'.1.size ad' x.hn x.hs/\Below w.1.size w w':=by
 obtain⟨i0,hi0,hz0,hz1,hz2⟩:=info_parts Lf;rcases Bm x.hn with h0|hpos
 .obtain⟨ki,na,ve,bo,te,en,hn,hs⟩:=x;dsimp only at h0 hc hl⊢;subst h0;go_enter func42,ntmps42;go_wp2_with (at_builtin;refine Mb rfl _ _ 36 rfl 9 i0 underlying36 hi0 _ _ _ _ uK rfl _ _ rfl ?_);refine bodyPost_ret (v:=.agg #[.s ki,.s na,.i ve,.i bo,.s te,.bool en,.l (some ⟨w.1.size+1+1,0,none⟩) 0 0]) (by simp[results,results42,go_sem]) rfl ⟨_,0,rfl,⟨AD _,λ_=>rfl,λh=>absurd h (AY _)⟩,?_,?_⟩;.intro i hi';exact absurd hi' (Aj _)
  .exact(((Ao _ _).alloc uK _).alloc Zc _).alloc Zd _
 .obtain⟨b,off,rfl,hlo,hbh,_⟩:=hc 0 hpos;have hown0:∀(o1 o2:Obj),(((w.alloc o1).alloc o2).alloc (.cells #[] 9)).ownsRow (w.1.size+1+1) 9 1 (.l (some ⟨w.1.size+1+1,0,none⟩) 0 0) 0 []:=λo1 o2=>by have:=GQ (base:=w.1.size+1+1) (e:=9) (size:=1) ((w.alloc o1).alloc o2) #[] 0 Zc Cf rfl;simpa using this
  have hb0:∀(o1 o2 o3:Obj),Below w.1.size w (((w.alloc o1).alloc o2).alloc o3):=λo1 o2 o3=>(((Ao _ _).alloc uK _).alloc Zc _).alloc Zd _;have hnews:∀(o1 o2 o3:Obj),∀j u,(Cq x.hn x.hs)[j]?=some u->(((w.alloc o1).alloc o2).alloc o3).cell? ((⟨b,off,none⟩:Addr).add j)=some u:=λo1 o2 o3 j u hj=>by
   obtain⟨h1,rfl⟩:=TH hj;obtain⟨b',off',e,_,_,e4⟩:=hc j h1;cases e;have ea:((⟨b,off,none⟩:Addr).add j)=⟨b,off+j,none⟩:=by simp[Addr.add]
   rw[ea,(hb0 o1 o2 o3).cell (p:=⟨b,off+j,none⟩) Zk];exact e4
  have HB:=Ah hb0;clear hb0;go_enter func42,ntmps42;go_wp2_with (at_builtin;go_must(refine wpList_append_own _ rfl _ _ 36 rfl (w.1.size+1+1) 9 i0 (.s ByteArray.empty) 1 16 underlying36 hi0 hz0 hz1 hz2 rfl Zb _ 0 [] rfl (hown0 _ _) ⟨b,off,none⟩ x.hn cap (Cq x.hn x.hs) rfl (by rw[Ub];omega) (hnews _ _ _) (TQ _ _) Zm Za Zc ?_;intro v1 w1 hown1 hgrow1 _;have hown2:=Ah hown1;obtain⟨g',cap',rfl,hcp,hS⟩:=NJ (by simpa only[A6,Eg]using hown1) hpos;have vP:=Ah (UM hown2);clear hown1 hown2;obtain⟨A0,A1,F0,F1,hB,hz⟩:=UT hgrow1;clear hgrow1;have p0:=A0 0;have p1:=A0 1;have p2:=A0 2;have p3:=A0 3;have p4:=A0 4;have p5:=A0 5;have p6:=A0 6;have q0:=A1 0;have q1:=A1 1;have q2:=A1 2;have q3:=A1 3;have q4:=A1 4;have q5:=A1 5;have q6:=A1 6;simp only[Af,Ae,Ad]at p0 p1 p2 p3 p4 p5 p6 q0 q1 q2 q3 q4 q5 q6;clear A0 A1;have HS:=Ah hS;clear hS hown0 hnews hc));refine bodyPost_ret (v:=.agg (vO x (some ⟨g',0,none⟩) cap')) (by simp[results,results42,go_sem,q0,q1,q2,q3,q4,q5,q6]) rfl ⟨_,_,rfl,⟨hcp,λh=>absurd h Za,λ_=>⟨g',rfl,by have:=vP.out.2;omega,?_⟩⟩,?_,?_⟩;.refine(My cap'▸vP.out.1).frO (lo:=w.1.size) (hi:=w.1.size+2) ?_ (by have:=vP.out.2;omega);exact VS
  .simp only[Bj];refine(Bz.fr HS (lo2:=w.1.size) (hi2:=w.1.size+2) ?_ uK Za).mono Za uK;exact VS
  .refine hB.trans (Fr.below (lo:=w.1.size) (hi:=w.1.size+2) ?_ uK hB.size);exact VS
theorem OV{a b:Int}(h:(DataW.lit (.i a):DataW Unit)=.lit (.i b)):a=b:=by cases h;rfl
def nB:Ob:=⟨⟨#[]⟩,⟨#[]⟩,0,0,⟨#[]⟩,false,0,λ_=>⟨#[]⟩⟩
def BN (x:Nat->Ob)(a b:ByteArray)(n:Nat):Ob:=match Nq x a b n with|some i=>x i|none=>nB
def Ce (x:Nat->Ob)(a b:ByteArray)(n:Nat):Bool:=(Nq x a b n).isSome
theorem dK{x:Nat->Ob}{a b:ByteArray}{k i:Nat}(h:Nq x a b k=some i):∀{n:Nat},k<=n->Nq x a b n=some i:=by intro n hn;induction n with
 |zero=>have:k=0:=Za;subst this;exact h
 |succ m ih=>
   rcases Au m k with h1|h1;.have:k=m+1:=Za;subst this;exact h
   .exact Mm (ih h1)
theorem LR{a b:ByteArray}(h:a.toList=b.toList):a=b:=by
 have h1:a.data.toList=b.data.toList:=by simpa[ByteArray.toList_eq]using h
 cases a;cases b;simp at h1;exact congrArg ByteArray.mk h1
theorem BK (now floor:Int)(n:Nat)(x:Nat->Ob)(a1 a2 a3:OA)(c1 n2 c2 n3 c3:Nat)(ki na:ByteArray)(w:World)(lo hi:Nat)(hhi:hi<=w.1.size)(hl:(n:Int)<=1099511627776)(hf:∀i,i<n->Ef (x i))(hc:B4 w lo hi a1 n x):Calls prog 66 #[.agg #[.i now,.i floor,.l a1 n c1,.l a2 n2 c2,.l a3 n3 c3],.s ki,.s na] w λe w'=>∃ad' cap',e=.returned (.tuple #[.agg (vO (BN x ki na n) ad' cap'),.bool (Ce x ki na n)])/\(BN x ki na n).hn<=cap'/\Bz w' w.1.size w'.1.size ad' (BN x ki na n).hn (BN x ki na n).hs/\Below w.1.size w w':=by
 have hB0:∀o1 o2:Obj,Below w.1.size w ((w.alloc o1).alloc o2):=λo1 o2=>((Ao _ _).alloc uK _).alloc Zc _;have HB:=Ah hB0;clear hB0;go_enter func66,ntmps66;go_wp2;go_loopw[8](λi wr=>∃k:Nat,k<=n/\i=.i k/\Nq x ki na k=none/\wr=(w.alloc (.cells #[.i now,.i floor,.l a1 n c1,.l a2 n2 c2,.l a3 n3 c3] 27)).alloc (.cells #[.s ⟨#[]⟩,.s ⟨#[]⟩,.i 0,.i 0,.s ⟨#[]⟩,.bool false,.l none 0 0] 38))(λi _=>n-(intOf i).toNat);case atStart=>exact⟨0,At _,rfl,rfl,rfl⟩
 case round=>
  obtain⟨k,hk,rfl,hfd,rfl⟩:=hrel;by_cases hkn:k<n
  .obtain⟨b,off,ah,ch,rfl,hlo,hbh,hcx,hsx⟩:=hc k hkn;have hfi:=(hf k hkn).h;obtain⟨d0,d1,d2,d3,d4,d5,d6⟩:=hcx.below (HB (.cells #[.i now,.i floor,.l (some ⟨b,off,none⟩) n c1,.l a2 n2 c2,.l a3 n3 c3] 27) (.cells #[.s ⟨#[]⟩,.s ⟨#[]⟩,.i 0,.i 0,.s ⟨#[]⟩,.bool false,.l none 0 0] 38)) Za;have HF:=Ah hfd;clear hc hf hcx hfd;go_wp2_with fail
   .have hh:(x k).kind=ki/\(x k).name=na:=⟨LR (by assumption),LR (by have h9:((x k).name.toList==na.toList)=true:=(by assumption);exact eq_of_beq h9)⟩;have yD:=Ah (TS HF hh);have HN:=Ah (dK yD (show k+1<=n by omega));clear hh HF yD;refine(M8 (x k) ah ch _ lo hi Zd hfi (hsx.below (HB _ _) hhi)).mono ?_;rintro e w1 ⟨ah',ch',rfl,hcp,ho1,hb1⟩;have vQ:=Ah hcp.le;clear hcp;have hB1:Below w.1.size w w1:=(HB _ _).trans (hb1.mono Zd);obtain⟨A0,A1,F0,F1⟩:=UJ hb1;have q0:=A1 0;have q1:=A1 1;have q2:=A1 2;have q3:=A1 3;have q4:=A1 4;have q5:=A1 5;have q6:=A1 6;have hz:=hb1.size;simp only[Af,Ae,Ad]at q0 q1 q2 q3 q4 q5 q6;simp only[Aw]at ho1 hz;have HO:=Ah ho1;clear A0 A1 F0 hb1 ho1 d0 d1 d2 d3 d4 d5 d6 hsx;go_wp2;have e1:BN x ki na n=x k:=by unfold BN;rw[HN.out]
    have e2:Ce x ki na n=true:=by unfold Ce;rw[HN.out];rfl
    rw[e1,e2];refine bodyPost_ret (v:=.tuple #[.agg (vO (x k) ah' ch'),.bool true]) (by simp[results,results66,go_sem,q0,q1,q2,q3,q4,q5,q6]) rfl ⟨ah',ch',rfl,vQ,?_,?_⟩
    .simp only[Bj];refine(Bz.fr HO (lo2:=w.1.size) (hi2:=w.1.size+2) ?_ uK Za).mono Za uK;iterate 7 refine Fr.setCell ?_ VG VG _
     exact Fr.refl _ _ _
    .refine hB1.trans (Fr.below (lo:=w.1.size) (hi:=w.1.size+2) ?_ uK hB1.size);iterate 7 refine Fr.setCell ?_ VG VG _
     exact Fr.refl _ _ _
   .have hh:¬((x k).kind=ki/\(x k).name=na):=λe=>by
     have h9:((x k).name.toList==na.toList)=false:=by assumption
     rw[e.2]at h9;simp at h9
    go_roundw;case rel=>exact⟨k+1,Za,by go_num,OP HF hh,by trivial⟩
    case measure=>simp[intOf];omega
   .have hh:¬((x k).kind=ki/\(x k).name=na):=λe=>by
     have h9:¬(x k).kind.toList=ki.toList:=by assumption
     exact h9 (by rw[e.1])
    go_roundw;case rel=>exact⟨k+1,Za,by go_num,OP HF hh,by trivial⟩
    case measure=>simp[intOf];omega
  .have:k=n:=Za;subst this;have HF:=Ah hfd;clear hc hf hfd;go_wp2;have e1:BN x ki na k=nB:=by unfold BN;rw[HF.out]
   have e2:Ce x ki na k=false:=by unfold Ce;rw[HF.out];rfl
   rw[e1,e2];refine bodyPost_ret (v:=.tuple #[.agg #[.s ⟨#[]⟩,.s ⟨#[]⟩,.i 0,.i 0,.s ⟨#[]⟩,.bool false,.l none 0 0],.bool false]) (by simp[results,results66,go_sem]) rfl ⟨none,0,rfl,AD _,?_,?_⟩;.intro j hj;exact absurd hj (Aj _)
   .exact HB _ _
end Go.Proofs.Ytnnjcenacidceaa
