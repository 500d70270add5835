import Derived.Test.YtofencldleijcaaGreatPk08
import Derived.Test.YtofencldleijcaaGreatPk09
import Derived.Maps.OwnSet
import Derived.Maps.OwnOps
import Derived.ProofKit
import Derived.Test.YtofencldleijcaaGreatPk03
import Derived.Deep.QuietTactic
import Derived.BigQuiet
import Derived.Deep.RegionWith
import Derived.Deep.AppendSrc
set_option maxRecDepth 100000
set_option maxHeartbeats 1000000
namespace Go.Proofs.YtofencldleijcaaGreat
open Go.RowKit Go.Maps Go.Proofs.Tryz
theorem BG (x:Ob)(ad:OA)(cap:Nat)(w:World):Calls prog 23 #[.agg (vO x ad cap)] w λe w'=>e=.returned (.agg #[.s x.kind,.s x.name])/\Below w.1.size w w':=by go_enter func23,ntmps23;go_wp2;refine bodyPost_ret (v:=.agg #[.s x.kind,.s x.name]) (by simp[results,results23,go_sem]) rfl ⟨rfl,?_⟩;exact((An _ _).alloc Zc _)
theorem Lu:laidOutB prog=true:=Ze
theorem Og:65<prog.types.size:=of_decide_eq_true Ze
theorem BK:Keyed prog 65:=Keyed.of_law (deep_law_laid Lu (m:=2) Zb Og Ze Ze)
theorem To:prog.keyType 65=true:=Ze
theorem Lt:prog.cellsOf 65=2:=Ze
theorem RI:prog.cellsOf 9=1:=Ze
def kl (a b:ByteArray):Lit:=.s (keyBytes [.s a.data.toList,.s b.data.toList])
theorem KM (a b:ByteArray)(ha:a.size<=maxLen)(hb:b.size<=maxLen):keyOf prog 65 (.agg #[.s a,.s b])=some (kl a b):=by obtain⟨d,hd⟩:∃d,prog.types.size+1=d+2:=⟨prog.types.size-1,by have:=Og;omega⟩;unfold keyOf;rw[underlying65];simp only[To,Value.formed,underlying65,Lt,hd];simp[Program.keyLits,underlying65,underlying9,Lt,RI,Value.cells,ha,hb,kl]
theorem TU{a b a' b':ByteArray}(ha:a.size<=maxLen)(hb:b.size<=maxLen)(ha':a'.size<=maxLen)(hb':b'.size<=maxLen)(h:¬(a=a'/\b=b')):kl a b≠kl a' b':=by intro e;have h1:=KM a b ha hb;have h2:=KM a' b' ha' hb';rw[<-e]at h2;have:=BK.inj h1 h2;simp at this;exact h this
theorem GJ (w:World):(zeroValue 3).run prog w=.ok (.i 0) w:=Ze
def Jb (x:Nat->Ob)(a b:ByteArray):Nat->Option Nat
 |0=>none
 |n+1=>match Jb x a b n with
  |some i=>some i
  |none=>if(x n).kind=a/\(x n).name=b then some n else none
theorem Ju{x:Nat->Ob}{a b:ByteArray}:∀{n i:Nat},Jb x a b n=some i->i<n/\(x i).kind=a/\(x i).name=b
 |0,_,h=>by cases h
 |n+1,i,h=>by
  unfold Jb at h;split at h;.rename_i j hj;cases h;have:=Ju hj;exact⟨Zb,this.2⟩
  .split at h;.rename_i hh;cases h;exact⟨Zb,hh⟩
   .cases h
theorem Hr{x:Nat->Ob}{a b:ByteArray}{n i:Nat}(h:Jb x a b n=some i):Jb x a b (n+1)=some i:=by unfold Jb;rw[h]
theorem MN{x:Nat->Ob}{a b:ByteArray}{n:Nat}(h:Jb x a b n=none)(h2:(x n).kind=a/\(x n).name=b):Jb x a b (n+1)=some n:=by unfold Jb;rw[h];exact if_pos h2
theorem JP{x:Nat->Ob}{a b:ByteArray}{n:Nat}(h:Jb x a b n=none)(h2:¬((x n).kind=a/\(x n).name=b)):Jb x a b (n+1)=none:=by unfold Jb;rw[h];exact if_neg h2
def SN (x:Nat->Ob)(n:Nat)(D:DataW Unit):Prop:=∀a b:ByteArray,a.size<=maxLen->b.size<=maxLen->(∀i,Jb x a b n=some i->Maps.has D (kl a b)=true/\D.atKey (kl a b) (.lit (.i 0))=.lit (.i i))/\(Jb x a b n=none->Maps.has D (kl a b)=false)
theorem SE (x:Nat->Ob):SN x 0 (.map []):=λa b _ _=>⟨λi h=>KW,λ_=>rfl⟩
theorem UN{x:Nat->Ob}{n i:Nat}{D:DataW Unit}(h:SN x n D)(hi:Jb x (x n).kind (x n).name n=some i):SN x (n+1) D:=λa b ha hb=>by
 obtain⟨h1,h2⟩:=h a b ha hb;by_cases hh:(x n).kind=a/\(x n).name=b
 .obtain⟨rfl,rfl⟩:=hh;refine⟨λj hj=>?_,λhj=>?_⟩;.rw[Hr hi]at hj;cases hj;exact h1 _ hi
  .rw[Hr hi]at hj;cases hj
 .cases hc:Jb x a b n with
  |none=>exact⟨λj hj=>(by rw[JP hc hh]at hj;cases hj),λ_=>h2 hc⟩
  |some m=>exact⟨λj hj=>(by rw[Hr hc]at hj;cases hj;exact h1 _ hc),λhj=>(by rw[Hr hc]at hj;cases hj)⟩
theorem Kx (a b:ByteArray)(ha:a.size<=maxLen)(hb:b.size<=maxLen):WideAt.IsKeyLit (kl a b):=BK.key (KM a b ha hb)
theorem Yu{x:Nat->Ob}{n:Nat}{D:DataW Unit}(h:SN x n D)(hD:IsMap D)(hi:Jb x (x n).kind (x n).name n=none)(hk:(x n).kind.size<=maxLen)(hn:(x n).name.size<=maxLen):SN x (n+1) (D.put (kl (x n).kind (x n).name) (.lit (.i n))):=λa b ha hb=>by
 obtain⟨h1,h2⟩:=h a b ha hb;by_cases hh:(x n).kind=a/\(x n).name=b
 .obtain⟨rfl,rfl⟩:=hh;refine⟨λj hj=>?_,λhj=>?_⟩
  .rw[MN hi ⟨rfl,rfl⟩]at hj;cases hj;exact⟨has_put_same hD (Kx _ _ hk hn) _,atKey_put_same hD (Kx _ _ hk hn) _ _⟩
  .rw[MN hi ⟨rfl,rfl⟩]at hj;cases hj
 .have hne:kl a b≠kl (x n).kind (x n).name:=TU ha hb hk hn (λe=>hh ⟨e.1.symm,e.2.symm⟩);rw[has_put_other hne,atKey_put_other hne];cases hc:Jb x a b n with
  |none=>exact⟨λj hj=>(by rw[JP hc hh]at hj;cases hj),λ_=>h2 hc⟩
  |some m=>exact⟨λj hj=>(by rw[Hr hc]at hj;cases hj;exact h1 _ hc),λhj=>(by rw[Hr hc]at hj;cases hj)⟩
theorem Gd (n:Nat)(w:World):(Instr.makeMap 53 (some (.i (n:Int)))).run prog w=.ok (.map (some w.1.size)) (w.alloc (.map #[] 0)):=by simp[Instr.makeMap,run_underlying underlying53,asInt,asIntOf,Result.andThen]
theorem S7 (n:Nat)(x:Nat->Ob)(ad:OA)(cap:Nat)(w:World)(lo hi:Nat)(hhi:hi<=w.1.size)(hl:(n:Int)<=1099511627776)(hf:∀i,i<n->DD (x i))(hc:Bs w lo hi ad n x):Calls prog 81 #[.l ad n cap] w λe w'=>∃D:DataW Unit,e=.returned (.map (some w.1.size))/\w'.ownsMap prog 65 (plainElem prog 3) w.1.size n D/\SN x n D/\Below w.1.size w w':=by
 have hmm:=Gd n w;go_enter func81,ntmps81;go_wp2_with fail;go_loopw[13](λi wr=>∃(k:Nat)(D:DataW Unit),k<=n/\i=.i k/\Below w.1.size w wr/\wr.ownsMap prog 65 (plainElem prog 3) w.1.size k D/\SN x k D)(λi _=>n-(intOf i).toNat);case atStart=>exact⟨0,.map [],Aw _,rfl,An _ _,H8 _ _ _ _,SE x⟩
 case round=>
  obtain⟨k,D,hk,rfl,hb,hown,htold⟩:=hrel;clear hmm;by_cases hkn:k<n
  .obtain⟨b,off,ah,ch,rfl,hlo,hbh,hcx,hsx⟩:=hc k hkn;obtain⟨fk,fn,_,_,_⟩:=hf k hkn;have hsk:(x k).kind.size<=maxLen:=by unfold maxLen;omega
   have hsn:(x k).name.size<=maxLen:=by unfold maxLen;omega
   obtain⟨d0,d1,d2,d3,d4,d5,d6⟩:=hcx.below hb Zb;clear hc hf hcx hsx;have hky:=KM (x k).kind (x k).name hsk hsn;cases hfd:Jb x (x k).kind (x k).name k with
   |none=>
    have hhas:=(htold _ _ hsk hsn).2 hfd;have HT:=Ag (Yu htold hown.isMap hfd hsk hsn);have JJ:=Ag hown;clear hfd htold hown;go_wp2_with fail;refine(BG (x k) ah ch _).mono ?_;rintro e w1 ⟨rfl,hb1⟩;have hown1:=Ag (AQ (JJ.alloc _) hb1 (by simp;have:=JJ.lt;omega));have hB1:=(hb.alloc hb.size (.cells (vO (x k) ah ch) 61)).trans (hb1.mono Vr);have p0:=As hb1 0;have p1:=As hb1 1;have p2:=As hb1 2;have p3:=As hb1 3;have p4:=As hb1 4;have p5:=As hb1 5;have p6:=As hb1 6;simp only[Ac,Ab,Aa]at p0 p1 p2 p3 p4 p5 p6;clear hb1 d0 d1 d2 d3 d4 d5 d6 JJ;go_wp2_with (at_lookup;go_must(refine wpList_lookup_own_ok_int _ rfl _ _ 53 rfl 65 3 .i64 BK underlying53 underlying3 (GJ _) w.1.size k D rfl hown1 _ _ rfl hky ?_;intro c hat hwc));refine(BG (x k) ah ch _).mono ?_;rintro e w2 ⟨rfl,hb2⟩;have hown2:=Ag (AQ hown1 hb2 hown1.lt);have hB2:=hB1.trans (hb2.mono hB1.size);clear hb2 p0 p1 p2 p3 p4 p5 p6 hat hwc hown1;go_wp2_with (at_mapUpdate;go_must(refine wpList_mapUpdate_own _ rfl _ _ _ 53 rfl 65 3 BK underlying53 _ w.1.size k D rfl hown2 Zs _ _ _ rfl rfl hky _ [] (plainElem_int underlying3 (MG Zb)) ?_;intro w3 hown3 hgrow3));go_roundw;case rel=>exact⟨k+1,_,Zb,by go_num,hB2.grown hgrow3 hB2.size (λj hj=>by cases hj;exact Az _),hown3,HT⟩
    case measure=>simp[intOf];omega
   |some i=>
    have hhas:=((htold _ _ hsk hsn).1 i hfd).1;have HT:=Ag (UN htold hfd);have JJ:=Ag hown;clear hfd htold hown;go_wp2_with fail;refine(BG (x k) ah ch _).mono ?_;rintro e w1 ⟨rfl,hb1⟩;have hown1:=Ag (AQ (JJ.alloc _) hb1 (by simp;have:=JJ.lt;omega));have hB1:=(hb.alloc hb.size (.cells (vO (x k) ah ch) 61)).trans (hb1.mono Vr);have p0:=As hb1 0;have p1:=As hb1 1;have p2:=As hb1 2;have p3:=As hb1 3;have p4:=As hb1 4;have p5:=As hb1 5;have p6:=As hb1 6;simp only[Ac,Ab,Aa]at p0 p1 p2 p3 p4 p5 p6;clear hb1 d0 d1 d2 d3 d4 d5 d6 JJ;clear p0 p1 p2 p3 p4 p5 p6;go_wp2_with (at_lookup;go_must(refine wpList_lookup_own_ok_int _ rfl _ _ 53 rfl 65 3 .i64 BK underlying53 underlying3 (GJ _) w.1.size k D rfl hown1 _ _ rfl hky ?_;intro c hat hwc));go_roundw;case rel=>exact⟨k+1,D,Zb,by go_num,hB1,hown1.mono Zb,HT⟩
    case measure=>simp[intOf];omega
  .have:k=n:=Zb;subst this;have HR:=Ag (And.intro hown htold);clear hc hf hown htold;go_wp2;go_ret;exact⟨D,rfl,HR.out.1,HR.out.2,hb⟩
end Go.Proofs.YtofencldleijcaaGreat
namespace Go.Proofs.YtofencldleijcaaGreat
open Go.RowKit Go.Proofs.Tryz
theorem Ax.drewN{w:World}{lo hi:Nat}{ad:OA}{n:Nat}{s:Nat->ByteArray}(h:Ax w lo hi ad n s)(q:Nat):Ax (w.drewN q) lo hi ad n s:=h
theorem Ax.mono{w:World}{lo hi lo2 hi2:Nat}{ad:OA}{n:Nat}{s:Nat->ByteArray}(h:Ax w lo hi ad n s)(h1:lo2<=lo)(h2:hi<=hi2):Ax w lo2 hi2 ad n s:=λi hi'=>by obtain⟨b,off,e1,e2,e3,e4⟩:=h i hi';exact⟨b,off,e1,Zb,Zb,e4⟩
end Go.Proofs.YtofencldleijcaaGreat
namespace Go.Proofs.YtofencldleijcaaGreat
open Go.RowKit Go.Proofs.Tryz
theorem Rf{w w1:World}{c0 c1:Array Value}{t0 t1:TypeId}(hb:Below ((w.alloc (.cells c0 t0)).alloc (.cells c1 t1)).1.size ((w.alloc (.cells c0 t0)).alloc (.cells c1 t1)) w1):(∀i,w1.cell? ⟨w.1.size,i,none⟩=c0[i]?)/\(∀i,w1.cell? ⟨w.1.size+1,i,none⟩=c1[i]?)/\(∀i,w1.frozen? ⟨w.1.size,i,none⟩=false)/\(∀i,w1.frozen? ⟨w.1.size+1,i,none⟩=false):=by
 refine⟨λi=>?_,λi=>?_,λi=>?_,λi=>?_⟩;.rw[hb.cell (p:=⟨w.1.size,i,none⟩) Zd];rw[Aq _ _ _ Zc,Gk _ _ _ _ rfl]
 .rw[hb.cell (p:=⟨w.1.size+1,i,none⟩) Zc];rw[Gk _ _ _ _ Zc]
 .rw[hb.frozen (p:=⟨w.1.size,i,none⟩) Zd];rw[World.frozen?_alloc_past _ _ _ Zc,IX _ _ _ _ rfl]
 .rw[hb.frozen (p:=⟨w.1.size+1,i,none⟩) Zc];rw[IX _ _ _ _ Zc]
end Go.Proofs.YtofencldleijcaaGreat
namespace Go.Proofs.YtofencldleijcaaGreat
open Go.RowKit Go.Maps Go.Proofs.Tryz
theorem HJ{P:Program}{w:World}{ops:Array Oper}{rest:List Oper}{o:Oper}{a:Act}{Q:Exit->Act->World->Prop}(hgd:o.guard=none)(s x:Operand)(t:TypeId)(ho:o.op=.call {callee:=.builtin .append,args:=#[s,x],argTypes:=#[t,t]})(e:TypeId)(i:TypeInfo)(ht:P.underlying t=some (.slice e))(hi:P.info? e=some i)(b off sLen sCap:Nat)(hle:sLen<=sCap)(hs:a.eval s=.l (some ⟨b,off,none⟩) sLen sCap)(ad:OA)(c:Nat)(hx:a.eval x=.l ad 0 c)(h:wpList P ops Q rest (a.put o.dst (.l (some ⟨b,off,none⟩) sLen sCap)) w):wpList P ops Q (o::rest) a w:=by
 refine wpList_plain hgd λK hK=>?_;have hsrc:Src P i.size t (.l ad 0 c) 0 [] w:=by cases ad with
  |none=>exact Src.ofNil w ht c
  |some a0=>exact Src.ofSlice w ht a0 0 c [] Zc (λj u hj=>by simp at hj) (λu hu=>by cases hu)
 have hrun:=run_append_room_src (P:=P) w t t o.type e i ht hi b off sLen sCap _ 0 [] hsrc Zb (λj hj=>by simp at hj) (λj hj=>by simp at hj);simp only[Ks,World.setCells]at hrun;unfold Oper.wp;simp[execOp,ho,resolve,invoke,builtin,hs,hx,hrun,Result.andThen];exact hK _ _ h
def Cr (n:Nat)(s:Nat->ByteArray):List Value:=(List.range n).map λi=>.s (s i)
theorem PR{n:Nat}{s:Nat->ByteArray}{j:Nat}{u:Value}(h:(Cr n s)[j]?=some u):j<n/\u=.s (s j):=by
 simp only[Cr,List.getElem?_map]at h;rcases At j n with h1|h1;.rw[BN (by simpa using h1)]at h;simp at h;exact⟨h1,h.symm⟩
 .rw[List.getElem?_eq_none (by simpa using h1)]at h;cases h
theorem QA{n:Nat}{s:Nat->ByteArray}{j:Nat}(h:j<n):(Cr n s)[j]?=some (.s (s j)):=by simp[Cr,h]
theorem PC (n:Nat)(s:Nat->ByteArray):(Cr n s).length=n:=by simp[Cr]
theorem PF (n:Nat)(s:Nat->ByteArray):∀u∈Cr n s,u.oneCell'=true:=by intro u hu;obtain⟨i,_,rfl⟩:=CI.1 hu;rfl
theorem JU{w:World}{base n:Nat}{v:Value}{s:Nat->ByteArray}(h:w.ownsRow base 9 1 v n (Cr n s))(hn:0<n):∃g cap,v=.l (some ⟨g,0,none⟩) n cap/\n<=cap/\Bd w base w.1.size (some ⟨g,0,none⟩) n s:=by
 rcases h.2 with⟨_,h0⟩|⟨g,cap,cur,rfl,hg,hh,hr⟩;.omega
 .refine⟨g,cap,rfl,hr.1,λi hi=>⟨g,0,rfl,hg,(AS.1 hh).1,?_,?_⟩⟩;.have:=World.ownsRow.cellAt (g:=g) (cap:=cap) h i Zb;simpa[QA hi]using this
  .simpa using World.ownsRow.frozenAt (g:=g) (cap:=cap) h i
theorem Rh{w w1:World}{c0 c1:Array Value}{t0 t1:TypeId}{o2:Obj}(hg:(((w.alloc (.cells c0 t0)).alloc (.cells c1 t1)).alloc o2).grownBy w1 (some (w.1.size+1+1))):(∀i,w1.cell? ⟨w.1.size,i,none⟩=c0[i]?)/\(∀i,w1.cell? ⟨w.1.size+1,i,none⟩=c1[i]?)/\(∀i,w1.frozen? ⟨w.1.size,i,none⟩=false)/\(∀i,w1.frozen? ⟨w.1.size+1,i,none⟩=false)/\Below w.1.size w w1/\w.1.size+2<w1.1.size:=by
 have hB2:Below (w.1.size+1+1) ((w.alloc (.cells c0 t0)).alloc (.cells c1 t1)) w1:=((Al _ _).alloc Zc o2).grown hg Zc (λk hk=>by cases hk;exact Az _);have hB2':Below ((w.alloc (.cells c0 t0)).alloc (.cells c1 t1)).1.size ((w.alloc (.cells c0 t0)).alloc (.cells c1 t1)) w1:=by simpa using hB2
 obtain⟨A0,A1,F0,F1⟩:=Rf hB2';refine⟨A0,A1,F0,F1,((An _ _).alloc Zc _).trans (hB2.mono Zb),?_⟩;have:=hg.size;simp at this;omega
structure bC (w:World)(base:Nat)(ad:OA)(n cap:Nat):Prop where
 le:n<=cap
 z:n=0->cap=0
 rm:0<cap->∃g,ad=some ⟨g,0,none⟩/\base<=g/\Fk w g cap
theorem Fk.frO{w w':World}{g m lo hi:Nat}(h:Fk w g m)(hf:Fr lo hi w w')(ho:g<lo\/hi<=g):Fk w' g m:=⟨λj hj=>by obtain⟨u,hu⟩:=h.has j hj;exact⟨u,(hf.cell (p:=⟨g,j,none⟩) h.lt ho).trans hu⟩,λj=>(hf.frozen (p:=⟨g,j,none⟩) h.lt ho).trans (h.free j),Ad h.lt hf.size⟩
theorem Rn{w:World}{base e z n g l cap:Nat}{xs:List Value}(h:w.ownsRow base e z (.l (some ⟨g,0,none⟩) l cap) n xs):Fk w g (cap*z)/\base<=g:=by
 rcases h.2 with⟨h1,_⟩|⟨g',cap',cur,h1,h2,h3,h4,h5,h6,h7⟩;.cases h1
 .injection h1 with e1 e2 e3;injection e1 with e1;injection e1 with e1;subst e1;subst e3;refine⟨⟨λj hj=>⟨cur[j]'Zb,?_⟩,λj=>?_,?_⟩,h2⟩;.have hj':j<cur.size:=Zb;simp[World.cell?,h3,hj']
  .simp[World.frozen?,h3]
  .exact(AS.1 h3).1
theorem Tn{P:Prop}(h:P:=by
  iterate 8 refine Fr.setCell ?_ (by simp;try omega) (by simp;try omega) _
  exact Fr.refl _ _ _):P:=h
theorem Kz (x:Ob)(ad:OA)(cap:Nat)(w:World)(lo hi:Nat)(hhi:hi<=w.1.size)(hl:(x.hn:Int)<=8796093022208)(hc:Ax w lo hi ad x.hn x.hs):Calls prog 61 #[.agg (vO x ad cap)] w λe w'=>∃ad' cap',e=.returned (.agg (vO x ad' cap'))/\bC w' w.1.size ad' x.hn cap'/\Bd w' w.1.size w'.1.size ad' x.hn x.hs/\Below w.1.size w w':=by
 obtain⟨i0,hi0,hz0,hz1,hz2⟩:=info_parts Fp;rcases BF x.hn with h0|hpos
 .obtain⟨ki,na,ve,bo,te,en,hn,hs⟩:=x;dsimp only at h0 hc hl⊢;subst h0;go_enter func61,ntmps61;go_wp2_with (at_builtin;refine HJ rfl _ _ 59 rfl 9 i0 underlying59 hi0 _ _ _ _ Bg rfl _ _ rfl ?_);refine bodyPost_ret (v:=.agg #[.s ki,.s na,.i ve,.i bo,.s te,.bool en,.l (some ⟨w.1.size+1+1,0,none⟩) 0 0]) (by simp[results,results61,go_sem]) rfl ⟨_,0,rfl,⟨Az _,λ_=>rfl,λh=>absurd h (AJ _)⟩,?_,?_⟩;.intro i hi';exact absurd hi' (Ai _)
  .exact(((Al _ _).alloc Bg _).alloc Zc _).alloc Zd _
 .obtain⟨b,off,rfl,hlo,hbh,_⟩:=hc 0 hpos;have hown0:∀(o1 o2:Obj),(((w.alloc o1).alloc o2).alloc (.cells #[] 9)).ownsRow (w.1.size+1+1) 9 1 (.l (some ⟨w.1.size+1+1,0,none⟩) 0 0) 0 []:=λo1 o2=>by have:=Et (base:=w.1.size+1+1) (e:=9) (size:=1) ((w.alloc o1).alloc o2) #[] 0 Zc OM rfl;simpa using this
  have hb0:∀(o1 o2 o3:Obj),Below w.1.size w (((w.alloc o1).alloc o2).alloc o3):=λo1 o2 o3=>(((Al _ _).alloc Bg _).alloc Zc _).alloc Zd _;have hnews:∀(o1 o2 o3:Obj),∀j u,(Cr x.hn x.hs)[j]?=some u->(((w.alloc o1).alloc o2).alloc o3).cell? ((⟨b,off,none⟩:Addr).add j)=some u:=λo1 o2 o3 j u hj=>by
   obtain⟨h1,rfl⟩:=PR hj;obtain⟨b',off',e,_,_,e4⟩:=hc j h1;cases e;have ea:((⟨b,off,none⟩:Addr).add j)=⟨b,off+j,none⟩:=by simp[Addr.add]
   rw[ea,(hb0 o1 o2 o3).cell (p:=⟨b,off+j,none⟩) Zq];exact e4
  have HB:=Ag hb0;clear hb0;go_enter func61,ntmps61;go_wp2_with (at_builtin;go_must(refine wpList_append_own _ rfl _ _ 59 rfl (w.1.size+1+1) 9 i0 (.s ByteArray.empty) 1 16 underlying59 hi0 hz0 hz1 hz2 rfl Za _ 0 [] rfl (hown0 _ _) ⟨b,off,none⟩ x.hn cap (Cr x.hn x.hs) rfl (by rw[PC];omega) (hnews _ _ _) (PF _ _) Zs Zb Zc ?_;intro v1 w1 hown1 hgrow1 _;have hown2:=Ag hown1;obtain⟨g',cap',rfl,hcp,hS⟩:=JU (by simpa only[Bq,Cu]using hown1) hpos;have nK:=Ag (Rn hown2);clear hown1 hown2;obtain⟨A0,A1,F0,F1,hB,hz⟩:=Rh hgrow1;clear hgrow1;have p0:=A0 0;have p1:=A0 1;have p2:=A0 2;have p3:=A0 3;have p4:=A0 4;have p5:=A0 5;have p6:=A0 6;have q0:=A1 0;have q1:=A1 1;have q2:=A1 2;have q3:=A1 3;have q4:=A1 4;have q5:=A1 5;have q6:=A1 6;simp only[Ac,Ab,Aa]at p0 p1 p2 p3 p4 p5 p6 q0 q1 q2 q3 q4 q5 q6;clear A0 A1;have HS:=Ag hS;clear hS hown0 hnews hc));refine bodyPost_ret (v:=.agg (vO x (some ⟨g',0,none⟩) cap')) (by simp[results,results61,go_sem,q0,q1,q2,q3,q4,q5,q6]) rfl ⟨_,_,rfl,⟨hcp,λh=>absurd h Zb,λ_=>⟨g',rfl,by have:=nK.out.2;omega,?_⟩⟩,?_,?_⟩;.refine(Nat.mul_one cap'▸nK.out.1).frO (lo:=w.1.size) (hi:=w.1.size+2) ?_ (by have:=nK.out.2;omega);exact Tn
  .simp only[Bi];refine(Bd.fr HS (lo2:=w.1.size) (hi2:=w.1.size+2) ?_ Bg Zb).mono Zb Bg;exact Tn
  .refine hB.trans (Fr.below (lo:=w.1.size) (hi:=w.1.size+2) ?_ Bg hB.size);exact Tn
theorem Le{a b:Int}(h:(DataW.lit (.i a):DataW Unit)=.lit (.i b)):a=b:=by cases h;rfl
def Z8:Ob:=⟨⟨#[]⟩,⟨#[]⟩,0,0,⟨#[]⟩,false,0,λ_=>⟨#[]⟩⟩
def BS (x:Nat->Ob)(a b:ByteArray)(n:Nat):Ob:=match Jb x a b n with|some i=>x i|none=>Z8
def B8 (x:Nat->Ob)(a b:ByteArray)(n:Nat):Bool:=(Jb x a b n).isSome
theorem Q8{x:Nat->Ob}{a b:ByteArray}{k i:Nat}(h:Jb x a b k=some i):∀{n:Nat},k<=n->Jb x a b n=some i:=by intro n hn;induction n with
 |zero=>have:k=0:=Zb;subst this;exact h
 |succ m ih=>
   rcases At m k with h1|h1;.have:k=m+1:=Zb;subst this;exact h
   .exact Hr (ih h1)
theorem Gx{a b:ByteArray}(h:a.toList=b.toList):a=b:=by
 have h1:a.data.toList=b.data.toList:=by simpa[ByteArray.toList_eq]using h
 cases a;cases b;simp at h1;exact congrArg ByteArray.mk h1
theorem BP (now floor:Int)(n:Nat)(x:Nat->Ob)(a1 a2 a3:OA)(c1 n2 c2 n3 c3:Nat)(ki na:ByteArray)(w:World)(lo hi:Nat)(hhi:hi<=w.1.size)(hl:(n:Int)<=1099511627776)(hf:∀i,i<n->DD (x i))(hc:Bs w lo hi a1 n x):Calls prog 38 #[.agg #[.i now,.i floor,.l a1 n c1,.l a2 n2 c2,.l a3 n3 c3],.s ki,.s na] w λe w'=>∃ad' cap',e=.returned (.tuple #[.agg (vO (BS x ki na n) ad' cap'),.bool (B8 x ki na n)])/\(BS x ki na n).hn<=cap'/\Bd w' w.1.size w'.1.size ad' (BS x ki na n).hn (BS x ki na n).hs/\Below w.1.size w w':=by
 have hB0:∀o1 o2:Obj,Below w.1.size w ((w.alloc o1).alloc o2):=λo1 o2=>((Al _ _).alloc Bg _).alloc Zc _;have HB:=Ag hB0;clear hB0;go_enter func38,ntmps38;go_wp2;go_loopw[8](λi wr=>∃k:Nat,k<=n/\i=.i k/\Jb x ki na k=none/\wr=(w.alloc (.cells #[.i now,.i floor,.l a1 n c1,.l a2 n2 c2,.l a3 n3 c3] 27)).alloc (.cells #[.s ⟨#[]⟩,.s ⟨#[]⟩,.i 0,.i 0,.s ⟨#[]⟩,.bool false,.l none 0 0] 61))(λi _=>n-(intOf i).toNat);case atStart=>exact⟨0,Aw _,rfl,rfl,rfl⟩
 case round=>
  obtain⟨k,hk,rfl,hfd,rfl⟩:=hrel;by_cases hkn:k<n
  .obtain⟨b,off,ah,ch,rfl,hlo,hbh,hcx,hsx⟩:=hc k hkn;have hfi:=(hf k hkn).h;obtain⟨d0,d1,d2,d3,d4,d5,d6⟩:=hcx.below (HB (.cells #[.i now,.i floor,.l (some ⟨b,off,none⟩) n c1,.l a2 n2 c2,.l a3 n3 c3] 27) (.cells #[.s ⟨#[]⟩,.s ⟨#[]⟩,.i 0,.i 0,.s ⟨#[]⟩,.bool false,.l none 0 0] 61)) Zb;have HF:=Ag hfd;clear hc hf hcx hfd;go_wp2_with fail
   .have hh:(x k).kind=ki/\(x k).name=na:=⟨Gx (by assumption),Gx (by have h9:((x k).name.toList==na.toList)=true:=(by assumption);exact eq_of_beq h9)⟩;have dA:=Ag (MN HF hh);have HN:=Ag (Q8 dA (show k+1<=n by omega));clear hh HF dA;refine(Kz (x k) ah ch _ lo hi Zd hfi (hsx.below (HB _ _) hhi)).mono ?_;rintro e w1 ⟨ah',ch',rfl,hcp,ho1,hb1⟩;have nH:=Ag hcp.le;clear hcp;have hB1:Below w.1.size w w1:=(HB _ _).trans (hb1.mono Zd);obtain⟨A0,A1,F0,F1⟩:=Rf hb1;have q0:=A1 0;have q1:=A1 1;have q2:=A1 2;have q3:=A1 3;have q4:=A1 4;have q5:=A1 5;have q6:=A1 6;have hz:=hb1.size;simp only[Ac,Ab,Aa]at q0 q1 q2 q3 q4 q5 q6;simp only[Au]at ho1 hz;have HO:=Ag ho1;clear A0 A1 F0 hb1 ho1 d0 d1 d2 d3 d4 d5 d6 hsx;go_wp2;have e1:BS x ki na n=x k:=by unfold BS;rw[HN.out]
    have e2:B8 x ki na n=true:=by unfold B8;rw[HN.out];rfl
    rw[e1,e2];refine bodyPost_ret (v:=.tuple #[.agg (vO (x k) ah' ch'),.bool true]) (by simp[results,results38,go_sem,q0,q1,q2,q3,q4,q5,q6]) rfl ⟨ah',ch',rfl,nH,?_,?_⟩
    .simp only[Bi];refine(Bd.fr HO (lo2:=w.1.size) (hi2:=w.1.size+2) ?_ Bg Zb).mono Zb Bg;iterate 7 refine Fr.setCell ?_ (by simp;try omega) (by simp;try omega) _
     exact Fr.refl _ _ _
    .refine hB1.trans (Fr.below (lo:=w.1.size) (hi:=w.1.size+2) ?_ Bg hB1.size);iterate 7 refine Fr.setCell ?_ (by simp;try omega) (by simp;try omega) _
     exact Fr.refl _ _ _
   .have hh:¬((x k).kind=ki/\(x k).name=na):=λe=>by
     have h9:((x k).name.toList==na.toList)=false:=by assumption
     rw[e.2]at h9;simp at h9
    go_roundw;case rel=>exact⟨k+1,Zb,by go_num,JP HF hh,by trivial⟩
    case measure=>simp[intOf];omega
   .have hh:¬((x k).kind=ki/\(x k).name=na):=λe=>by
     have h9:¬(x k).kind.toList=ki.toList:=by assumption
     exact h9 (by rw[e.1])
    go_roundw;case rel=>exact⟨k+1,Zb,by go_num,JP HF hh,by trivial⟩
    case measure=>simp[intOf];omega
  .have:k=n:=Zb;subst this;have HF:=Ag hfd;clear hc hf hfd;go_wp2;have e1:BS x ki na k=Z8:=by unfold BS;rw[HF.out]
   have e2:B8 x ki na k=false:=by unfold B8;rw[HF.out];rfl
   rw[e1,e2];refine bodyPost_ret (v:=.tuple #[.agg #[.s ⟨#[]⟩,.s ⟨#[]⟩,.i 0,.i 0,.s ⟨#[]⟩,.bool false,.l none 0 0],.bool false]) (by simp[results,results38,go_sem]) rfl ⟨none,0,rfl,Az _,?_,?_⟩;.intro j hj;exact absurd hj (Ai _)
   .exact HB _ _
end Go.Proofs.YtofencldleijcaaGreat
