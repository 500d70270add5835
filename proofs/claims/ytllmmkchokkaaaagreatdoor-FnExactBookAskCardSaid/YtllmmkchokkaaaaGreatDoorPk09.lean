import Derived.Test.YtllmmkchokkaaaaGreatDoorPk07
import Derived.Test.YtllmmkchokkaaaaGreatDoorPk08
import Derived.Maps.OwnSet
import Derived.Maps.OwnOps
import Derived.ProofKit
import Derived.Test.YtllmmkchokkaaaaGreatDoorPk03
import Derived.Deep.QuietTactic
import Derived.BigQuiet
import Derived.Deep.RegionWith
set_option maxRecDepth 100000
set_option maxHeartbeats 1000000
namespace Go.Proofs.YtllmmkchokkaaaaGreatDoor
open Go.RowKit Go.Maps Go.Proofs.Tryz
theorem B9 (x:Ob)(ad:OA)(cap:Nat)(w:World):Calls prog 139 #[.agg (vO x ad cap)] w λe w'=>e=.returned (.agg #[.s x.kind,.s x.name])/\Below w.1.size w w':=by go_enter func139,ntmps139;go_wp2;refine bodyPost_ret (v:=.agg #[.s x.kind,.s x.name]) (by simp[results,results139,go_sem]) rfl ⟨rfl,?_⟩;exact((Ae _ _).alloc Ze _)
theorem JM:laidOutB prog=true:=Zc
theorem Oa:139<prog.types.size:=of_decide_eq_true Zc
theorem Cm:Keyed prog 139:=Keyed.of_law (deep_law_laid JM (m:=2) Za Oa Zc Zc)
theorem Ul:prog.keyType 139=true:=Zc
theorem Lc:prog.cellsOf 139=2:=Zc
theorem Uh:prog.cellsOf 9=1:=Zc
def kl (a b:ByteArray):Lit:=.s (keyBytes [.s a.data.toList,.s b.data.toList])
theorem Uc (a b:ByteArray)(ha:a.size<=maxLen)(hb:b.size<=maxLen):keyOf prog 139 (.agg #[.s a,.s b])=some (kl a b):=by obtain⟨d,hd⟩:∃d,prog.types.size+1=d+2:=⟨prog.types.size-1,by have:=Oa;omega⟩;unfold keyOf;rw[underlying139];simp only[Ul,Value.formed,underlying139,Lc,hd];simp[Program.keyLits,underlying139,underlying9,Lc,Uh,Value.cells,ha,hb,kl]
theorem oL{a b a' b':ByteArray}(ha:a.size<=maxLen)(hb:b.size<=maxLen)(ha':a'.size<=maxLen)(hb':b'.size<=maxLen)(h:¬(a=a'/\b=b')):kl a b≠kl a' b':=by intro e;have h1:=Uc a b ha hb;have h2:=Uc a' b' ha' hb';rw[<-e]at h2;have:=Cm.inj h1 h2;simp at this;exact h this
theorem JP (w:World):(zeroValue 3).run prog w=.ok (.i 0) w:=Zc
def JS (x:Nat->Ob)(a b:ByteArray):Nat->Option Nat
 |0=>none
 |n+1=>match JS x a b n with
  |some i=>some i
  |none=>if(x n).kind=a/\(x n).name=b then some n else none
theorem ND{x:Nat->Ob}{a b:ByteArray}:∀{n i:Nat},JS x a b n=some i->i<n/\(x i).kind=a/\(x i).name=b
 |0,_,h=>by cases h
 |n+1,i,h=>by
  unfold JS at h;split at h;.rename_i j hj;cases h;have:=ND hj;exact⟨Za,this.2⟩
  .split at h;.rename_i hh;cases h;exact⟨Za,hh⟩
   .cases h
theorem GU{x:Nat->Ob}{a b:ByteArray}{n i:Nat}(h:JS x a b n=some i):JS x a b (n+1)=some i:=by unfold JS;rw[h]
theorem Mp{x:Nat->Ob}{a b:ByteArray}{n:Nat}(h:JS x a b n=none)(h2:(x n).kind=a/\(x n).name=b):JS x a b (n+1)=some n:=by unfold JS;rw[h];exact if_pos h2
theorem KF{x:Nat->Ob}{a b:ByteArray}{n:Nat}(h:JS x a b n=none)(h2:¬((x n).kind=a/\(x n).name=b)):JS x a b (n+1)=none:=by unfold JS;rw[h];exact if_neg h2
def Vm (x:Nat->Ob)(n:Nat)(D:DataW Unit):Prop:=∀a b:ByteArray,a.size<=maxLen->b.size<=maxLen->(∀i,JS x a b n=some i->Maps.has D (kl a b)=true/\D.atKey (kl a b) (.lit (.i 0))=.lit (.i i))/\(JS x a b n=none->Maps.has D (kl a b)=false)
theorem VB (x:Nat->Ob):Vm x 0 (.map []):=λa b _ _=>⟨λi h=>Qc,λ_=>rfl⟩
theorem Yb{x:Nat->Ob}{n i:Nat}{D:DataW Unit}(h:Vm x n D)(hi:JS x (x n).kind (x n).name n=some i):Vm x (n+1) D:=λa b ha hb=>by
 obtain⟨h1,h2⟩:=h a b ha hb;by_cases hh:(x n).kind=a/\(x n).name=b
 .obtain⟨rfl,rfl⟩:=hh;refine⟨λj hj=>?_,λhj=>?_⟩;.rw[GU hi]at hj;cases hj;exact h1 _ hi
  .rw[GU hi]at hj;cases hj
 .cases hc:JS x a b n with
  |none=>exact⟨λj hj=>(by rw[KF hc hh]at hj;cases hj),λ_=>h2 hc⟩
  |some m=>exact⟨λj hj=>(by rw[GU hc]at hj;cases hj;exact h1 _ hc),λhj=>(by rw[GU hc]at hj;cases hj)⟩
theorem Si (a b:ByteArray)(ha:a.size<=maxLen)(hb:b.size<=maxLen):WideAt.IsKeyLit (kl a b):=Cm.key (Uc a b ha hb)
theorem eI{x:Nat->Ob}{n:Nat}{D:DataW Unit}(h:Vm x n D)(hD:IsMap D)(hi:JS x (x n).kind (x n).name n=none)(hk:(x n).kind.size<=maxLen)(hn:(x n).name.size<=maxLen):Vm x (n+1) (D.put (kl (x n).kind (x n).name) (.lit (.i n))):=λa b ha hb=>by
 obtain⟨h1,h2⟩:=h a b ha hb;by_cases hh:(x n).kind=a/\(x n).name=b
 .obtain⟨rfl,rfl⟩:=hh;refine⟨λj hj=>?_,λhj=>?_⟩
  .rw[Mp hi ⟨rfl,rfl⟩]at hj;cases hj;exact⟨has_put_same hD (Si _ _ hk hn) _,atKey_put_same hD (Si _ _ hk hn) _ _⟩
  .rw[Mp hi ⟨rfl,rfl⟩]at hj;cases hj
 .have hne:kl a b≠kl (x n).kind (x n).name:=oL ha hb hk hn (λe=>hh ⟨e.1.symm,e.2.symm⟩);rw[has_put_other hne,atKey_put_other hne];cases hc:JS x a b n with
  |none=>exact⟨λj hj=>(by rw[KF hc hh]at hj;cases hj),λ_=>h2 hc⟩
  |some m=>exact⟨λj hj=>(by rw[GU hc]at hj;cases hj;exact h1 _ hc),λhj=>(by rw[GU hc]at hj;cases hj)⟩
theorem Gt (n:Nat)(w:World):(Instr.makeMap 186 (some (.i (n:Int)))).run prog w=.ok (.map (some w.1.size)) (w.alloc (.map #[] 0)):=by simp[Instr.makeMap,run_underlying underlying186,asInt,asIntOf,Result.andThen]
theorem Uv (n:Nat)(x:Nat->Ob)(ad:OA)(cap:Nat)(w:World)(lo hi:Nat)(hhi:hi<=w.1.size)(hl:(n:Int)<=1099511627776)(hf:∀i,i<n->CW (x i))(hc:BH w lo hi ad n x):Calls prog 144 #[.l ad n cap] w λe w'=>∃D:DataW Unit,e=.returned (.map (some w.1.size))/\w'.ownsMap prog 139 (plainElem prog 3) w.1.size n D/\Vm x n D/\Below w.1.size w w':=by
 have hmm:=Gt n w;go_enter func144,ntmps144;go_wp2_with fail;go_loopw[13](λi wr=>∃(k:Nat)(D:DataW Unit),k<=n/\i=.i k/\Below w.1.size w wr/\wr.ownsMap prog 139 (plainElem prog 3) w.1.size k D/\Vm x k D)(λi _=>n-(intOf i).toNat);case atStart=>exact⟨0,.map [],Ap _,rfl,Ae _ _,LY _ _ _ _,VB x⟩
 case round=>
  obtain⟨k,D,hk,rfl,hb,hown,htold⟩:=hrel;clear hmm;by_cases hkn:k<n
  .obtain⟨b,off,ah,ch,rfl,hlo,hbh,hcx,hsx⟩:=hc k hkn;obtain⟨fk,fn,_,_,_⟩:=hf k hkn;have hsk:(x k).kind.size<=maxLen:=by unfold maxLen;omega
   have hsn:(x k).name.size<=maxLen:=by unfold maxLen;omega
   obtain⟨d0,d1,d2,d3,d4,d5,d6⟩:=hcx.below hb Za;clear hc hf hcx hsx;have hky:=Uc (x k).kind (x k).name hsk hsn;cases hfd:JS x (x k).kind (x k).name k with
   |none=>
    have hhas:=(htold _ _ hsk hsn).2 hfd;have HT:=Ai (eI htold hown.isMap hfd hsk hsn);have Gi:=Ai hown;clear hfd htold hown;go_wp2_with fail;refine(B9 (x k) ah ch _).mono ?_;rintro e w1 ⟨rfl,hb1⟩;have hown1:=Ai (BC (Gi.alloc _) hb1 (by simp;have:=Gi.lt;omega));have hB1:=(hb.alloc hb.size (.cells (vO (x k) ah ch) 118)).trans (hb1.mono Yg);have p0:=Au hb1 0;have p1:=Au hb1 1;have p2:=Au hb1 2;have p3:=Au hb1 3;have p4:=Au hb1 4;have p5:=Au hb1 5;have p6:=Au hb1 6;simp only[Ah,Ad,Ab]at p0 p1 p2 p3 p4 p5 p6;clear hb1 d0 d1 d2 d3 d4 d5 d6 Gi;go_wp2_with (at_lookup;go_must(refine wpList_lookup_own_ok_int _ rfl _ _ 186 rfl 139 3 .i64 Cm underlying186 underlying3 (JP _) w.1.size k D rfl hown1 _ _ rfl hky ?_;intro c hat hwc));refine(B9 (x k) ah ch _).mono ?_;rintro e w2 ⟨rfl,hb2⟩;have hown2:=Ai (BC hown1 hb2 hown1.lt);have hB2:=hB1.trans (hb2.mono hB1.size);clear hb2 p0 p1 p2 p3 p4 p5 p6 hat hwc hown1;go_wp2_with (at_mapUpdate;go_must(refine wpList_mapUpdate_own _ rfl _ _ _ 186 rfl 139 3 Cm underlying186 _ w.1.size k D rfl hown2 Zn _ _ _ rfl rfl hky _ [] (plainElem_int underlying3 (Ov Za)) ?_;intro w3 hown3 hgrow3));go_roundw;case rel=>exact⟨k+1,_,Za,by go_num,hB2.grown hgrow3 hB2.size (λj hj=>by cases hj;exact Aw _),hown3,HT⟩
    case measure=>simp[intOf];omega
   |some i=>
    have hhas:=((htold _ _ hsk hsn).1 i hfd).1;have HT:=Ai (Yb htold hfd);have Gi:=Ai hown;clear hfd htold hown;go_wp2_with fail;refine(B9 (x k) ah ch _).mono ?_;rintro e w1 ⟨rfl,hb1⟩;have hown1:=Ai (BC (Gi.alloc _) hb1 (by simp;have:=Gi.lt;omega));have hB1:=(hb.alloc hb.size (.cells (vO (x k) ah ch) 118)).trans (hb1.mono Yg);have p0:=Au hb1 0;have p1:=Au hb1 1;have p2:=Au hb1 2;have p3:=Au hb1 3;have p4:=Au hb1 4;have p5:=Au hb1 5;have p6:=Au hb1 6;simp only[Ah,Ad,Ab]at p0 p1 p2 p3 p4 p5 p6;clear hb1 d0 d1 d2 d3 d4 d5 d6 Gi;clear p0 p1 p2 p3 p4 p5 p6;go_wp2_with (at_lookup;go_must(refine wpList_lookup_own_ok_int _ rfl _ _ 186 rfl 139 3 .i64 Cm underlying186 underlying3 (JP _) w.1.size k D rfl hown1 _ _ rfl hky ?_;intro c hat hwc));go_roundw;case rel=>exact⟨k+1,D,Za,by go_num,hB1,hown1.mono Za,HT⟩
    case measure=>simp[intOf];omega
  .have:k=n:=Za;subst this;have HR:=Ai (Lh hown htold);clear hc hf hown htold;go_wp2;go_ret;exact⟨D,rfl,HR.out.1,HR.out.2,hb⟩
end Go.Proofs.YtllmmkchokkaaaaGreatDoor
namespace Go.Proofs.YtllmmkchokkaaaaGreatDoor
open Go.RowKit Go.Proofs.Tryz
theorem AB.drewN{w:World}{lo hi:Nat}{ad:OA}{n:Nat}{s:Nat->ByteArray}(h:AB w lo hi ad n s)(q:Nat):AB (w.drewN q) lo hi ad n s:=h
theorem AB.mono{w:World}{lo hi lo2 hi2:Nat}{ad:OA}{n:Nat}{s:Nat->ByteArray}(h:AB w lo hi ad n s)(h1:lo2<=lo)(h2:hi<=hi2):AB w lo2 hi2 ad n s:=λi hi'=>by obtain⟨b,off,e1,e2,e3,e4⟩:=h i hi';exact⟨b,off,e1,Za,Za,e4⟩
theorem Ub (x:Ob)(ad ad2:OA)(cap cap2:Nat)(w:World)(lo hi lo2 hi2:Nat)(hh:hi<=w.1.size)(hh2:hi2<=w.1.size)(hl:(x.hn:Int)<=140737488355328)(hc:AB w lo hi ad x.hn x.hs)(hc2:AB w lo2 hi2 ad2 x.hn x.hs):Calls prog 104 #[.agg (vO x ad cap),.agg (vO x ad2 cap2)] w λe w'=>e=.returned (.bool true)/\Below w.1.size w w':=by go_enter func104,ntmps104;go_wp2_with fail;refine(Vo x.hn x.hs ad ad2 cap cap2 _ lo hi lo2 hi2 hl ((hc.alloc hh _).alloc Zd _) ((hc2.alloc hh2 _).alloc Zd _)).mono ?_;rintro e w1 ⟨rfl,q,rfl⟩;go_wp2;go_ret;exact⟨rfl,(((Ae _ _).alloc Ze _).trans ((By _ _).mono Zd))⟩
theorem UF{P:Prop}(h:P:=by
  go_roundw;case rel=>exact⟨k+1,Za,by go_num,hb.drew.trans (hb1.mono hb.size)⟩
  case measure=>simp[intOf];omega):P:=h
theorem Xo (n:Nat)(x:Nat->Ob)(ad ad2:OA)(cap cap2:Nat)(w:World)(lo hi lo2 hi2:Nat)(hh:hi<=w.1.size)(hh2:hi2<=w.1.size)(hl:(n:Int)<=140737488355328)(hf:∀i,i<n->((x i).hn:Int)<=140737488355328)(hc:BH w lo hi ad n x)(hc2:BH w lo2 hi2 ad2 n x):Calls prog 45 #[.l ad n cap,.l ad2 n cap2] w λe w'=>e=.returned (.bool true)/\Below w.1.size w w':=by
 go_enter func45,ntmps45;go_wp2;go_loopw[5](λi wr=>∃k:Nat,k<=n/\i=.i k/\Below w.1.size w wr)(λi _=>n-(intOf i).toNat);case atStart=>exact⟨0,Ap _,rfl,Ak _ _⟩
 case round=>
  obtain⟨k,hk,rfl,hb⟩:=hrel;by_cases hkn:k<n;.obtain⟨b,off,ah,ch,rfl,hlo,hbh,hcx,hsx⟩:=hc k hkn;obtain⟨b2,off2,ah2,ch2,rfl,hlo2,hbh2,hcx2,hsx2⟩:=hc2 k hkn;have hfk:=hf k hkn;obtain⟨d0,d1,d2,d3,d4,d5,d6⟩:=hcx.below hb Za;obtain⟨e0,e1,e2,e3,e4,e5,e6⟩:=hcx2.below hb Za;have hs:=hsx.below hb hh;have hs2:=hsx2.below hb hh2;have hw1:=AA hh hb.size;have hw2:=AA hh2 hb.size;clear hc hc2 hf hcx hcx2 hsx hsx2;generalize x k=y at*;go_wp2;go_region_with(go_at_call 104;refine(Ub y ah ah2 ch ch2 _ lo hi lo2 hi2 (by exact hw1) (by exact hw2) hfk (by exact hs.drewN 1) (by exact hs2.drewN 1)).mono ?_;rintro e w1 ⟨rfl,hb1⟩);all_goals go_wp2;exact UF
  .have:k=n:=Za;subst this;clear hc hc2;go_wp2;go_ret;exact⟨rfl,hb⟩
end Go.Proofs.YtllmmkchokkaaaaGreatDoor
namespace Go.Proofs.YtllmmkchokkaaaaGreatDoor
open Go.RowKit Go.Proofs.Tryz
theorem cI (x:Ch)(ad ad2:OA)(cap cap2:Nat)(w:World)(lo hi lo2 hi2:Nat)(hh:hi<=w.1.size)(hh2:hi2<=w.1.size)(hl:(x.ob.hn:Int)<=140737488355328)(hc:AB w lo hi ad x.ob.hn x.ob.hs)(hc2:AB w lo2 hi2 ad2 x.ob.hn x.ob.hs):Calls prog 105 #[.agg #[.i x.ver,.bool x.gone,.s x.ob.kind,.s x.ob.name,.i x.ob.ver,.i x.ob.born,.s x.ob.text,.bool x.ob.ending,.l ad x.ob.hn cap],.agg #[.i x.ver,.bool x.gone,.s x.ob.kind,.s x.ob.name,.i x.ob.ver,.i x.ob.born,.s x.ob.text,.bool x.ob.ending,.l ad2 x.ob.hn cap2]] w λe w'=>e=.returned (.bool true)/\Below w.1.size w w':=by go_enter func105,ntmps105;go_wp2_with fail;refine(Ub x.ob ad ad2 cap cap2 _ lo hi lo2 hi2 Zd Zd hl ((hc.alloc hh _).alloc Zd _) ((hc2.alloc hh2 _).alloc Zd _)).mono ?_;rintro e w1 ⟨rfl,hb1⟩;go_wp2;go_ret;exact⟨rfl,(((Ae _ _).alloc Ze _).trans (hb1.mono Zd))⟩
theorem Z1 (x:Ti)(w:World):Calls prog 106 #[.agg (vT x),.agg (vT x)] w λe w'=>e=.returned (.bool true)/\Below w.1.size w w':=by go_enter func106,ntmps106;go_wp2;go_ret;exact⟨rfl,((Ae _ _).alloc Ze _)⟩
theorem Yj (n:Nat)(x:Nat->Ch)(ad ad2:OA)(cap cap2:Nat)(w:World)(lo hi lo2 hi2:Nat)(hh:hi<=w.1.size)(hh2:hi2<=w.1.size)(hl:(n:Int)<=140737488355328)(hf:∀i,i<n->((x i).ob.hn:Int)<=140737488355328)(hc:Dp w lo hi ad n x)(hc2:Dp w lo2 hi2 ad2 n x):Calls prog 46 #[.l ad n cap,.l ad2 n cap2] w λe w'=>e=.returned (.bool true)/\Below w.1.size w w':=by
 go_enter func46,ntmps46;go_wp2;go_loopw[5](λi wr=>∃k:Nat,k<=n/\i=.i k/\Below w.1.size w wr)(λi _=>n-(intOf i).toNat);case atStart=>exact⟨0,Ap _,rfl,Ak _ _⟩
 case round=>
  obtain⟨k,hk,rfl,hb⟩:=hrel;by_cases hkn:k<n;.obtain⟨b,off,ah,ch,rfl,hlo,hbh,hcx,hsx⟩:=hc k hkn;obtain⟨b2,off2,ah2,ch2,rfl,hlo2,hbh2,hcx2,hsx2⟩:=hc2 k hkn;have hfk:=hf k hkn;obtain⟨d0,d1,d2,d3,d4,d5,d6,d7,d8⟩:=hcx.below hb Za;obtain⟨e0,e1,e2,e3,e4,e5,e6,e7,e8⟩:=hcx2.below hb Za;have hs:=hsx.below hb hh;have hs2:=hsx2.below hb hh2;have hw1:=AA hh hb.size;have hw2:=AA hh2 hb.size;clear hc hc2 hf hcx hcx2 hsx hsx2;generalize x k=y at*;go_wp2;go_region_with(go_at_call 105;refine(cI y ah ah2 ch ch2 _ lo hi lo2 hi2 (by exact hw1) (by exact hw2) hfk (by exact hs.drewN 1) (by exact hs2.drewN 1)).mono ?_;rintro e w1 ⟨rfl,hb1⟩);all_goals go_wp2;exact UF
  .have:k=n:=Za;subst this;clear hc hc2;go_wp2;go_ret;exact⟨rfl,hb⟩
theorem Xw (n:Nat)(x:Nat->Ti)(ad ad2:OA)(cap cap2:Nat)(w:World)(lo hi lo2 hi2:Nat)(hh:hi<=w.1.size)(hh2:hi2<=w.1.size)(hl:(n:Int)<=140737488355328)(hc:B8 w lo hi ad n x)(hc2:B8 w lo2 hi2 ad2 n x):Calls prog 47 #[.l ad n cap,.l ad2 n cap2] w λe w'=>e=.returned (.bool true)/\Below w.1.size w w':=by
 go_enter func47,ntmps47;go_wp2;go_loopw[5](λi wr=>∃k:Nat,k<=n/\i=.i k/\Below w.1.size w wr)(λi _=>n-(intOf i).toNat);case atStart=>exact⟨0,Ap _,rfl,Ak _ _⟩
 case round=>
  obtain⟨k,hk,rfl,hb⟩:=hrel;by_cases hkn:k<n;.obtain⟨b,off,rfl,hlo,hbh,hcx⟩:=hc k hkn;obtain⟨b2,off2,rfl,hlo2,hbh2,hcx2⟩:=hc2 k hkn;obtain⟨d0,d1,d2,d3,d4⟩:=hcx.below hb Za;obtain⟨e0,e1,e2,e3,e4⟩:=hcx2.below hb Za;clear hc hc2 hcx hcx2;generalize x k=y at*;go_wp2;go_region_with(go_at_call 106;refine(Z1 y _).mono ?_;rintro e w1 ⟨rfl,hb1⟩);all_goals go_wp2;exact UF
  .have:k=n:=Za;subst this;clear hc hc2;go_wp2;go_ret;exact⟨rfl,hb⟩
end Go.Proofs.YtllmmkchokkaaaaGreatDoor
namespace Go.Proofs.YtllmmkchokkaaaaGreatDoor
open Go.RowKit Go.Proofs.Tryz
theorem Kl{w w1:World}{c0 c1:Array Value}{t0 t1:TypeId}(hb:Below ((w.alloc (.cells c0 t0)).alloc (.cells c1 t1)).1.size ((w.alloc (.cells c0 t0)).alloc (.cells c1 t1)) w1):(∀i,w1.cell? ⟨w.1.size,i,none⟩=c0[i]?)/\(∀i,w1.cell? ⟨w.1.size+1,i,none⟩=c1[i]?)/\(∀i,w1.frozen? ⟨w.1.size,i,none⟩=false)/\(∀i,w1.frozen? ⟨w.1.size+1,i,none⟩=false):=by
 refine⟨λi=>?_,λi=>?_,λi=>?_,λi=>?_⟩;.rw[hb.cell (p:=⟨w.1.size,i,none⟩) Zd];rw[Ar _ _ _ Ze,GD _ _ _ _ rfl]
 .rw[hb.cell (p:=⟨w.1.size+1,i,none⟩) Ze];rw[GD _ _ _ _ Ze]
 .rw[hb.frozen (p:=⟨w.1.size,i,none⟩) Zd];rw[World.frozen?_alloc_past _ _ _ Ze,I7 _ _ _ _ rfl]
 .rw[hb.frozen (p:=⟨w.1.size+1,i,none⟩) Ze];rw[I7 _ _ _ _ Ze]
theorem Mz (x:Bk)(a1 a2 a3 b1 b2 b3:OA)(c1 c2 c3 d1 d2 d3:Nat)(w:World)(lo hi lo2 hi2:Nat)(hh:hi<=w.1.size)(hh2:hi2<=w.1.size)(hf:Cx x)(hc:Bz w lo hi x a1 a2 a3)(hc2:Bz w lo2 hi2 x b1 b2 b3):Calls prog 13 #[.agg (vB x a1 a2 a3 c1 c2 c3),.agg (vB x b1 b2 b3 d1 d2 d3)] w λe w'=>e=.returned (.bool true)/\Below w.1.size w w':=by
 obtain⟨f1,f2,f3,f4,f5,f6⟩:=hf;have f4':∀i,i<x.on->((x.os i).hn:Int)<=140737488355328:=λi h=>by have:=(f4 i h).h;omega
 have f5':∀i,i<x.hn->((x.hs i).ob.hn:Int)<=140737488355328:=λi h=>by have:=(f5 i h).h;omega
 clear f4 f5 f6;go_enter func13,ntmps13;go_wp2_with fail;refine(Xo x.on x.os a1 b1 c1 d1 _ lo hi lo2 hi2 Zd Zd Za f4' (hc.o.below (B:=w.1.size) ((Ae _ _).alloc Ze _) hh) (hc2.o.below (B:=w.1.size) ((Ae _ _).alloc Ze _) hh2)).mono ?_;rintro e w1 ⟨rfl,hb1⟩;have hB1:Below w.1.size w w1:=((Ae _ _).alloc Ze _).trans (hb1.mono Zd);have hz:=hb1.size;obtain⟨A0,A1,_,_⟩:=Kl hb1;have u3:=A0 3;have u4:=A0 4;have v3:=A1 3;have v4:=A1 4;simp only[AE]at hz;simp only[Ah,Ad,Ab]at u3 u4 v3 v4;clear A0 A1 hb1;go_wp2_with fail;refine(Yj x.hn x.hs a2 b2 c2 d2 _ lo hi lo2 hi2 Za Za Za f5' (hc.h.below hB1 hh) (hc2.h.below hB1 hh2)).mono ?_;rintro e w2 ⟨rfl,hb2⟩;have hB2:Below w.1.size w w2:=hB1.trans (hb2.mono hB1.size);have u4':=(hb2.cell (p:=⟨w.1.size,4,none⟩) Zg).trans u4;have v4':=(hb2.cell (p:=⟨w.1.size+1,4,none⟩) Zp).trans v4;clear u3 u4 v3 v4;go_wp2_with fail;refine(Xw x.tn x.ts a3 b3 c3 d3 _ lo hi lo2 hi2 (by have:=hB2.size;omega) (by have:=hB2.size;omega) Za (hc.t.below hB2 hh) (hc2.t.below hB2 hh2)).mono ?_;rintro e w3 ⟨rfl,hb3⟩;go_wp2;go_ret;exact⟨rfl,hB2.trans (hb3.mono hB2.size)⟩
end Go.Proofs.YtllmmkchokkaaaaGreatDoor
