import Derived.Test.YtllmmkchokkaaaaGreatDoorPk06
import Derived.Test.YtllmmkchokkaaaaGreatDoorPk13
import Derived.Test.YtllmmkchokkaaaaGreatDoorPk02
import Derived.Test.YtllmmkchokkaaaaGreatDoorPk15
set_option maxRecDepth 100000
set_option maxHeartbeats 2000000
namespace Go.Proofs.YtllmmkchokkaaaaGreatDoor
open Go.RowKit
structure Wnt where
 kind:ByteArray
 name:ByteArray
 ver:Int
structure WtFit (x:Wnt):Prop where
 z0:(x.kind.size:Int)≤140737488355328
 z1:(x.name.size:Int)≤140737488355328
structure WtCells (w:World) (b o:Nat) (x:Wnt):Prop where
 c0:w.cell? ⟨b,o,none⟩=some (.string x.kind)
 c1:w.cell? ⟨b,o+1,none⟩=some (.string x.name)
 c2:w.cell? ⟨b,o+2,none⟩=some (.int .i64 x.ver)
theorem WtCells.below {w w':World} {B b o:Nat} {x:Wnt} (h:WtCells w b o x) (hb:Below B w w') (hB:b<B):WtCells w' b o x:=
 have e:∀ j,w'.cell? ⟨b,j,none⟩=w.cell? ⟨b,j,none⟩:=fun j=>hb.cell (p:=⟨b,j,none⟩) hB
 ⟨(e _).trans h.c0,(e _).trans h.c1,(e _).trans h.c2⟩
def WtsIn (w:World) (lo hi:Nat) (ad:Option Addr) (n:Nat) (x:Nat→Wnt):Prop:=
 ∀ i,i<n→∃ b off,ad=some ⟨b,off,none⟩∧lo≤b∧b<hi∧WtCells w b (off+i*3) (x i)
theorem WtsIn.below {w w':World} {B lo hi:Nat} {ad:Option Addr} {n:Nat} {x:Nat→Wnt} (h:WtsIn w lo hi ad n x) (hb:Below B w w') (hB:hi≤B):WtsIn w' lo hi ad n x:=fun i hi'=>by
 obtain ⟨b,off,e1,e2,e3,e4⟩:=h i hi'
 exact ⟨b,off,e1,e2,e3,e4.below hb Za⟩
theorem WtsIn.mono {w:World} {lo lo' hi hi':Nat} {ad:Option Addr} {n:Nat} {x:Nat→Wnt} (h:WtsIn w lo hi ad n x) (hl:lo'≤lo) (hh:hi≤hi'):WtsIn w lo' hi' ad n x:=fun i hi'=>by
 obtain ⟨b,off,e1,e2,e3,e4⟩:=h i hi'
 exact ⟨b,off,e1,Za,Za,e4⟩
def szWt (c:Wnt):Nat:=c.kind.size+c.name.size
def szWts (n:Nat) (x:Nat→Wnt):Nat:=n+sumTo (fun i=>szWt (x i)) n
theorem szWt_any (x:Wnt) (hf:WtFit x) (left:Int) (w:World) (h0:0≤left) (h1:left≤1048576) :
  Calls Tryz.prog 109 #[.agg #[.string x.kind,.string x.name,.int .i64 x.ver],.int .i64 left] w fun e w'=>e=.returned (.int .i64 (szOut left (szWt x)))∧Below w.1.size w w':=by
 obtain ⟨f0,f1⟩:=hf
 unfold szWt
 go_enter Tryz.func109,Tryz.ntmps109
 go_wp2
 ·go_ret
  exact ⟨ret_int (szOut_no Za).symm,(Below.refl _ _).alloc Zbt _⟩
 ·go_ret
  exact ⟨ret_int (szOut_no Za).symm,(Below.refl _ _).alloc Zbt _⟩
 ·go_ret
  exact ⟨ret_int (by rw [szOut_yes Za];omega),(Below.refl _ _).alloc Zbt _⟩
theorem apP410 {P:Prop} (h:P:=by
  have hs:=HS.out
  obtain ⟨g1,g2⟩:=szOut_ge Zak
  go_roundw
  case rel=>exact ⟨k+1,Za,by go_num,by rw [HQ.out,g2];apply congrArg;omega,by rw [HQ.out];omega,hb.trans (hb1.mono hb.size)⟩
  case measure=>simp [intOf];omega):P:=h
theorem szWts_any (n:Nat) (x:Nat→Wnt) (ad:Option Addr) (cap:Nat) (left:Int) (w:World) (lo hi:Nat) (hhi:hi≤w.1.size) (hl:(n:Int)≤8796093022208) (h0:0≤left) (h1:left≤1048576) (hf:∀ i,i<n→WtFit (x i))
  (hc:WtsIn w lo hi ad n x) :
  Calls Tryz.prog 51 #[.slice ad n cap,.int .i64 left] w fun e w'=>e=.returned (.int .i64 (szOut left (szWts n x)))∧Below w.1.size w w':=by
 by_cases hlt:left-n<0
 ·go_enter Tryz.func51,Tryz.ntmps51
  go_wp2
  go_ret
  exact ⟨ret_int (szOut_no (by unfold szWts;omega)).symm,Below.refl _ _⟩
 ·go_enter Tryz.func51,Tryz.ntmps51
  go_wp2
  go_loopw [1,5] (fun t i wr=>∃ k:Nat,k≤n∧i=.int .i64 k∧t=.int .i64 (left-n-(sumTo (fun i=>szWt (x i)) k:Nat))∧0≤left-n-(sumTo (fun i=>szWt (x i)) k:Nat)∧Below w.1.size w wr) (fun _ i _=>n-(intOf i).toNat)
  case atStart=>exact ⟨0,Nat.zero_le _,rfl,by simp [sumTo],by simp [sumTo];omega,Below.refl _ _⟩
  case round=>
   obtain ⟨k,hk,rfl,rfl,hnn,hb⟩:=hrel
   have hst:sumTo (fun i=>szWt (x i)) (k+1)=sumTo (fun i=>szWt (x i)) k+szWt (x k):=rfl
   have hmo:k<n→sumTo (fun i=>szWt (x i)) (k+1)≤sumTo (fun i=>szWt (x i)) n:=fun h=>sumTo_mono _ h
   generalize hq:sumTo (fun i=>szWt (x i)) k=q at *
   generalize hq1:sumTo (fun i=>szWt (x i)) (k+1)=q1 at *
   by_cases hkn:k<n
   ·obtain ⟨b,off,rfl,hlo,hbh,hcx⟩:=hc k hkn
    have hmo:=hmo hkn
    have hfk:=hf k hkn
    have HS:Hid (q1=q+szWt (x k)):=hst
    have HQ:Hid (sumTo (fun i=>szWt (x i)) (k+1)=q1):=hq1
    clear hst hq hq1 hc hf
    obtain ⟨d0,d1,d2⟩:=hcx.below hb Za
    clear hcx
    generalize x k=y at *
    clear hmo
    rename_i hmo
    go_wp2_with (go_at_call 109;refine (szWt_any y hfk _ wr Za Za).mono ?_;rintro e w1 ⟨rfl,hb1⟩)
    ·go_ret
     refine ⟨ret_int (szOut_no ?_).symm,hb.trans (hb1.mono hb.size)⟩
     have:=HS.out
     have:=szOut_lt Zak
     have:=hmo hkn
     unfold szWts;omega
    ·exact apP410
   ·have:k=n:=Za
    subst this
    clear hc hf hst hmo hq1
    have HQ:Hid (sumTo (fun i=>szWt (x i)) k=q):=hq
    clear hq
    go_wp2
    go_ret
    refine ⟨ret_int ?_,hb⟩
    have:=HQ.out
    rw [szOut_yes (by unfold szWts;omega)]
    unfold szWts;omega
theorem Tryz.info158:(Tryz.prog.info? 158).map (fun i=>(i.zero,i.size,i.bytes))=some (some (.agg #[.string ByteArray.empty,.string ByteArray.empty,.int .i64 0]),3,40):=Zf
theorem toWt_any (x:Wnt) (w:World) :
  Calls Tryz.prog 111 #[.agg #[.string x.kind,.string x.name,.int .i64 x.ver]] w fun e w'=>e=.returned (.agg #[.string x.kind,.string x.name,.int .i64 x.ver])∧Below w.1.size w w':=by
 go_enter Tryz.func111,Tryz.ntmps111
 go_wp2
 refine bodyPost_ret (v:=.agg #[.string x.kind,.string x.name,.int .i64 x.ver]) (by simp [results,Tryz.results111,go_sem]) rfl ⟨rfl,?_⟩
 exact ((((Below.refl _ _).alloc Zbt _).alloc Zd _).alloc Zc _)
structure WtsOwnAt (w:World) (g n m:Nat) (x:Nat→Wnt):Prop where
 room:Room w g (m*3)
 at_:∀ i,i<n→WtCells w g (i*3) (x i)
theorem WtsOwnAt.step {wr w1:World} {g k n:Nat} {x:Nat→Wnt} (h:WtsOwnAt wr g k n x) (hk:k<n) (hb:Below wr.1.size wr w1) :
  WtsOwnAt (w1.setCells g (k*3) [.string (x k).kind,.string (x k).name,.int .i64 (x k).ver]) g (k+1) n x:=by
 have hg:=h.room.lt
 have hR:=h.room.below hb hg
 generalize hvs:[Value.string (x k).kind,.string (x k).name,.int .i64 (x k).ver]=vs
 have hlen:vs.length=3:=by rw [←hvs];rfl
 have hin:=World.cell?_setCells_in g vs (k*3) w1 (fun j hj=>by
  obtain ⟨u,hu⟩:=hR.has (k*3+j) Za
  rw [hu];rfl)
 refine ⟨hR.setCells vs Za,fun i hi=>?_⟩
 by_cases e:i<k
 ·have c:=(h.at_ i e).below hb hg
  have ee:∀ j,j<3→(w1.setCells g (k*3) vs).cell? ⟨g,i*3+j,none⟩=w1.cell? ⟨g,i*3+j,none⟩:=fun j hj=>World.cell?_setCells_out g vs (k*3) w1 _ (fun _ _=>Or.inl (by show i*3+j<k*3;omega))
  exact ⟨(ee 0 Za).trans c.c0,(ee 1 Za).trans c.c1,(ee 2 Za).trans c.c2⟩
 ·have:i=k:=Za
  subst this
  have f:=fun j (hj:j<3)=>hin j Za
  have f0:=f 0 Za;have f1:=f 1 Za;have f2:=f 2 Za
  subst hvs
  exact ⟨f0,f1,f2⟩
theorem toWts_any (n:Nat) (x:Nat→Wnt) (ad:Option Addr) (cap:Nat) (w:World) (lo hi:Nat) (hhi:hi≤w.1.size) (hl:(n:Int)≤1099511627776) (hc:WtsIn w lo hi ad n x) :
  Calls Tryz.prog 54 #[.slice ad n cap] w fun e w'=>e=.returned (.slice (some ⟨w.1.size,0,none⟩) n n)∧WtsOwnAt w' w.1.size n n x∧Below w.1.size w w':=by
 obtain ⟨i0,hi0,hz0,hz1,hz2⟩:=info_parts Tryz.info158
 go_enter Tryz.func54,Tryz.ntmps54
 go_wp2_with (first
  | (at_make;refine wpList_make_full _ rfl _ _ 54 rfl w.1.size 158 i0 _ 3 Tryz.underlying54 hi0 hz0 hz1 .i64 .i64 _ _ n rfl rfl Za Za Zbd Zs Za ?_;intro w1 hown1 hgrow1)
  )
 have r1:WtsOwnAt w1 w.1.size 0 n x:=⟨room_made hown1,fun _ h=>absurd h (Nat.not_lt_zero _)⟩
 have hb1:Below w.1.size w w1:=(Below.refl _ _).grown hgrow1 Zbt Zd
 clear hown1 hgrow1 hi0 hz0 hz1 hz2
 go_loopw [4] (fun i wr=>∃ k:Nat,k≤n∧i=.int .i64 k∧Below w.1.size w wr∧WtsOwnAt wr w.1.size k n x) (fun i _=>n-(intOf i).toNat)
 case atStart=>exact ⟨0,Nat.zero_le _,rfl,hb1,r1⟩
 case round=>
  obtain ⟨k,hk,rfl,hb,ho⟩:=hrel
  clear r1 hb1
  by_cases hkn:k<n
  ·obtain ⟨b,off,rfl,hlo,hbh,hcx⟩:=hc k hkn
   obtain ⟨d0,d1,d2⟩:=hcx.below hb Za
   clear hc hcx
   have HO:=hid ho
   have hrm:=ho.room
   clear ho
   go_wp2_with (fail)
   refine (toWt_any (x k) wr).mono ?_
   rintro e w1 ⟨rfl,hb1⟩
   have R:=HO.out.step hkn hb1
   have HR:=hid R
   have HB:=hid ((hb.trans (hb1.mono hb.size)).trans ((fr_setCells w.1.size [Value.string (x k).kind,.string (x k).name,.int .i64 (x k).ver] (k*3) w1).below Zbt (hb.trans (hb1.mono hb.size)).size))
   have hrm1:=hrm.below hb1 hrm.lt
   obtain ⟨_,q0⟩:=hrm1.has (k*3) Za
   obtain ⟨_,q1⟩:=hrm1.has (k*3+1) Za
   obtain ⟨_,q2⟩:=hrm1.has (k*3+2) Za
   have qf:=hrm1.free
   clear hrm hrm1 R HO d0 d1 d2
   go_wp2
   go_roundw
   case rel=>exact ⟨k+1,Za,by go_num,HB.out,HR.out⟩
   case measure=>simp [intOf];omega
  ·have:k=n:=Za
   subst this
   have HO:=hid ho
   clear hc ho
   go_wp2
   go_ret
   exact ⟨rfl,HO.out,hb⟩
theorem eqWt_any (x:Wnt) (w:World) :
  Calls Tryz.prog 115 #[.agg #[.string x.kind,.string x.name,.int .i64 x.ver],.agg #[.string x.kind,.string x.name,.int .i64 x.ver]] w fun e w'=>e=.returned (.bool true)∧Below w.1.size w w':=by
 go_enter Tryz.func115,Tryz.ntmps115
 go_wp2
 go_ret
 exact ⟨rfl,((below_alloc _ _).alloc Zd _)⟩
theorem eqWts_any (n:Nat) (x:Nat→Wnt) (ad ad2:Option Addr) (cap cap2:Nat) (w:World) (lo hi lo2 hi2:Nat) (hh:hi≤w.1.size) (hh2:hi2≤w.1.size) (hl:(n:Int)≤140737488355328)
  (hc:WtsIn w lo hi ad n x) (hc2:WtsIn w lo2 hi2 ad2 n x) :
  Calls Tryz.prog 58 #[.slice ad n cap,.slice ad2 n cap2] w fun e w'=>e=.returned (.bool true)∧Below w.1.size w w':=by
 go_enter Tryz.func58,Tryz.ntmps58
 go_wp2
 go_loopw [5] (fun i wr=>∃ k:Nat,k≤n∧i=.int .i64 k∧Below w.1.size w wr) (fun i _=>n-(intOf i).toNat)
 case atStart=>exact ⟨0,Nat.zero_le _,rfl,Below.refl _ _⟩
 case round=>
  obtain ⟨k,hk,rfl,hb⟩:=hrel
  by_cases hkn:k<n
  ·obtain ⟨b,off,rfl,hlo,hbh,hcx⟩:=hc k hkn
   obtain ⟨b2,off2,rfl,hlo2,hbh2,hcx2⟩:=hc2 k hkn
   obtain ⟨d0,d1,d2⟩:=hcx.below hb Za
   obtain ⟨e0,e1,e2⟩:=hcx2.below hb Za
   clear hc hc2 hcx hcx2
   generalize x k=y at *
   go_wp2
   go_region_with (go_at_call 115;refine (eqWt_any y _).mono ?_;rintro e w1 ⟨rfl,hb1⟩)
   all_goals
    go_wp2
    go_roundw
    case rel=>exact ⟨k+1,Za,by go_num,hb.drew.trans (hb1.mono hb.size)⟩
    case measure=>simp [intOf];omega
  ·have:k=n:=Za
   subst this
   clear hc hc2
   go_wp2
   go_ret
   exact ⟨rfl,hb⟩
def atWt (c:Nat→Value) (i:Nat) (y:Wnt):Prop:=c (i*3)=.string y.kind∧c (i*3+1)=.string y.name∧c (i*3+2)=.int .i64 y.ver
theorem atWt_set {c:Nat→Value} {i:Nat} {y:Wnt} (h:atWt c i y) {k o:Nat} (hik:¬i=k) (h1:k*3≤o) (h2:o<k*3+3) (v:Value):atWt (setF c o v) i y:=by
 obtain ⟨a0,a1,a2⟩:=h
 exact ⟨(if_neg Za).trans a0,(if_neg Za).trans a1,(if_neg Za).trans a2⟩
def mkWt (m:Nat) (_:Wnt):Wnt:=⟨mt m,mt (m+1),(m:Int)+2⟩
def mkWts (k0:Nat) (x:Nat→Wnt):Nat→Nat|0=>k0|n+1=>mkWts k0 x n+3
theorem mkWts_mono (k0:Nat) (x:Nat→Wnt) {k n:Nat} (h:k≤n):mkWts k0 x k≤mkWts k0 x n:=by
 induction n with
 | zero=>
   have:k=0:=Za
   subst this;exact Nat.le_refl _
 | succ m ih=>
   rcases Nat.lt_or_ge m k with h1|h1
   ·have:k=m+1:=Za
    subst this;exact Nat.le_refl _
   ·exact Nat.le_trans (ih h1) (by simp only [mkWts];omega)
theorem mkWts_is (k0:Nat) (x:Nat→Wnt):∀ n,mkWts k0 x n=k0+3*n
 | 0=>rfl
 | n+1=>by rw [mkWts,mkWts_is k0 x n];omega
def ykWt (k0:Nat) (x:Nat→Wnt) (k i:Nat):Wnt:=if i<k then mkWt (mkWts k0 x i) (x i) else x i
theorem ykWt_zero (k0:Nat) (x:Nat→Wnt):ykWt k0 x 0=x:=funext fun i=>if_neg (Nat.not_lt_zero i)
theorem ykWt_lt {k0:Nat} {x:Nat→Wnt} {k i:Nat} (h:i<k):ykWt k0 x k i=mkWt (mkWts k0 x i) (x i):=if_pos h
theorem ykWt_ne {k0:Nat} {x:Nat→Wnt} {k i:Nat} (h:¬i=k):ykWt k0 x (k+1) i=ykWt k0 x k i:=by
 unfold ykWt
 by_cases h1:i<k
 ·rw [if_pos h1,if_pos Za]
 ·rw [if_neg h1,if_neg Za]
structure WtsAt (w:World) (ad:Option Addr) (g n:Nat) (x:Nat→Wnt):Prop where
 addr:0<n→ad=some ⟨g,0,none⟩
 row:0<n→∃ c,RowF w g (n*3) c∧∀ i,i<n→atWt c i (x i)
theorem WtsAt.fr {w w':World} {ad:Option Addr} {g n:Nat} {x:Nat→Wnt} {P:Nat→Prop} (h:WtsAt w ad g n x) (hf:FrP P w w') (hp:0<n→¬P g):WtsAt w' ad g n x:=
 ⟨h.addr,fun h0=>by obtain ⟨c,r,e⟩:=h.row h0;exact ⟨c,r.fr hf (hp h0),e⟩⟩
theorem WtsAt.grow {w w':World} {ad:Option Addr} {g n:Nat} {x:Nat→Wnt} (h:WtsAt w ad g n x) (hf:Below w.1.size w w'):WtsAt w' ad g n x:=h.fr (FrP.of_below (P:=fun _=>False) hf) (fun _ h=>h)
theorem WtsAt.lt {w:World} {ad:Option Addr} {g n:Nat} {x:Nat→Wnt} (h:WtsAt w ad g n x) (h0:0<n):g<w.1.size:=by
 obtain ⟨c,r,e⟩:=h.row h0
 exact r.lt
theorem WtsOwnAt.at {w:World} {g n:Nat} {x:Nat→Wnt} (h:WtsOwnAt w g n n x):WtsAt w (some ⟨g,0,none⟩) g n x:=by
 have e:∀ j v,w.cell? ⟨g,j,none⟩=some v→(w.cell? ⟨g,j,none⟩).getD (.int .i64 0)=v:=fun j v h=>by rw [h];rfl
 refine ⟨fun _=>rfl,fun _=>⟨fun j=>(w.cell? ⟨g,j,none⟩).getD (.int .i64 0),⟨h.room.lt,h.room.free,fun j hj=>?_⟩,fun i hi'=>?_⟩⟩
 ·obtain ⟨u,hu⟩:=h.room.has j hj
  rw [hu];rfl
 ·have k:=h.at_ i hi'
  exact ⟨(e (i*3) _ k.c0),(e (i*3+1) _ k.c1),(e (i*3+2) _ k.c2)⟩
theorem WtsAt.isIn {w:World} {ad:Option Addr} {g n:Nat} {x:Nat→Wnt} (h:WtsAt w ad g n x) {lo:Nat} (hlo:0<n→lo≤g):WtsIn w lo w.1.size ad n x:=fun i hi=>by
 obtain ⟨c,r,e⟩:=h.row Za
 obtain ⟨a0,a1,a2⟩:=e i hi
 refine ⟨g,0,h.addr Za,hlo Za,r.lt,?_⟩
 rw [Nat.zero_add]
 exact ⟨(r.cell _ Za).trans (congrArg some a0),(r.cell _ Za).trans (congrArg some a1),(r.cell _ Za).trans (congrArg some a2)⟩
theorem markWts_own (ad:Option Addr) (g n:Nat) (x:Nat→Wnt) (cap k0:Nat) (w:World) (hl:(n:Int)≤1048576) (hk1:1≤(k0:Int)) (hk2:(mkWts k0 x n:Int)≤1073741824) (hc:WtsAt w ad g n x) :
  Calls Tryz.prog 60 #[.slice ad n cap,.int .i64 k0] w fun e w'=>e=.returned (.int .i64 (mkWts k0 x n))∧WtsAt w' ad g n (ykWt k0 x n)∧FrP (fun k=>0<n∧k=g) w w':=by
 go_enter Tryz.func60,Tryz.ntmps60
 go_wp2
 go_loopw [1,5] (fun t i wr=>∃ k:Nat,k≤n∧i=.int .i64 k∧t=.int .i64 (mkWts k0 x k)∧FrP (fun k=>0<n∧k=g) w wr∧WtsAt wr ad g n (ykWt k0 x k)) (fun _ i _=>n-(intOf i).toNat)
 case atStart=>exact ⟨0,Nat.zero_le _,rfl,rfl,FrP.refl _ _,by rw [ykWt_zero];exact hc⟩
 case round=>
  obtain ⟨k,hk,rfl,rfl,hfr,ho⟩:=hrel
  clear hc
  by_cases hkn:k<n
  ·have hmo:=mkWts_mono k0 x (k:=k+1) (n:=n) Za
   have hm1:1≤mkWts k0 x k:=by rw [mkWts_is];omega
   have hms:mkWts k0 x (k+1)=mkWts k0 x k+3:=rfl
   have HM:Hid (mkWts k0 x (k+1)=mkWts k0 x k+3):=hms
   have hm:mkWts k0 x k+3≤1073741824:=Za
   clear hmo hms
   obtain ⟨m,hme⟩:∃ m,mkWts k0 x k=m:=⟨_,rfl⟩
   rw [hme] at hm1 hm HM ⊢
   have HME:=hid hme
   clear hme
   obtain rfl:=ho.addr Za
   obtain ⟨c,r0,hat⟩:=ho.row Za
   have HAT:=hid hat
   have hfr':=hid hfr
   clear ho hat hfr
   have f0:FrP (fun q=>q=g) wr wr:=FrP.refl _ _
   go_wp2_with fail
   refine (markText_at _ (m+0) Za _ Za Za).mono ?_
   rintro e w1 ⟨rfl,b1⟩
   have r1:=r0.below b1 Zav
   have f1:=f0.trans (FrP.of_below b1)
   clear  r0 f0 b1
   have q0:=r1.cell (k*3) Za
   have qf1:=r1.free
   go_wp2_with fail
   refine (markText_at _ (m+1) Za _ Za Za).mono ?_
   rintro e w2 ⟨rfl,b2⟩
   have r2:=(r1.set (o:=k*3) Za _).below b2 Zaw
   have f2:=(f1.setCell (p:=⟨g,k*3,none⟩) rfl _).trans (FrP.of_below b2)
   clear q0 qf1 r1 f1 b2
   have q1:=r2.cell (k*3+1) Za
   have q2:=r2.cell (k*3+2) Za
   have qf2:=r2.free
   go_wp2
   go_roundw
   case rel=>
    refine ⟨k+1,Za,by go_num,by rw [HM.out];apply congrArg;omega,hfr'.out.trans (FrP.mono ((f2.setCell (p:=⟨g,k*3+1,none⟩) rfl _).setCell (p:=⟨g,k*3+2,none⟩) rfl _) (fun q hq=>⟨Za,hq⟩)),fun _=>rfl,fun _=>⟨_,((r2.set (o:=k*3+1) Za _).set (o:=k*3+2) Za _),fun i hi=>?_⟩⟩
    by_cases e:i=k
    ·subst e
     rw [ykWt_lt (Nat.lt_succ_self i),HME.out]
     refine ⟨?_,?_,?_⟩
     all_goals first|(simp [setF,mkWt];done)|(simp [setF,mkWt];omega)|(simp [setF,mkWt];exact rem3 Za)
    ·rw [ykWt_ne e]
     exact (atWt_set (atWt_set (atWt_set (HAT.out i hi) e (k:=k) Za Za _) e (k:=k) Za Za _) e (k:=k) Za Za _)
   case measure=>simp [intOf];omega
  ·have:k=n:=Za
   subst this
   have HO:=hid ho
   clear ho
   go_wp2
   go_ret
   exact ⟨rfl,HO.out,hfr⟩
structure WrCells (w:World) (b o:Nat) (x:Wr):Prop where
 c0:w.cell? ⟨b,o,none⟩=some (.int .i64 x.op)
 c1:w.cell? ⟨b,o+1,none⟩=some (.string x.kind)
 c2:w.cell? ⟨b,o+2,none⟩=some (.string x.name)
 c3:w.cell? ⟨b,o+3,none⟩=some (.int .i64 x.seen)
 c4:w.cell? ⟨b,o+4,none⟩=some (.string x.text)
 c5:w.cell? ⟨b,o+5,none⟩=some (.string x.hold)
theorem WrCells.below {w w':World} {B b o:Nat} {x:Wr} (h:WrCells w b o x) (hb:Below B w w') (hB:b<B):WrCells w' b o x:=
 have e:∀ j,w'.cell? ⟨b,j,none⟩=w.cell? ⟨b,j,none⟩:=fun j=>hb.cell (p:=⟨b,j,none⟩) hB
 ⟨(e _).trans h.c0,(e _).trans h.c1,(e _).trans h.c2,(e _).trans h.c3,(e _).trans h.c4,(e _).trans h.c5⟩
def WrsIn (w:World) (lo hi:Nat) (ad:Option Addr) (n:Nat) (x:Nat→Wr):Prop:=
 ∀ i,i<n→∃ b off,ad=some ⟨b,off,none⟩∧lo≤b∧b<hi∧WrCells w b (off+i*6) (x i)
theorem WrsIn.below {w w':World} {B lo hi:Nat} {ad:Option Addr} {n:Nat} {x:Nat→Wr} (h:WrsIn w lo hi ad n x) (hb:Below B w w') (hB:hi≤B):WrsIn w' lo hi ad n x:=fun i hi'=>by
 obtain ⟨b,off,e1,e2,e3,e4⟩:=h i hi'
 exact ⟨b,off,e1,e2,e3,e4.below hb Za⟩
theorem WrsIn.mono {w:World} {lo lo' hi hi':Nat} {ad:Option Addr} {n:Nat} {x:Nat→Wr} (h:WrsIn w lo hi ad n x) (hl:lo'≤lo) (hh:hi≤hi'):WrsIn w lo' hi' ad n x:=fun i hi'=>by
 obtain ⟨b,off,e1,e2,e3,e4⟩:=h i hi'
 exact ⟨b,off,e1,Za,Za,e4⟩
def szWrs (n:Nat) (x:Nat→Wr):Nat:=n+sumTo (fun i=>szWr (x i)) n
theorem szWrs_any (n:Nat) (x:Nat→Wr) (ad:Option Addr) (cap:Nat) (left:Int) (w:World) (lo hi:Nat) (hhi:hi≤w.1.size) (hl:(n:Int)≤8796093022208) (h0:0≤left) (h1:left≤1048576) (hf:∀ i,i<n→WrFit (x i))
  (hc:WrsIn w lo hi ad n x) :
  Calls Tryz.prog 52 #[.slice ad n cap,.int .i64 left] w fun e w'=>e=.returned (.int .i64 (szOut left (szWrs n x)))∧Below w.1.size w w':=by
 by_cases hlt:left-n<0
 ·go_enter Tryz.func52,Tryz.ntmps52
  go_wp2
  go_ret
  exact ⟨ret_int (szOut_no (by unfold szWrs;omega)).symm,Below.refl _ _⟩
 ·go_enter Tryz.func52,Tryz.ntmps52
  go_wp2
  go_loopw [1,5] (fun t i wr=>∃ k:Nat,k≤n∧i=.int .i64 k∧t=.int .i64 (left-n-(sumTo (fun i=>szWr (x i)) k:Nat))∧0≤left-n-(sumTo (fun i=>szWr (x i)) k:Nat)∧Below w.1.size w wr) (fun _ i _=>n-(intOf i).toNat)
  case atStart=>exact ⟨0,Nat.zero_le _,rfl,by simp [sumTo],by simp [sumTo];omega,Below.refl _ _⟩
  case round=>
   obtain ⟨k,hk,rfl,rfl,hnn,hb⟩:=hrel
   have hst:sumTo (fun i=>szWr (x i)) (k+1)=sumTo (fun i=>szWr (x i)) k+szWr (x k):=rfl
   have hmo:k<n→sumTo (fun i=>szWr (x i)) (k+1)≤sumTo (fun i=>szWr (x i)) n:=fun h=>sumTo_mono _ h
   generalize hq:sumTo (fun i=>szWr (x i)) k=q at *
   generalize hq1:sumTo (fun i=>szWr (x i)) (k+1)=q1 at *
   by_cases hkn:k<n
   ·obtain ⟨b,off,rfl,hlo,hbh,hcx⟩:=hc k hkn
    have hmo:=hmo hkn
    have hfk:=hf k hkn
    have HS:Hid (q1=q+szWr (x k)):=hst
    have HQ:Hid (sumTo (fun i=>szWr (x i)) (k+1)=q1):=hq1
    clear hst hq hq1 hc hf
    obtain ⟨d0,d1,d2,d3,d4,d5⟩:=hcx.below hb Za
    clear hcx
    generalize x k=y at *
    clear hmo
    rename_i hmo
    go_wp2_with (go_at_call 7;refine (szWr_any y hfk _ wr Za Za).mono ?_;rintro e w1 ⟨rfl,hb1⟩)
    ·go_ret
     refine ⟨ret_int (szOut_no ?_).symm,hb.trans (hb1.mono hb.size)⟩
     have:=HS.out
     have:=szOut_lt Zak
     have:=hmo hkn
     unfold szWrs;omega
    ·exact apP410
   ·have:k=n:=Za
    subst this
    clear hc hf hst hmo hq1
    have HQ:Hid (sumTo (fun i=>szWr (x i)) k=q):=hq
    clear hq
    go_wp2
    go_ret
    refine ⟨ret_int ?_,hb⟩
    have:=HQ.out
    rw [szOut_yes (by unfold szWrs;omega)]
    unfold szWrs;omega
theorem Tryz.info40:(Tryz.prog.info? 40).map (fun i=>(i.zero,i.size,i.bytes))=some (some (.agg #[.int .i64 0,.string ByteArray.empty,.string ByteArray.empty,.int .i64 0,.string ByteArray.empty,.string ByteArray.empty]),6,80):=Zf
structure WrsOwnAt (w:World) (g n m:Nat) (x:Nat→Wr):Prop where
 room:Room w g (m*6)
 at_:∀ i,i<n→WrCells w g (i*6) (x i)
theorem WrsOwnAt.step {wr w1:World} {g k n:Nat} {x:Nat→Wr} (h:WrsOwnAt wr g k n x) (hk:k<n) (hb:Below wr.1.size wr w1) :
  WrsOwnAt (w1.setCells g (k*6) [.int .i64 (x k).op,.string (x k).kind,.string (x k).name,.int .i64 (x k).seen,.string (x k).text,.string (x k).hold]) g (k+1) n x:=by
 have hg:=h.room.lt
 have hR:=h.room.below hb hg
 generalize hvs:[Value.int .i64 (x k).op,.string (x k).kind,.string (x k).name,.int .i64 (x k).seen,.string (x k).text,.string (x k).hold]=vs
 have hlen:vs.length=6:=by rw [←hvs];rfl
 have hin:=World.cell?_setCells_in g vs (k*6) w1 (fun j hj=>by
  obtain ⟨u,hu⟩:=hR.has (k*6+j) Za
  rw [hu];rfl)
 refine ⟨hR.setCells vs Za,fun i hi=>?_⟩
 by_cases e:i<k
 ·have c:=(h.at_ i e).below hb hg
  have ee:∀ j,j<6→(w1.setCells g (k*6) vs).cell? ⟨g,i*6+j,none⟩=w1.cell? ⟨g,i*6+j,none⟩:=fun j hj=>World.cell?_setCells_out g vs (k*6) w1 _ (fun _ _=>Or.inl (by show i*6+j<k*6;omega))
  exact ⟨(ee 0 Za).trans c.c0,(ee 1 Za).trans c.c1,(ee 2 Za).trans c.c2,(ee 3 Za).trans c.c3,(ee 4 Za).trans c.c4,(ee 5 Za).trans c.c5⟩
 ·have:i=k:=Za
  subst this
  have f:=fun j (hj:j<6)=>hin j Za
  have f0:=f 0 Za;have f1:=f 1 Za;have f2:=f 2 Za;have f3:=f 3 Za;have f4:=f 4 Za;have f5:=f 5 Za
  subst hvs
  exact ⟨f0,f1,f2,f3,f4,f5⟩
theorem toWrs_any (n:Nat) (x:Nat→Wr) (ad:Option Addr) (cap:Nat) (w:World) (lo hi:Nat) (hhi:hi≤w.1.size) (hl:(n:Int)≤1099511627776) (hc:WrsIn w lo hi ad n x) :
  Calls Tryz.prog 55 #[.slice ad n cap] w fun e w'=>e=.returned (.slice (some ⟨w.1.size,0,none⟩) n n)∧WrsOwnAt w' w.1.size n n x∧Below w.1.size w w':=by
 obtain ⟨i0,hi0,hz0,hz1,hz2⟩:=info_parts Tryz.info40
 go_enter Tryz.func55,Tryz.ntmps55
 go_wp2_with (first
  | (at_make;refine wpList_make_full _ rfl _ _ 55 rfl w.1.size 40 i0 _ 6 Tryz.underlying55 hi0 hz0 hz1 .i64 .i64 _ _ n rfl rfl Za Za Zbd Zs Za ?_;intro w1 hown1 hgrow1)
  )
 have r1:WrsOwnAt w1 w.1.size 0 n x:=⟨room_made hown1,fun _ h=>absurd h (Nat.not_lt_zero _)⟩
 have hb1:Below w.1.size w w1:=(Below.refl _ _).grown hgrow1 Zbt Zd
 clear hown1 hgrow1 hi0 hz0 hz1 hz2
 go_loopw [4] (fun i wr=>∃ k:Nat,k≤n∧i=.int .i64 k∧Below w.1.size w wr∧WrsOwnAt wr w.1.size k n x) (fun i _=>n-(intOf i).toNat)
 case atStart=>exact ⟨0,Nat.zero_le _,rfl,hb1,r1⟩
 case round=>
  obtain ⟨k,hk,rfl,hb,ho⟩:=hrel
  clear r1 hb1
  by_cases hkn:k<n
  ·obtain ⟨b,off,rfl,hlo,hbh,hcx⟩:=hc k hkn
   obtain ⟨d0,d1,d2,d3,d4,d5⟩:=hcx.below hb Za
   clear hc hcx
   have HO:=hid ho
   have hrm:=ho.room
   clear ho
   go_wp2_with (fail)
   refine (toWr_any (x k) wr).mono ?_
   rintro e w1 ⟨rfl,hb1⟩
   have R:=HO.out.step hkn hb1
   have HR:=hid R
   have HB:=hid ((hb.trans (hb1.mono hb.size)).trans ((fr_setCells w.1.size [Value.int .i64 (x k).op,.string (x k).kind,.string (x k).name,.int .i64 (x k).seen,.string (x k).text,.string (x k).hold] (k*6) w1).below Zbt (hb.trans (hb1.mono hb.size)).size))
   have hrm1:=hrm.below hb1 hrm.lt
   obtain ⟨_,q0⟩:=hrm1.has (k*6) Za
   obtain ⟨_,q1⟩:=hrm1.has (k*6+1) Za
   obtain ⟨_,q2⟩:=hrm1.has (k*6+2) Za
   obtain ⟨_,q3⟩:=hrm1.has (k*6+3) Za
   obtain ⟨_,q4⟩:=hrm1.has (k*6+4) Za
   obtain ⟨_,q5⟩:=hrm1.has (k*6+5) Za
   have qf:=hrm1.free
   clear hrm hrm1 R HO d0 d1 d2 d3 d4 d5
   go_wp2
   go_roundw
   case rel=>exact ⟨k+1,Za,by go_num,HB.out,HR.out⟩
   case measure=>simp [intOf];omega
  ·have:k=n:=Za
   subst this
   have HO:=hid ho
   clear hc ho
   go_wp2
   go_ret
   exact ⟨rfl,HO.out,hb⟩
theorem eqWr_any (x:Wr) (w:World) :
  Calls Tryz.prog 116 #[.agg #[.int .i64 x.op,.string x.kind,.string x.name,.int .i64 x.seen,.string x.text,.string x.hold],.agg #[.int .i64 x.op,.string x.kind,.string x.name,.int .i64 x.seen,.string x.text,.string x.hold]] w fun e w'=>e=.returned (.bool true)∧Below w.1.size w w':=by
 go_enter Tryz.func116,Tryz.ntmps116
 go_wp2
 go_ret
 exact ⟨rfl,((below_alloc _ _).alloc Zd _)⟩
theorem eqWrs_any (n:Nat) (x:Nat→Wr) (ad ad2:Option Addr) (cap cap2:Nat) (w:World) (lo hi lo2 hi2:Nat) (hh:hi≤w.1.size) (hh2:hi2≤w.1.size) (hl:(n:Int)≤140737488355328)
  (hc:WrsIn w lo hi ad n x) (hc2:WrsIn w lo2 hi2 ad2 n x) :
  Calls Tryz.prog 59 #[.slice ad n cap,.slice ad2 n cap2] w fun e w'=>e=.returned (.bool true)∧Below w.1.size w w':=by
 go_enter Tryz.func59,Tryz.ntmps59
 go_wp2
 go_loopw [5] (fun i wr=>∃ k:Nat,k≤n∧i=.int .i64 k∧Below w.1.size w wr) (fun i _=>n-(intOf i).toNat)
 case atStart=>exact ⟨0,Nat.zero_le _,rfl,Below.refl _ _⟩
 case round=>
  obtain ⟨k,hk,rfl,hb⟩:=hrel
  by_cases hkn:k<n
  ·obtain ⟨b,off,rfl,hlo,hbh,hcx⟩:=hc k hkn
   obtain ⟨b2,off2,rfl,hlo2,hbh2,hcx2⟩:=hc2 k hkn
   obtain ⟨d0,d1,d2,d3,d4,d5⟩:=hcx.below hb Za
   obtain ⟨e0,e1,e2,e3,e4,e5⟩:=hcx2.below hb Za
   clear hc hc2 hcx hcx2
   generalize x k=y at *
   go_wp2
   go_region_with (go_at_call 116;refine (eqWr_any y _).mono ?_;rintro e w1 ⟨rfl,hb1⟩)
   all_goals
    go_wp2
    go_roundw
    case rel=>exact ⟨k+1,Za,by go_num,hb.drew.trans (hb1.mono hb.size)⟩
    case measure=>simp [intOf];omega
  ·have:k=n:=Za
   subst this
   clear hc hc2
   go_wp2
   go_ret
   exact ⟨rfl,hb⟩
def atWr (c:Nat→Value) (i:Nat) (y:Wr):Prop:=c (i*6)=.int .i64 y.op∧c (i*6+1)=.string y.kind∧c (i*6+2)=.string y.name∧c (i*6+3)=.int .i64 y.seen∧c (i*6+4)=.string y.text∧c (i*6+5)=.string y.hold
theorem atWr_set {c:Nat→Value} {i:Nat} {y:Wr} (h:atWr c i y) {k o:Nat} (hik:¬i=k) (h1:k*6≤o) (h2:o<k*6+6) (v:Value):atWr (setF c o v) i y:=by
 obtain ⟨a0,a1,a2,a3,a4,a5⟩:=h
 exact ⟨(if_neg Za).trans a0,(if_neg Za).trans a1,(if_neg Za).trans a2,(if_neg Za).trans a3,(if_neg Za).trans a4,(if_neg Za).trans a5⟩
def mkWr (m:Nat) (_:Wr):Wr:=⟨(m:Int),mt (m+1),mt (m+2),(m:Int)+3,mt (m+4),mt (m+5)⟩
def mkWrs (k0:Nat) (x:Nat→Wr):Nat→Nat|0=>k0|n+1=>mkWrs k0 x n+6
theorem mkWrs_mono (k0:Nat) (x:Nat→Wr) {k n:Nat} (h:k≤n):mkWrs k0 x k≤mkWrs k0 x n:=by
 induction n with
 | zero=>
   have:k=0:=Za
   subst this;exact Nat.le_refl _
 | succ m ih=>
   rcases Nat.lt_or_ge m k with h1|h1
   ·have:k=m+1:=Za
    subst this;exact Nat.le_refl _
   ·exact Nat.le_trans (ih h1) (by simp only [mkWrs];omega)
theorem mkWrs_is (k0:Nat) (x:Nat→Wr):∀ n,mkWrs k0 x n=k0+6*n
 | 0=>rfl
 | n+1=>by rw [mkWrs,mkWrs_is k0 x n];omega
def ykWr (k0:Nat) (x:Nat→Wr) (k i:Nat):Wr:=if i<k then mkWr (mkWrs k0 x i) (x i) else x i
theorem ykWr_zero (k0:Nat) (x:Nat→Wr):ykWr k0 x 0=x:=funext fun i=>if_neg (Nat.not_lt_zero i)
theorem ykWr_lt {k0:Nat} {x:Nat→Wr} {k i:Nat} (h:i<k):ykWr k0 x k i=mkWr (mkWrs k0 x i) (x i):=if_pos h
theorem ykWr_ne {k0:Nat} {x:Nat→Wr} {k i:Nat} (h:¬i=k):ykWr k0 x (k+1) i=ykWr k0 x k i:=by
 unfold ykWr
 by_cases h1:i<k
 ·rw [if_pos h1,if_pos Za]
 ·rw [if_neg h1,if_neg Za]
structure WrsAt (w:World) (ad:Option Addr) (g n:Nat) (x:Nat→Wr):Prop where
 addr:0<n→ad=some ⟨g,0,none⟩
 row:0<n→∃ c,RowF w g (n*6) c∧∀ i,i<n→atWr c i (x i)
theorem WrsAt.fr {w w':World} {ad:Option Addr} {g n:Nat} {x:Nat→Wr} {P:Nat→Prop} (h:WrsAt w ad g n x) (hf:FrP P w w') (hp:0<n→¬P g):WrsAt w' ad g n x:=
 ⟨h.addr,fun h0=>by obtain ⟨c,r,e⟩:=h.row h0;exact ⟨c,r.fr hf (hp h0),e⟩⟩
theorem WrsAt.grow {w w':World} {ad:Option Addr} {g n:Nat} {x:Nat→Wr} (h:WrsAt w ad g n x) (hf:Below w.1.size w w'):WrsAt w' ad g n x:=h.fr (FrP.of_below (P:=fun _=>False) hf) (fun _ h=>h)
theorem WrsAt.lt {w:World} {ad:Option Addr} {g n:Nat} {x:Nat→Wr} (h:WrsAt w ad g n x) (h0:0<n):g<w.1.size:=by
 obtain ⟨c,r,e⟩:=h.row h0
 exact r.lt
theorem WrsOwnAt.at {w:World} {g n:Nat} {x:Nat→Wr} (h:WrsOwnAt w g n n x):WrsAt w (some ⟨g,0,none⟩) g n x:=by
 have e:∀ j v,w.cell? ⟨g,j,none⟩=some v→(w.cell? ⟨g,j,none⟩).getD (.int .i64 0)=v:=fun j v h=>by rw [h];rfl
 refine ⟨fun _=>rfl,fun _=>⟨fun j=>(w.cell? ⟨g,j,none⟩).getD (.int .i64 0),⟨h.room.lt,h.room.free,fun j hj=>?_⟩,fun i hi'=>?_⟩⟩
 ·obtain ⟨u,hu⟩:=h.room.has j hj
  rw [hu];rfl
 ·have k:=h.at_ i hi'
  exact ⟨(e (i*6) _ k.c0),(e (i*6+1) _ k.c1),(e (i*6+2) _ k.c2),(e (i*6+3) _ k.c3),(e (i*6+4) _ k.c4),(e (i*6+5) _ k.c5)⟩
theorem WrsAt.isIn {w:World} {ad:Option Addr} {g n:Nat} {x:Nat→Wr} (h:WrsAt w ad g n x) {lo:Nat} (hlo:0<n→lo≤g):WrsIn w lo w.1.size ad n x:=fun i hi=>by
 obtain ⟨c,r,e⟩:=h.row Za
 obtain ⟨a0,a1,a2,a3,a4,a5⟩:=e i hi
 refine ⟨g,0,h.addr Za,hlo Za,r.lt,?_⟩
 rw [Nat.zero_add]
 exact ⟨(r.cell _ Za).trans (congrArg some a0),(r.cell _ Za).trans (congrArg some a1),(r.cell _ Za).trans (congrArg some a2),(r.cell _ Za).trans (congrArg some a3),(r.cell _ Za).trans (congrArg some a4),(r.cell _ Za).trans (congrArg some a5)⟩
theorem markWrs_own (ad:Option Addr) (g n:Nat) (x:Nat→Wr) (cap k0:Nat) (w:World) (hl:(n:Int)≤1048576) (hk1:1≤(k0:Int)) (hk2:(mkWrs k0 x n:Int)≤1073741824) (hc:WrsAt w ad g n x) :
  Calls Tryz.prog 61 #[.slice ad n cap,.int .i64 k0] w fun e w'=>e=.returned (.int .i64 (mkWrs k0 x n))∧WrsAt w' ad g n (ykWr k0 x n)∧FrP (fun k=>0<n∧k=g) w w':=by
 go_enter Tryz.func61,Tryz.ntmps61
 go_wp2
 go_loopw [1,5] (fun t i wr=>∃ k:Nat,k≤n∧i=.int .i64 k∧t=.int .i64 (mkWrs k0 x k)∧FrP (fun k=>0<n∧k=g) w wr∧WrsAt wr ad g n (ykWr k0 x k)) (fun _ i _=>n-(intOf i).toNat)
 case atStart=>exact ⟨0,Nat.zero_le _,rfl,rfl,FrP.refl _ _,by rw [ykWr_zero];exact hc⟩
 case round=>
  obtain ⟨k,hk,rfl,rfl,hfr,ho⟩:=hrel
  clear hc
  by_cases hkn:k<n
  ·have hmo:=mkWrs_mono k0 x (k:=k+1) (n:=n) Za
   have hm1:1≤mkWrs k0 x k:=by rw [mkWrs_is];omega
   have hms:mkWrs k0 x (k+1)=mkWrs k0 x k+6:=rfl
   have HM:Hid (mkWrs k0 x (k+1)=mkWrs k0 x k+6):=hms
   have hm:mkWrs k0 x k+6≤1073741824:=Za
   clear hmo hms
   obtain ⟨m,hme⟩:∃ m,mkWrs k0 x k=m:=⟨_,rfl⟩
   rw [hme] at hm1 hm HM ⊢
   have HME:=hid hme
   clear hme
   obtain rfl:=ho.addr Za
   obtain ⟨c,r0,hat⟩:=ho.row Za
   have HAT:=hid hat
   have hfr':=hid hfr
   clear ho hat hfr
   have f0:FrP (fun q=>q=g) wr wr:=FrP.refl _ _
   have q0:=r0.cell (k*6) Za
   have qf0:=r0.free
   go_wp2_with fail
   refine (markText_at _ (m+1) Za _ Za Za).mono ?_
   rintro e w1 ⟨rfl,b1⟩
   have r1:=(r0.set (o:=k*6) Za _).below b1 Zav
   have f1:=(f0.setCell (p:=⟨g,k*6,none⟩) rfl _).trans (FrP.of_below b1)
   clear q0 qf0 r0 f0 b1
   have q1:=r1.cell (k*6+1) Za
   have qf1:=r1.free
   go_wp2_with fail
   refine (markText_at _ (m+2) Za _ Za Za).mono ?_
   rintro e w2 ⟨rfl,b2⟩
   have r2:=(r1.set (o:=k*6+1) Za _).below b2 Zaw
   have f2:=(f1.setCell (p:=⟨g,k*6+1,none⟩) rfl _).trans (FrP.of_below b2)
   clear q1 qf1 r1 f1 b2
   have q2:=r2.cell (k*6+2) Za
   have q3:=r2.cell (k*6+3) Za
   have qf2:=r2.free
   go_wp2_with fail
   refine (markText_at _ (m+4) Za _ Za Za).mono ?_
   rintro e w3 ⟨rfl,b3⟩
   have r3:=((r2.set (o:=k*6+2) Za _).set (o:=k*6+3) Za _).below b3 Zbp
   have f3:=((f2.setCell (p:=⟨g,k*6+2,none⟩) rfl _).setCell (p:=⟨g,k*6+3,none⟩) rfl _).trans (FrP.of_below b3)
   clear q2 q3 qf2 r2 f2 b3
   have q4:=r3.cell (k*6+4) Za
   have qf3:=r3.free
   go_wp2_with fail
   refine (markText_at _ (m+5) Za _ Za Za).mono ?_
   rintro e w4 ⟨rfl,b4⟩
   have r4:=(r3.set (o:=k*6+4) Za _).below b4 (by first|exact r3.lt|(simp only [World.size_setCell];exact r3.lt))
   have f4:=(f3.setCell (p:=⟨g,k*6+4,none⟩) rfl _).trans (FrP.of_below b4)
   clear q4 qf3 r3 f3 b4
   have q5:=r4.cell (k*6+5) Za
   have qf4:=r4.free
   go_wp2
   go_roundw
   case rel=>
    refine ⟨k+1,Za,by go_num,by rw [HM.out];apply congrArg;omega,hfr'.out.trans (FrP.mono (f4.setCell (p:=⟨g,k*6+5,none⟩) rfl _) (fun q hq=>⟨Za,hq⟩)),fun _=>rfl,fun _=>⟨_,(r4.set (o:=k*6+5) Za _),fun i hi=>?_⟩⟩
    by_cases e:i=k
    ·subst e
     rw [ykWr_lt (Nat.lt_succ_self i),HME.out]
     refine ⟨?_,?_,?_,?_,?_,?_⟩
     all_goals first|(simp [setF,mkWr];done)|(simp [setF,mkWr];omega)|(simp [setF,mkWr];exact rem3 Za)
    ·rw [ykWr_ne e]
     exact (atWr_set (atWr_set (atWr_set (atWr_set (atWr_set (atWr_set (HAT.out i hi) e (k:=k) Za Za _) e (k:=k) Za Za _) e (k:=k) Za Za _) e (k:=k) Za Za _) e (k:=k) Za Za _) e (k:=k) Za Za _)
   case measure=>simp [intOf];omega
  ·have:k=n:=Za
   subst this
   have HO:=hid ho
   clear ho
   go_wp2
   go_ret
   exact ⟨rfl,HO.out,hfr⟩
structure Bu where
 wn:Nat
 ws:Nat→Wnt
 rn:Nat
 rs:Nat→Wr
structure BuFit0 (x:Bu):Prop where
 w:(x.wn:Int)≤8796093022208
 r:(x.rn:Int)≤8796093022208
 ws:∀ i,i<x.wn→WtFit (x.ws i)
 rs:∀ i,i<x.rn→WrFit (x.rs i)
structure BuFit (x:Bu):Prop where
 w:(x.wn:Int)≤1048576
 r:(x.rn:Int)≤1048576
 ws:∀ i,i<x.wn→WtFit (x.ws i)
 rs:∀ i,i<x.rn→WrFit (x.rs i)
structure BuIn (w:World) (lo hi:Nat) (x:Bu) (a1 a2:Option Addr):Prop where
 wt:WtsIn w lo hi a1 x.wn x.ws
 wr:WrsIn w lo hi a2 x.rn x.rs
theorem BuIn.below {w w':World} {B lo hi:Nat} {x:Bu} {a1 a2:Option Addr} (h:BuIn w lo hi x a1 a2) (hb:Below B w w') (hB:hi≤B):BuIn w' lo hi x a1 a2:=⟨h.wt.below hb hB,h.wr.below hb hB⟩
theorem BuIn.mono {w:World} {lo lo' hi hi':Nat} {x:Bu} {a1 a2:Option Addr} (h:BuIn w lo hi x a1 a2) (hl:lo'≤lo) (hh:hi≤hi'):BuIn w lo' hi' x a1 a2:=⟨h.wt.mono hl hh,h.wr.mono hl hh⟩
theorem BuIn.grow {w w':World} {lo:Nat} {x:Bu} {a1 a2:Option Addr} (h:BuIn w lo w.1.size x a1 a2) (hb:Below w.1.size w w'):BuIn w' lo w'.1.size x a1 a2:=(h.below hb Zbt).mono Zbt hb.size
def szBu (x:Bu):Nat:=szWts x.wn x.ws+szWrs x.rn x.rs
theorem szBu_any (x:Bu) (a1 a2:Option Addr) (c1 c2:Nat) (left:Int) (w:World) (h0:0≤left) (h1:left≤1048576) (lo hi:Nat) (hhi:hi≤w.1.size) (hf:BuFit0 x) (hc:BuIn w lo hi x a1 a2) :
  Calls Tryz.prog 17 #[.agg #[.slice a1 x.wn c1,.slice a2 x.rn c2],.int .i64 left] w fun e w'=>e=.returned (.int .i64 (szOut left (szBu x)))∧Below w.1.size w w':=by
 obtain ⟨f1,f2,f3,f4⟩:=hf
 have hc1:=hc.below (below_alloc w (.cells #[.slice a1 x.wn c1,.slice a2 x.rn c2] 50)) hhi
 clear hc
 unfold szBu
 go_enter Tryz.func17,Tryz.ntmps17
 go_wp2_with (first|(go_at_call 51;refine (szWts_any x.wn x.ws a1 c1 left _ lo hi Zc Za h0 h1 f3 hc1.wt).mono ?_;rintro e w1 ⟨rfl,hb1⟩;have k1:=box_cell hb1 1;simp only [List.getElem?_toArray,List.getElem?_cons_succ,List.getElem?_cons_zero] at k1)|(go_at_call 52;refine (szWrs_any x.rn x.rs a2 c2 _ _ lo hi (Nat.le_trans Zc hb1.size) Za Zak (by have:=szOut_ge Zak;omega) f4 (hc1.wr.below hb1 Zc)).mono ?_;rintro e w2 ⟨rfl,hb2⟩;have hb12:=hb1.trans (hb2.mono hb1.size)))
 ·go_ret
  exact ⟨ret_int (szOut_no Zbo).symm,(below_alloc _ _).trans (hb1.mono Zd)⟩
 ·go_ret
  obtain ⟨g1,g2⟩:=szOut_ge (l:=left) Zak
  exact ⟨ret_int (szOut_no Zbo).symm,(below_alloc _ _).trans (hb12.mono Zd)⟩
 ·go_ret
  obtain ⟨g1,g2⟩:=szOut_ge (l:=left) Zak
  obtain ⟨g3,g4⟩:=szOut_ge (l:=szOut left (szWts x.wn x.ws)) Zak
  exact ⟨ret_int (by have h:=szOut_yes (left:=left) (s:=szWts x.wn x.ws+szWrs x.rn x.rs) Za;omega),(below_alloc _ _).trans (hb12.mono Zd)⟩
structure BuAt (w:World) (x:Bu) (a1 a2:Option Addr) (g1 g2:Nat):Prop where
 wt:WtsAt w a1 g1 x.wn x.ws
 wr:WrsAt w a2 g2 x.rn x.rs
 d:0<x.wn→0<x.rn→¬g1=g2
def blkU (x:Bu) (g1 g2 k:Nat):Prop:=(0<x.wn∧k=g1)∨(0<x.rn∧k=g2)
theorem BuAt.fr {w w':World} {x:Bu} {a1 a2:Option Addr} {g1 g2:Nat} {Q:Nat→Prop} (h:BuAt w x a1 a2 g1 g2) (hf:FrP Q w w') (hq:∀ k,blkU x g1 g2 k→¬Q k):BuAt w' x a1 a2 g1 g2:=
 ⟨h.wt.fr hf (fun h0=>hq _ (Or.inl ⟨h0,rfl⟩)),h.wr.fr hf (fun h0=>hq _ (Or.inr ⟨h0,rfl⟩)),h.d⟩
theorem BuAt.grow {w w':World} {x:Bu} {a1 a2:Option Addr} {g1 g2:Nat} (h:BuAt w x a1 a2 g1 g2) (hf:Below w.1.size w w'):BuAt w' x a1 a2 g1 g2:=⟨h.wt.grow hf,h.wr.grow hf,h.d⟩
theorem BuAt.blt {w:World} {x:Bu} {a1 a2:Option Addr} {g1 g2 k:Nat} (h:BuAt w x a1 a2 g1 g2) (hk:blkU x g1 g2 k):k<w.1.size:=by
 rcases hk with ⟨h0,rfl⟩|⟨h0,rfl⟩
 ·exact h.wt.lt h0
 ·exact h.wr.lt h0
theorem BuAt.isIn {w:World} {x:Bu} {a1 a2:Option Addr} {g1 g2:Nat} (h:BuAt w x a1 a2 g1 g2) {lo:Nat} (hlo:∀ k,blkU x g1 g2 k→lo≤k):BuIn w lo w.1.size x a1 a2:=
 ⟨h.wt.isIn (fun h0=>hlo _ (Or.inl ⟨h0,rfl⟩)),h.wr.isIn (fun h0=>hlo _ (Or.inr ⟨h0,rfl⟩))⟩
theorem toBu_any (x:Bu) (a1 a2:Option Addr) (c1 c2:Nat) (w:World) (lo hi:Nat) (hhi:hi≤w.1.size) (hf:BuFit x) (hc:BuIn w lo hi x a1 a2) :
  Calls Tryz.prog 19 #[.agg #[.slice a1 x.wn c1,.slice a2 x.rn c2]] w fun e w'=>∃ g1 g2,e=.returned (.agg #[.slice (some ⟨g1,0,none⟩) x.wn x.wn,.slice (some ⟨g2,0,none⟩) x.rn x.rn])∧BuAt w' x (some ⟨g1,0,none⟩) (some ⟨g2,0,none⟩) g1 g2∧w.1.size≤g1∧w.1.size≤g2∧g1<w'.1.size∧g2<w'.1.size∧Below w.1.size w w':=by
 obtain ⟨f1,f2,f3,f4⟩:=hf
 go_enter Tryz.func19,Tryz.ntmps19
 go_wp2_with fail
 refine (toWts_any x.wn x.ws a1 c1 _ lo hi Zc Za (hc.wt.below (B:=w.1.size) ((((Below.refl _ _).alloc Zbt _).alloc Zd _).alloc Zc _) hhi)).mono ?_
 rintro e w1 ⟨rfl,ho1,hb1⟩
 have hB1:Below w.1.size w w1:=((((Below.refl _ _).alloc Zbt _).alloc Zd _).alloc Zc _).trans (hb1.mono Zc)
 obtain ⟨A0,A1,A2,F1,F2⟩:=three_cell hb1
 have b0:=A0 0
 have b1:=A0 1
 have p0:=A1 0
 have p1:=A1 1
 have o0:=A2 0
 have o1:=A2 1
 simp only [List.getElem?_toArray,List.getElem?_cons_succ,List.getElem?_cons_zero] at b0 b1 p0 p1 o0 o1
 have hz1:w.1.size+1+1<w1.1.size:=by have:=hb1.size;simp at this;omega
 simp only [World.size_alloc] at ho1 ⊢
 clear A0 A1 A2 hb1
 have hl1:=ho1.room.lt
 have HO1:=hid ho1.at
 clear ho1
 go_wp2_with fail
 refine (toWrs_any x.rn x.rs a2 c2 _ lo hi (by rw [World.size_setCell];have:=hB1.size;omega) Za (hc.wr.below (B:=w.1.size) (hB1.setCell (p:=⟨w.1.size+1+1,0,none⟩) Zbj _) hhi)).mono ?_
 rintro e w2 ⟨rfl,ho2,hb2⟩
 have hz2:w1.1.size<w2.1.size:=by have:=ho2.room.lt;rw [World.size_setCell] at this;exact this
 have hB2:Below w.1.size w w2:=(hB1.setCell (p:=⟨w.1.size+1+1,0,none⟩) Zbj _).trans (hb2.mono (by rw [World.size_setCell];omega))
 have p0':=(after_call hb2 (p:=⟨w.1.size+1,0,none⟩) Zab Zd).trans p0
 have p1':=(after_call hb2 (p:=⟨w.1.size+1,1,none⟩) Zab Zd).trans p1
 have o0':=after_call_same hb2 Zo o0
 have o1':=(after_call hb2 (p:=⟨w.1.size+1+1,1,none⟩) Zo Zd).trans o1
 have F1':∀ i,w2.frozen? ⟨w.1.size+1,i,none⟩=false:=fun i=>(after_call_frozen hb2 (p:=⟨w.1.size+1,i,none⟩) Zab).trans (F1 i)
 have F2':∀ i,w2.frozen? ⟨w.1.size+1+1,i,none⟩=false:=fun i=>(after_call_frozen hb2 (p:=⟨w.1.size+1+1,i,none⟩) Zo).trans (F2 i)
 have HB2:=hid hb2
 rw [World.size_setCell] at ho2 ⊢
 have hl2:=ho2.room.lt
 have HO2:=hid ho2.at
 clear ho2 hb2 b0 b1 p0 p1 o0 o1 F1 F2
 go_wp2
 refine bodyPost_ret (v:=.agg #[.slice (some ⟨w.1.size+1+1+1,0,none⟩) x.wn x.wn,.slice (some ⟨w1.1.size,0,none⟩) x.rn x.rn]) (by simp [results,Tryz.results19,go_sem,p0',p1']) rfl ⟨_,_,rfl,?_,Za,Za,?_,?_,?_⟩
 ·have FF:=(((FrP.refl (fun q=>q=w.1.size+1∨q=w.1.size+1+1) w2).setCell (p:=⟨w.1.size+1+1,1,none⟩) (Or.inr rfl) (.slice (some ⟨w1.1.size,0,none⟩) x.rn x.rn)).setCell (p:=⟨w.1.size+1,0,none⟩) (Or.inl rfl) (.slice (some ⟨w.1.size+1+1+1,0,none⟩) x.wn x.wn)).setCell (p:=⟨w.1.size+1,1,none⟩) (Or.inl rfl) (.slice (some ⟨w1.1.size,0,none⟩) x.rn x.rn)
  refine ⟨?_,HO2.out.fr FF (fun _ e=>by rcases e with e|e<;>omega),fun _ _=>by omega⟩
  exact ((HO1.out.fr ((FrP.refl (fun q=>q=w.1.size+1+1) w1).setCell (p:=⟨w.1.size+1+1,0,none⟩) rfl _) (fun _ e=>by have e':w.1.size+1+1+1=w.1.size+1+1:=e;omega)).grow HB2.out).fr FF (fun _ e=>by rcases e with e|e<;>omega)
 ·simp only [World.size_setCell];omega
 ·simp only [World.size_setCell];omega
 ·repeat (first|with_reducible exact hB2|with_reducible refine Below.setCell ?_ (by first|(show w.1.size≤w.1.size+1;omega)|(show w.1.size≤w.1.size+1+1;omega)) _)
theorem eqBu_any (x:Bu) (a1 a2 b1 b2:Option Addr) (c1 c2 d1 d2:Nat) (w:World) (lo hi lo2 hi2:Nat) (hh:hi≤w.1.size) (hh2:hi2≤w.1.size) (hf:BuFit x) (hc:BuIn w lo hi x a1 a2) (hc2:BuIn w lo2 hi2 x b1 b2) :
  Calls Tryz.prog 21 #[.agg #[.slice a1 x.wn c1,.slice a2 x.rn c2],.agg #[.slice b1 x.wn d1,.slice b2 x.rn d2]] w fun e w'=>e=.returned (.bool true)∧Below w.1.size w w':=by
 obtain ⟨f1,f2,f3,f4⟩:=hf
 go_enter Tryz.func21,Tryz.ntmps21
 go_wp2_with fail
 refine (eqWts_any x.wn x.ws a1 b1 c1 d1 _ lo hi lo2 hi2 Zc Zc Za (hc.wt.below (B:=w.1.size) ((below_alloc _ _).alloc Zd _) hh) (hc2.wt.below (B:=w.1.size) ((below_alloc _ _).alloc Zd _) hh2)).mono ?_
 rintro e w1 ⟨rfl,hb1⟩
 have hB1:Below w.1.size w w1:=((below_alloc _ _).alloc Zd _).trans (hb1.mono Zc)
 have hz:=hb1.size
 obtain ⟨A0,A1,_,_⟩:=two_cell hb1
 have u1:=A0 1
 have v1:=A1 1
 simp only [World.size_alloc] at hz
 simp only [List.getElem?_toArray,List.getElem?_cons_succ,List.getElem?_cons_zero] at u1 v1
 clear A0 A1 hb1
 go_wp2_with fail
 refine (eqWrs_any x.rn x.rs a2 b2 c2 d2 _ lo hi lo2 hi2 Za Za Za (hc.wr.below hB1 hh) (hc2.wr.below hB1 hh2)).mono ?_
 rintro e w2 ⟨rfl,hb2⟩
 have hB2:Below w.1.size w w2:=hB1.trans (hb2.mono hB1.size)
 go_wp2
 go_ret
 exact ⟨rfl,hB2⟩
def mkBu (k0:Nat) (x:Bu):Nat:=mkWrs (mkWts k0 x.ws x.wn) x.rs x.rn
def ykBu (k0:Nat) (x:Bu):Bu:={ x with ws:=ykWt k0 x.ws x.wn,rs:=ykWr (mkWts k0 x.ws x.wn) x.rs x.rn }
theorem markBu_own (x:Bu) (a1 a2:Option Addr) (g1 g2 c1 c2 k0:Nat) (w:World) (l1:(x.wn:Int)≤1048576) (l2:(x.rn:Int)≤1048576) (hk1:1≤(k0:Int)) (hk2:(mkBu k0 x:Int)≤1073741824) (hc:BuAt w x a1 a2 g1 g2) :
  Calls Tryz.prog 22 #[.agg #[.slice a1 x.wn c1,.slice a2 x.rn c2],.int .i64 k0] w fun e w'=>e=.returned (.int .i64 (mkBu k0 x))∧BuAt w' (ykBu k0 x) a1 a2 g1 g2∧FrP (blkU x g1 g2) w w':=by
 have m1:k0≤mkWts k0 x.ws x.wn:=by rw [mkWts_is];omega
 have m2:mkWts k0 x.ws x.wn≤mkBu k0 x:=by unfold mkBu;rw [mkWrs_is];omega
 have hk3:(mkWrs (mkWts k0 x.ws x.wn) x.rs x.rn:Int)≤1073741824:=hk2
 have HC:=hid hc
 have hA:=hid (hc.grow (below_alloc w (.cells #[.slice a1 x.wn c1,.slice a2 x.rn c2] 57)))
 clear hc
 go_enter Tryz.func22,Tryz.ntmps22
 go_wp2_with fail
 refine (markWts_own a1 g1 x.wn x.ws c1 k0 _ l1 hk1 Za hA.out.wt).mono ?_
 rintro e w1 ⟨rfl,o1,f1⟩
 have q1:w1.cell? ⟨w.1.size,1,none⟩=some (.slice a2 x.rn c2):=(f1.cell (p:=⟨w.1.size,1,none⟩) Zd (fun h=>Nat.lt_irrefl _ (HC.out.blt (k:=w.1.size) (Or.inl h)))).trans (World.cell?_alloc_new _ _ _ _)
 have O1:=hid o1
 have F1:=hid f1
 have H1:=hid (hA.out.wr.fr f1 (fun h2 (h1:0<x.wn∧g2=g1)=>HC.out.d h1.1 h2 h1.2.symm))
 clear o1 f1 hA
 go_wp2_with fail
 refine (markWrs_own a2 g2 x.rn x.rs c2 (mkWts k0 x.ws x.wn) _ l2 Za hk3 H1.out).mono ?_
 rintro e w2 ⟨rfl,o2,f2⟩
 have O2:=hid o2
 have F2:=hid f2
 clear o2 f2 q1
 go_wp2
 go_ret
 have d:=HC.out.d
 refine ⟨rfl,⟨O1.out.fr F2.out (fun h1 (h2:0<x.rn∧g1=g2)=>d h1 h2.1 h2.2),O2.out,d⟩,?_⟩
 exact ((FrP.of_below (below_alloc w _)).trans (F1.out.mono (fun k h=>Or.inl h))).trans (F2.out.mono (fun k h=>Or.inr h))
theorem blkU_yk (x:Bu) (k0 g1 g2:Nat):blkU (ykBu k0 x) g1 g2=blkU x g1 g2:=rfl
end Go.Proofs.YtllmmkchokkaaaaGreatDoor
