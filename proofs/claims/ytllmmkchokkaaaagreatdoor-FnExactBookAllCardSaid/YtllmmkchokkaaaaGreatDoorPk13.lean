import Derived.Test.YtllmmkchokkaaaaGreatDoorPk03
import Derived.Deep.QuietTactic
import Derived.BigQuiet
import Derived.Deep.RegionWith
set_option maxRecDepth 100000
set_option maxHeartbeats 1000000
namespace Go.Proofs.YtllmmkchokkaaaaGreatDoor
open Go.RowKit
theorem StrsIn.drewN {w:World} {lo hi:Nat} {ad:Option Addr} {n:Nat} {s:Nat→ByteArray} (h:StrsIn w lo hi ad n s) (q:Nat):StrsIn (w.drewN q) lo hi ad n s:=h
theorem StrsIn.mono {w:World} {lo hi lo2 hi2:Nat} {ad:Option Addr} {n:Nat} {s:Nat→ByteArray} (h:StrsIn w lo hi ad n s) (h1:lo2≤lo) (h2:hi≤hi2):StrsIn w lo2 hi2 ad n s:=fun i hi'=>by
 obtain ⟨b,off,e1,e2,e3,e4⟩:=h i hi'
 exact ⟨b,off,e1,Za,Za,e4⟩
theorem below_drewN' (w:World) (q:Nat):Below w.1.size w (w.drewN q):=⟨rfl,rfl,rfl,Nat.le_refl _,fun _ _=>rfl⟩
theorem eqOb_any (x:Ob) (ad ad2:Option Addr) (cap cap2:Nat) (w:World) (lo hi lo2 hi2:Nat) (hh:hi≤w.1.size) (hh2:hi2≤w.1.size) (hl:(x.hn:Int)≤140737488355328)
  (hc:StrsIn w lo hi ad x.hn x.hs) (hc2:StrsIn w lo2 hi2 ad2 x.hn x.hs) :
  Calls Tryz.prog 104 #[.agg #[.string x.kind,.string x.name,.int .i64 x.ver,.int .i64 x.born,.string x.text,.bool x.ending,.slice ad x.hn cap],.agg #[.string x.kind,.string x.name,.int .i64 x.ver,.int .i64 x.born,.string x.text,.bool x.ending,.slice ad2 x.hn cap2]] w fun e w'=>e=.returned (.bool true)∧Below w.1.size w w':=by
 go_enter Tryz.func104,Tryz.ntmps104
 go_wp2_with fail
 refine (eqStrs_any x.hn x.hs ad ad2 cap cap2 _ lo hi lo2 hi2 hl ((hc.alloc hh _).alloc Zc _) ((hc2.alloc hh2 _).alloc Zc _)).mono ?_
 rintro e w1 ⟨rfl,q,rfl⟩
 go_wp2
 go_ret
 exact ⟨rfl,(((below_alloc _ _).alloc Zd _).trans ((below_drewN' _ _).mono Zc))⟩
theorem apP130 {P:Prop} (h:P:=by
  go_roundw
  case rel=>exact ⟨k+1,Za,by go_num,hb.drew.trans (hb1.mono hb.size)⟩
  case measure=>simp [intOf];omega):P:=h
theorem eqObs_any (n:Nat) (x:Nat→Ob) (ad ad2:Option Addr) (cap cap2:Nat) (w:World) (lo hi lo2 hi2:Nat) (hh:hi≤w.1.size) (hh2:hi2≤w.1.size) (hl:(n:Int)≤140737488355328) (hf:∀ i,i<n→((x i).hn:Int)≤140737488355328)
  (hc:ObjsIn w lo hi ad n x) (hc2:ObjsIn w lo2 hi2 ad2 n x) :
  Calls Tryz.prog 45 #[.slice ad n cap,.slice ad2 n cap2] w fun e w'=>e=.returned (.bool true)∧Below w.1.size w w':=by
 go_enter Tryz.func45,Tryz.ntmps45
 go_wp2
 go_loopw [5] (fun i wr=>∃ k:Nat,k≤n∧i=.int .i64 k∧Below w.1.size w wr) (fun i _=>n-(intOf i).toNat)
 case atStart=>exact ⟨0,Nat.zero_le _,rfl,Below.refl _ _⟩
 case round=>
  obtain ⟨k,hk,rfl,hb⟩:=hrel
  by_cases hkn:k<n
  ·obtain ⟨b,off,ah,ch,rfl,hlo,hbh,hcx,hsx⟩:=hc k hkn
   obtain ⟨b2,off2,ah2,ch2,rfl,hlo2,hbh2,hcx2,hsx2⟩:=hc2 k hkn
   have hfk:=hf k hkn
   obtain ⟨d0,d1,d2,d3,d4,d5,d6⟩:=hcx.below hb Za
   obtain ⟨e0,e1,e2,e3,e4,e5,e6⟩:=hcx2.below hb Za
   have hs:=hsx.below hb hh
   have hs2:=hsx2.below hb hh2
   have hw1:=Nat.le_trans hh hb.size
   have hw2:=Nat.le_trans hh2 hb.size
   clear hc hc2 hf hcx hcx2 hsx hsx2
   generalize x k=y at *
   go_wp2
   go_region_with (go_at_call 104;refine (eqOb_any y ah ah2 ch ch2 _ lo hi lo2 hi2 (by exact hw1) (by exact hw2) hfk (by exact hs.drewN 1) (by exact hs2.drewN 1)).mono ?_;rintro e w1 ⟨rfl,hb1⟩)
   all_goals
    go_wp2
    exact apP130
  ·have:k=n:=Za
   subst this
   clear hc hc2
   go_wp2
   go_ret
   exact ⟨rfl,hb⟩
theorem eqCh_any (x:Ch) (ad ad2:Option Addr) (cap cap2:Nat) (w:World) (lo hi lo2 hi2:Nat) (hh:hi≤w.1.size) (hh2:hi2≤w.1.size) (hl:(x.ob.hn:Int)≤140737488355328)
  (hc:StrsIn w lo hi ad x.ob.hn x.ob.hs) (hc2:StrsIn w lo2 hi2 ad2 x.ob.hn x.ob.hs) :
  Calls Tryz.prog 105 #[.agg #[.int .i64 x.ver,.bool x.gone,.string x.ob.kind,.string x.ob.name,.int .i64 x.ob.ver,.int .i64 x.ob.born,.string x.ob.text,.bool x.ob.ending,.slice ad x.ob.hn cap],.agg #[.int .i64 x.ver,.bool x.gone,.string x.ob.kind,.string x.ob.name,.int .i64 x.ob.ver,.int .i64 x.ob.born,.string x.ob.text,.bool x.ob.ending,.slice ad2 x.ob.hn cap2]] w fun e w'=>e=.returned (.bool true)∧Below w.1.size w w':=by
 go_enter Tryz.func105,Tryz.ntmps105
 go_wp2_with fail
 refine (eqOb_any x.ob ad ad2 cap cap2 _ lo hi lo2 hi2 Zc Zc hl ((hc.alloc hh _).alloc Zc _) ((hc2.alloc hh2 _).alloc Zc _)).mono ?_
 rintro e w1 ⟨rfl,hb1⟩
 go_wp2
 go_ret
 exact ⟨rfl,(((below_alloc _ _).alloc Zd _).trans (hb1.mono Zc))⟩
theorem eqTi_any (x:Ti) (w:World) :
  Calls Tryz.prog 106 #[.agg #[.string x.client,.int .i64 x.num,.string x.print,.int .i64 x.code,.int .i64 x.ver],.agg #[.string x.client,.int .i64 x.num,.string x.print,.int .i64 x.code,.int .i64 x.ver]] w fun e w'=>e=.returned (.bool true)∧Below w.1.size w w':=by
 go_enter Tryz.func106,Tryz.ntmps106
 go_wp2
 go_ret
 exact ⟨rfl,((below_alloc _ _).alloc Zd _)⟩
theorem eqChs_any (n:Nat) (x:Nat→Ch) (ad ad2:Option Addr) (cap cap2:Nat) (w:World) (lo hi lo2 hi2:Nat) (hh:hi≤w.1.size) (hh2:hi2≤w.1.size) (hl:(n:Int)≤140737488355328) (hf:∀ i,i<n→((x i).ob.hn:Int)≤140737488355328)
  (hc:ChgsIn w lo hi ad n x) (hc2:ChgsIn w lo2 hi2 ad2 n x) :
  Calls Tryz.prog 46 #[.slice ad n cap,.slice ad2 n cap2] w fun e w'=>e=.returned (.bool true)∧Below w.1.size w w':=by
 go_enter Tryz.func46,Tryz.ntmps46
 go_wp2
 go_loopw [5] (fun i wr=>∃ k:Nat,k≤n∧i=.int .i64 k∧Below w.1.size w wr) (fun i _=>n-(intOf i).toNat)
 case atStart=>exact ⟨0,Nat.zero_le _,rfl,Below.refl _ _⟩
 case round=>
  obtain ⟨k,hk,rfl,hb⟩:=hrel
  by_cases hkn:k<n
  ·obtain ⟨b,off,ah,ch,rfl,hlo,hbh,hcx,hsx⟩:=hc k hkn
   obtain ⟨b2,off2,ah2,ch2,rfl,hlo2,hbh2,hcx2,hsx2⟩:=hc2 k hkn
   have hfk:=hf k hkn
   obtain ⟨d0,d1,d2,d3,d4,d5,d6,d7,d8⟩:=hcx.below hb Za
   obtain ⟨e0,e1,e2,e3,e4,e5,e6,e7,e8⟩:=hcx2.below hb Za
   have hs:=hsx.below hb hh
   have hs2:=hsx2.below hb hh2
   have hw1:=Nat.le_trans hh hb.size
   have hw2:=Nat.le_trans hh2 hb.size
   clear hc hc2 hf hcx hcx2 hsx hsx2
   generalize x k=y at *
   go_wp2
   go_region_with (go_at_call 105;refine (eqCh_any y ah ah2 ch ch2 _ lo hi lo2 hi2 (by exact hw1) (by exact hw2) hfk (by exact hs.drewN 1) (by exact hs2.drewN 1)).mono ?_;rintro e w1 ⟨rfl,hb1⟩)
   all_goals
    go_wp2
    exact apP130
  ·have:k=n:=Za
   subst this
   clear hc hc2
   go_wp2
   go_ret
   exact ⟨rfl,hb⟩
theorem eqTis_any (n:Nat) (x:Nat→Ti) (ad ad2:Option Addr) (cap cap2:Nat) (w:World) (lo hi lo2 hi2:Nat) (hh:hi≤w.1.size) (hh2:hi2≤w.1.size) (hl:(n:Int)≤140737488355328)
  (hc:TicsIn w lo hi ad n x) (hc2:TicsIn w lo2 hi2 ad2 n x) :
  Calls Tryz.prog 47 #[.slice ad n cap,.slice ad2 n cap2] w fun e w'=>e=.returned (.bool true)∧Below w.1.size w w':=by
 go_enter Tryz.func47,Tryz.ntmps47
 go_wp2
 go_loopw [5] (fun i wr=>∃ k:Nat,k≤n∧i=.int .i64 k∧Below w.1.size w wr) (fun i _=>n-(intOf i).toNat)
 case atStart=>exact ⟨0,Nat.zero_le _,rfl,Below.refl _ _⟩
 case round=>
  obtain ⟨k,hk,rfl,hb⟩:=hrel
  by_cases hkn:k<n
  ·obtain ⟨b,off,rfl,hlo,hbh,hcx⟩:=hc k hkn
   obtain ⟨b2,off2,rfl,hlo2,hbh2,hcx2⟩:=hc2 k hkn
   obtain ⟨d0,d1,d2,d3,d4⟩:=hcx.below hb Za
   obtain ⟨e0,e1,e2,e3,e4⟩:=hcx2.below hb Za
   clear hc hc2 hcx hcx2
   generalize x k=y at *
   go_wp2
   go_region_with (go_at_call 106;refine (eqTi_any y _).mono ?_;rintro e w1 ⟨rfl,hb1⟩)
   all_goals
    go_wp2
    exact apP130
  ·have:k=n:=Za
   subst this
   clear hc hc2
   go_wp2
   go_ret
   exact ⟨rfl,hb⟩
theorem two_cell {w w1:World} {c0 c1:Array Value} {t0 t1:TypeId} (hb:Below ((w.alloc (.cells c0 t0)).alloc (.cells c1 t1)).1.size ((w.alloc (.cells c0 t0)).alloc (.cells c1 t1)) w1) :
  (∀ i,w1.cell? ⟨w.1.size,i,none⟩=c0[i]?)∧(∀ i,w1.cell? ⟨w.1.size+1,i,none⟩=c1[i]?)∧(∀ i,w1.frozen? ⟨w.1.size,i,none⟩=false)∧(∀ i,w1.frozen? ⟨w.1.size+1,i,none⟩=false):=by
 refine ⟨fun i=>?_,fun i=>?_,fun i=>?_,fun i=>?_⟩
 ·rw [hb.cell (p:=⟨w.1.size,i,none⟩) Zc]
  rw [World.cell?_alloc_past _ _ _ Zd,World.cell?_alloc_at _ _ _ _ rfl]
 ·rw [hb.cell (p:=⟨w.1.size+1,i,none⟩) Zd]
  rw [World.cell?_alloc_at _ _ _ _ Zd]
 ·rw [hb.frozen (p:=⟨w.1.size,i,none⟩) Zc]
  rw [World.frozen?_alloc_past _ _ _ Zd,World.frozen?_alloc_at _ _ _ _ rfl]
 ·rw [hb.frozen (p:=⟨w.1.size+1,i,none⟩) Zd]
  rw [World.frozen?_alloc_at _ _ _ _ Zd]
theorem eqBk_any (x:Bk) (a1 a2 a3 b1 b2 b3:Option Addr) (c1 c2 c3 d1 d2 d3:Nat) (w:World) (lo hi lo2 hi2:Nat) (hh:hi≤w.1.size) (hh2:hi2≤w.1.size) (hf:BkFit x) (hc:BkIn w lo hi x a1 a2 a3) (hc2:BkIn w lo2 hi2 x b1 b2 b3) :
  Calls Tryz.prog 13 #[.agg #[.int .i64 x.now,.int .i64 x.floor,.slice a1 x.on c1,.slice a2 x.hn c2,.slice a3 x.tn c3],.agg #[.int .i64 x.now,.int .i64 x.floor,.slice b1 x.on d1,.slice b2 x.hn d2,.slice b3 x.tn d3]] w fun e w'=>e=.returned (.bool true)∧Below w.1.size w w':=by
 obtain ⟨f1,f2,f3,f4,f5,f6⟩:=hf
 have f4':∀ i,i<x.on→((x.os i).hn:Int)≤140737488355328:=fun i h=>by have:=(f4 i h).h;omega
 have f5':∀ i,i<x.hn→((x.hs i).ob.hn:Int)≤140737488355328:=fun i h=>by have:=(f5 i h).h;omega
 clear f4 f5 f6
 go_enter Tryz.func13,Tryz.ntmps13
 go_wp2_with fail
 refine (eqObs_any x.on x.os a1 b1 c1 d1 _ lo hi lo2 hi2 Zc Zc Za f4' (hc.o.below (B:=w.1.size) ((below_alloc _ _).alloc Zd _) hh) (hc2.o.below (B:=w.1.size) ((below_alloc _ _).alloc Zd _) hh2)).mono ?_
 rintro e w1 ⟨rfl,hb1⟩
 have hB1:Below w.1.size w w1:=((below_alloc _ _).alloc Zd _).trans (hb1.mono Zc)
 have hz:=hb1.size
 obtain ⟨A0,A1,_,_⟩:=two_cell hb1
 have u3:=A0 3
 have u4:=A0 4
 have v3:=A1 3
 have v4:=A1 4
 simp only [World.size_alloc] at hz
 simp only [List.getElem?_toArray,List.getElem?_cons_succ,List.getElem?_cons_zero] at u3 u4 v3 v4
 clear A0 A1 hb1
 go_wp2_with fail
 refine (eqChs_any x.hn x.hs a2 b2 c2 d2 _ lo hi lo2 hi2 Za Za Za f5' (hc.h.below hB1 hh) (hc2.h.below hB1 hh2)).mono ?_
 rintro e w2 ⟨rfl,hb2⟩
 have hB2:Below w.1.size w w2:=hB1.trans (hb2.mono hB1.size)
 have u4':=(hb2.cell (p:=⟨w.1.size,4,none⟩) Zh).trans u4
 have v4':=(hb2.cell (p:=⟨w.1.size+1,4,none⟩) Zab).trans v4
 clear u3 u4 v3 v4
 go_wp2_with fail
 refine (eqTis_any x.tn x.ts a3 b3 c3 d3 _ lo hi lo2 hi2 (by have:=hB2.size;omega) (by have:=hB2.size;omega) Za (hc.t.below hB2 hh) (hc2.t.below hB2 hh2)).mono ?_
 rintro e w3 ⟨rfl,hb3⟩
 go_wp2
 go_ret
 exact ⟨rfl,hB2.trans (hb3.mono hB2.size)⟩
end Go.Proofs.YtllmmkchokkaaaaGreatDoor
