import Derived.Test.YtllmmkchokkaaaaGreatDoorPk01
set_option maxRecDepth 100000
set_option maxHeartbeats 400000
namespace Go.Proofs.YtllmmkchokkaaaaGreatDoor
open Go.RowKit
structure ObCells (w:World) (b o:Nat) (x:Ob) (ad:Option Addr) (cap:Nat):Prop where
 c0:w.cell? ⟨b,o,none⟩=some (.string x.kind)
 c1:w.cell? ⟨b,o+1,none⟩=some (.string x.name)
 c2:w.cell? ⟨b,o+2,none⟩=some (.int .i64 x.ver)
 c3:w.cell? ⟨b,o+3,none⟩=some (.int .i64 x.born)
 c4:w.cell? ⟨b,o+4,none⟩=some (.string x.text)
 c5:w.cell? ⟨b,o+5,none⟩=some (.bool x.ending)
 c6:w.cell? ⟨b,o+6,none⟩=some (.slice ad x.hn cap)
def ObjsIn (w:World) (lo hi:Nat) (ad:Option Addr) (n:Nat) (x:Nat→Ob):Prop:=
 ∀ i,i<n→∃ b off ah ch,ad=some ⟨b,off,none⟩∧lo≤b∧b<hi∧ObCells w b (off+i*7) (x i) ah ch∧StrsIn w lo hi ah (x i).hn (x i).hs
structure ObFit (x:Ob):Prop where
 k:(x.kind.size:Int)≤140737488355328
 n:(x.name.size:Int)≤140737488355328
 t:(x.text.size:Int)≤140737488355328
 h:(x.hn:Int)≤8796093022208
 s:∀ i,i<x.hn→((x.hs i).size:Int)≤140737488355328
 v:(Lit.int .i64 x.ver).wf=true
def szObs (n:Nat) (x:Nat→Ob):Nat:=n+sumTo (fun i=>szOb (x i)) n
theorem szOb_obj (x:Ob) (ad:Option Addr) (cap:Nat) (left:Int) (w:World) (h0:0≤left) (h1:left≤1048576) (lo hi:Nat) (hhi:hi≤w.1.size) (hf:ObFit x) (hc:StrsIn w lo hi ad x.hn x.hs) :
  Calls Tryz.prog 67 #[.agg #[.string x.kind,.string x.name,.int .i64 x.ver,.int .i64 x.born,.string x.text,.bool x.ending,.slice ad x.hn cap],.int .i64 left] w fun e w'=>e=.returned (.int .i64 (szOut left (szOb x)))∧Below w.1.size w w':=
 szOb_any x.kind x.name x.text x.ver x.born x.ending x.hn x.hs ad cap left w h0 h1 lo hi hhi hf.k hf.n hf.t (by have:=hf.h;omega) hf.s hc
theorem apP020 {P:Prop} (h:P:=by
  have hs:=HS.out
  obtain ⟨g1,g2⟩:=szOut_ge Zak
  go_roundw
  case rel=>exact ⟨k+1,Za,by go_num,by rw [HQ.out,g2];apply congrArg;omega,by rw [HQ.out];omega,hb.trans (hb1.mono hb.size)⟩
  case measure=>simp [intOf];omega):P:=h
theorem szObs_any (n:Nat) (x:Nat→Ob) (ad:Option Addr) (cap:Nat) (left:Int) (w:World) (lo hi:Nat) (hhi:hi≤w.1.size) (hl:(n:Int)≤8796093022208) (h0:0≤left) (h1:left≤1048576) (hf:∀ i,i<n→ObFit (x i))
  (hc:ObjsIn w lo hi ad n x) :
  Calls Tryz.prog 31 #[.slice ad n cap,.int .i64 left] w fun e w'=>e=.returned (.int .i64 (szOut left (szObs n x)))∧Below w.1.size w w':=by
 by_cases hlt:left-n<0
 ·go_enter Tryz.func31,Tryz.ntmps31
  go_wp2
  go_ret
  exact ⟨ret_int (szOut_no (by unfold szObs;omega)).symm,Below.refl _ _⟩
 ·go_enter Tryz.func31,Tryz.ntmps31
  go_wp2
  go_loopw [1,5] (fun t i wr=>∃ k:Nat,k≤n∧i=.int .i64 k∧t=.int .i64 (left-n-(sumTo (fun i=>szOb (x i)) k:Nat))∧0≤left-n-(sumTo (fun i=>szOb (x i)) k:Nat)∧Below w.1.size w wr) (fun _ i _=>n-(intOf i).toNat)
  case atStart=>exact ⟨0,Nat.zero_le _,rfl,by simp [sumTo],by simp [sumTo];omega,Below.refl _ _⟩
  case round=>
   obtain ⟨k,hk,rfl,rfl,hnn,hb⟩:=hrel
   have hst:sumTo (fun i=>szOb (x i)) (k+1)=sumTo (fun i=>szOb (x i)) k+szOb (x k):=rfl
   have hmo:k<n→sumTo (fun i=>szOb (x i)) (k+1)≤sumTo (fun i=>szOb (x i)) n:=fun h=>sumTo_mono _ h
   generalize hq:sumTo (fun i=>szOb (x i)) k=q at *
   generalize hq1:sumTo (fun i=>szOb (x i)) (k+1)=q1 at *
   by_cases hkn:k<n
   ·obtain ⟨b,off,ah,ch,rfl,hlo,hbh,hcx,hsx⟩:=hc k hkn
    have hmo:=hmo hkn
    have hfk:=hf k hkn
    have HS:Hid (q1=q+szOb (x k)):=hst
    have HQ:Hid (sumTo (fun i=>szOb (x i)) (k+1)=q1):=hq1
    clear hst hq hq1 hc hf
    have hcell:∀ j,wr.cell? ⟨b,off+k*7+j,none⟩=w.cell? ⟨b,off+k*7+j,none⟩:=fun j=>hb.cell (p:=⟨b,off+k*7+j,none⟩) Zk
    have hcell0:wr.cell? ⟨b,off+k*7,none⟩=w.cell? ⟨b,off+k*7,none⟩:=hb.cell (p:=⟨b,off+k*7,none⟩) Zk
    obtain ⟨d0,d1,d2,d3,d4,d5,d6⟩:=hcx
    rw [←hcell] at d1 d2 d3 d4 d5 d6
    rw [←hcell0] at d0
    clear hcell hcell0
    have hsx':=hsx.below hb hhi
    clear hsx
    generalize x k=y at *
    clear hmo
    rename_i hmo
    go_wp2_with (go_at_call 67;refine (szOb_obj y ah ch _ wr Za Za lo hi (Nat.le_trans hhi hb.size) hfk hsx').mono ?_;rintro e w1 ⟨rfl,hb1⟩)
    ·go_ret
     refine ⟨ret_int (szOut_no ?_).symm,hb.trans (hb1.mono hb.size)⟩
     have:=HS.out
     have:=szOut_lt Zak
     have:=hmo hkn
     unfold szObs;omega
    ·exact apP020
   ·have:k=n:=Za
    subst this
    clear hc hf hst hmo hq1
    have HQ:Hid (sumTo (fun i=>szOb (x i)) k=q):=hq
    clear hq
    go_wp2
    go_ret
    refine ⟨ret_int ?_,hb⟩
    have:=HQ.out
    rw [szOut_yes (by unfold szObs;omega)]
    unfold szObs;omega
structure Ch where
 ver:Int
 gone:Bool
 ob:Ob
structure Ti where
 client:ByteArray
 num:Int
 print:ByteArray
 code:Int
 ver:Int
structure ChCells (w:World) (b o:Nat) (x:Ch) (ad:Option Addr) (cap:Nat):Prop where
 c0:w.cell? ⟨b,o,none⟩=some (.int .i64 x.ver)
 c1:w.cell? ⟨b,o+1,none⟩=some (.bool x.gone)
 c2:w.cell? ⟨b,o+2,none⟩=some (.string x.ob.kind)
 c3:w.cell? ⟨b,o+3,none⟩=some (.string x.ob.name)
 c4:w.cell? ⟨b,o+4,none⟩=some (.int .i64 x.ob.ver)
 c5:w.cell? ⟨b,o+5,none⟩=some (.int .i64 x.ob.born)
 c6:w.cell? ⟨b,o+6,none⟩=some (.string x.ob.text)
 c7:w.cell? ⟨b,o+7,none⟩=some (.bool x.ob.ending)
 c8:w.cell? ⟨b,o+8,none⟩=some (.slice ad x.ob.hn cap)
structure TiCells (w:World) (b o:Nat) (x:Ti):Prop where
 c0:w.cell? ⟨b,o,none⟩=some (.string x.client)
 c1:w.cell? ⟨b,o+1,none⟩=some (.int .i64 x.num)
 c2:w.cell? ⟨b,o+2,none⟩=some (.string x.print)
 c3:w.cell? ⟨b,o+3,none⟩=some (.int .i64 x.code)
 c4:w.cell? ⟨b,o+4,none⟩=some (.int .i64 x.ver)
def ChgsIn (w:World) (lo hi:Nat) (ad:Option Addr) (n:Nat) (x:Nat→Ch):Prop:=
 ∀ i,i<n→∃ b off ah ch,ad=some ⟨b,off,none⟩∧lo≤b∧b<hi∧ChCells w b (off+i*9) (x i) ah ch∧StrsIn w lo hi ah (x i).ob.hn (x i).ob.hs
def TicsIn (w:World) (lo hi:Nat) (ad:Option Addr) (n:Nat) (x:Nat→Ti):Prop:=
 ∀ i,i<n→∃ b off,ad=some ⟨b,off,none⟩∧lo≤b∧b<hi∧TiCells w b (off+i*5) (x i)
structure TiFit (x:Ti):Prop where
 c:(x.client.size:Int)≤140737488355328
 p:(x.print.size:Int)≤140737488355328
def szCh (c:Ch):Nat:=szOb c.ob
def szTi (c:Ti):Nat:=c.client.size+c.print.size
def szChs (n:Nat) (x:Nat→Ch):Nat:=n+sumTo (fun i=>szCh (x i)) n
def szTis (n:Nat) (x:Nat→Ti):Nat:=n+sumTo (fun i=>szTi (x i)) n
theorem szCh_any (x:Ch) (ad:Option Addr) (cap:Nat) (left:Int) (w:World) (h0:0≤left) (h1:left≤1048576) (lo hi:Nat) (hhi:hi≤w.1.size) (hf:ObFit x.ob) (hc:StrsIn w lo hi ad x.ob.hn x.ob.hs) :
  Calls Tryz.prog 68 #[.agg #[.int .i64 x.ver,.bool x.gone,.string x.ob.kind,.string x.ob.name,.int .i64 x.ob.ver,.int .i64 x.ob.born,.string x.ob.text,.bool x.ob.ending,.slice ad x.ob.hn cap],.int .i64 left] w fun e w'=>e=.returned (.int .i64 (szOut left (szCh x)))∧Below w.1.size w w':=by
 unfold szCh
 generalize x.ob=y at *
 go_enter Tryz.func68,Tryz.ntmps68
 go_wp2_with (go_at_call 67;refine (szOb_obj y ad cap left _ h0 h1 lo hi Zc hf (hc.alloc hhi _)).mono ?_;rintro e w1 ⟨rfl,hb1⟩)
 ·go_ret
  exact ⟨ret_int (szOut_no (szOut_lt Zak)).symm,((Below.refl _ _).alloc Zbt _).trans (hb1.mono Zd)⟩
 ·go_ret
  exact ⟨rfl,((Below.refl _ _).alloc Zbt _).trans (hb1.mono Zd)⟩
theorem szTi_any (x:Ti) (left:Int) (w:World) (h0:0≤left) (h1:left≤1048576) (hf:TiFit x) :
  Calls Tryz.prog 69 #[.agg #[.string x.client,.int .i64 x.num,.string x.print,.int .i64 x.code,.int .i64 x.ver],.int .i64 left] w fun e w'=>e=.returned (.int .i64 (szOut left (szTi x)))∧Below w.1.size w w':=by
 obtain ⟨f1,f2⟩:=hf
 unfold szTi
 go_enter Tryz.func69,Tryz.ntmps69
 go_wp2
 ·go_ret
  exact ⟨ret_int (szOut_no Za).symm,(Below.refl _ _).alloc Zbt _⟩
 ·go_ret
  exact ⟨ret_int (szOut_no Za).symm,(Below.refl _ _).alloc Zbt _⟩
 ·go_ret
  exact ⟨ret_int (by rw [szOut_yes Za];omega),(Below.refl _ _).alloc Zbt _⟩
theorem szChs_any (n:Nat) (x:Nat→Ch) (ad:Option Addr) (cap:Nat) (left:Int) (w:World) (lo hi:Nat) (hhi:hi≤w.1.size) (hl:(n:Int)≤8796093022208) (h0:0≤left) (h1:left≤1048576) (hf:∀ i,i<n→ObFit (x i).ob)
  (hc:ChgsIn w lo hi ad n x) :
  Calls Tryz.prog 32 #[.slice ad n cap,.int .i64 left] w fun e w'=>e=.returned (.int .i64 (szOut left (szChs n x)))∧Below w.1.size w w':=by
 by_cases hlt:left-n<0
 ·go_enter Tryz.func32,Tryz.ntmps32
  go_wp2
  go_ret
  exact ⟨ret_int (szOut_no (by unfold szChs;omega)).symm,Below.refl _ _⟩
 ·go_enter Tryz.func32,Tryz.ntmps32
  go_wp2
  go_loopw [1,5] (fun t i wr=>∃ k:Nat,k≤n∧i=.int .i64 k∧t=.int .i64 (left-n-(sumTo (fun i=>szCh (x i)) k:Nat))∧0≤left-n-(sumTo (fun i=>szCh (x i)) k:Nat)∧Below w.1.size w wr) (fun _ i _=>n-(intOf i).toNat)
  case atStart=>exact ⟨0,Nat.zero_le _,rfl,by simp [sumTo],by simp [sumTo];omega,Below.refl _ _⟩
  case round=>
   obtain ⟨k,hk,rfl,rfl,hnn,hb⟩:=hrel
   have hst:sumTo (fun i=>szCh (x i)) (k+1)=sumTo (fun i=>szCh (x i)) k+szCh (x k):=rfl
   have hmo:k<n→sumTo (fun i=>szCh (x i)) (k+1)≤sumTo (fun i=>szCh (x i)) n:=fun h=>sumTo_mono _ h
   generalize hq:sumTo (fun i=>szCh (x i)) k=q at *
   generalize hq1:sumTo (fun i=>szCh (x i)) (k+1)=q1 at *
   by_cases hkn:k<n
   ·obtain ⟨b,off,ah,ch,rfl,hlo,hbh,hcx,hsx⟩:=hc k hkn
    have hmo:=hmo hkn
    have hfk:=hf k hkn
    have HS:Hid (q1=q+szCh (x k)):=hst
    have HQ:Hid (sumTo (fun i=>szCh (x i)) (k+1)=q1):=hq1
    clear hst hq hq1 hc hf
    have hcell:∀ j,wr.cell? ⟨b,off+k*9+j,none⟩=w.cell? ⟨b,off+k*9+j,none⟩:=fun j=>hb.cell (p:=⟨b,off+k*9+j,none⟩) Zk
    have hcell0:wr.cell? ⟨b,off+k*9,none⟩=w.cell? ⟨b,off+k*9,none⟩:=hb.cell (p:=⟨b,off+k*9,none⟩) Zk
    obtain ⟨d0,d1,d2,d3,d4,d5,d6,d7,d8⟩:=hcx
    rw [←hcell] at d1 d2 d3 d4 d5 d6 d7 d8
    rw [←hcell0] at d0
    clear hcell hcell0
    have hsx':=hsx.below hb hhi
    clear hsx
    generalize x k=y at *
    clear hmo
    rename_i hmo
    go_wp2_with (go_at_call 68;refine (szCh_any y ah ch _ wr Za Za lo hi (Nat.le_trans hhi hb.size) hfk hsx').mono ?_;rintro e w1 ⟨rfl,hb1⟩)
    ·go_ret
     refine ⟨ret_int (szOut_no ?_).symm,hb.trans (hb1.mono hb.size)⟩
     have:=HS.out
     have:=szOut_lt Zak
     have:=hmo hkn
     unfold szChs;omega
    ·exact apP020
   ·have:k=n:=Za
    subst this
    clear hc hf hst hmo hq1
    have HQ:Hid (sumTo (fun i=>szCh (x i)) k=q):=hq
    clear hq
    go_wp2
    go_ret
    refine ⟨ret_int ?_,hb⟩
    have:=HQ.out
    rw [szOut_yes (by unfold szChs;omega)]
    unfold szChs;omega
theorem szTis_any (n:Nat) (x:Nat→Ti) (ad:Option Addr) (cap:Nat) (left:Int) (w:World) (lo hi:Nat) (hhi:hi≤w.1.size) (hl:(n:Int)≤8796093022208) (h0:0≤left) (h1:left≤1048576) (hf:∀ i,i<n→TiFit (x i))
  (hc:TicsIn w lo hi ad n x) :
  Calls Tryz.prog 33 #[.slice ad n cap,.int .i64 left] w fun e w'=>e=.returned (.int .i64 (szOut left (szTis n x)))∧Below w.1.size w w':=by
 by_cases hlt:left-n<0
 ·go_enter Tryz.func33,Tryz.ntmps33
  go_wp2
  go_ret
  exact ⟨ret_int (szOut_no (by unfold szTis;omega)).symm,Below.refl _ _⟩
 ·go_enter Tryz.func33,Tryz.ntmps33
  go_wp2
  go_loopw [1,5] (fun t i wr=>∃ k:Nat,k≤n∧i=.int .i64 k∧t=.int .i64 (left-n-(sumTo (fun i=>szTi (x i)) k:Nat))∧0≤left-n-(sumTo (fun i=>szTi (x i)) k:Nat)∧Below w.1.size w wr) (fun _ i _=>n-(intOf i).toNat)
  case atStart=>exact ⟨0,Nat.zero_le _,rfl,by simp [sumTo],by simp [sumTo];omega,Below.refl _ _⟩
  case round=>
   obtain ⟨k,hk,rfl,rfl,hnn,hb⟩:=hrel
   have hst:sumTo (fun i=>szTi (x i)) (k+1)=sumTo (fun i=>szTi (x i)) k+szTi (x k):=rfl
   have hmo:k<n→sumTo (fun i=>szTi (x i)) (k+1)≤sumTo (fun i=>szTi (x i)) n:=fun h=>sumTo_mono _ h
   generalize hq:sumTo (fun i=>szTi (x i)) k=q at *
   generalize hq1:sumTo (fun i=>szTi (x i)) (k+1)=q1 at *
   by_cases hkn:k<n
   ·obtain ⟨b,off,rfl,hlo,hbh,hcx⟩:=hc k hkn
    have hmo:=hmo hkn
    have hfk:=hf k hkn
    have HS:Hid (q1=q+szTi (x k)):=hst
    have HQ:Hid (sumTo (fun i=>szTi (x i)) (k+1)=q1):=hq1
    clear hst hq hq1 hc hf
    have hcell:∀ j,wr.cell? ⟨b,off+k*5+j,none⟩=w.cell? ⟨b,off+k*5+j,none⟩:=fun j=>hb.cell (p:=⟨b,off+k*5+j,none⟩) Zk
    have hcell0:wr.cell? ⟨b,off+k*5,none⟩=w.cell? ⟨b,off+k*5,none⟩:=hb.cell (p:=⟨b,off+k*5,none⟩) Zk
    obtain ⟨d0,d1,d2,d3,d4⟩:=hcx
    rw [←hcell] at d1 d2 d3 d4
    rw [←hcell0] at d0
    clear hcell hcell0
    generalize x k=y at *
    clear hmo
    rename_i hmo
    go_wp2_with (go_at_call 69;refine (szTi_any y _ wr Za Za hfk).mono ?_;rintro e w1 ⟨rfl,hb1⟩)
    ·go_ret
     refine ⟨ret_int (szOut_no ?_).symm,hb.trans (hb1.mono hb.size)⟩
     have:=HS.out
     have:=szOut_lt Zak
     have:=hmo hkn
     unfold szTis;omega
    ·exact apP020
   ·have:k=n:=Za
    subst this
    clear hc hf hst hmo hq1
    have HQ:Hid (sumTo (fun i=>szTi (x i)) k=q):=hq
    clear hq
    go_wp2
    go_ret
    refine ⟨ret_int ?_,hb⟩
    have:=HQ.out
    rw [szOut_yes (by unfold szTis;omega)]
    unfold szTis;omega
theorem bcell {W w1:World} (hb:Below W.1.size W w1):(∀ b o,b<W.1.size→w1.cell? ⟨b,o,none⟩=W.cell? ⟨b,o,none⟩)∧(∀ b o,b<W.1.size→w1.frozen? ⟨b,o,none⟩=W.frozen? ⟨b,o,none⟩):=
 ⟨fun b o h=>hb.cell (p:=⟨b,o,none⟩) h,fun b o h=>hb.frozen (p:=⟨b,o,none⟩) h⟩
structure Bk where
 now:Int
 floor:Int
 on:Nat
 os:Nat→Ob
 hn:Nat
 hs:Nat→Ch
 tn:Nat
 ts:Nat→Ti
structure BkFit (x:Bk):Prop where
 o:(x.on:Int)≤1099511627776
 h:(x.hn:Int)≤1099511627776
 t:(x.tn:Int)≤1099511627776
 os:∀ i,i<x.on→ObFit (x.os i)
 hs:∀ i,i<x.hn→ObFit (x.hs i).ob
 ts:∀ i,i<x.tn→TiFit (x.ts i)
structure BkFit0 (x:Bk):Prop where
 o:(x.on:Int)≤8796093022208
 h:(x.hn:Int)≤8796093022208
 t:(x.tn:Int)≤8796093022208
 os:∀ i,i<x.on→ObFit (x.os i)
 hs:∀ i,i<x.hn→ObFit (x.hs i).ob
 ts:∀ i,i<x.tn→TiFit (x.ts i)
def szBk (x:Bk):Nat:=szObs x.on x.os+szChs x.hn x.hs+szTis x.tn x.ts
structure BkIn (w:World) (lo hi:Nat) (x:Bk) (a1 a2 a3:Option Addr):Prop where
 o:ObjsIn w lo hi a1 x.on x.os
 h:ChgsIn w lo hi a2 x.hn x.hs
 t:TicsIn w lo hi a3 x.tn x.ts
theorem ObCells.below {w w':World} {B b o:Nat} {x:Ob} {ad:Option Addr} {cap:Nat} (h:ObCells w b o x ad cap) (hb:Below B w w') (hB:b<B):ObCells w' b o x ad cap:=
 have e:∀ j,w'.cell? ⟨b,j,none⟩=w.cell? ⟨b,j,none⟩:=fun j=>hb.cell (p:=⟨b,j,none⟩) hB
 ⟨(e _).trans h.c0,(e _).trans h.c1,(e _).trans h.c2,(e _).trans h.c3,(e _).trans h.c4,(e _).trans h.c5,(e _).trans h.c6⟩
theorem ChCells.below {w w':World} {B b o:Nat} {x:Ch} {ad:Option Addr} {cap:Nat} (h:ChCells w b o x ad cap) (hb:Below B w w') (hB:b<B):ChCells w' b o x ad cap:=
 have e:∀ j,w'.cell? ⟨b,j,none⟩=w.cell? ⟨b,j,none⟩:=fun j=>hb.cell (p:=⟨b,j,none⟩) hB
 ⟨(e _).trans h.c0,(e _).trans h.c1,(e _).trans h.c2,(e _).trans h.c3,(e _).trans h.c4,(e _).trans h.c5,(e _).trans h.c6,(e _).trans h.c7,(e _).trans h.c8⟩
theorem TiCells.below {w w':World} {B b o:Nat} {x:Ti} (h:TiCells w b o x) (hb:Below B w w') (hB:b<B):TiCells w' b o x:=
 have e:∀ j,w'.cell? ⟨b,j,none⟩=w.cell? ⟨b,j,none⟩:=fun j=>hb.cell (p:=⟨b,j,none⟩) hB
 ⟨(e _).trans h.c0,(e _).trans h.c1,(e _).trans h.c2,(e _).trans h.c3,(e _).trans h.c4⟩
theorem ObjsIn.below {w w':World} {B lo hi:Nat} {ad:Option Addr} {n:Nat} {x:Nat→Ob} (h:ObjsIn w lo hi ad n x) (hb:Below B w w') (hB:hi≤B):ObjsIn w' lo hi ad n x:=fun i hi'=>by
 obtain ⟨b,off,ah,ch,e1,e2,e3,e4,e5⟩:=h i hi'
 exact ⟨b,off,ah,ch,e1,e2,e3,e4.below hb Za,e5.below hb hB⟩
theorem ChgsIn.below {w w':World} {B lo hi:Nat} {ad:Option Addr} {n:Nat} {x:Nat→Ch} (h:ChgsIn w lo hi ad n x) (hb:Below B w w') (hB:hi≤B):ChgsIn w' lo hi ad n x:=fun i hi'=>by
 obtain ⟨b,off,ah,ch,e1,e2,e3,e4,e5⟩:=h i hi'
 exact ⟨b,off,ah,ch,e1,e2,e3,e4.below hb Za,e5.below hb hB⟩
theorem TicsIn.below {w w':World} {B lo hi:Nat} {ad:Option Addr} {n:Nat} {x:Nat→Ti} (h:TicsIn w lo hi ad n x) (hb:Below B w w') (hB:hi≤B):TicsIn w' lo hi ad n x:=fun i hi'=>by
 obtain ⟨b,off,e1,e2,e3,e4⟩:=h i hi'
 exact ⟨b,off,e1,e2,e3,e4.below hb Za⟩
theorem BkIn.below {w w':World} {B lo hi:Nat} {x:Bk} {a1 a2 a3:Option Addr} (h:BkIn w lo hi x a1 a2 a3) (hb:Below B w w') (hB:hi≤B):BkIn w' lo hi x a1 a2 a3:=⟨h.o.below hb hB,h.h.below hb hB,h.t.below hb hB⟩
theorem below_alloc (w:World) (o:Obj):Below w.1.size w (w.alloc o):=(Below.refl _ _).alloc Zbt o
theorem szOut_le {l:Int} {s:Nat} (h:0≤l):szOut l s≤l:=by unfold szOut;split<;>omega
theorem box_cell {w w1:World} {c:Array Value} {t:TypeId} (hb:Below (w.alloc (.cells c t)).1.size (w.alloc (.cells c t)) w1) (i:Nat):w1.cell? ⟨w.1.size,i,none⟩=c[i]?:=
 (hb.cell (p:=⟨w.1.size,i,none⟩) Zd).trans (World.cell?_alloc_new w c t i)
theorem szBk_any (x:Bk) (a1 a2 a3:Option Addr) (c1 c2 c3:Nat) (left:Int) (w:World) (h0:0≤left) (h1:left≤1048576) (lo hi:Nat) (hhi:hi≤w.1.size) (hf:BkFit0 x) (hc:BkIn w lo hi x a1 a2 a3) :
  Calls Tryz.prog 6 #[.agg #[.int .i64 x.now,.int .i64 x.floor,.slice a1 x.on c1,.slice a2 x.hn c2,.slice a3 x.tn c3],.int .i64 left] w fun e w'=>e=.returned (.int .i64 (szOut left (szBk x)))∧Below w.1.size w w':=by
 obtain ⟨f1,f2,f3,f4,f5,f6⟩:=hf
 have hc1:=hc.below (below_alloc w (.cells #[.int .i64 x.now,.int .i64 x.floor,.slice a1 x.on c1,.slice a2 x.hn c2,.slice a3 x.tn c3] 26)) hhi
 clear hc
 unfold szBk
 go_enter Tryz.func6,Tryz.ntmps6
 go_wp2_with (first|(go_at_call 31;refine (szObs_any x.on x.os a1 c1 left _ lo hi Zc Za h0 h1 f4 hc1.o).mono ?_;rintro e w1 ⟨rfl,hb1⟩;have k3:=box_cell hb1 3;simp only [List.getElem?_toArray,List.getElem?_cons_succ,List.getElem?_cons_zero] at k3)|(go_at_call 32;refine (szChs_any x.hn x.hs a2 c2 _ _ lo hi (Nat.le_trans Zc hb1.size) Za Zak (by have:=szOut_ge Zak;omega) f5 (hc1.h.below hb1 Zc)).mono ?_;rintro e w2 ⟨rfl,hb2⟩;have hb12:=hb1.trans (hb2.mono hb1.size);have k4:=box_cell hb12 4;simp only [List.getElem?_toArray,List.getElem?_cons_succ,List.getElem?_cons_zero] at k4)|(go_at_call 33;refine (szTis_any x.tn x.ts a3 c3 _ _ lo hi (Nat.le_trans Zc hb12.size) Za Zak (by have a1:=szOut_le (s:=szObs x.on x.os) h0;have a2:=szOut_le (l:=szOut left (szObs x.on x.os)) (s:=szChs x.hn x.hs) Zak;omega) f6 (hc1.t.below hb12 Zc)).mono ?_;rintro e w3 ⟨rfl,hb3⟩))
 ·go_ret
  exact ⟨ret_int (szOut_no Zbo).symm,(below_alloc _ _).trans (hb1.mono Zd)⟩
 ·go_ret
  obtain ⟨g1,g2⟩:=szOut_ge (l:=left) Zak
  exact ⟨ret_int (szOut_no Zbo).symm,(below_alloc _ _).trans (hb12.mono Zd)⟩
 ·go_ret
  obtain ⟨g1,g2⟩:=szOut_ge (l:=left) Zak
  obtain ⟨g3,g4⟩:=szOut_ge (l:=szOut left (szObs x.on x.os)) Zak
  exact ⟨ret_int (szOut_no Zbo).symm,(below_alloc _ _).trans ((hb12.trans (hb3.mono hb12.size)).mono Zd)⟩
 ·go_ret
  obtain ⟨g1,g2⟩:=szOut_ge (l:=left) Zak
  obtain ⟨g3,g4⟩:=szOut_ge (l:=szOut left (szObs x.on x.os)) Zak
  obtain ⟨g5,g6⟩:=szOut_ge (l:=szOut (szOut left (szObs x.on x.os)) (szChs x.hn x.hs)) Zak
  exact ⟨ret_int (by have h:=szOut_yes (left:=left) (s:=szObs x.on x.os+szChs x.hn x.hs+szTis x.tn x.ts) Za;omega),(below_alloc _ _).trans ((hb12.trans (hb3.mono hb12.size)).mono Zd)⟩
theorem StrsOwn.fr {w w':World} {lo hi lo2 hi2:Nat} {ad:Option Addr} {n:Nat} {s:Nat→ByteArray} (h:StrsOwn w lo hi ad n s) (hb:Fr lo2 hi2 w w') (hw:hi≤w.1.size) (ho:hi≤lo2∨hi2≤lo):StrsOwn w' lo hi ad n s:=fun i hi'=>by
 obtain ⟨b,off,e1,e2,e3,e4,e5⟩:=h i hi'
 exact ⟨b,off,e1,e2,e3,(hb.cell (p:=⟨b,off+i,none⟩) (Nat.lt_of_lt_of_le e3 hw) (by show b<_∨_≤b;omega)).trans e4,(hb.frozen (p:=⟨b,off+i,none⟩) (Nat.lt_of_lt_of_le e3 hw) (by show b<_∨_≤b;omega)).trans e5⟩
theorem StrsOwn.mono {w:World} {lo hi lo2 hi2:Nat} {ad:Option Addr} {n:Nat} {s:Nat→ByteArray} (h:StrsOwn w lo hi ad n s) (h1:lo2≤lo) (h2:hi≤hi2):StrsOwn w lo2 hi2 ad n s:=fun i hi'=>by
 obtain ⟨b,off,e1,e2,e3,e4,e5⟩:=h i hi'
 exact ⟨b,off,e1,Za,Za,e4,e5⟩
theorem World.size_setCell (w:World) (a:Addr) (v:Value):(w.setCell a v).1.size=w.1.size:=by simp [World.setCell]
theorem toOb_any (x:Ob) (ad:Option Addr) (cap:Nat) (w:World) (lo hi:Nat) (hhi:hi≤w.1.size) (hl:(x.hn:Int)≤8796093022208) (hc:StrsIn w lo hi ad x.hn x.hs) :
  Calls Tryz.prog 80 #[.agg #[.string x.kind,.string x.name,.int .i64 x.ver,.int .i64 x.born,.string x.text,.bool x.ending,.slice ad x.hn cap]] w fun e w'=>∃ ad' cap',e=.returned (.agg #[.string x.kind,.string x.name,.int .i64 x.ver,.int .i64 x.born,.string x.text,.bool x.ending,.slice ad' x.hn cap'])∧CapG w' x.hn ad' cap'∧StrsOwn w' w.1.size w'.1.size ad' x.hn x.hs∧Below w.1.size w w':=by
 go_enter Tryz.func80,Tryz.ntmps80
 go_wp2_with fail
 refine (toStrs_any x.hn x.hs ad cap _ lo hi Zc hl (hc.below (B:=w.1.size) ((((Below.refl _ _).alloc Zbt _).alloc Zd _).alloc Zc _) hhi)).mono ?_
 rintro e w1 ⟨ad',cap',rfl,hcg,hown,hb1⟩
 have HCG:=hid hcg
 clear hcg
 have hbW:Below w.1.size w w1:=((((Below.refl _ _).alloc Zbt _).alloc Zd _).alloc Zc _).trans (hb1.mono Zc)
 have hz:w.1.size+2<w1.1.size:=by have:=hb1.size;simp at this;omega
 obtain ⟨hcc,hff⟩:=bcell hb1
 simp only [World.size_alloc] at hcc hff hown
 clear hb1 hc
 go_wp2
 refine bodyPost_ret (v:=.agg #[.string x.kind,.string x.name,.int .i64 x.ver,.int .i64 x.born,.string x.text,.bool x.ending,.slice ad' x.hn cap']) (by simp [results,Tryz.results80,go_sem,hcc]) rfl ⟨ad',cap',rfl,HCG.out.grow (by simp only [World.size_setCell];exact Nat.le_refl _),?_,?_⟩
 ·simp only [World.size_setCell]
  refine (StrsOwn.fr hown (lo2:=w.1.size) (hi2:=w.1.size+3) ?_ Zbt Za).mono Za Zbt
  iterate 8 refine Fr.setCell ?_ Zm Zm _
  exact Fr.refl _ _ _
 ·refine hbW.trans (Fr.below (lo:=w.1.size) (hi:=w.1.size+3) ?_ Zbt hbW.size)
  iterate 8 refine Fr.setCell ?_ Zm Zm _
  exact Fr.refl _ _ _
theorem Tryz.info118:(Tryz.prog.info? 118).map (fun i=>(i.zero,i.size,i.bytes))=some (some (.agg #[.string ByteArray.empty,.string ByteArray.empty,.int .i64 0,.int .i64 0,.string ByteArray.empty,.bool false,.slice none 0 0]),7,96):=Zf
structure Room (w:World) (g m:Nat):Prop where
 has:∀ j,j<m→∃ u,w.cell? ⟨g,j,none⟩=some u
 free:∀ j,w.frozen? ⟨g,j,none⟩=false
 lt:g<w.1.size
theorem room_made {w':World} {g n sz:Nat} {base:Nat} {e:TypeId} {xs:List Value}
  (ho:w'.ownsRow base e sz (.slice (some ⟨g,0,none⟩) n n) n xs):Room w' g (n*sz):=by
 refine ⟨fun j hj=>?_,fun j=>ho.frozenAt j,?_⟩
 ·rw [ho.cellAt j hj]
  have:j<xs.length:=by rw [ho.1];omega
  exact ⟨xs[j],by simp [this]⟩
 ·rcases ho.2 with ⟨h,_⟩|⟨g',cap,cur,h,_,hh,_⟩
  ·simp at h
  ·simp only [Value.slice.injEq,Option.some.injEq,Addr.mk.injEq,and_true,true_and] at h
   obtain ⟨rfl,rfl⟩:=h
   exact (Array.getElem?_eq_some_iff.1 hh).1
theorem Room.below {w w':World} {g m B:Nat} (h:Room w g m) (hb:Below B w w') (hg:g<B):Room w' g m:=by
 refine ⟨fun j hj=>?_,fun j=>(hb.frozen (p:=⟨g,j,none⟩) hg).trans (h.free j),Nat.lt_of_lt_of_le h.lt hb.size⟩
 obtain ⟨u,hu⟩:=h.has j hj
 exact ⟨u,(hb.cell (p:=⟨g,j,none⟩) hg).trans hu⟩
theorem size_setCells (b:Nat):∀ (vs:List Value) (o:Nat) (w:World),(w.setCells b o vs).1.size=w.1.size
 | [],_,_=>rfl
 | v::r,o,w=>by rw [World.setCells,size_setCells b r,World.size_setCell]
theorem Room.setCells {w:World} {g m o:Nat} (h:Room w g m) (vs:List Value) (ho:o+vs.length≤m):Room (w.setCells g o vs) g m:=by
 refine ⟨fun j hj=>?_,fun j=>by rw [World.frozen?_setCells];exact h.free j,by rw [size_setCells];exact h.lt⟩
 by_cases hj2:j<o∨o+vs.length≤j
 ·rw [World.cell?_setCells_out g vs o w _ (fun _ _=>hj2)]
  exact h.has j hj
 ·obtain ⟨i,rfl⟩:∃ i,j=o+i:=⟨j-o,Za⟩
  have hi:i<vs.length:=Za
  exact ⟨vs[i],World.cell?_setCells_in g vs o w (fun j hj=>by
   obtain ⟨u,hu⟩:=h.has (o+j) Za
   rw [hu];rfl) i hi⟩
theorem fr_setCells (b:Nat):∀ (vs:List Value) (o:Nat) (w:World),Fr b (b+1) w (w.setCells b o vs)
 | [],_,w=>Fr.refl _ _ w
 | v::r,o,w=>((Fr.refl b (b+1) w).setCell (p:=⟨b,o,none⟩) Zbt (Nat.lt_succ_self _) v).trans (fr_setCells b r (o+1) _)
structure ObjsOwnAt (w:World) (g hi n m:Nat) (x:Nat→Ob) (r:Nat→Nat):Prop where
 room:Room w g (m*7)
 r0:g<r 0
 mono:∀ i,i<n→r i≤r (i+1)
 rn:r n≤hi
 hi:hi≤w.1.size
 at_:∀ i,i<n→∃ ah ch,ObCells w g (i*7) (x i) ah ch∧StrsOwn w (r i) (r (i+1)) ah (x i).hn (x i).hs∧CapG w (x i).hn ah ch
theorem r_mono {r:Nat→Nat} {n:Nat} (h:∀ i,i<n→r i≤r (i+1)):∀ {i j:Nat},i≤j→j≤n→r i≤r j:=by
 intro i j hij hj
 induction j with
 | zero=>
   have:i=0:=Za
   subst this;exact Nat.le_refl _
 | succ j ih=>
   rcases Nat.lt_or_ge j i with h1|h1
   ·have:i=j+1:=Za
    subst this;exact Nat.le_refl _
   ·exact Nat.le_trans (ih h1 Za) (h j Za)
theorem ObCells.fr {w w':World} {b o:Nat} {x:Ob} {ad:Option Addr} {cap:Nat} (h:ObCells w b o x ad cap) (e:∀ j,j<7→w'.cell? ⟨b,o+j,none⟩=w.cell? ⟨b,o+j,none⟩):ObCells w' b o x ad cap:=
 ⟨(e 0 Za).trans h.c0,(e 1 Za).trans h.c1,(e 2 Za).trans h.c2,(e 3 Za).trans h.c3,(e 4 Za).trans h.c4,(e 5 Za).trans h.c5,(e 6 Za).trans h.c6⟩
theorem apP021 {P:Prop} (h:P:=by
  rw [if_pos Za,if_pos Za]
  have h1:r (i+1)≤wr.1.size:=Nat.le_trans (r_mono h.mono Za Zbt) h.rn
  have h2:g<r i:=Nat.lt_of_lt_of_le h.r0 (r_mono h.mono Zbw Za)
  exact (s.fr (Fr.of_below (lo:=0) (hi:=0) hb) h1 (Or.inr Zbw)).fr hF (Nat.le_trans h1 hb.size) (Or.inr Za)):P:=h
theorem apP022 {P:Prop} (h:P:=by
  by_cases e:i<k
  ·rw [if_pos Za,if_pos Za];exact h.mono i e
  ·have:i=k:=Za
   subst this
   rw [if_pos Za,if_neg Za];exact Nat.le_trans h.rn hb.size):P:=h
theorem ObjsOwnAt.step {wr w1:World} {g k n:Nat} {x:Nat→Ob} {r:Nat→Nat} (h:ObjsOwnAt wr g wr.1.size k n x r) (hk:k<n) (hb:Below wr.1.size wr w1) {ah:Option Addr} {ch:Nat}
  (hs:StrsOwn w1 wr.1.size w1.1.size ah (x k).hn (x k).hs) (hcg:CapG w1 (x k).hn ah ch) :
  ∃ r',ObjsOwnAt (w1.setCells g (k*7) [.string (x k).kind,.string (x k).name,.int .i64 (x k).ver,.int .i64 (x k).born,.string (x k).text,.bool (x k).ending,.slice ah (x k).hn ch]) g (w1.setCells g (k*7) [.string (x k).kind,.string (x k).name,.int .i64 (x k).ver,.int .i64 (x k).born,.string (x k).text,.bool (x k).ending,.slice ah (x k).hn ch]).1.size (k+1) n x r':=by
 have hg:=h.room.lt
 have hR:=h.room.below hb hg
 generalize hvs:[Value.string (x k).kind,.string (x k).name,.int .i64 (x k).ver,.int .i64 (x k).born,.string (x k).text,.bool (x k).ending,.slice ah (x k).hn ch]=vs
 have hlen:vs.length=7:=by rw [←hvs];rfl
 have hF:=fr_setCells g vs (k*7) w1
 have hin:=World.cell?_setCells_in g vs (k*7) w1 (fun j hj=>by
  obtain ⟨u,hu⟩:=hR.has (k*7+j) Za
  rw [hu];rfl)
 refine ⟨fun i=>if i≤k then r i else w1.1.size,hR.setCells vs Za,by simpa using h.r0,fun i hi=>?_,?_,Nat.le_refl _,fun i hi=>?_⟩
 ·exact apP022
 ·rw [if_neg Za,size_setCells];exact Nat.le_refl _
 ·by_cases e:i<k
  ·obtain ⟨ah',ch',c,s,cg⟩:=h.at_ i e
   refine ⟨ah',ch',?_,?_,cg.grow (by rw [size_setCells];exact hb.size)⟩
   ·refine (c.below hb hg).fr (fun j hj=>?_)
    exact World.cell?_setCells_out g vs (k*7) w1 _ (fun _ _=>Or.inl (by show i*7+j<k*7;omega))
   ·exact apP021
  ·have:i=k:=Za
   subst this
   refine ⟨ah,ch,?_,?_,hcg.grow (by rw [size_setCells];exact Nat.le_refl _)⟩
   ·have f:=fun j (hj:j<7)=>hin j Za
    have f0:=f 0 Za;have f1:=f 1 Za;have f2:=f 2 Za;have f3:=f 3 Za;have f4:=f 4 Za;have f5:=f 5 Za;have f6:=f 6 Za
    subst hvs
    exact ⟨f0,f1,f2,f3,f4,f5,f6⟩
   ·rw [if_pos Za,if_neg Za]
    exact (hs.fr hF Zbt (Or.inr Za)).mono h.rn Zbt
theorem ObjsOwnAt.start {w1:World} {g n:Nat} (x:Nat→Ob) (h:Room w1 g (n*7)):ObjsOwnAt w1 g w1.1.size 0 n x (fun _=>g+1):=
 ⟨h,Nat.lt_succ_self _,fun _ h=>absurd h (Nat.not_lt_zero _),h.lt,Nat.le_refl _,fun _ h=>absurd h (Nat.not_lt_zero _)⟩
theorem toObs_any (n:Nat) (x:Nat→Ob) (ad:Option Addr) (cap:Nat) (w:World) (lo hi:Nat) (hhi:hi≤w.1.size) (hl:(n:Int)≤1099511627776) (hf:∀ i,i<n→ObFit (x i)) (hc:ObjsIn w lo hi ad n x) :
  Calls Tryz.prog 37 #[.slice ad n cap] w fun e w'=>∃ cap' r,e=.returned (.slice (some ⟨w.1.size,0,none⟩) n cap')∧n≤cap'∧ObjsOwnAt w' w.1.size w'.1.size n n x r∧Below w.1.size w w':=by
 obtain ⟨i0,hi0,hz0,hz1,hz2⟩:=info_parts Tryz.info118
 go_enter Tryz.func37,Tryz.ntmps37
 go_wp2_with (first
  | (at_make;refine wpList_make_full _ rfl _ _ 31 rfl w.1.size 118 i0 _ 7 Tryz.underlying31 hi0 hz0 hz1 .i64 .i64 _ _ n rfl rfl Za Za Zbd Zs Za ?_;intro w1 hown1 hgrow1)
  )
 have r1:=ObjsOwnAt.start x (room_made hown1)
 have hb1:Below w.1.size w w1:=(Below.refl _ _).grown hgrow1 Zbt Zd
 clear hown1 hgrow1 hi0 hz0 hz1 hz2
 go_loopw [4] (fun i wr=>∃ k:Nat,k≤n∧i=.int .i64 k∧Below w.1.size w wr∧∃ r,ObjsOwnAt wr w.1.size wr.1.size k n x r) (fun i _=>n-(intOf i).toNat)
 case atStart=>exact ⟨0,Nat.zero_le _,rfl,hb1,_,r1⟩
 case round=>
  obtain ⟨k,hk,rfl,hb,r,ho⟩:=hrel
  clear r1 hb1
  by_cases hkn:k<n
  ·obtain ⟨b,off,ah,ch,rfl,hlo,hbh,hcx,hsx⟩:=hc k hkn
   have hfk:=(hf k hkn).h
   obtain ⟨d0,d1,d2,d3,d4,d5,d6⟩:=hcx.below hb Za
   have hsx':=hsx.below hb hhi
   clear hc hf hcx hsx
   have HO:=hid ho
   have hrm:=ho.room
   clear ho
   go_wp2_with (fail)
   refine (toOb_any (x k) ah ch wr lo hi (Nat.le_trans hhi hb.size) hfk hsx').mono ?_
   rintro e w1 ⟨ah',ch',rfl,hcg,hown,hb1⟩
   obtain ⟨r',R⟩:=HO.out.step hkn hb1 (ch:=ch') hown hcg
   have HR:=hid R
   have HB:=hid ((hb.trans (hb1.mono hb.size)).trans ((fr_setCells w.1.size [Value.string (x k).kind,.string (x k).name,.int .i64 (x k).ver,.int .i64 (x k).born,.string (x k).text,.bool (x k).ending,.slice ah' (x k).hn ch'] (k*7) w1).below Zbt (hb.trans (hb1.mono hb.size)).size))
   have hrm1:=hrm.below hb1 hrm.lt
   obtain ⟨_,q0⟩:=hrm1.has (k*7) Za
   obtain ⟨_,q1⟩:=hrm1.has (k*7+1) Za
   obtain ⟨_,q2⟩:=hrm1.has (k*7+2) Za
   obtain ⟨_,q3⟩:=hrm1.has (k*7+3) Za
   obtain ⟨_,q4⟩:=hrm1.has (k*7+4) Za
   obtain ⟨_,q5⟩:=hrm1.has (k*7+5) Za
   obtain ⟨_,q6⟩:=hrm1.has (k*7+6) Za
   have qf:=hrm1.free
   clear hrm hrm1 R HO d0 d1 d2 d3 d4 d5 d6 hsx' hown hcg
   go_wp2
   go_roundw
   case rel=>exact ⟨k+1,Za,by go_num,HB.out,r',HR.out⟩
   case measure=>simp [intOf];omega
  ·have:k=n:=Za
   subst this
   have HO:=hid ho
   clear hc hf ho
   go_wp2
   go_ret
   exact ⟨_,r,rfl,Nat.le_refl _,HO.out,hb⟩
theorem Tryz.info120:(Tryz.prog.info? 120).map (fun i=>(i.zero,i.size,i.bytes))=some (some (.agg #[.int .i64 0,.bool false,.string ByteArray.empty,.string ByteArray.empty,.int .i64 0,.int .i64 0,.string ByteArray.empty,.bool false,.slice none 0 0]),9,112):=Zf
theorem toCh_any (x:Ch) (ad:Option Addr) (cap:Nat) (w:World) (lo hi:Nat) (hhi:hi≤w.1.size) (hl:(x.ob.hn:Int)≤8796093022208) (hc:StrsIn w lo hi ad x.ob.hn x.ob.hs) :
  Calls Tryz.prog 81 #[.agg #[.int .i64 x.ver,.bool x.gone,.string x.ob.kind,.string x.ob.name,.int .i64 x.ob.ver,.int .i64 x.ob.born,.string x.ob.text,.bool x.ob.ending,.slice ad x.ob.hn cap]] w fun e w'=>∃ ad' cap',e=.returned (.agg #[.int .i64 x.ver,.bool x.gone,.string x.ob.kind,.string x.ob.name,.int .i64 x.ob.ver,.int .i64 x.ob.born,.string x.ob.text,.bool x.ob.ending,.slice ad' x.ob.hn cap'])∧StrsOwn w' w.1.size w'.1.size ad' x.ob.hn x.ob.hs∧Below w.1.size w w':=by
 go_enter Tryz.func81,Tryz.ntmps81
 go_wp2_with fail
 refine (toOb_any x.ob ad cap _ lo hi Zc hl (hc.below (B:=w.1.size) ((((Below.refl _ _).alloc Zbt _).alloc Zd _).alloc Zc _) hhi)).mono ?_
 rintro e w1 ⟨ad',cap',rfl,_,hown,hb1⟩
 have hbW:Below w.1.size w w1:=((((Below.refl _ _).alloc Zbt _).alloc Zd _).alloc Zc _).trans (hb1.mono Zc)
 have hz:w.1.size+2<w1.1.size:=by have:=hb1.size;simp at this;omega
 obtain ⟨hcc,hff⟩:=bcell hb1
 simp only [World.size_alloc] at hcc hff hown
 clear hb1 hc
 go_wp2
 refine bodyPost_ret (v:=.agg #[.int .i64 x.ver,.bool x.gone,.string x.ob.kind,.string x.ob.name,.int .i64 x.ob.ver,.int .i64 x.ob.born,.string x.ob.text,.bool x.ob.ending,.slice ad' x.ob.hn cap']) (by simp [results,Tryz.results81,go_sem,hcc]) rfl ⟨ad',cap',rfl,?_,?_⟩
 ·simp only [World.size_setCell]
  refine (StrsOwn.fr hown (lo2:=w.1.size) (hi2:=w.1.size+3) ?_ Zbt Za).mono Za Zbt
  iterate 16 refine Fr.setCell ?_ Zm Zm _
  exact Fr.refl _ _ _
 ·refine hbW.trans (Fr.below (lo:=w.1.size) (hi:=w.1.size+3) ?_ Zbt hbW.size)
  iterate 16 refine Fr.setCell ?_ Zm Zm _
  exact Fr.refl _ _ _
structure ChgsOwnAt (w:World) (g hi n m:Nat) (x:Nat→Ch) (r:Nat→Nat):Prop where
 room:Room w g (m*9)
 r0:g<r 0
 mono:∀ i,i<n→r i≤r (i+1)
 rn:r n≤hi
 hi:hi≤w.1.size
 at_:∀ i,i<n→∃ ah ch,ChCells w g (i*9) (x i) ah ch∧StrsOwn w (r i) (r (i+1)) ah (x i).ob.hn (x i).ob.hs
theorem ChCells.fr {w w':World} {b o:Nat} {x:Ch} {ad:Option Addr} {cap:Nat} (h:ChCells w b o x ad cap) (e:∀ j,j<9→w'.cell? ⟨b,o+j,none⟩=w.cell? ⟨b,o+j,none⟩):ChCells w' b o x ad cap:=
 ⟨(e 0 Za).trans h.c0,(e 1 Za).trans h.c1,(e 2 Za).trans h.c2,(e 3 Za).trans h.c3,(e 4 Za).trans h.c4,(e 5 Za).trans h.c5,(e 6 Za).trans h.c6,(e 7 Za).trans h.c7,(e 8 Za).trans h.c8⟩
theorem ChgsOwnAt.step {wr w1:World} {g k n:Nat} {x:Nat→Ch} {r:Nat→Nat} (h:ChgsOwnAt wr g wr.1.size k n x r) (hk:k<n) (hb:Below wr.1.size wr w1) {ah:Option Addr} {ch:Nat}
  (hs:StrsOwn w1 wr.1.size w1.1.size ah (x k).ob.hn (x k).ob.hs) :
  ∃ r',ChgsOwnAt (w1.setCells g (k*9) [.int .i64 (x k).ver,.bool (x k).gone,.string (x k).ob.kind,.string (x k).ob.name,.int .i64 (x k).ob.ver,.int .i64 (x k).ob.born,.string (x k).ob.text,.bool (x k).ob.ending,.slice ah (x k).ob.hn ch]) g (w1.setCells g (k*9) [.int .i64 (x k).ver,.bool (x k).gone,.string (x k).ob.kind,.string (x k).ob.name,.int .i64 (x k).ob.ver,.int .i64 (x k).ob.born,.string (x k).ob.text,.bool (x k).ob.ending,.slice ah (x k).ob.hn ch]).1.size (k+1) n x r':=by
 have hg:=h.room.lt
 have hR:=h.room.below hb hg
 generalize hvs:[Value.int .i64 (x k).ver,.bool (x k).gone,.string (x k).ob.kind,.string (x k).ob.name,.int .i64 (x k).ob.ver,.int .i64 (x k).ob.born,.string (x k).ob.text,.bool (x k).ob.ending,.slice ah (x k).ob.hn ch]=vs
 have hlen:vs.length=9:=by rw [←hvs];rfl
 have hF:=fr_setCells g vs (k*9) w1
 have hin:=World.cell?_setCells_in g vs (k*9) w1 (fun j hj=>by
  obtain ⟨u,hu⟩:=hR.has (k*9+j) Za
  rw [hu];rfl)
 refine ⟨fun i=>if i≤k then r i else w1.1.size,hR.setCells vs Za,by simpa using h.r0,fun i hi=>?_,?_,Nat.le_refl _,fun i hi=>?_⟩
 ·exact apP022
 ·rw [if_neg Za,size_setCells];exact Nat.le_refl _
 ·by_cases e:i<k
  ·obtain ⟨ah',ch',c,s⟩:=h.at_ i e
   refine ⟨ah',ch',?_,?_⟩
   ·refine (c.below hb hg).fr (fun j hj=>?_)
    exact World.cell?_setCells_out g vs (k*9) w1 _ (fun _ _=>Or.inl (by show i*9+j<k*9;omega))
   ·exact apP021
  ·have:i=k:=Za
   subst this
   refine ⟨ah,ch,?_,?_⟩
   ·have f:=fun j (hj:j<9)=>hin j Za
    have f0:=f 0 Za;have f1:=f 1 Za;have f2:=f 2 Za;have f3:=f 3 Za;have f4:=f 4 Za;have f5:=f 5 Za;have f6:=f 6 Za;have f7:=f 7 Za;have f8:=f 8 Za
    subst hvs
    exact ⟨f0,f1,f2,f3,f4,f5,f6,f7,f8⟩
   ·rw [if_pos Za,if_neg Za]
    exact (hs.fr hF Zbt (Or.inr Za)).mono h.rn Zbt
theorem ChgsOwnAt.start {w1:World} {g n:Nat} (x:Nat→Ch) (h:Room w1 g (n*9)):ChgsOwnAt w1 g w1.1.size 0 n x (fun _=>g+1):=
 ⟨h,Nat.lt_succ_self _,fun _ h=>absurd h (Nat.not_lt_zero _),h.lt,Nat.le_refl _,fun _ h=>absurd h (Nat.not_lt_zero _)⟩
theorem toChs_any (n:Nat) (x:Nat→Ch) (ad:Option Addr) (cap:Nat) (w:World) (lo hi:Nat) (hhi:hi≤w.1.size) (hl:(n:Int)≤1099511627776) (hf:∀ i,i<n→ObFit (x i).ob) (hc:ChgsIn w lo hi ad n x) :
  Calls Tryz.prog 38 #[.slice ad n cap] w fun e w'=>∃ cap' r,e=.returned (.slice (some ⟨w.1.size,0,none⟩) n cap')∧n≤cap'∧ChgsOwnAt w' w.1.size w'.1.size n n x r∧Below w.1.size w w':=by
 obtain ⟨i0,hi0,hz0,hz1,hz2⟩:=info_parts Tryz.info120
 go_enter Tryz.func38,Tryz.ntmps38
 go_wp2_with (first
  | (at_make;refine wpList_make_full _ rfl _ _ 32 rfl w.1.size 120 i0 _ 9 Tryz.underlying32 hi0 hz0 hz1 .i64 .i64 _ _ n rfl rfl Za Za Zbd Zs Za ?_;intro w1 hown1 hgrow1)
  )
 have r1:=ChgsOwnAt.start x (room_made hown1)
 have hb1:Below w.1.size w w1:=(Below.refl _ _).grown hgrow1 Zbt Zd
 clear hown1 hgrow1 hi0 hz0 hz1 hz2
 go_loopw [4] (fun i wr=>∃ k:Nat,k≤n∧i=.int .i64 k∧Below w.1.size w wr∧∃ r,ChgsOwnAt wr w.1.size wr.1.size k n x r) (fun i _=>n-(intOf i).toNat)
 case atStart=>exact ⟨0,Nat.zero_le _,rfl,hb1,_,r1⟩
 case round=>
  obtain ⟨k,hk,rfl,hb,r,ho⟩:=hrel
  clear r1 hb1
  by_cases hkn:k<n
  ·obtain ⟨b,off,ah,ch,rfl,hlo,hbh,hcx,hsx⟩:=hc k hkn
   have hfk:=(hf k hkn).h
   obtain ⟨d0,d1,d2,d3,d4,d5,d6,d7,d8⟩:=hcx.below hb Za
   have hsx':=hsx.below hb hhi
   clear hc hf hcx hsx
   have HO:=hid ho
   have hrm:=ho.room
   clear ho
   go_wp2_with (fail)
   refine (toCh_any (x k) ah ch wr lo hi (Nat.le_trans hhi hb.size) hfk hsx').mono ?_
   rintro e w1 ⟨ah',ch',rfl,hown,hb1⟩
   obtain ⟨r',R⟩:=HO.out.step hkn hb1 (ch:=ch') hown
   have HR:=hid R
   have HB:=hid ((hb.trans (hb1.mono hb.size)).trans ((fr_setCells w.1.size [Value.int .i64 (x k).ver,.bool (x k).gone,.string (x k).ob.kind,.string (x k).ob.name,.int .i64 (x k).ob.ver,.int .i64 (x k).ob.born,.string (x k).ob.text,.bool (x k).ob.ending,.slice ah' (x k).ob.hn ch'] (k*9) w1).below Zbt (hb.trans (hb1.mono hb.size)).size))
   have hrm1:=hrm.below hb1 hrm.lt
   obtain ⟨_,q0⟩:=hrm1.has (k*9) Za
   obtain ⟨_,q1⟩:=hrm1.has (k*9+1) Za
   obtain ⟨_,q2⟩:=hrm1.has (k*9+2) Za
   obtain ⟨_,q3⟩:=hrm1.has (k*9+3) Za
   obtain ⟨_,q4⟩:=hrm1.has (k*9+4) Za
   obtain ⟨_,q5⟩:=hrm1.has (k*9+5) Za
   obtain ⟨_,q6⟩:=hrm1.has (k*9+6) Za
   obtain ⟨_,q7⟩:=hrm1.has (k*9+7) Za
   obtain ⟨_,q8⟩:=hrm1.has (k*9+8) Za
   have qf:=hrm1.free
   clear hrm hrm1 R HO d0 d1 d2 d3 d4 d5 d6 d7 d8 hsx' hown
   go_wp2
   go_roundw
   case rel=>exact ⟨k+1,Za,by go_num,HB.out,r',HR.out⟩
   case measure=>simp [intOf];omega
  ·have:k=n:=Za
   subst this
   have HO:=hid ho
   clear hc hf ho
   go_wp2
   go_ret
   exact ⟨_,r,rfl,Nat.le_refl _,HO.out,hb⟩
theorem Tryz.info130:(Tryz.prog.info? 130).map (fun i=>(i.zero,i.size,i.bytes))=some (some (.agg #[.string ByteArray.empty,.int .i64 0,.string ByteArray.empty,.int .i64 0,.int .i64 0]),5,56):=Zf
theorem toTi_any (x:Ti) (w:World) :
  Calls Tryz.prog 82 #[.agg #[.string x.client,.int .i64 x.num,.string x.print,.int .i64 x.code,.int .i64 x.ver]] w fun e w'=>e=.returned (.agg #[.string x.client,.int .i64 x.num,.string x.print,.int .i64 x.code,.int .i64 x.ver])∧Below w.1.size w w':=by
 go_enter Tryz.func82,Tryz.ntmps82
 go_wp2
 refine bodyPost_ret (v:=.agg #[.string x.client,.int .i64 x.num,.string x.print,.int .i64 x.code,.int .i64 x.ver]) (by simp [results,Tryz.results82,go_sem]) rfl ⟨rfl,?_⟩
 exact ((((Below.refl _ _).alloc Zbt _).alloc Zd _).alloc Zc _)
structure TicsOwnAt (w:World) (g n m:Nat) (x:Nat→Ti):Prop where
 room:Room w g (m*5)
 at_:∀ i,i<n→TiCells w g (i*5) (x i)
theorem TicsOwnAt.step {wr w1:World} {g k n:Nat} {x:Nat→Ti} (h:TicsOwnAt wr g k n x) (hk:k<n) (hb:Below wr.1.size wr w1) :
  TicsOwnAt (w1.setCells g (k*5) [.string (x k).client,.int .i64 (x k).num,.string (x k).print,.int .i64 (x k).code,.int .i64 (x k).ver]) g (k+1) n x:=by
 have hg:=h.room.lt
 have hR:=h.room.below hb hg
 generalize hvs:[Value.string (x k).client,.int .i64 (x k).num,.string (x k).print,.int .i64 (x k).code,.int .i64 (x k).ver]=vs
 have hlen:vs.length=5:=by rw [←hvs];rfl
 have hin:=World.cell?_setCells_in g vs (k*5) w1 (fun j hj=>by
  obtain ⟨u,hu⟩:=hR.has (k*5+j) Za
  rw [hu];rfl)
 refine ⟨hR.setCells vs Za,fun i hi=>?_⟩
 by_cases e:i<k
 ·have c:=(h.at_ i e).below hb hg
  have ee:∀ j,j<5→(w1.setCells g (k*5) vs).cell? ⟨g,i*5+j,none⟩=w1.cell? ⟨g,i*5+j,none⟩:=fun j hj=>World.cell?_setCells_out g vs (k*5) w1 _ (fun _ _=>Or.inl (by show i*5+j<k*5;omega))
  exact ⟨(ee 0 Za).trans c.c0,(ee 1 Za).trans c.c1,(ee 2 Za).trans c.c2,(ee 3 Za).trans c.c3,(ee 4 Za).trans c.c4⟩
 ·have:i=k:=Za
  subst this
  have f:=fun j (hj:j<5)=>hin j Za
  have f0:=f 0 Za;have f1:=f 1 Za;have f2:=f 2 Za;have f3:=f 3 Za;have f4:=f 4 Za
  subst hvs
  exact ⟨f0,f1,f2,f3,f4⟩
theorem toTis_any (n:Nat) (x:Nat→Ti) (ad:Option Addr) (cap:Nat) (w:World) (lo hi:Nat) (hhi:hi≤w.1.size) (hl:(n:Int)≤1099511627776) (hc:TicsIn w lo hi ad n x) :
  Calls Tryz.prog 39 #[.slice ad n cap] w fun e w'=>∃ cap',e=.returned (.slice (some ⟨w.1.size,0,none⟩) n cap')∧TicsOwnAt w' w.1.size n n x∧Below w.1.size w w':=by
 obtain ⟨i0,hi0,hz0,hz1,hz2⟩:=info_parts Tryz.info130
 go_enter Tryz.func39,Tryz.ntmps39
 go_wp2_with (first
  | (at_make;refine wpList_make_full _ rfl _ _ 33 rfl w.1.size 130 i0 _ 5 Tryz.underlying33 hi0 hz0 hz1 .i64 .i64 _ _ n rfl rfl Za Za Zbd Zs Za ?_;intro w1 hown1 hgrow1)
  )
 have r1:TicsOwnAt w1 w.1.size 0 n x:=⟨room_made hown1,fun _ h=>absurd h (Nat.not_lt_zero _)⟩
 have hb1:Below w.1.size w w1:=(Below.refl _ _).grown hgrow1 Zbt Zd
 clear hown1 hgrow1 hi0 hz0 hz1 hz2
 go_loopw [4] (fun i wr=>∃ k:Nat,k≤n∧i=.int .i64 k∧Below w.1.size w wr∧TicsOwnAt wr w.1.size k n x) (fun i _=>n-(intOf i).toNat)
 case atStart=>exact ⟨0,Nat.zero_le _,rfl,hb1,r1⟩
 case round=>
  obtain ⟨k,hk,rfl,hb,ho⟩:=hrel
  clear r1 hb1
  by_cases hkn:k<n
  ·obtain ⟨b,off,rfl,hlo,hbh,hcx⟩:=hc k hkn
   obtain ⟨d0,d1,d2,d3,d4⟩:=hcx.below hb Za
   clear hc hcx
   have HO:=hid ho
   have hrm:=ho.room
   clear ho
   go_wp2_with (fail)
   refine (toTi_any (x k) wr).mono ?_
   rintro e w1 ⟨rfl,hb1⟩
   have R:=HO.out.step hkn hb1
   have HR:=hid R
   have HB:=hid ((hb.trans (hb1.mono hb.size)).trans ((fr_setCells w.1.size [Value.string (x k).client,.int .i64 (x k).num,.string (x k).print,.int .i64 (x k).code,.int .i64 (x k).ver] (k*5) w1).below Zbt (hb.trans (hb1.mono hb.size)).size))
   have hrm1:=hrm.below hb1 hrm.lt
   obtain ⟨_,q0⟩:=hrm1.has (k*5) Za
   obtain ⟨_,q1⟩:=hrm1.has (k*5+1) Za
   obtain ⟨_,q2⟩:=hrm1.has (k*5+2) Za
   obtain ⟨_,q3⟩:=hrm1.has (k*5+3) Za
   obtain ⟨_,q4⟩:=hrm1.has (k*5+4) Za
   have qf:=hrm1.free
   clear hrm hrm1 R HO d0 d1 d2 d3 d4
   go_wp2
   go_roundw
   case rel=>exact ⟨k+1,Za,by go_num,HB.out,HR.out⟩
   case measure=>simp [intOf];omega
  ·have:k=n:=Za
   subst this
   have HO:=hid ho
   clear hc ho
   go_wp2
   go_ret
   exact ⟨_,rfl,HO.out,hb⟩
end Go.Proofs.YtllmmkchokkaaaaGreatDoor
