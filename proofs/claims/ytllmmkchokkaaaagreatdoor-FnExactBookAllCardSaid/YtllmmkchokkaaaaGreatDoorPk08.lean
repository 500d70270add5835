import Derived.Test.YtllmmkchokkaaaaGreatDoorPk07
set_option maxRecDepth 100000
set_option maxHeartbeats 1000000
namespace Go.Proofs.YtllmmkchokkaaaaGreatDoor
open Go.RowKit
def creB (c:Ch):Bool:=!c.gone&&c.ob.born==c.ver
def begB (c:Ch) (floor:Int):Bool:=creB c||decide (c.ob.born≤floor)
def folB (p c:Ch):Bool:=if p.gone||creB c then p.gone&&creB c else p.ob.born==c.ob.born
def chgB (c:Ch) (now:Int):Bool:=c.ob.ver==c.ver&&(partsB c.ob now&&(if c.gone then goneB c.ob else standB c.ob))
theorem specCre_any (c:Ch) (ad:Option Addr) (cap:Nat) (w:World) :
  Calls Tryz.prog 129 #[.agg #[.int .i64 c.ver,.bool c.gone,.string c.ob.kind,.string c.ob.name,.int .i64 c.ob.ver,.int .i64 c.ob.born,.string c.ob.text,.bool c.ob.ending,.slice ad c.ob.hn cap]] w fun e w'=>e=.returned (.bool (creB c))∧Below w.1.size w w':=by
 obtain ⟨ve,go,ob⟩:=c
 dsimp only
 cases go with
 | true=>
  go_enter Tryz.func129,Tryz.ntmps129
  go_wp2
  go_ret
  exact ⟨rfl,below_alloc' _ _⟩
 | false=>
  go_enter Tryz.func129,Tryz.ntmps129
  go_wp2
  go_ret
  exact ⟨ret_bool (by simp [creB]),below_alloc' _ _⟩
theorem implCre_any (c:Ch) (ad:Option Addr) (cap:Nat) (w:World) :
  Calls Tryz.prog 179 #[.agg #[.int .i64 c.ver,.bool c.gone,.string c.ob.kind,.string c.ob.name,.int .i64 c.ob.ver,.int .i64 c.ob.born,.string c.ob.text,.bool c.ob.ending,.slice ad c.ob.hn cap]] w fun e w'=>e=.returned (.bool (creB c))∧Below w.1.size w w':=by
 obtain ⟨ve,go,ob⟩:=c
 dsimp only
 cases go with
 | true=>
  go_enter Tryz.func179,Tryz.ntmps179
  go_wp2
  go_ret
  exact ⟨rfl,below_alloc' _ _⟩
 | false=>
  go_enter Tryz.func179,Tryz.ntmps179
  go_wp2
  go_ret
  exact ⟨ret_bool (by simp [creB]),below_alloc' _ _⟩
theorem apP081 {P:Prop} (h:P:=by
  go_ret
  exact ⟨ret_bool HE.out.symm,(below_alloc' _ _).trans (hb1.mono Zd)⟩):P:=h
theorem begin_any (c:Ch) (floor:Int) (ad:Option Addr) (cap:Nat) (w:World) :
  Calls Tryz.prog 141 #[.agg #[.int .i64 c.ver,.bool c.gone,.string c.ob.kind,.string c.ob.name,.int .i64 c.ob.ver,.int .i64 c.ob.born,.string c.ob.text,.bool c.ob.ending,.slice ad c.ob.hn cap],.int .i64 floor] w fun e w'=>e=.returned (.bool (begB c floor))∧Below w.1.size w w':=by
 cases hcr:creB c with
 | true=>
  have HE:=hid (show begB c floor=true by unfold begB;rw [hcr];rfl)
  go_enter Tryz.func141,Tryz.ntmps141
  go_wp2_with (go_at_call 179;refine (implCre_any c ad cap _).mono ?_;rintro e w1 ⟨rfl,hb1⟩)
  exact apP081
 | false=>
  have HE:=hid (show begB c floor=decide (c.ob.born≤floor) by unfold begB;rw [hcr];rfl)
  go_enter Tryz.func141,Tryz.ntmps141
  go_wp2_with (go_at_call 179;refine (implCre_any c ad cap _).mono ?_;rintro e w1 ⟨rfl,hb1⟩;have k5:=box_cell hb1 5;simp only [List.getElem?_toArray,List.getElem?_cons_succ,List.getElem?_cons_zero] at k5)
  exact apP081
theorem chgFits_any (c:Ch) (now:Int) (ad:Option Addr) (cap:Nat) (w:World) (lo hi:Nat) (hhi:hi≤w.1.size) (hf:ObFit c.ob) (hc:StrsIn w lo hi ad c.ob.hn c.ob.hs) :
  Calls Tryz.prog 138 #[.agg #[.int .i64 c.ver,.bool c.gone,.string c.ob.kind,.string c.ob.name,.int .i64 c.ob.ver,.int .i64 c.ob.born,.string c.ob.text,.bool c.ob.ending,.slice ad c.ob.hn cap],.int .i64 now] w fun e w'=>e=.returned (.bool (chgB c now))∧Below w.1.size w w':=by
 obtain ⟨ve,go,ob⟩:=c
 dsimp only at hf hc ⊢
 have hcA:=fun o=>hc.alloc hhi o
 have hfh:(ob.hn:Int)≤140737488355328:=by have:=hf.h;omega
 by_cases hv:ob.ver=ve
 ·subst hv
  cases hp:partsB ob now with
  | false=>
   have HE:=hid (show chgB ⟨ob.ver,go,ob⟩ now=false by unfold chgB;simp [hp])
   go_enter Tryz.func138,Tryz.ntmps138
   go_wp2_with (go_at_call 136;refine (objFits_any ob now ad cap _ lo hi Zc hf (hcA _)).mono ?_;rintro e w1 ⟨rfl,hb1⟩;rw [hp])
   exact apP081
  | true=>
   cases go with
   | true=>
   have HE:=hid (show chgB ⟨ob.ver,true,ob⟩ now=goneB ob by unfold chgB;simp [hp])
   go_enter Tryz.func138,Tryz.ntmps138
   go_wp2_with (go_at_call 136;refine (objFits_any ob now ad cap _ lo hi Zc hf (hcA _)).mono ?_;rintro e w1 ⟨rfl,hb1⟩;have k1:=box_cell hb1 1;have k2:=box_cell hb1 2;have k3:=box_cell hb1 3;have k4:=box_cell hb1 4;have k5:=box_cell hb1 5;have k6:=box_cell hb1 6;have k7:=box_cell hb1 7;have k8:=box_cell hb1 8;simp only [List.getElem?_toArray,List.getElem?_cons_succ,List.getElem?_cons_zero] at k1 k2 k3 k4 k5 k6 k7 k8;rw [hp])
   go_wp2_with (go_at_call 178;refine (mayBeGone_any ob ad cap _ hfh).mono ?_;rintro e w2 ⟨rfl,hb2⟩)
   go_ret
   exact ⟨ret_bool HE.out.symm,(below_alloc' _ _).trans ((hb1.mono Zd).trans (hb2.mono (by have:=hb1.size;simp at this;omega)))⟩
   | false=>
   have HE:=hid (show chgB ⟨ob.ver,false,ob⟩ now=standB ob by unfold chgB;simp [hp])
   go_enter Tryz.func138,Tryz.ntmps138
   go_wp2_with (go_at_call 136;refine (objFits_any ob now ad cap _ lo hi Zc hf (hcA _)).mono ?_;rintro e w1 ⟨rfl,hb1⟩;have k1:=box_cell hb1 1;have k2:=box_cell hb1 2;have k3:=box_cell hb1 3;have k4:=box_cell hb1 4;have k5:=box_cell hb1 5;have k6:=box_cell hb1 6;have k7:=box_cell hb1 7;have k8:=box_cell hb1 8;simp only [List.getElem?_toArray,List.getElem?_cons_succ,List.getElem?_cons_zero] at k1 k2 k3 k4 k5 k6 k7 k8;rw [hp])
   go_wp2_with (go_at_call 137;refine (mayStand_any ob ad cap _ hfh).mono ?_;rintro e w2 ⟨rfl,hb2⟩)
   go_ret
   exact ⟨ret_bool HE.out.symm,(below_alloc' _ _).trans ((hb1.mono Zd).trans (hb2.mono (by have:=hb1.size;simp at this;omega)))⟩
 ·have HE:=hid (show chgB ⟨ve,go,ob⟩ now=false by unfold chgB;simp [hv])
  have HV:=hid hv
  go_enter Tryz.func138,Tryz.ntmps138
  go_wp2
  go_ret
  exact ⟨ret_bool HE.out.symm,below_alloc' _ _⟩
theorem box2_cell {w w1:World} {c d:Array Value} {t u:TypeId} (hb:Below ((w.alloc (.cells c t)).alloc (.cells d u)).1.size ((w.alloc (.cells c t)).alloc (.cells d u)) w1) (i:Nat):w1.cell? ⟨w.1.size,i,none⟩=c[i]?:=
 (hb.cell (p:=⟨w.1.size,i,none⟩) Zc).trans (((below_alloc' (w.alloc (.cells c t)) (.cells d u)).cell (p:=⟨w.1.size,i,none⟩) Zd).trans (World.cell?_alloc_new w c t i))
theorem apP080 {P:Prop} (h:P:=by
  go_ret
  exact ⟨ret_bool HE.out.symm,((below_alloc' _ _).trans ((below_alloc' _ _).mono Zd)).trans (hb1.mono Zc)⟩):P:=h
theorem follow_any (p c:Ch) (ad ad2:Option Addr) (cap cap2:Nat) (w:World) :
  Calls Tryz.prog 140 #[.agg #[.int .i64 p.ver,.bool p.gone,.string p.ob.kind,.string p.ob.name,.int .i64 p.ob.ver,.int .i64 p.ob.born,.string p.ob.text,.bool p.ob.ending,.slice ad p.ob.hn cap],.agg #[.int .i64 c.ver,.bool c.gone,.string c.ob.kind,.string c.ob.name,.int .i64 c.ob.ver,.int .i64 c.ob.born,.string c.ob.text,.bool c.ob.ending,.slice ad2 c.ob.hn cap2]] w fun e w'=>e=.returned (.bool (folB p c))∧Below w.1.size w w':=by
 obtain ⟨pv,pg,po⟩:=p
 dsimp only
 cases pg with
 | true=>
  have HE:=hid (show folB ⟨pv,true,po⟩ c=creB c by unfold folB;simp)
  go_enter Tryz.func140,Tryz.ntmps140
  go_wp2_with (go_at_call 179;refine (implCre_any c ad2 cap2 _).mono ?_;rintro e w1 ⟨rfl,hb1⟩)
  exact apP080
 | false=>
  cases hcr:creB c with
  | true=>
   have HE:=hid (show folB ⟨pv,false,po⟩ c=false by unfold folB;simp [hcr])
   go_enter Tryz.func140,Tryz.ntmps140
   go_wp2_with (go_at_call 179;refine (implCre_any c ad2 cap2 _).mono ?_;rintro e w1 ⟨rfl,hb1⟩;rw [hcr];have k1:=box2_cell hb1 1;simp only [List.getElem?_toArray,List.getElem?_cons_succ,List.getElem?_cons_zero] at k1)
   exact apP080
  | false=>
   have HE:=hid (show folB ⟨pv,false,po⟩ c=(po.born==c.ob.born) by unfold folB;simp [hcr])
   go_enter Tryz.func140,Tryz.ntmps140
   go_wp2_with (go_at_call 179;refine (implCre_any c ad2 cap2 _).mono ?_;rintro e w1 ⟨rfl,hb1⟩;rw [hcr];have k1:=box2_cell hb1 5;have k2:w1.cell? ⟨w.1.size+1,5,none⟩=some (.int .i64 c.ob.born):=(by simpa using box_cell hb1 5);simp only [List.getElem?_toArray,List.getElem?_cons_succ,List.getElem?_cons_zero] at k1)
   exact apP080
def histB (now floor:Int) (n:Nat) (h:Nat→Ch):Bool:=decide (n≤200)&&(decide ((n:Int)=now-floor)&&allTo (fun i=>decide ((h i).ver=floor+1+i)&&chgB (h i) now) n)
theorem histFits_any (now floor:Int) (n:Nat) (h:Nat→Ch) (a1 a2 a3:Option Addr) (n1 c1 c2 n3 c3:Nat) (w:World) (lo hi:Nat) (hhi:hi≤w.1.size) (hl:(n:Int)≤1099511627776) (hfl:0≤floor) (hno:floor≤now) (hnm:now≤1000000) (hf:∀ i,i<n→ObFit (h i).ob) (hc:ChgsIn w lo hi a2 n h) :
  Calls Tryz.prog 86 #[.agg #[.int .i64 now,.int .i64 floor,.slice a1 n1 c1,.slice a2 n c2,.slice a3 n3 c3]] w fun e w'=>e=.returned (.bool (histB now floor n h))∧Below w.1.size w w':=by
 by_cases h200:(200:Int)<n
 ·have HE:=hid (show histB now floor n h=false by unfold histB;rw [decide_eq_false Za];rfl)
  go_enter Tryz.func86,Tryz.ntmps86
  go_wp2
  go_ret
  exact ⟨ret_bool HE.out.symm,below_alloc' _ _⟩
 by_cases hnf:(n:Int)=now-floor
 case neg=>
  have HE:=hid (show histB now floor n h=false by unfold histB;rw [decide_eq_false hnf];simp)
  go_enter Tryz.func86,Tryz.ntmps86
  go_wp2
  go_ret
  exact ⟨ret_bool HE.out.symm,below_alloc' _ _⟩
 case pos=>
  have HNF:=hid hnf
  have hnf2:now-floor=(n:Int):=Za
  clear hnf
  go_enter Tryz.func86,Tryz.ntmps86
  go_wp2
  go_loopw [23] (fun i wr=>∃ k:Nat,k≤n∧i=.int .i64 k∧(∀ j,j<k→(h j).ver=floor+1+j∧chgB (h j) now=true)∧Below w.1.size w wr∧w.1.size<wr.1.size∧wr.cell? ⟨w.1.size,0,none⟩=some (.int .i64 now)∧wr.cell? ⟨w.1.size,1,none⟩=some (.int .i64 floor)) (fun i _=>n-(intOf i).toNat)
  case atStart=>exact ⟨0,Nat.zero_le _,rfl,fun j hj=>absurd hj (Nat.not_lt_zero _),below_alloc' _ _,Zd,World.cell?_alloc_new _ _ _ _,World.cell?_alloc_new _ _ _ _⟩
  case round=>
   obtain ⟨k,hk,rfl,hall,hb,hz,hb0,hb1⟩:=hrel
   by_cases hkn:k<n
   ·obtain ⟨b,off,ah,ch,rfl,hlo,hbh,hcx,hsx⟩:=hc k hkn
    have hfk:=hf k hkn
    obtain ⟨d0,d1,d2,d3,d4,d5,d6,d7,d8⟩:=hcx.below hb Za
    have hs1:=hsx.below hb hhi
    have HA:=hid hall
    clear hall hc hf hcx hsx
    by_cases hv:(h k).ver=floor+1+k
    case neg=>
     have HE:=hid (show histB now floor n h=false by unfold histB;rw [allTo_no (p:=fun i=>decide ((h i).ver=floor+1+i)&&chgB (h i) now) hkn (by rw [decide_eq_false hv];rfl)];simp)
     go_wp2
     go_ret
     exact ⟨ret_bool HE.out.symm,hb.alloc hb.size _⟩
    case pos=>
     have HV:=hid hv
     clear hv
     have hC:=chgFits_any (h k) now ah ch (wr.alloc (.cells #[.int .i64 (h k).ver,.bool (h k).gone,.string (h k).ob.kind,.string (h k).ob.name,.int .i64 (h k).ob.ver,.int .i64 (h k).ob.born,.string (h k).ob.text,.bool (h k).ob.ending,.slice ah (h k).ob.hn ch] 120)) lo hi Zan hfk (hs1.alloc (by have:=hb.size;omega) _)
     cases hp:chgB (h k) now with
     | false=>
      have HE:=hid (show histB now floor n h=false by unfold histB;rw [allTo_no (p:=fun i=>decide ((h i).ver=floor+1+i)&&chgB (h i) now) hkn (by rw [hp];simp)];simp)
      have hv:=HV.out
      go_wp2_with fail
      simp only [hv] at hC
      refine hC.mono ?_
      rintro e w2 ⟨rfl,hb2⟩
      rw [hp]
      clear hC
      go_wp2
      go_ret
      exact ⟨ret_bool HE.out.symm,(hb.alloc hb.size _).trans (hb2.mono Zan)⟩
     | true=>
      have HP:=hid hp
      have hv:=HV.out
      go_wp2_with fail
      simp only [hv] at hC
      refine hC.mono ?_
      rintro e w2 ⟨rfl,hb2⟩
      rw [hp]
      clear hC
      have hB2:Below w.1.size w w2:=(hb.alloc hb.size _).trans (hb2.mono Zan)
      have hz2:w.1.size<w2.1.size:=by have:=hb2.size;simp at this;omega
      have h00:w2.cell? ⟨w.1.size,0,none⟩=some (.int .i64 now):=(hb2.cell (p:=⟨w.1.size,0,none⟩) Zc).trans ((World.cell?_alloc_past _ _ _ hz).trans hb0)
      have h01:w2.cell? ⟨w.1.size,1,none⟩=some (.int .i64 floor):=(hb2.cell (p:=⟨w.1.size,1,none⟩) Zc).trans ((World.cell?_alloc_past _ _ _ hz).trans hb1)
      clear d0 d1 d2 d3 d4 d5 d6 d7 d8 hs1 hb2
      go_wp2
      go_roundw
      case rel=>exact ⟨k+1,Za,by go_num,fun j hj=>(by
       rcases Nat.lt_or_ge j k with h3|h3
       ·exact HA.out j h3
       ·have:j=k:=Za
        subst this;exact ⟨HV.out,HP.out⟩),hB2,hz2,h00,h01⟩
      case measure=>simp [intOf];omega
   ·have HE:=hid (show histB now floor n h=true by unfold histB;rw [decide_eq_true (show n≤200 by omega),decide_eq_true HNF.out,allTo_iff.2 (fun i hi=>by rw [decide_eq_true (hall i Za).1,(hall i Za).2];rfl)];rfl)
    clear hall hc hf
    go_wp2
    go_ret
    exact ⟨ret_bool HE.out.symm,hb⟩
end Go.Proofs.YtllmmkchokkaaaaGreatDoor
