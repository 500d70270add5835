import Derived.Test.YtllmmkchokkaaaaGreatDoorPk07
import Derived.Test.YtllmmkchokkaaaaGreatDoorPk10
set_option maxRecDepth 100000
set_option maxHeartbeats 1000000
namespace Go.Proofs.YtllmmkchokkaaaaGreatDoor
open Go.RowKit
theorem objAsc_any (n:Nat) (x:Nat→Ob) (ad:Option Addr) (cap:Nat) (w:World) (lo hi:Nat) (hhi:hi≤w.1.size) (hl:(n:Int)≤140737488355328) (hc:ObjsIn w lo hi ad n x) :
  Calls Tryz.prog 134 #[.slice ad n cap,.func (.func 135) #[] #[]] w fun e w'=>e=.returned (.bool (objAsc n x))∧Below w.1.size w w':=by
 go_enter Tryz.func134,Tryz.ntmps134
 go_wp2
 go_loopw [5] (fun i wr=>∃ k:Nat,1≤k∧(k≤n∨k=1)∧i=.int .i64 k∧(∀ j,j<k→(j==0||befB (x (j-1)) (x j))=true)∧Below w.1.size w wr) (fun i _=>n-(intOf i).toNat)
 case atStart=>exact ⟨1,Nat.le_refl _,Or.inr rfl,rfl,fun j hj=>(by
   have:j=0:=Za
   subst this;rfl),Below.refl _ _⟩
 case round=>
  obtain ⟨k,hk1,hk,rfl,hall,hb⟩:=hrel
  by_cases hkn:k<n
  ·obtain ⟨m,rfl⟩:∃ m,k=m+1:=⟨k-1,Za⟩
   obtain ⟨b,off,ah,ch,rfl,hlo,hbh,hcx,_⟩:=hc (m+1) hkn
   obtain ⟨b',off',ah',ch',e,_,hbh',hcm,_⟩:=hc m Za
   cases e
   obtain ⟨d0,d1,d2,d3,d4,d5,d6⟩:=hcx.below hb Za
   obtain ⟨q0,q1,q2,q3,q4,q5,q6⟩:=hcm.below hb Za
   have hbw:b<wr.1.size:=by have:=hb.size;omega
   have rd0:=subcell d0 hbw
   have rd1:=subcell d1 hbw
   have rd2:=subcell d2 hbw
   have rd3:=subcell d3 hbw
   have rd4:=subcell d4 hbw
   have rd5:=subcell d5 hbw
   have rd6:=subcell d6 hbw
   have rp0:=subcell q0 hbw
   have rp1:=subcell q1 hbw
   have rp2:=subcell q2 hbw
   have rp3:=subcell q3 hbw
   have rp4:=subcell q4 hbw
   have rp5:=subcell q5 hbw
   have rp6:=subcell q6 hbw
   have hne:Nonempty (GW wr):=⟨⟨wr,Below.refl _ _⟩⟩
   have HA:=hid hall
   have hkz:(m:Int)+1≤n:=Za
   clear hall hc hk hcx hcm d0 d1 d2 d3 d4 d5 d6 q0 q1 q2 q3 q4 q5 q6
   cases hlt:befB (x m) (x (m+1)) with
   | false=>
    have HE:=hid (show objAsc n x=false from allTo_no (p:=fun i=>i==0||befB (x (i-1)) (x i)) hkn (by simp [hlt]))
    go_wp2
    refine wp_region_grow Zf Zf ?_
    repeat (go_big_quiet_step ((go_at_call 135;go_must (exact grow_of (before_any (x m) (x (m+1)) _ _ _ _ _)))))
    refine wpQuiet_nil ?_
    rintro w2 ⟨u,hu⟩
    have hw2:Below wr.1.size wr w2:=hu▸u.prop
    clear hu u
    go_wp2
    go_ret
    exact ⟨ret_bool HE.out.symm,hb.trans (hw2.mono hb.size)⟩
   | true=>
    have HN:=hid (show (m+1==0||befB (x (m+1-1)) (x (m+1)))=true by simp [hlt])
    go_wp2
    refine wp_region_grow Zf Zf ?_
    repeat (go_big_quiet_step ((go_at_call 135;go_must (exact grow_of (before_any (x m) (x (m+1)) _ _ _ _ _)))))
    refine wpQuiet_nil ?_
    rintro w2 ⟨u,hu⟩
    have hw2:Below wr.1.size wr w2:=hu▸u.prop
    clear hu u
    go_wp2
    go_roundw
    case rel=>exact ⟨m+2,Za,Or.inl Za,by go_num,fun j hj=>(by
     rcases Nat.lt_or_ge j (m+1) with h3|h3
     ·exact HA.out j h3
     ·have:j=m+1:=Za
      subst this;exact HN.out),hb.trans (hw2.mono hb.size)⟩
    case measure=>simp [intOf];omega
  ·have HE:=hid (show objAsc n x=true from allTo_iff.2 (fun i hi=>hall i Za))
   clear hall hc hk
   go_wp2
   go_ret
   exact ⟨ret_bool HE.out.symm,hb⟩
def objs1B (n:Nat) (x:Nat→Ob) (now:Int):Bool:=decide (n≤100)&&(objAsc n x&&objFit n x now)
theorem objsFit_any (now floor:Int) (n:Nat) (x:Nat→Ob) (a1 a2 a3:Option Addr) (c1 n2 c2 n3 c3:Nat) (w:World) (lo hi:Nat) (hhi:hi≤w.1.size) (hl:(n:Int)≤1099511627776) (hf:∀ i,i<n→ObFit (x i)) (hc:ObjsIn w lo hi a1 n x) :
  Calls Tryz.prog 84 #[.agg #[.int .i64 now,.int .i64 floor,.slice a1 n c1,.slice a2 n2 c2,.slice a3 n3 c3]] w fun e w'=>e=.returned (.bool (objs1B n x now))∧Below w.1.size w w':=by
 have hcA:=fun o=>hc.below (below_alloc' w o) hhi
 by_cases h100:(100:Int)<n
 ·have HE:=hid (show objs1B n x now=false by unfold objs1B;rw [decide_eq_false Za];rfl)
  go_enter Tryz.func84,Tryz.ntmps84
  go_wp2
  go_ret
  exact ⟨ret_bool HE.out.symm,below_alloc' _ _⟩
 cases ha:objAsc n x with
 | false=>
  have HE:=hid (show objs1B n x now=false by unfold objs1B;rw [ha];simp)
  go_enter Tryz.func84,Tryz.ntmps84
  go_wp2_with (go_at_call 134;refine (objAsc_any n x a1 c1 _ lo hi Zc Za (hcA _)).mono ?_;rintro e w1 ⟨rfl,hb1⟩)
  go_ret
  exact ⟨ret_bool HE.out.symm,(below_alloc' _ _).trans (hb1.mono Zd)⟩
 | true=>
  have HAS:=hid ha
  go_enter Tryz.func84,Tryz.ntmps84
  go_wp2_with (go_at_call 134;refine (objAsc_any n x a1 c1 _ lo hi Zc Za (hcA _)).mono ?_;rintro e w1 ⟨rfl,hb1⟩;have k0:=box_cell hb1 0;have k2:=box_cell hb1 2;simp only [List.getElem?_toArray,List.getElem?_cons_succ,List.getElem?_cons_zero] at k0 k2;have hB1:Below w.1.size w w1:=(below_alloc' _ _).trans (hb1.mono Zd);have hz1:w.1.size<w1.1.size:=(by have:=hb1.size;simp at this;omega);clear hb1)
  go_loopw [18] (fun i wr=>∃ k:Nat,k≤n∧i=.int .i64 k∧(∀ j,j<k→partsB (x j) now=true∧standB (x j)=true)∧Below w.1.size w wr∧w.1.size<wr.1.size∧wr.cell? ⟨w.1.size,0,none⟩=some (.int .i64 now)) (fun i _=>n-(intOf i).toNat)
  case atStart=>exact ⟨0,Nat.zero_le _,rfl,fun j hj=>absurd hj (Nat.not_lt_zero _),hB1,hz1,k0⟩
  case round=>
   obtain ⟨k,hk,rfl,hall,hb,hz,hb0⟩:=hrel
   by_cases hkn:k<n
   ·obtain ⟨b,off,ah,ch,rfl,hlo,hbh,hcx,hsx⟩:=hc k hkn
    have hfk:=hf k hkn
    have hfh:((x k).hn:Int)≤140737488355328:=by have:=hfk.h;omega
    obtain ⟨d0,d1,d2,d3,d4,d5,d6⟩:=hcx.below hb Za
    have hs1:=hsx.below hb hhi
    have HA:=hid hall
    clear hall hc hf hcx hsx hcA k0 k2 hB1 hz1 ha
    cases hp:partsB (x k) now with
    | false=>
     have HE:=hid (show objs1B n x now=false by unfold objs1B objFit;rw [allTo_no (p:=fun i=>partsB (x i) now&&standB (x i)) hkn (by rw [hp];rfl)];simp)
     go_wp2_with (go_at_call 136;refine (objFits_any (x k) now ah ch _ lo hi Zan hfk (hs1.alloc (by have:=hb.size;omega) _)).mono ?_;rintro e w2 ⟨rfl,hb2⟩)
     go_ret
     exact ⟨ret_bool HE.out.symm,(hb.alloc hb.size _).trans (hb2.mono Zan)⟩
    | true=>
     have HP:=hid hp
     go_wp2_with (go_at_call 136;refine (objFits_any (x k) now ah ch _ lo hi Zan hfk (hs1.alloc (by have:=hb.size;omega) _)).mono ?_;rintro e w2 ⟨rfl,hb2⟩;have t0:=box_cell hb2 0;have t1:=box_cell hb2 1;have t2:=box_cell hb2 2;have t3:=box_cell hb2 3;have t4:=box_cell hb2 4;have t5:=box_cell hb2 5;have t6:=box_cell hb2 6;simp only [List.getElem?_toArray,List.getElem?_cons_succ,List.getElem?_cons_zero] at t0 t1 t2 t3 t4 t5 t6)
     refine (mayStand_any (x k) ah ch _ hfh).mono ?_
     rintro e w3 ⟨rfl,hb3⟩
     have hB2:Below w.1.size w w2:=(hb.alloc hb.size _).trans (hb2.mono Zan)
     have hB3:Below w.1.size w w3:=hB2.trans (hb3.mono hB2.size)
     have hz2:wr.1.size<w2.1.size:=by have:=hb2.size;simp at this;omega
     have h00:w3.cell? ⟨w.1.size,0,none⟩=some (.int .i64 now):=(hb3.cell (p:=⟨w.1.size,0,none⟩) Zh).trans ((hb2.cell (p:=⟨w.1.size,0,none⟩) Zc).trans ((World.cell?_alloc_past _ _ _ hz).trans hb0))
     have hz3:w.1.size<w3.1.size:=by have:=hb3.size;omega
     clear t0 t1 t2 t3 t4 t5 t6 d0 d1 d2 d3 d4 d5 d6 hs1 hb2 hb3
     cases hst:standB (x k) with
     | false=>
      have HE:=hid (show objs1B n x now=false by unfold objs1B objFit;rw [allTo_no (p:=fun i=>partsB (x i) now&&standB (x i)) hkn (by rw [hp,hst];rfl)];simp)
      go_wp2
      go_ret
      exact ⟨ret_bool HE.out.symm,hB3⟩
     | true=>
      have HS:=hid hst
      go_wp2
      go_roundw
      case rel=>exact ⟨k+1,Za,by go_num,fun j hj=>(by
       rcases Nat.lt_or_ge j k with h3|h3
       ·exact HA.out j h3
       ·have:j=k:=Za
        subst this;exact ⟨HP.out,HS.out⟩),hB3,hz3,h00⟩
      case measure=>simp [intOf];omega
   ·have HE:=hid (show objs1B n x now=true by unfold objs1B objFit;rw [HAS.out,decide_eq_true (show n≤100 by omega),allTo_iff.2 (fun i hi=>by rw [(hall i Za).1,(hall i Za).2];rfl)];rfl)
    clear hall hc hf hcA
    go_wp2
    go_ret
    exact ⟨ret_bool HE.out.symm,hb⟩
end Go.Proofs.YtllmmkchokkaaaaGreatDoor
