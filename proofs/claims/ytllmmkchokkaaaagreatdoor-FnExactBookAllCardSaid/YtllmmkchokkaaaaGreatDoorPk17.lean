import Derived.Test.YtllmmkchokkaaaaGreatDoorPk16
set_option maxRecDepth 100000
set_option maxHeartbeats 1000000
namespace Go.Proofs.YtllmmkchokkaaaaGreatDoor
open Go.RowKit Go.Maps
def tiB (t:Ti) (now:Int):Bool:=nameB t.client&&(inB t.num 1 1000000&&(decide (t.print.size=8)&&(inB t.code 0 9&&inB t.ver 0 now)))
theorem apP170 {P:Prop} (h:P:=by
  go_enter Tryz.func147,Tryz.ntmps147
  go_wp2_with (first|(go_at_call 90;refine (isName_any _ _ hfc).mono ?_;rintro e w1 ⟨rfl,rfl⟩;rw [hn])|(go_at_call 118;refine (within_any _ _ _ _).mono ?_;rintro e w1 ⟨rfl,rfl⟩;first|rw [h1]|rw [h2]|skip))
  go_ret
  exact ⟨ret_bool HE.out.symm,below_alloc' _ _⟩):P:=h
theorem apP171 {P:Prop} (h:P:=by
  go_enter Tryz.func147,Tryz.ntmps147
  go_wp2_with (first|(go_at_call 90;refine (isName_any _ _ hfc).mono ?_;rintro e w1 ⟨rfl,rfl⟩;rw [hn])|(go_at_call 118;refine (within_any _ _ _ _).mono ?_;rintro e w1 ⟨rfl,rfl⟩;first|rw [h1]|skip))
  go_ret
  exact ⟨ret_bool HE.out.symm,below_alloc' _ _⟩):P:=h
theorem ticket_any (t:Ti) (now:Int) (w:World) (hf:TiFit t) :
  Calls Tryz.prog 147 #[.agg #[.string t.client,.int .i64 t.num,.string t.print,.int .i64 t.code,.int .i64 t.ver],.int .i64 now] w fun e w'=>e=.returned (.bool (tiB t now))∧Below w.1.size w w':=by
 have hfc:=hf.c
 have hfp:=hf.p
 cases hn:nameB t.client with
 | false=>
  have HE:=hid (show tiB t now=false by unfold tiB;simp [hn])
  go_enter Tryz.func147,Tryz.ntmps147
  go_wp2_with (first|(go_at_call 90;refine (isName_any _ _ hfc).mono ?_;rintro e w1 ⟨rfl,rfl⟩;rw [hn])|(go_at_call 118;refine (within_any _ _ _ _).mono ?_;rintro e w1 ⟨rfl,rfl⟩;skip))
  go_ret
  exact ⟨ret_bool HE.out.symm,below_alloc' _ _⟩
 | true=>
 cases h1:inB t.num 1 1000000 with
 | false=>
  have HE:=hid (show tiB t now=false by unfold tiB;simp [hn,h1])
  exact apP171
 | true=>
 by_cases hp:t.print.size=8
 case neg=>
  have hpz:¬(t.print.size:Int)=8:=Za
  have HE:=hid (show tiB t now=false by unfold tiB;simp [hn,h1,hp])
  exact apP171
 have hpz:(t.print.size:Int)=8:=Za
 cases h2:inB t.code 0 9 with
 | false=>
  have HE:=hid (show tiB t now=false by unfold tiB;simp [hn,h1,h2,hp])
  exact apP170
 | true=>
  have HE:=hid (show tiB t now=inB t.ver 0 now by unfold tiB;simp [hn,h1,h2,hp])
  exact apP170
theorem tiBefore_any (x z:Ti) (w:World) :
  Calls Tryz.prog 146 #[.agg #[.string x.client,.int .i64 x.num,.string x.print,.int .i64 x.code,.int .i64 x.ver],.agg #[.string z.client,.int .i64 z.num,.string z.print,.int .i64 z.code,.int .i64 z.ver]] w fun e w'=>e=.returned (.bool (ltB x.client z.client))∧Below w.1.size w w':=by
 go_enter Tryz.func146,Tryz.ntmps146
 go_wp2
 go_ret
 exact ⟨rfl,(below_alloc' _ _).alloc Zd _⟩
def tiAsc (n:Nat) (x:Nat→Ti):Bool:=allTo (fun i=>i==0||ltB (x (i-1)).client (x i).client) n
theorem tiAsc_any (n:Nat) (x:Nat→Ti) (ad:Option Addr) (cap:Nat) (w:World) (lo hi:Nat) (hhi:hi≤w.1.size) (hl:(n:Int)≤140737488355328) (hc:TicsIn w lo hi ad n x) :
  Calls Tryz.prog 145 #[.slice ad n cap,.func (.func 146) #[] #[]] w fun e w'=>e=.returned (.bool (tiAsc n x))∧Below w.1.size w w':=by
 go_enter Tryz.func145,Tryz.ntmps145
 go_wp2
 go_loopw [5] (fun i wr=>∃ k:Nat,1≤k∧(k≤n∨k=1)∧i=.int .i64 k∧(∀ j,j<k→(j==0||ltB (x (j-1)).client (x j).client)=true)∧Below w.1.size w wr) (fun i _=>n-(intOf i).toNat)
 case atStart=>exact ⟨1,Nat.le_refl _,Or.inr rfl,rfl,fun j hj=>(by
   have:j=0:=Za
   subst this;rfl),Below.refl _ _⟩
 case round=>
  obtain ⟨k,hk1,hk,rfl,hall,hb⟩:=hrel
  by_cases hkn:k<n
  ·obtain ⟨m,rfl⟩:∃ m,k=m+1:=⟨k-1,Za⟩
   obtain ⟨b,off,rfl,hlo,hbh,hcx⟩:=hc (m+1) hkn
   obtain ⟨b',off',e,_,hbh',hcm⟩:=hc m Za
   cases e
   obtain ⟨d0,d1,d2,d3,d4⟩:=hcx.below hb Za
   obtain ⟨q0,q1,q2,q3,q4⟩:=hcm.below hb Za
   have hbw:b<wr.1.size:=by have:=hb.size;omega
   have rd0:=subcell d0 hbw
   have rd1:=subcell d1 hbw
   have rd2:=subcell d2 hbw
   have rd3:=subcell d3 hbw
   have rd4:=subcell d4 hbw
   have rp0:=subcell q0 hbw
   have rp1:=subcell q1 hbw
   have rp2:=subcell q2 hbw
   have rp3:=subcell q3 hbw
   have rp4:=subcell q4 hbw
   have hne:Nonempty (GW wr):=⟨⟨wr,Below.refl _ _⟩⟩
   have HA:=hid hall
   have hkz:(m:Int)+1≤n:=Za
   clear hall hc hk hcx hcm d0 d1 d2 d3 d4 q0 q1 q2 q3 q4
   cases hlt:ltB (x m).client (x (m+1)).client with
   | false=>
    have HE:=hid (show tiAsc n x=false from allTo_no (p:=fun i=>i==0||ltB (x (i-1)).client (x i).client) hkn (by simp [hlt]))
    go_wp2
    refine wp_region_grow Zf Zf ?_
    repeat (go_big_quiet_step ((go_at_call 146;go_must (exact grow_of (tiBefore_any (x m) (x (m+1)) _)))))
    refine wpQuiet_nil ?_
    rintro w2 ⟨u,hu⟩
    have hw2:Below wr.1.size wr w2:=hu▸u.prop
    clear hu u
    go_wp2
    go_ret
    exact ⟨ret_bool HE.out.symm,hb.trans (hw2.mono hb.size)⟩
   | true=>
    have HN:=hid (show (m+1==0||ltB (x (m+1-1)).client (x (m+1)).client)=true by simp [hlt])
    go_wp2
    refine wp_region_grow Zf Zf ?_
    repeat (go_big_quiet_step ((go_at_call 146;go_must (exact grow_of (tiBefore_any (x m) (x (m+1)) _)))))
    refine wpQuiet_nil ?_
    rintro w2 ⟨u,hu⟩
    have hw2:Below wr.1.size wr w2:=hu▸u.prop
    clear hu u
    go_wp2
    go_roundw
    case rel=>exact ⟨m+2,Za,Or.inl Za,by go_num,fun j hj=>(by
     rcases Nat.lt_or_ge j (m+1) with h3|h3
     ·exact HA.out j h3
     ·have:j=m+1:=Za
      subst this;exact HN.out),hb.trans (hw2.mono hb.size)⟩
    case measure=>simp [intOf];omega
  ·have HE:=hid (show tiAsc n x=true from allTo_iff.2 (fun i hi=>hall i Za))
   clear hall hc hk
   go_wp2
   go_ret
   exact ⟨ret_bool HE.out.symm,hb⟩
def tisB (n:Nat) (x:Nat→Ti) (now:Int):Bool:=decide (n≤50)&&(tiAsc n x&&allTo (fun i=>tiB (x i) now) n)
theorem ticsFit_any (now floor:Int) (n:Nat) (x:Nat→Ti) (a1 a2 a3:Option Addr) (n1 c1 n2 c2 c3:Nat) (w:World) (lo hi:Nat) (hhi:hi≤w.1.size) (hl:(n:Int)≤1099511627776) (hf:∀ i,i<n→TiFit (x i)) (hc:TicsIn w lo hi a3 n x) :
  Calls Tryz.prog 89 #[.agg #[.int .i64 now,.int .i64 floor,.slice a1 n1 c1,.slice a2 n2 c2,.slice a3 n c3]] w fun e w'=>e=.returned (.bool (tisB n x now))∧Below w.1.size w w':=by
 have hcA:=fun o=>hc.below (below_alloc' w o) hhi
 by_cases h50:(50:Int)<n
 ·have HE:=hid (show tisB n x now=false by unfold tisB;rw [decide_eq_false Za];rfl)
  go_enter Tryz.func89,Tryz.ntmps89
  go_wp2
  go_ret
  exact ⟨ret_bool HE.out.symm,below_alloc' _ _⟩
 cases ha:tiAsc n x with
 | false=>
  have HE:=hid (show tisB n x now=false by unfold tisB;rw [ha];simp)
  go_enter Tryz.func89,Tryz.ntmps89
  go_wp2_with (go_at_call 145;refine (tiAsc_any n x a3 c3 _ lo hi Zc Za (hcA _)).mono ?_;rintro e w1 ⟨rfl,hb1⟩)
  go_ret
  exact ⟨ret_bool HE.out.symm,(below_alloc' _ _).trans (hb1.mono Zd)⟩
 | true=>
  have HAS:=hid ha
  go_enter Tryz.func89,Tryz.ntmps89
  go_wp2_with (go_at_call 145;refine (tiAsc_any n x a3 c3 _ lo hi Zc Za (hcA _)).mono ?_;rintro e w1 ⟨rfl,hb1⟩;have k0:=box_cell hb1 0;have k4:=box_cell hb1 4;simp only [List.getElem?_toArray,List.getElem?_cons_succ,List.getElem?_cons_zero] at k0 k4;have hB1:Below w.1.size w w1:=(below_alloc' _ _).trans (hb1.mono Zd);have hz1:w.1.size<w1.1.size:=(by have:=hb1.size;simp at this;omega);clear hb1)
  go_loopw [18] (fun i wr=>∃ k:Nat,k≤n∧i=.int .i64 k∧(∀ j,j<k→tiB (x j) now=true)∧Below w.1.size w wr∧w.1.size<wr.1.size∧wr.cell? ⟨w.1.size,0,none⟩=some (.int .i64 now)) (fun i _=>n-(intOf i).toNat)
  case atStart=>exact ⟨0,Nat.zero_le _,rfl,fun j hj=>absurd hj (Nat.not_lt_zero _),hB1,hz1,k0⟩
  case round=>
   obtain ⟨k,hk,rfl,hall,hb,hz,hb0⟩:=hrel
   by_cases hkn:k<n
   ·obtain ⟨b,off,rfl,hlo,hbh,hcx⟩:=hc k hkn
    have hfk:=hf k hkn
    obtain ⟨d0,d1,d2,d3,d4⟩:=hcx.below hb Za
    have HA:=hid hall
    clear hall hc hf hcx hcA k0 k4 hB1 hz1 ha
    cases hp:tiB (x k) now with
    | false=>
     have HE:=hid (show tisB n x now=false by unfold tisB;rw [allTo_no (p:=fun i=>tiB (x i) now) hkn hp];simp)
     go_wp2_with (go_at_call 147;refine (ticket_any (x k) now _ hfk).mono ?_;rintro e w2 ⟨rfl,hb2⟩;rw [hp])
     go_ret
     exact ⟨ret_bool HE.out.symm,(hb.alloc hb.size _).trans (hb2.mono Zan)⟩
    | true=>
     have HP:=hid hp
     go_wp2_with (go_at_call 147;refine (ticket_any (x k) now _ hfk).mono ?_;rintro e w2 ⟨rfl,hb2⟩;rw [hp])
     have hB2:Below w.1.size w w2:=(hb.alloc hb.size _).trans (hb2.mono Zan)
     have hz2:w.1.size<w2.1.size:=by have:=hb2.size;simp at this;omega
     have h00:w2.cell? ⟨w.1.size,0,none⟩=some (.int .i64 now):=(hb2.cell (p:=⟨w.1.size,0,none⟩) Zc).trans ((World.cell?_alloc_past _ _ _ hz).trans hb0)
     go_roundw
     case rel=>exact ⟨k+1,Za,by go_num,fun j hj=>(by
      rcases Nat.lt_or_ge j k with h3|h3
      ·exact HA.out j h3
      ·have:j=k:=Za
       subst this;exact HP.out),hB2,hz2,h00⟩
     case measure=>simp [intOf];omega
   ·have HE:=hid (show tisB n x now=true by unfold tisB;rw [HAS.out,decide_eq_true (show n≤50 by omega),allTo_iff.2 (fun i hi=>hall i Za)];rfl)
    clear hall hc hf hcA
    go_wp2
    go_ret
    exact ⟨ret_bool HE.out.symm,hb⟩
def numB (now floor:Int):Bool:=inB now 0 1000000&&inB floor 0 now
theorem apP172 {P:Prop} (h:P:=by
  go_enter Tryz.func83,Tryz.ntmps83
  go_wp2_with (go_at_call 118;refine (within_any _ _ _ _).mono ?_;rintro e w1 ⟨rfl,rfl⟩;first|rw [h1]|skip)
  go_ret
  exact ⟨ret_bool HE.out.symm,below_alloc' _ _⟩):P:=h
theorem numbers_any (now floor:Int) (a1 a2 a3:Option Addr) (n1 c1 n2 c2 n c3:Nat) (w:World) :
  Calls Tryz.prog 83 #[.agg #[.int .i64 now,.int .i64 floor,.slice a1 n1 c1,.slice a2 n2 c2,.slice a3 n c3]] w fun e w'=>e=.returned (.bool (numB now floor))∧Below w.1.size w w':=by
 cases h1:inB now 0 1000000 with
 | false=>
  have HE:=hid (show numB now floor=false by unfold numB;rw [h1];rfl)
  exact apP172
 | true=>
  have HE:=hid (show numB now floor=inB floor 0 now by unfold numB;rw [h1];rfl)
  exact apP172
end Go.Proofs.YtllmmkchokkaaaaGreatDoor
