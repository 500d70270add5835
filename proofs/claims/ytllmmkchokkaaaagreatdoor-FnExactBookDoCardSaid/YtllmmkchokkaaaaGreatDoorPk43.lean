import Derived.Test.YtllmmkchokkaaaaGreatDoorPk17
set_option maxRecDepth 100000
set_option maxHeartbeats 2000000
namespace Go.Proofs.YtllmmkchokkaaaaGreatDoor
open Go.RowKit Go.Maps
def tkB (x:Nat→Ti) (now:Int) (i:Nat):Bool:=tiB (x i) now&&(i==0||ltB (x (i-1)).client (x i).client)
def tkS (n:Nat) (x:Nat→Ti) (now:Int):Bool:=decide (n≤50)&&allTo (tkB x now) n
theorem specTics_any (now floor:Int) (n:Nat) (x:Nat→Ti) (a1 a2 a3:Option Addr) (n1 c1 n2 c2 c3:Nat) (w:World) (lo hi:Nat) (hhi:hi≤w.1.size) (hl:(n:Int)≤1099511627776) (hf:∀ i,i<n→TiFit (x i)) (hc:TicsIn w lo hi a3 n x) :
  Calls Tryz.prog 73 #[.agg #[.int .i64 now,.int .i64 floor,.slice a1 n1 c1,.slice a2 n2 c2,.slice a3 n c3]] w fun e w'=>e=.returned (.bool (tkS n x now))∧Below w.1.size w w':=by
 by_cases h50:(50:Int)<n
 ·have HE:=hid (show tkS n x now=false by unfold tkS;rw [decide_eq_false (by omega)];rfl)
  go_enter Tryz.func73,Tryz.ntmps73
  go_wp2
  go_ret
  exact ⟨ret_bool HE.out.symm,below_alloc' _ _⟩
 go_enter Tryz.func73,Tryz.ntmps73
 go_wp2
 go_loopw [3] (fun i wr=>∃ k:Nat,k≤n∧i=.int .i64 k∧(∀ j,j<k→tkB x now j=true)∧Below (w.1.size+1) (w.alloc (.cells #[.int .i64 now,.int .i64 floor,.slice a1 n1 c1,.slice a2 n2 c2,.slice a3 n c3] 35)) wr) (fun i _=>n-(intOf i).toNat)
 case atStart=>exact ⟨0,Nat.zero_le _,rfl,fun j hj=>absurd hj (Nat.not_lt_zero _),Below.refl _ _⟩
 case round=>
  obtain ⟨k,hk,rfl,hall,hb⟩:=hrel
  have hBw:Below w.1.size w wr:=(below_alloc' _ _).trans (hb.mono (by omega))
  have hsz:w.1.size+1≤wr.1.size:=by have:=hb.size;simpa using this
  have e0:wr.cell? ⟨w.1.size,0,none⟩=some (.int .i64 now):=(hb.cell (p:=⟨w.1.size,0,none⟩) (by show w.1.size<_;omega)).trans (by simp)
  have e4:wr.cell? ⟨w.1.size,4,none⟩=some (.slice a3 n c3):=(hb.cell (p:=⟨w.1.size,4,none⟩) (by show w.1.size<_;omega)).trans (by simp)
  by_cases hkn:k<n
  ·obtain ⟨b,off,rfl,hlo,hbh,hcx⟩:=hc k hkn
   have hfc:=(hf k hkn).c
   have hfp:=(hf k hkn).p
   obtain ⟨d0,d1,d2,d3,d4⟩:=hcx.below hBw (by omega)
   have hbw:b<wr.1.size:=by omega
   have hzw:w.1.size<wr.1.size:=by omega
   have HA:=hid hall
   have hne:Nonempty (GW (wr.alloc (.cells #[.string (x k).client,.int .i64 (x k).num,.string (x k).print,.int .i64 (x k).code,.int .i64 (x k).ver] 130))):=⟨⟨_,Below.refl _ _⟩⟩
   have z0:=subcell (W1:=wr.alloc (.cells #[.string (x k).client,.int .i64 (x k).num,.string (x k).print,.int .i64 (x k).code,.int .i64 (x k).ver] 130)) (p:=⟨w.1.size,0,none⟩) ((World.cell?_alloc_past _ _ _ hzw).trans e0) (by simp;omega)
   have z4:=subcell (W1:=wr.alloc (.cells #[.string (x k).client,.int .i64 (x k).num,.string (x k).print,.int .i64 (x k).code,.int .i64 (x k).ver] 130)) (p:=⟨w.1.size,4,none⟩) ((World.cell?_alloc_past _ _ _ hzw).trans e4) (by simp;omega)
   have x0:=subcell (W1:=wr.alloc (.cells #[.string (x k).client,.int .i64 (x k).num,.string (x k).print,.int .i64 (x k).code,.int .i64 (x k).ver] 130)) (p:=⟨wr.1.size,0,none⟩) (v:=.string (x k).client) (by simp) (by simp)
   have x1:=subcell (W1:=wr.alloc (.cells #[.string (x k).client,.int .i64 (x k).num,.string (x k).print,.int .i64 (x k).code,.int .i64 (x k).ver] 130)) (p:=⟨wr.1.size,1,none⟩) (v:=.int .i64 (x k).num) (by simp) (by simp)
   have x2:=subcell (W1:=wr.alloc (.cells #[.string (x k).client,.int .i64 (x k).num,.string (x k).print,.int .i64 (x k).code,.int .i64 (x k).ver] 130)) (p:=⟨wr.1.size,2,none⟩) (v:=.string (x k).print) (by simp) (by simp)
   have x3:=subcell (W1:=wr.alloc (.cells #[.string (x k).client,.int .i64 (x k).num,.string (x k).print,.int .i64 (x k).code,.int .i64 (x k).ver] 130)) (p:=⟨wr.1.size,3,none⟩) (v:=.int .i64 (x k).code) (by simp) (by simp)
   have x4:=subcell (W1:=wr.alloc (.cells #[.string (x k).client,.int .i64 (x k).num,.string (x k).print,.int .i64 (x k).code,.int .i64 (x k).ver] 130)) (p:=⟨wr.1.size,4,none⟩) (v:=.int .i64 (x k).ver) (by simp) (by simp)
   clear hall hcx
   have hd9:=d0
   go_wp2
   clear d0 d1 d2 d3 d4 e0 e4
   cases hn:nameB (x k).client with
   | false=>
    clear hc hf
    have HE:=hid (show tkS n x now=false by unfold tkS;rw [allTo_no (p:=tkB x now) hkn (by simp [tkB,tiB,hn])];simp)
    refine wp_region_grow (by kernel_rfl) (by kernel_rfl) ?_
    repeat (go_big_quiet_step ((first|(go_at_call 110;exact grow_of ((nameOk_any _ _ hfc).mono (fun e w' h=>⟨h.1,h.2▸Below.refl _ _⟩)))|(go_at_call 70;exact grow_of ((in_any _ _ _ _).mono (fun e w' h=>⟨h.1,h.2▸Below.refl _ _⟩))))))
    refine wpQuiet_nil ?_
    rintro w2 ⟨u,hu⟩
    have hw2:Below (wr.1.size+1) (wr.alloc (.cells #[.string (x (k)).client,.int .i64 (x (k)).num,.string (x (k)).print,.int .i64 (x (k)).code,.int .i64 (x (k)).ver] 130)) w2:=by have h9:=hu▸u.prop;simpa using h9
    clear hu u
    go_wp2
    go_ret
    exact ⟨ret_bool HE.out.symm,(hBw.alloc hBw.size _).trans (hw2.mono (by omega))⟩
   | true=>
    rcases Nat.eq_zero_or_pos k with hk0|hpos
    ·clear hc hf
     have hg:decide ((0:Int)<(k:Int))=false:=decide_eq_false (by omega)
     have hg2:decide (0<k)=false:=decide_eq_false (by omega)
     have hkb:(k==0)=true:=by simp [hk0]
     clear hk0
     cases h1:inB (x (k)).num 1 1000000 with
     | false=>
      have HE:=hid (show tkS n x now=false by unfold tkS;rw [allTo_no (p:=tkB x now) hkn (by simp [tkB,tiB,hn,hkb,h1])];simp)
      refine wp_region_grow (by kernel_rfl) (by kernel_rfl) ?_
      repeat (go_big_quiet_step ((first|(go_at_call 110;exact grow_of ((nameOk_any _ _ hfc).mono (fun e w' h=>⟨h.1,h.2▸Below.refl _ _⟩)))|(go_at_call 70;exact grow_of ((in_any _ _ _ _).mono (fun e w' h=>⟨h.1,h.2▸Below.refl _ _⟩))))))
      refine wpQuiet_nil ?_
      rintro w2 ⟨u,hu⟩
      have hw2:Below (wr.1.size+1) (wr.alloc (.cells #[.string (x (k)).client,.int .i64 (x (k)).num,.string (x (k)).print,.int .i64 (x (k)).code,.int .i64 (x (k)).ver] 130)) w2:=by have h9:=hu▸u.prop;simpa using h9
      clear hu u
      go_wp2
      go_ret
      exact ⟨ret_bool HE.out.symm,(hBw.alloc hBw.size _).trans (hw2.mono (by omega))⟩
     | true=>
     by_cases hp:(x (k)).print.size=8
     case neg=>
      have hpz:(((x (k)).print.size:Int)==8)=false:=by simp;omega
      have hpn:(((x (k)).print.size:Int) != 8)=true:=by simp;omega
      have HE:=hid (show tkS n x now=false by unfold tkS;rw [allTo_no (p:=tkB x now) hkn (by simp [tkB,tiB,hn,hkb,h1,hp])];simp)
      refine wp_region_grow (by kernel_rfl) (by kernel_rfl) ?_
      repeat (go_big_quiet_step ((first|(go_at_call 110;exact grow_of ((nameOk_any _ _ hfc).mono (fun e w' h=>⟨h.1,h.2▸Below.refl _ _⟩)))|(go_at_call 70;exact grow_of ((in_any _ _ _ _).mono (fun e w' h=>⟨h.1,h.2▸Below.refl _ _⟩))))))
      refine wpQuiet_nil ?_
      rintro w2 ⟨u,hu⟩
      have hw2:Below (wr.1.size+1) (wr.alloc (.cells #[.string (x (k)).client,.int .i64 (x (k)).num,.string (x (k)).print,.int .i64 (x (k)).code,.int .i64 (x (k)).ver] 130)) w2:=by have h9:=hu▸u.prop;simpa using h9
      clear hu u
      go_wp2
      go_ret
      exact ⟨ret_bool HE.out.symm,(hBw.alloc hBw.size _).trans (hw2.mono (by omega))⟩
     have hpz:(((x (k)).print.size:Int)==8)=true:=by simp;omega
     have hpn:(((x (k)).print.size:Int) != 8)=false:=by simp;omega
     have HP8:=hid hp
     clear hp
     cases h2:inB (x (k)).code 0 9 with
     | false=>
      have HE:=hid (show tkS n x now=false by unfold tkS;rw [allTo_no (p:=tkB x now) hkn (by simp [tkB,tiB,hn,hkb,h1,h2])];simp)
      refine wp_region_grow (by kernel_rfl) (by kernel_rfl) ?_
      repeat (go_big_quiet_step ((first|(go_at_call 110;exact grow_of ((nameOk_any _ _ hfc).mono (fun e w' h=>⟨h.1,h.2▸Below.refl _ _⟩)))|(go_at_call 70;exact grow_of ((in_any _ _ _ _).mono (fun e w' h=>⟨h.1,h.2▸Below.refl _ _⟩))))))
      refine wpQuiet_nil ?_
      rintro w2 ⟨u,hu⟩
      have hw2:Below (wr.1.size+1) (wr.alloc (.cells #[.string (x (k)).client,.int .i64 (x (k)).num,.string (x (k)).print,.int .i64 (x (k)).code,.int .i64 (x (k)).ver] 130)) w2:=by have h9:=hu▸u.prop;simpa using h9
      clear hu u
      go_wp2
      go_ret
      exact ⟨ret_bool HE.out.symm,(hBw.alloc hBw.size _).trans (hw2.mono (by omega))⟩
     | true=>
     cases h3:inB (x (k)).ver 0 now with
     | false=>
      have HE:=hid (show tkS n x now=false by unfold tkS;rw [allTo_no (p:=tkB x now) hkn (by simp [tkB,tiB,hn,hkb,h1,h2,h3])];simp)
      refine wp_region_grow (by kernel_rfl) (by kernel_rfl) ?_
      repeat (go_big_quiet_step ((first|(go_at_call 110;exact grow_of ((nameOk_any _ _ hfc).mono (fun e w' h=>⟨h.1,h.2▸Below.refl _ _⟩)))|(go_at_call 70;exact grow_of ((in_any _ _ _ _).mono (fun e w' h=>⟨h.1,h.2▸Below.refl _ _⟩))))))
      refine wpQuiet_nil ?_
      rintro w2 ⟨u,hu⟩
      have hw2:Below (wr.1.size+1) (wr.alloc (.cells #[.string (x (k)).client,.int .i64 (x (k)).num,.string (x (k)).print,.int .i64 (x (k)).code,.int .i64 (x (k)).ver] 130)) w2:=by have h9:=hu▸u.prop;simpa using h9
      clear hu u
      go_wp2
      go_ret
      exact ⟨ret_bool HE.out.symm,(hBw.alloc hBw.size _).trans (hw2.mono (by omega))⟩
     | true=>
      have HN:=hid (show tkB x now (k)=true by simp [tkB,tiB,hn,hkb,h1,h2,h3,HP8.out])
      refine wp_region_grow (by kernel_rfl) (by kernel_rfl) ?_
      repeat (go_big_quiet_step ((first|(go_at_call 110;exact grow_of ((nameOk_any _ _ hfc).mono (fun e w' h=>⟨h.1,h.2▸Below.refl _ _⟩)))|(go_at_call 70;exact grow_of ((in_any _ _ _ _).mono (fun e w' h=>⟨h.1,h.2▸Below.refl _ _⟩))))))
      refine wpQuiet_nil ?_
      rintro w2 ⟨u,hu⟩
      have hw2:Below (wr.1.size+1) (wr.alloc (.cells #[.string (x (k)).client,.int .i64 (x (k)).num,.string (x (k)).print,.int .i64 (x (k)).code,.int .i64 (x (k)).ver] 130)) w2:=by have h9:=hu▸u.prop;simpa using h9
      clear hu u
      go_wp2
      go_roundw
      case rel=>exact ⟨k+1,by omega,by go_num,fun j hj=>(by
       rcases Nat.lt_or_ge j (k) with h3|h3
       ·exact HA.out j h3
       ·have:j=k:=by omega
        subst this;exact HN.out),(hb.alloc hsz _).trans (hw2.mono (by omega))⟩
      case measure=>simp [intOf];omega
    ·obtain ⟨m,rfl⟩:∃ m,k=m+1:=⟨k-1,by omega⟩
     obtain ⟨b',off',e,_,_,hcy⟩:=hc m (by omega)
     cases e
     have y0:=subcell (W1:=wr.alloc (.cells #[.string (x (m+1)).client,.int .i64 (x (m+1)).num,.string (x (m+1)).print,.int .i64 (x (m+1)).code,.int .i64 (x (m+1)).ver] 130)) (p:=⟨b,off+m*5,none⟩) ((World.cell?_alloc_past _ _ _ hbw).trans (hcy.below hBw (by omega)).c0) (by simp;omega)
     have hg:decide ((0:Int)<((m+1:Nat):Int))=true:=decide_eq_true (by omega)
     clear hc hf hcy
     cases hlt:ltB (x m).client (x (m+1)).client with
     | false=>
      have hlt':Op.bytesLess (x m).client.toList (x (m+1)).client.toList=false:=hlt
      have HE:=hid (show tkS n x now=false by unfold tkS;rw [allTo_no (p:=tkB x now) hkn (by simp [tkB,tiB,hlt])];simp)
      refine wp_region_grow (by kernel_rfl) (by kernel_rfl) ?_
      repeat (go_big_quiet_step ((first|(go_at_call 110;exact grow_of ((nameOk_any _ _ hfc).mono (fun e w' h=>⟨h.1,h.2▸Below.refl _ _⟩)))|(go_at_call 70;exact grow_of ((in_any _ _ _ _).mono (fun e w' h=>⟨h.1,h.2▸Below.refl _ _⟩))))))
      refine wpQuiet_nil ?_
      rintro w2 ⟨u,hu⟩
      have hw2:Below (wr.1.size+1) (wr.alloc (.cells #[.string (x (m+1)).client,.int .i64 (x (m+1)).num,.string (x (m+1)).print,.int .i64 (x (m+1)).code,.int .i64 (x (m+1)).ver] 130)) w2:=by have h9:=hu▸u.prop;simpa using h9
      clear hu u
      go_wp2
      go_ret
      exact ⟨ret_bool HE.out.symm,(hBw.alloc hBw.size _).trans (hw2.mono (by omega))⟩
     | true=>
     have hlt':Op.bytesLess (x m).client.toList (x (m+1)).client.toList=true:=hlt
     cases h1:inB (x (m+1)).num 1 1000000 with
     | false=>
      have HE:=hid (show tkS n x now=false by unfold tkS;rw [allTo_no (p:=tkB x now) hkn (by simp [tkB,tiB,hn,hlt,h1])];simp)
      refine wp_region_grow (by kernel_rfl) (by kernel_rfl) ?_
      repeat (go_big_quiet_step ((first|(go_at_call 110;exact grow_of ((nameOk_any _ _ hfc).mono (fun e w' h=>⟨h.1,h.2▸Below.refl _ _⟩)))|(go_at_call 70;exact grow_of ((in_any _ _ _ _).mono (fun e w' h=>⟨h.1,h.2▸Below.refl _ _⟩))))))
      refine wpQuiet_nil ?_
      rintro w2 ⟨u,hu⟩
      have hw2:Below (wr.1.size+1) (wr.alloc (.cells #[.string (x (m+1)).client,.int .i64 (x (m+1)).num,.string (x (m+1)).print,.int .i64 (x (m+1)).code,.int .i64 (x (m+1)).ver] 130)) w2:=by have h9:=hu▸u.prop;simpa using h9
      clear hu u
      go_wp2
      go_ret
      exact ⟨ret_bool HE.out.symm,(hBw.alloc hBw.size _).trans (hw2.mono (by omega))⟩
     | true=>
     by_cases hp:(x (m+1)).print.size=8
     case neg=>
      have hpz:(((x (m+1)).print.size:Int)==8)=false:=by simp;omega
      have hpn:(((x (m+1)).print.size:Int) != 8)=true:=by simp;omega
      have HE:=hid (show tkS n x now=false by unfold tkS;rw [allTo_no (p:=tkB x now) hkn (by simp [tkB,tiB,hn,hlt,h1,hp])];simp)
      refine wp_region_grow (by kernel_rfl) (by kernel_rfl) ?_
      repeat (go_big_quiet_step ((first|(go_at_call 110;exact grow_of ((nameOk_any _ _ hfc).mono (fun e w' h=>⟨h.1,h.2▸Below.refl _ _⟩)))|(go_at_call 70;exact grow_of ((in_any _ _ _ _).mono (fun e w' h=>⟨h.1,h.2▸Below.refl _ _⟩))))))
      refine wpQuiet_nil ?_
      rintro w2 ⟨u,hu⟩
      have hw2:Below (wr.1.size+1) (wr.alloc (.cells #[.string (x (m+1)).client,.int .i64 (x (m+1)).num,.string (x (m+1)).print,.int .i64 (x (m+1)).code,.int .i64 (x (m+1)).ver] 130)) w2:=by have h9:=hu▸u.prop;simpa using h9
      clear hu u
      go_wp2
      go_ret
      exact ⟨ret_bool HE.out.symm,(hBw.alloc hBw.size _).trans (hw2.mono (by omega))⟩
     have hpz:(((x (m+1)).print.size:Int)==8)=true:=by simp;omega
     have hpn:(((x (m+1)).print.size:Int) != 8)=false:=by simp;omega
     have HP8:=hid hp
     clear hp
     cases h2:inB (x (m+1)).code 0 9 with
     | false=>
      have HE:=hid (show tkS n x now=false by unfold tkS;rw [allTo_no (p:=tkB x now) hkn (by simp [tkB,tiB,hn,hlt,h1,h2])];simp)
      refine wp_region_grow (by kernel_rfl) (by kernel_rfl) ?_
      repeat (go_big_quiet_step ((first|(go_at_call 110;exact grow_of ((nameOk_any _ _ hfc).mono (fun e w' h=>⟨h.1,h.2▸Below.refl _ _⟩)))|(go_at_call 70;exact grow_of ((in_any _ _ _ _).mono (fun e w' h=>⟨h.1,h.2▸Below.refl _ _⟩))))))
      refine wpQuiet_nil ?_
      rintro w2 ⟨u,hu⟩
      have hw2:Below (wr.1.size+1) (wr.alloc (.cells #[.string (x (m+1)).client,.int .i64 (x (m+1)).num,.string (x (m+1)).print,.int .i64 (x (m+1)).code,.int .i64 (x (m+1)).ver] 130)) w2:=by have h9:=hu▸u.prop;simpa using h9
      clear hu u
      go_wp2
      go_ret
      exact ⟨ret_bool HE.out.symm,(hBw.alloc hBw.size _).trans (hw2.mono (by omega))⟩
     | true=>
     cases h3:inB (x (m+1)).ver 0 now with
     | false=>
      have HE:=hid (show tkS n x now=false by unfold tkS;rw [allTo_no (p:=tkB x now) hkn (by simp [tkB,tiB,hn,hlt,h1,h2,h3])];simp)
      refine wp_region_grow (by kernel_rfl) (by kernel_rfl) ?_
      repeat (go_big_quiet_step ((first|(go_at_call 110;exact grow_of ((nameOk_any _ _ hfc).mono (fun e w' h=>⟨h.1,h.2▸Below.refl _ _⟩)))|(go_at_call 70;exact grow_of ((in_any _ _ _ _).mono (fun e w' h=>⟨h.1,h.2▸Below.refl _ _⟩))))))
      refine wpQuiet_nil ?_
      rintro w2 ⟨u,hu⟩
      have hw2:Below (wr.1.size+1) (wr.alloc (.cells #[.string (x (m+1)).client,.int .i64 (x (m+1)).num,.string (x (m+1)).print,.int .i64 (x (m+1)).code,.int .i64 (x (m+1)).ver] 130)) w2:=by have h9:=hu▸u.prop;simpa using h9
      clear hu u
      go_wp2
      go_ret
      exact ⟨ret_bool HE.out.symm,(hBw.alloc hBw.size _).trans (hw2.mono (by omega))⟩
     | true=>
      have HN:=hid (show tkB x now (m+1)=true by simp [tkB,tiB,hn,hlt,h1,h2,h3,HP8.out])
      refine wp_region_grow (by kernel_rfl) (by kernel_rfl) ?_
      repeat (go_big_quiet_step ((first|(go_at_call 110;exact grow_of ((nameOk_any _ _ hfc).mono (fun e w' h=>⟨h.1,h.2▸Below.refl _ _⟩)))|(go_at_call 70;exact grow_of ((in_any _ _ _ _).mono (fun e w' h=>⟨h.1,h.2▸Below.refl _ _⟩))))))
      refine wpQuiet_nil ?_
      rintro w2 ⟨u,hu⟩
      have hw2:Below (wr.1.size+1) (wr.alloc (.cells #[.string (x (m+1)).client,.int .i64 (x (m+1)).num,.string (x (m+1)).print,.int .i64 (x (m+1)).code,.int .i64 (x (m+1)).ver] 130)) w2:=by have h9:=hu▸u.prop;simpa using h9
      clear hu u
      go_wp2
      go_roundw
      case rel=>exact ⟨m+1+1,by omega,by go_num,fun j hj=>(by
       rcases Nat.lt_or_ge j (m+1) with h3|h3
       ·exact HA.out j h3
       ·have:j=m+1:=by omega
        subst this;exact HN.out),(hb.alloc hsz _).trans (hw2.mono (by omega))⟩
      case measure=>simp [intOf];omega
  ·have HE:=hid (show tkS n x now=true by unfold tkS;rw [decide_eq_true (show n≤50 by omega),allTo_iff.2 (fun i hi=>hall i (by omega))];rfl)
   clear hc hf hall
   go_wp2
   go_ret
   exact ⟨ret_bool HE.out.symm,hBw⟩
end Go.Proofs.YtllmmkchokkaaaaGreatDoor
