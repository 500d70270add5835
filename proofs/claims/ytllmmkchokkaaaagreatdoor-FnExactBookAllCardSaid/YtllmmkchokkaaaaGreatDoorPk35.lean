import Derived.Test.YtllmmkchokkaaaaGreatDoorPk17
import Derived.Test.YtllmmkchokkaaaaGreatDoorPk20
import Derived.Test.YtllmmkchokkaaaaGreatDoorPk19
import Derived.Test.YtllmmkchokkaaaaGreatDoorPk14
import Derived.Deep.Cut
import Derived.Deep.CutRange
set_option maxRecDepth 100000
set_option maxHeartbeats 4000000
namespace Go.Proofs.YtllmmkchokkaaaaGreatDoor
open Go.RowKit Go.Maps
def tkB (x:Nat→Ti) (now:Int) (i:Nat):Bool:=tiB (x i) now&&(i==0||ltB (x (i-1)).client (x i).client)
def tkS (n:Nat) (x:Nat→Ti) (now:Int):Bool:=decide (n≤50)&&allTo (tkB x now) n
theorem apP350 {P:Prop} (h:P:=by
  refine wp_region_grow Zf Zf ?_
  repeat (go_big_quiet_step ((first|(go_at_call 110;exact grow_of ((nameOk_any _ _ hfc).mono (fun e w' h=>⟨h.1,h.2▸Below.refl _ _⟩)))|(go_at_call 70;exact grow_of ((in_any _ _ _ _).mono (fun e w' h=>⟨h.1,h.2▸Below.refl _ _⟩))))))
  refine wpQuiet_nil ?_
  rintro w2 ⟨u,hu⟩
  have hw2:Below (wr.1.size+1) (wr.alloc (.cells #[.string (x (m+1)).client,.int .i64 (x (m+1)).num,.string (x (m+1)).print,.int .i64 (x (m+1)).code,.int .i64 (x (m+1)).ver] 130)) w2:=by have h9:=hu▸u.prop;simpa using h9
  clear hu u
  go_wp2
  go_ret
  exact ⟨ret_bool HE.out.symm,(hBw.alloc hBw.size _).trans (hw2.mono Za)⟩):P:=h
theorem apP351 {P:Prop} (h:P:=by
  refine wp_region_grow Zf Zf ?_
  repeat (go_big_quiet_step ((first|(go_at_call 110;exact grow_of ((nameOk_any _ _ hfc).mono (fun e w' h=>⟨h.1,h.2▸Below.refl _ _⟩)))|(go_at_call 70;exact grow_of ((in_any _ _ _ _).mono (fun e w' h=>⟨h.1,h.2▸Below.refl _ _⟩))))))
  refine wpQuiet_nil ?_
  rintro w2 ⟨u,hu⟩
  have hw2:Below (wr.1.size+1) (wr.alloc (.cells #[.string (x (k)).client,.int .i64 (x (k)).num,.string (x (k)).print,.int .i64 (x (k)).code,.int .i64 (x (k)).ver] 130)) w2:=by have h9:=hu▸u.prop;simpa using h9
  clear hu u
  go_wp2
  go_ret
  exact ⟨ret_bool HE.out.symm,(hBw.alloc hBw.size _).trans (hw2.mono Za)⟩):P:=h
theorem specTics_any (now floor:Int) (n:Nat) (x:Nat→Ti) (a1 a2 a3:Option Addr) (n1 c1 n2 c2 c3:Nat) (w:World) (lo hi:Nat) (hhi:hi≤w.1.size) (hl:(n:Int)≤1099511627776) (hf:∀ i,i<n→TiFit (x i)) (hc:TicsIn w lo hi a3 n x) :
  Calls Tryz.prog 73 #[.agg #[.int .i64 now,.int .i64 floor,.slice a1 n1 c1,.slice a2 n2 c2,.slice a3 n c3]] w fun e w'=>e=.returned (.bool (tkS n x now))∧Below w.1.size w w':=by
 by_cases h50:(50:Int)<n
 ·have HE:=hid (show tkS n x now=false by unfold tkS;rw [decide_eq_false Za];rfl)
  go_enter Tryz.func73,Tryz.ntmps73
  go_wp2
  go_ret
  exact ⟨ret_bool HE.out.symm,below_alloc' _ _⟩
 go_enter Tryz.func73,Tryz.ntmps73
 go_wp2
 go_loopw [3] (fun i wr=>∃ k:Nat,k≤n∧i=.int .i64 k∧(∀ j,j<k→tkB x now j=true)∧Below (w.1.size+1) (w.alloc (.cells #[.int .i64 now,.int .i64 floor,.slice a1 n1 c1,.slice a2 n2 c2,.slice a3 n c3] 35)) wr) (fun i _=>n-(intOf i).toNat)
 case atStart=>exact ⟨0,Nat.zero_le _,rfl,fun j hj=>absurd hj (Nat.not_lt_zero _),Below.refl _ _⟩
 case round=>
  obtain ⟨k,hk,rfl,hall,hb⟩:=hrel
  have hBw:Below w.1.size w wr:=(below_alloc' _ _).trans (hb.mono Za)
  have hsz:w.1.size+1≤wr.1.size:=by have:=hb.size;simpa using this
  have e0:wr.cell? ⟨w.1.size,0,none⟩=some (.int .i64 now):=(hb.cell (p:=⟨w.1.size,0,none⟩) Zh).trans Zd
  have e4:wr.cell? ⟨w.1.size,4,none⟩=some (.slice a3 n c3):=(hb.cell (p:=⟨w.1.size,4,none⟩) Zh).trans Zd
  by_cases hkn:k<n
  ·obtain ⟨b,off,rfl,hlo,hbh,hcx⟩:=hc k hkn
   have hfc:=(hf k hkn).c
   have hfp:=(hf k hkn).p
   obtain ⟨d0,d1,d2,d3,d4⟩:=hcx.below hBw Za
   have hbw:b<wr.1.size:=Za
   have hzw:w.1.size<wr.1.size:=Za
   have HA:=hid hall
   have hne:Nonempty (GW (wr.alloc (.cells #[.string (x k).client,.int .i64 (x k).num,.string (x k).print,.int .i64 (x k).code,.int .i64 (x k).ver] 130))):=⟨⟨_,Below.refl _ _⟩⟩
   have z0:=subcell (W1:=wr.alloc (.cells #[.string (x k).client,.int .i64 (x k).num,.string (x k).print,.int .i64 (x k).code,.int .i64 (x k).ver] 130)) (p:=⟨w.1.size,0,none⟩) ((World.cell?_alloc_past _ _ _ hzw).trans e0) Zc
   have z4:=subcell (W1:=wr.alloc (.cells #[.string (x k).client,.int .i64 (x k).num,.string (x k).print,.int .i64 (x k).code,.int .i64 (x k).ver] 130)) (p:=⟨w.1.size,4,none⟩) ((World.cell?_alloc_past _ _ _ hzw).trans e4) Zc
   have x0:=subcell (W1:=wr.alloc (.cells #[.string (x k).client,.int .i64 (x k).num,.string (x k).print,.int .i64 (x k).code,.int .i64 (x k).ver] 130)) (p:=⟨wr.1.size,0,none⟩) (v:=.string (x k).client) Zd Zd
   have x1:=subcell (W1:=wr.alloc (.cells #[.string (x k).client,.int .i64 (x k).num,.string (x k).print,.int .i64 (x k).code,.int .i64 (x k).ver] 130)) (p:=⟨wr.1.size,1,none⟩) (v:=.int .i64 (x k).num) Zd Zd
   have x2:=subcell (W1:=wr.alloc (.cells #[.string (x k).client,.int .i64 (x k).num,.string (x k).print,.int .i64 (x k).code,.int .i64 (x k).ver] 130)) (p:=⟨wr.1.size,2,none⟩) (v:=.string (x k).print) Zd Zd
   have x3:=subcell (W1:=wr.alloc (.cells #[.string (x k).client,.int .i64 (x k).num,.string (x k).print,.int .i64 (x k).code,.int .i64 (x k).ver] 130)) (p:=⟨wr.1.size,3,none⟩) (v:=.int .i64 (x k).code) Zd Zd
   have x4:=subcell (W1:=wr.alloc (.cells #[.string (x k).client,.int .i64 (x k).num,.string (x k).print,.int .i64 (x k).code,.int .i64 (x k).ver] 130)) (p:=⟨wr.1.size,4,none⟩) (v:=.int .i64 (x k).ver) Zd Zd
   clear hall hcx
   have hd9:=d0
   go_wp2
   clear d0 d1 d2 d3 d4 e0 e4
   cases hn:nameB (x k).client with
   | false=>
    clear hc hf
    have HE:=hid (show tkS n x now=false by unfold tkS;rw [allTo_no (p:=tkB x now) hkn (by simp [tkB,tiB,hn])];simp)
    exact apP351
   | true=>
    rcases Nat.eq_zero_or_pos k with hk0|hpos
    ·clear hc hf
     have hg:decide ((0:Int)<(k:Int))=false:=decide_eq_false Za
     have hg2:decide (0<k)=false:=decide_eq_false Za
     have hkb:(k==0)=true:=by simp [hk0]
     clear hk0
     cases h1:inB (x (k)).num 1 1000000 with
     | false=>
      have HE:=hid (show tkS n x now=false by unfold tkS;rw [allTo_no (p:=tkB x now) hkn (by simp [tkB,tiB,hn,hkb,h1])];simp)
      exact apP351
     | true=>
     by_cases hp:(x (k)).print.size=8
     case neg=>
      have hpz:(((x (k)).print.size:Int)==8)=false:=Zc
      have hpn:(((x (k)).print.size:Int) != 8)=true:=Zc
      have HE:=hid (show tkS n x now=false by unfold tkS;rw [allTo_no (p:=tkB x now) hkn (by simp [tkB,tiB,hn,hkb,h1,hp])];simp)
      exact apP351
     have hpz:(((x (k)).print.size:Int)==8)=true:=Zc
     have hpn:(((x (k)).print.size:Int) != 8)=false:=Zc
     have HP8:=hid hp
     clear hp
     cases h2:inB (x (k)).code 0 9 with
     | false=>
      have HE:=hid (show tkS n x now=false by unfold tkS;rw [allTo_no (p:=tkB x now) hkn (by simp [tkB,tiB,hn,hkb,h1,h2])];simp)
      exact apP351
     | true=>
     cases h3:inB (x (k)).ver 0 now with
     | false=>
      have HE:=hid (show tkS n x now=false by unfold tkS;rw [allTo_no (p:=tkB x now) hkn (by simp [tkB,tiB,hn,hkb,h1,h2,h3])];simp)
      exact apP351
     | true=>
      have HN:=hid (show tkB x now (k)=true by simp [tkB,tiB,hn,hkb,h1,h2,h3,HP8.out])
      refine wp_region_grow Zf Zf ?_
      repeat (go_big_quiet_step ((first|(go_at_call 110;exact grow_of ((nameOk_any _ _ hfc).mono (fun e w' h=>⟨h.1,h.2▸Below.refl _ _⟩)))|(go_at_call 70;exact grow_of ((in_any _ _ _ _).mono (fun e w' h=>⟨h.1,h.2▸Below.refl _ _⟩))))))
      refine wpQuiet_nil ?_
      rintro w2 ⟨u,hu⟩
      have hw2:Below (wr.1.size+1) (wr.alloc (.cells #[.string (x (k)).client,.int .i64 (x (k)).num,.string (x (k)).print,.int .i64 (x (k)).code,.int .i64 (x (k)).ver] 130)) w2:=by have h9:=hu▸u.prop;simpa using h9
      clear hu u
      go_wp2
      go_roundw
      case rel=>exact ⟨k+1,Za,by go_num,fun j hj=>(by
       rcases Nat.lt_or_ge j (k) with h3|h3
       ·exact HA.out j h3
       ·have:j=k:=Za
        subst this;exact HN.out),(hb.alloc hsz _).trans (hw2.mono Za)⟩
      case measure=>simp [intOf];omega
    ·obtain ⟨m,rfl⟩:∃ m,k=m+1:=⟨k-1,Za⟩
     obtain ⟨b',off',e,_,_,hcy⟩:=hc m Za
     cases e
     have y0:=subcell (W1:=wr.alloc (.cells #[.string (x (m+1)).client,.int .i64 (x (m+1)).num,.string (x (m+1)).print,.int .i64 (x (m+1)).code,.int .i64 (x (m+1)).ver] 130)) (p:=⟨b,off+m*5,none⟩) ((World.cell?_alloc_past _ _ _ hbw).trans (hcy.below hBw Za).c0) Zc
     have hg:decide ((0:Int)<((m+1:Nat):Int))=true:=decide_eq_true Za
     clear hc hf hcy
     cases hlt:ltB (x m).client (x (m+1)).client with
     | false=>
      have hlt':Op.bytesLess (x m).client.toList (x (m+1)).client.toList=false:=hlt
      have HE:=hid (show tkS n x now=false by unfold tkS;rw [allTo_no (p:=tkB x now) hkn (by simp [tkB,tiB,hlt])];simp)
      exact apP350
     | true=>
     have hlt':Op.bytesLess (x m).client.toList (x (m+1)).client.toList=true:=hlt
     cases h1:inB (x (m+1)).num 1 1000000 with
     | false=>
      have HE:=hid (show tkS n x now=false by unfold tkS;rw [allTo_no (p:=tkB x now) hkn (by simp [tkB,tiB,hn,hlt,h1])];simp)
      exact apP350
     | true=>
     by_cases hp:(x (m+1)).print.size=8
     case neg=>
      have hpz:(((x (m+1)).print.size:Int)==8)=false:=Zc
      have hpn:(((x (m+1)).print.size:Int) != 8)=true:=Zc
      have HE:=hid (show tkS n x now=false by unfold tkS;rw [allTo_no (p:=tkB x now) hkn (by simp [tkB,tiB,hn,hlt,h1,hp])];simp)
      exact apP350
     have hpz:(((x (m+1)).print.size:Int)==8)=true:=Zc
     have hpn:(((x (m+1)).print.size:Int) != 8)=false:=Zc
     have HP8:=hid hp
     clear hp
     cases h2:inB (x (m+1)).code 0 9 with
     | false=>
      have HE:=hid (show tkS n x now=false by unfold tkS;rw [allTo_no (p:=tkB x now) hkn (by simp [tkB,tiB,hn,hlt,h1,h2])];simp)
      exact apP350
     | true=>
     cases h3:inB (x (m+1)).ver 0 now with
     | false=>
      have HE:=hid (show tkS n x now=false by unfold tkS;rw [allTo_no (p:=tkB x now) hkn (by simp [tkB,tiB,hn,hlt,h1,h2,h3])];simp)
      exact apP350
     | true=>
      have HN:=hid (show tkB x now (m+1)=true by simp [tkB,tiB,hn,hlt,h1,h2,h3,HP8.out])
      refine wp_region_grow Zf Zf ?_
      repeat (go_big_quiet_step ((first|(go_at_call 110;exact grow_of ((nameOk_any _ _ hfc).mono (fun e w' h=>⟨h.1,h.2▸Below.refl _ _⟩)))|(go_at_call 70;exact grow_of ((in_any _ _ _ _).mono (fun e w' h=>⟨h.1,h.2▸Below.refl _ _⟩))))))
      refine wpQuiet_nil ?_
      rintro w2 ⟨u,hu⟩
      have hw2:Below (wr.1.size+1) (wr.alloc (.cells #[.string (x (m+1)).client,.int .i64 (x (m+1)).num,.string (x (m+1)).print,.int .i64 (x (m+1)).code,.int .i64 (x (m+1)).ver] 130)) w2:=by have h9:=hu▸u.prop;simpa using h9
      clear hu u
      go_wp2
      go_roundw
      case rel=>exact ⟨m+1+1,Za,by go_num,fun j hj=>(by
       rcases Nat.lt_or_ge j (m+1) with h3|h3
       ·exact HA.out j h3
       ·have:j=m+1:=Za
        subst this;exact HN.out),(hb.alloc hsz _).trans (hw2.mono Za)⟩
      case measure=>simp [intOf];omega
  ·have HE:=hid (show tkS n x now=true by unfold tkS;rw [decide_eq_true (show n≤50 by omega),allTo_iff.2 (fun i hi=>hall i Za)];rfl)
   clear hc hf hall
   go_wp2
   go_ret
   exact ⟨ret_bool HE.out.symm,hBw⟩
def gnB (gn en:Bool) (hn:Nat) (bo ve:Int):Bool:=if gn then en&&(decide (hn=0) && !decide (bo=ve)) else (!en||decide (0<hn))
def hisB (now floor:Int) (h:Nat→Ch) (i:Nat):Bool:=decide ((h i).ver=floor+1+i)&&(chgB (h i) now&&livB floor h i)
def histS (now floor:Int) (m:Nat) (x:Nat→Ob) (n:Nat) (h:Nat→Ch):Bool:=decide (n≤200)&&(decide ((n:Int)=now-floor)&&(allTo (hisB now floor h) n&&agB floor m x n h))
theorem partsB_born {x:Ob} {now:Int} (h:partsB x now=true):x.born≤x.ver:=by
 unfold partsB inB at h
 simp at h
 omega
theorem chgB_gn (ve:Int) (gn:Bool) (ki na:ByteArray) (bo:Int) (te:ByteArray) (en:Bool) (hn:Nat) (hs:Nat→ByteArray) (now:Int) (hp:partsB ⟨ki,na,ve,bo,te,en,hn,hs⟩ now=true):chgB ⟨ve,gn,⟨ki,na,ve,bo,te,en,hn,hs⟩⟩ now=gnB gn en hn bo ve:=by
 have h1:=partsB_born hp
 dsimp only at h1
 unfold chgB gnB
 simp only [hp]
 cases gn with
 | false=>simp [standB]
 | true=>
  have h2:decide (bo<ve) = !decide (bo=ve):=by
   by_cases h:bo=ve
   ·rw [decide_eq_true h,decide_eq_false Za];rfl
   ·rw [decide_eq_false h,decide_eq_true Za];rfl
  simp [goneB,h2]
theorem sEq_comm (n:Nat) (s:Nat→ByteArray) (m:Nat) (t:Nat→ByteArray):sEq n s m t=sEq m t n s:=by
 unfold sEq
 by_cases h:n=m
 ·subst h
  rw [show (fun i=>decide (s i=t i))=fun i=>decide (t i=s i) from funext fun i=>by rw [decide_eq_decide];exact ⟨Eq.symm,Eq.symm⟩]
 ·rw [decide_eq_false h,decide_eq_false (fun e=>h e.symm)];rfl
theorem deq_comm {α:Type} [DecidableEq α] (a b:α):decide (a=b)=decide (b=a):=by rw [decide_eq_decide];exact ⟨Eq.symm,Eq.symm⟩
theorem sameB_comm (x z:Ob):sameB x z=sameB z x:=by
 unfold sameB
 rw [deq_comm x.kind,deq_comm x.name,deq_comm x.ver,deq_comm x.born,deq_comm x.text,deq_comm x.ending,sEq_comm]
theorem apP352 {P:Prop} (h:P:=by
  refine wp_region_grow Zf Zf ?_
  repeat (go_big_quiet_step ((go_at_call 129;go_must (exact grow_of (hK _)))))
  refine wpQuiet_nil ?_
  rintro w4 ⟨u,hu⟩
  have hw4:Below w3.1.size w3 w4:=hu▸u.prop
  clear hu u hne
  have hB4:=hB3.trans (hw4.mono Za)
  clear x0 x1 x2 x3 x4 x5 x6 x7 x8 xr3 xv3 y5 y1 hK
  go_wp2
  go_ret
  exact ⟨ret_bool HE.out.symm,(below_alloc' _ _).trans (hB4.mono Za)⟩):P:=h
theorem apP353 {P:Prop} (h:P:=by
  go_wp2
  go_roundw
  case rel=>exact ⟨k+1,Za,by go_num,fun j hj=>(by
   rcases Nat.lt_or_ge j k with h3|h3
   ·exact HA.out j h3
   ·have:j=k:=Za
    subst this;exact HN.out),hB4⟩
  case measure=>simp [intOf];omega):P:=h
theorem apP354 {P:Prop} (h:P:=by
  refine wp_region_grow Zf Zf ?_
  repeat (go_big_quiet_step ((go_at_call 130;go_must (exact grow_of (hSU _)))))
  refine wpQuiet_nil ?_
  rintro w2 ⟨u,hu⟩
  have hw2:Below w1.1.size w1 w2:=hu▸u.prop
  clear hu u hne
  have hB2:=hB1.trans (hw2.mono Za)
  clear u1 u2 u3 v1 hSU xx0 xx1 xx2 xx3 xx4 xx5 xx6 y2 y3 y4 y5 y6 y7 y8
  go_wp2
  go_ret
  exact ⟨ret_bool HE.out.symm,(below_alloc' _ _).trans (hB2.mono Za)⟩):P:=h
theorem apP355 {P:Prop} (h:P:=by
  refine wp_region_grow Zf Zf ?_
  repeat (go_big_quiet_step ((go_at_call 129;go_must (exact grow_of (hK _)))))
  refine wpQuiet_nil ?_
  rintro w4 ⟨u,hu⟩
  have hw4:Below w3.1.size w3 w4:=hu▸u.prop
  clear hu u hne
  have hB4:=hB3.trans (hw4.mono Za)
  clear x0 x1 x2 x3 x4 x5 x6 x7 x8 xr3 xv3 y5 y1 hK
  exact apP353):P:=h
theorem apP356 {P:Prop} (h:P:=by
  rw [hg] at f1
  have y1:=subcell f1 Zk
  have HE:=hid (show histS now floor m x n h=false by unfold histS;rw [allTo_no (p:=hisB now floor h) hkn (by unfold hisB;rw [HLV.out];simp [folB,hcr,hg])];simp)
  clear hcr hg f1
  exact apP352):P:=h
theorem apP357 {P:Prop} (h:P:=by
  go_wp2
  go_roundw
  case rel=>exact ⟨k+1,Za,by go_num,hB2,fun j hj=>(by
   rcases Nat.lt_or_ge j k with h3|h3
   ·exact HA.out j h3
   ·have:j=k:=Za
    subst this;exact HN.out)⟩
  case measure=>simp [intOf];omega):P:=h
theorem specHist_any (now floor:Int) (m n:Nat) (x:Nat→Ob) (h:Nat→Ch) (a1 a2 a3:Option Addr) (c1 c2 n3 c3:Nat) (w:World) (lo hi:Nat) (hhi:hi≤w.1.size) (hm:(m:Int)≤1099511627776) (hl:(n:Int)≤1099511627776) (hfl:0≤floor) (hno:floor≤now) (hnm:now≤1000000) (hx:∀ i,i<m→ObFit (x i)) (hf:∀ i,i<n→ObFit (h i).ob) (hco:ObjsIn w lo hi a1 m x) (hc:ChgsIn w lo hi a2 n h) :
  Calls Tryz.prog 72 #[.agg #[.int .i64 now,.int .i64 floor,.slice a1 m c1,.slice a2 n c2,.slice a3 n3 c3]] w fun e w'=>e=.returned (.bool (histS now floor m x n h))∧Below w.1.size w w':=by
 by_cases h200:(200:Int)<n
 ·have HE:=hid (show histS now floor m x n h=false by unfold histS;rw [decide_eq_false Za];rfl)
  go_enter Tryz.func72,Tryz.ntmps72
  go_wp2
  go_ret
  exact ⟨ret_bool HE.out.symm,below_alloc' _ _⟩
 by_cases hnf:(n:Int)=now-floor
 case neg=>
  have HE:=hid (show histS now floor m x n h=false by unfold histS;rw [decide_eq_false hnf];simp)
  go_enter Tryz.func72,Tryz.ntmps72
  go_wp2
  go_ret
  exact ⟨ret_bool HE.out.symm,below_alloc' _ _⟩
 have HNF:=hid hnf
 have hnf2:now-floor=(n:Int):=Za
 clear hnf
 go_enter Tryz.func72,Tryz.ntmps72
 go_wp2
 clear hnf2
 go_loopw [3] (fun i wr=>∃ k:Nat,k≤n∧i=.int .i64 k∧(∀ j,j<k→hisB now floor h j=true)∧Below (w.1.size+1) (w.alloc (.cells #[.int .i64 now,.int .i64 floor,.slice a1 m c1,.slice a2 n c2,.slice a3 n3 c3] 35)) wr) (fun i _=>n-(intOf i).toNat)
 case atStart=>exact ⟨0,Nat.zero_le _,rfl,fun j hj=>absurd hj (Nat.not_lt_zero _),Below.refl _ _⟩
 case round=>
  obtain ⟨k,hk,rfl,hall,hb⟩:=hrel
  have hBw:Below w.1.size w wr:=(below_alloc' _ _).trans (hb.mono Za)
  have hsz:w.1.size+1≤wr.1.size:=by have:=hb.size;simpa using this
  have hwz:w.1.size<wr.1.size:=Za
  have o0:=box_cell Zaj 0
  have o1:=box_cell Zaj 1
  have o2:=box_cell Zaj 2
  have o3:=box_cell Zaj 3
  simp only [List.getElem?_toArray,List.getElem?_cons_succ,List.getElem?_cons_zero] at o0 o1 o2 o3
  by_cases hkn:k<n
  ·obtain ⟨b,off,ah,ch,rfl,hlo,hbh,hcx,hsx⟩:=hc k hkn
   have hfk:=hf k hkn
   have hcx:=hcx.below hBw Za
   have hs1:=hsx.below hBw hhi
   have HA:=hid hall
   have HF:=hid hf
   have HCO:=hid hco
   have HX:=hid hx
   have HCC:=hid hc
   obtain ⟨c,hce⟩:∃ c,h k=c:=⟨_,rfl⟩
   rw [hce] at hcx hfk hs1
   have HCE:=hid hce
   obtain ⟨ve,gn,ki,na,ov,bo,te,en,hn,hs⟩:=c
   obtain ⟨d0,d1,d2,d3,d4,d5,d6,d7,d8⟩:=hcx
   dsimp only at d0 d1 d2 d3 d4 d5 d6 d7 d8 hs1 hfk
   clear hall hc hf hsx hco hx hce
   have hkz:(k:Int)+1≤n:=Za
   by_cases hv:ve=floor+1+k
   case neg=>
    have HE:=hid (show histS now floor m x n h=false by unfold histS;rw [allTo_no (p:=hisB now floor h) hkn (by unfold hisB;rw [HCE.out,decide_eq_false hv];rfl)];simp)
    go_wp2
    go_ret
    exact ⟨ret_bool HE.out.symm,(hBw.alloc hBw.size _).alloc Zc _⟩
   subst hv
   by_cases hov:ov=floor+1+k
   case neg=>
    have HE:=hid (show histS now floor m x n h=false by unfold histS;rw [allTo_no (p:=hisB now floor h) hkn (by unfold hisB chgB;rw [HCE.out];simp [hov])];simp)
    go_wp2
    go_ret
    exact ⟨ret_bool HE.out.symm,(hBw.alloc hBw.size _).alloc Zc _⟩
   subst hov
   have hC:=parts_any ⟨ki,na,floor+1+k,bo,te,en,hn,hs⟩ now ah ch ((wr.alloc (.cells #[.int .i64 (floor+1+k),.bool gn,.string ki,.string na,.int .i64 (floor+1+k),.int .i64 bo,.string te,.bool en,.slice ah hn ch] 120)).alloc (.cells #[.string ki,.string na,.int .i64 (floor+1+k),.int .i64 bo,.string te,.bool en,.slice ah hn ch] 118)) lo hi Zc hfk ((hs1.alloc Za _).alloc Zc _)
   dsimp only at hC
   cases hp:partsB ⟨ki,na,floor+1+k,bo,te,en,hn,hs⟩ now with
   | false=>
    have HE:=hid (show histS now floor m x n h=false by unfold histS;rw [allTo_no (p:=hisB now floor h) hkn (by unfold hisB chgB;rw [HCE.out];simp [hp])];simp)
    go_wp2_with fail
    refine hC.mono ?_
    rintro e w2 ⟨rfl,hb2⟩
    rw [hp]
    clear hC
    go_wp2
    go_ret
    exact ⟨ret_bool HE.out.symm,((hBw.alloc hBw.size _).alloc Zc _).trans (hb2.mono Zc)⟩
   | true=>
   have HCG:=hid (chgB_gn (floor+1+k) gn ki na bo te en hn hs now hp)
   have hnn:(hn:Int)≤140737488355328:=by have:=hfk.h;simpa using (by dsimp only at this;omega)
   go_upto_region 10 with (go_at_call 126;refine hC.mono ?_;rintro e w2 ⟨rfl,hb2⟩;rw [hp];clear hC)
   have hB2:Below (w.1.size+1) (w.alloc (.cells #[.int .i64 now,.int .i64 floor,.slice a1 m c1,.slice (some ⟨b,off,none⟩) n c2,.slice a3 n3 c3] 35)) w2:=((hb.alloc hsz _).alloc Zc _).trans (hb2.mono Zc)
   have hz2:wr.1.size+2≤w2.1.size:=by have:=hb2.size;simp at this;omega
   have s0:=box2_cell hb2 0
   have s1:=box2_cell hb2 1
   have s2:=box2_cell hb2 2
   have s3:=box2_cell hb2 3
   have s4:=box2_cell hb2 4
   have s5:=box2_cell hb2 5
   have s6:=box2_cell hb2 6
   have s7:=box2_cell hb2 7
   have s8:=box2_cell hb2 8
   have t0:=box_cell hb2 0
   have t1:=box_cell hb2 1
   have t2:=box_cell hb2 2
   have t3:=box_cell hb2 3
   have t4:=box_cell hb2 4
   have t5:=box_cell hb2 5
   have t6:=box_cell hb2 6
   simp only [List.getElem?_toArray,List.getElem?_cons_succ,List.getElem?_cons_zero,World.size_alloc] at s0 s1 s2 s3 s4 s5 s6 s7 s8 t0 t1 t2 t3 t4 t5 t6
   have o0:=box_cell (by simpa using hB2) 0
   have o1:=box_cell (by simpa using hB2) 1
   have o2:=box_cell (by simpa using hB2) 2
   have o3:=box_cell (by simpa using hB2) 3
   simp only [List.getElem?_toArray,List.getElem?_cons_succ,List.getElem?_cons_zero] at o0 o1 o2 o3
   clear hb2 d0 d1 d2 d3 d4 d5 d6 d7 d8 hp
   go_cut [98] from 28 to 141 (fun s98 wx=>s98=.bool (!gnB gn en hn bo (floor+1+k))∧w2=wx)
   case first=>
    cases gn with
    | true=>
     cases en with
     | false=>
      go_wp2_with fail
      go_meet
      exact ⟨rfl,rfl⟩
     | true=>
      by_cases h0:hn=0
      ·subst h0
       by_cases h1:bo=floor+1+k
       ·subst h1
        go_wp2_with fail
        go_meet
        exact ⟨congrArg Value.bool (by simp [gnB]),rfl⟩
       ·have h1b:(bo==floor+1+k)=false:=by simp [h1]
        have HH:=hid h1
        clear h1
        go_wp2_with fail
        go_meet
        exact ⟨congrArg Value.bool (by simp [gnB,HH.out]),rfl⟩
      ·have h2:decide ((0:Int)<(hn:Int))=true:=decide_eq_true Za
       have h3:(0:Int)<hn:=Za
       have HH:=hid h0
       clear h0
       go_wp2_with fail
       go_meet
       exact ⟨congrArg Value.bool (by simp [gnB,HH.out]),rfl⟩
    | false=>
     cases en with
     | false=>
      go_wp2_with fail
      go_meet
      exact ⟨rfl,rfl⟩
     | true=>
      by_cases h0:hn=0
      ·subst h0
       go_wp2_with fail
       go_meet
       exact ⟨congrArg Value.bool (by simp [gnB]),rfl⟩
      ·have h2:((hn:Int)==0)=false:=Zc
       have HH:=hid h0
       clear h0
       go_wp2_with fail
       go_meet
       exact ⟨congrArg Value.bool (by have:=HH.out;simp [gnB];omega),rfl⟩
   case rest=>
   obtain ⟨rfl,rfl⟩:=hcut
   cases hgb:gnB gn en hn bo (floor+1+k) with
   | false=>
    have HE:=hid (show histS now floor m x n h=false by unfold histS;rw [allTo_no (p:=hisB now floor h) hkn (by unfold hisB;rw [HCE.out,HCG.out,hgb];simp)];simp)
    go_wp2
    go_ret
    exact ⟨ret_bool HE.out.symm,(below_alloc' _ _).trans (hB2.mono Za)⟩
   | true=>
   have HG:=hid (HCG.out.trans hgb)
   clear hgb
   have hBW2:Below w.1.size w w2:=(below_alloc' _ _).trans (hB2.mono Za)
   have hL:=l1Last_any n k h ⟨ki,na,floor+1+k,bo,te,en,hn,hs⟩ (some ⟨b,off,none⟩) ah c2 ch w2 lo hi Za hl Za (HCC.out.below hBW2 hhi)
   dsimp only at hL
   have hK:=fun w=>specCre_any ⟨floor+1+k,gn,⟨ki,na,floor+1+k,bo,te,en,hn,hs⟩⟩ ah ch w
   dsimp only at hK
   cases hfd:lst h ki na k with
   | none=>
    have HLI:lastI h ⟨ki,na,floor+1+k,bo,te,en,hn,hs⟩ k = -1:=by unfold lastI;dsimp only;rw [hfd]
    have HLV:=hid (show livB floor h k=begB ⟨floor+1+k,gn,⟨ki,na,floor+1+k,bo,te,en,hn,hs⟩⟩ floor by unfold livB;rw [HCE.out];dsimp only;rw [hfd])
    rw [HLI] at hL
    clear HLI hfd
    go_wp2_with fail
    refine hL.mono ?_
    rintro e w3 ⟨rfl,hb3⟩
    clear hL
    have q0:=(hb3.cell (p:=⟨wr.1.size,0,none⟩) Zl).trans s0
    have q1:=(hb3.cell (p:=⟨wr.1.size,1,none⟩) Zl).trans s1
    have q2:=(hb3.cell (p:=⟨wr.1.size,2,none⟩) Zl).trans s2
    have q3:=(hb3.cell (p:=⟨wr.1.size,3,none⟩) Zl).trans s3
    have q4:=(hb3.cell (p:=⟨wr.1.size,4,none⟩) Zl).trans s4
    have q5:=(hb3.cell (p:=⟨wr.1.size,5,none⟩) Zl).trans s5
    have q6:=(hb3.cell (p:=⟨wr.1.size,6,none⟩) Zl).trans s6
    have q7:=(hb3.cell (p:=⟨wr.1.size,7,none⟩) Zl).trans s7
    have q8:=(hb3.cell (p:=⟨wr.1.size,8,none⟩) Zl).trans s8
    have r3:=(hb3.cell (p:=⟨wr.1.size+1,3,none⟩) (by show wr.1.size+1<_;omega)).trans t3
    have v1:=(hb3.cell (p:=⟨w.1.size,1,none⟩) Zh).trans o1
    have hz3:wr.1.size+2≤w3.1.size:=by have:=hb3.size;omega
    have hB3:=hB2.trans (hb3.mono Za)
    clear s0 s1 s2 s3 s4 s5 s6 s7 s8 t0 t1 t2 t3 t4 t5 t6 o0 o1 o2 o3 hb3
    go_wp2_with fail
    refine (hK _).mono ?_
    rintro e w4 ⟨rfl,hb4⟩
    clear hK
    have g3:=(hb4.cell (p:=⟨wr.1.size+1,3,none⟩) (by show wr.1.size+1<_;omega)).trans r3
    have f1:=(hb4.cell (p:=⟨w.1.size,1,none⟩) Zh).trans v1
    have hB4:=hB3.trans (hb4.mono Za)
    clear q0 q1 q2 q3 q4 q5 q6 q7 q8 r3 v1 hb4
    cases hcr:creB ⟨floor+1+k,gn,⟨ki,na,floor+1+k,bo,te,en,hn,hs⟩⟩ with
    | true=>
     have HN:=hid (show hisB now floor h k=true by unfold hisB;rw [HLV.out,HCE.out,HG.out];simp [begB,hcr])
     exact apP353
    | false=>
     by_cases hbf:floor<bo
     ·have HE:=hid (show histS now floor m x n h=false by unfold histS;rw [allTo_no (p:=hisB now floor h) hkn (by unfold hisB;rw [HLV.out];have:¬bo≤floor:=Za;simp [begB,hcr,this])];simp)
      go_wp2
      go_ret
      exact ⟨ret_bool HE.out.symm,(below_alloc' _ _).trans (hB4.mono Za)⟩
     ·have HN:=hid (show hisB now floor h k=true by unfold hisB;rw [HLV.out,HCE.out,HG.out];have:bo≤floor:=Za;simp [begB,this])
      exact apP353
   | some i=>
    have hin:=(lst_lt hfd).1
    have HLI:lastI h ⟨ki,na,floor+1+k,bo,te,en,hn,hs⟩ k=i:=by unfold lastI;dsimp only;rw [hfd]
    have HLV:=hid (show livB floor h k=folB (h i) ⟨floor+1+k,gn,⟨ki,na,floor+1+k,bo,te,en,hn,hs⟩⟩ by unfold livB;rw [HCE.out];dsimp only;rw [hfd])
    rw [HLI] at hL
    clear HLI hfd
    obtain ⟨b',off',ah',ch',e,hlo',hbh',hcy,hsy⟩:=HCC.out i Za
    cases e
    have hiz:(i:Int)+1≤n:=Za
    have hi0:decide ((i:Int)<0)=false:=decide_eq_false Za
    go_wp2_with fail
    refine hL.mono ?_
    rintro e w3 ⟨rfl,hb3⟩
    clear hL
    have hz3:wr.1.size+2≤w3.1.size:=by have:=hb3.size;omega
    have q0:=(hb3.cell (p:=⟨wr.1.size,0,none⟩) Zl).trans s0
    have q1:=(hb3.cell (p:=⟨wr.1.size,1,none⟩) Zl).trans s1
    have q2:=(hb3.cell (p:=⟨wr.1.size,2,none⟩) Zl).trans s2
    have q3:=(hb3.cell (p:=⟨wr.1.size,3,none⟩) Zl).trans s3
    have q4:=(hb3.cell (p:=⟨wr.1.size,4,none⟩) Zl).trans s4
    have q5:=(hb3.cell (p:=⟨wr.1.size,5,none⟩) Zl).trans s5
    have q6:=(hb3.cell (p:=⟨wr.1.size,6,none⟩) Zl).trans s6
    have q7:=(hb3.cell (p:=⟨wr.1.size,7,none⟩) Zl).trans s7
    have q8:=(hb3.cell (p:=⟨wr.1.size,8,none⟩) Zl).trans s8
    have r3:=(hb3.cell (p:=⟨wr.1.size+1,3,none⟩) (by show wr.1.size+1<_;omega)).trans t3
    have v3:=(hb3.cell (p:=⟨w.1.size,3,none⟩) Zh).trans o3
    have hB3:=hB2.trans (hb3.mono Za)
    have hBw3:Below w.1.size w w3:=(below_alloc' _ _).trans (hB3.mono Za)
    obtain ⟨f0,f1,f2,f3,f4,f5,f6,f7,f8⟩:=hcy.below hBw3 Za
    clear s0 s1 s2 s3 s4 s5 s6 s7 s8 t0 t1 t2 t3 t4 t5 t6 o0 o1 o2 o3 hb3 hcy hsy
    go_wp2
    have x0:=subcell q0 Zl
    have x1:=subcell q1 Zl
    have x2:=subcell q2 Zl
    have x3:=subcell q3 Zl
    have x4:=subcell q4 Zl
    have x5:=subcell q5 Zl
    have x6:=subcell q6 Zl
    have x7:=subcell q7 Zl
    have x8:=subcell q8 Zl
    have xr3:=subcell r3 (by show wr.1.size+1<_;omega)
    have xv3:=subcell v3 Zh
    have y5:=subcell f5 Zk
    have hne:Nonempty (GW w3):=⟨⟨_,Below.refl _ _⟩⟩
    obtain ⟨pv,hpb⟩:∃ pv,(h i).ob.born=pv:=⟨_,rfl⟩
    rw [hpb] at y5
    have HPB:=hid hpb
    clear hpb
    clear q0 q1 q2 q3 q4 q5 q6 q7 q8 r3 v3 f0 f2 f3 f4 f5 f6 f7 f8
    cases hcr:creB ⟨floor+1+k,gn,⟨ki,na,floor+1+k,bo,te,en,hn,hs⟩⟩ with
    | true=>
     rw [hcr] at hK
     cases hg:(h i).gone with
     | true=>
      rw [hg] at f1
      have y1:=subcell f1 Zk
      have HN:=hid (show hisB now floor h k=true by unfold hisB;rw [HLV.out,HCE.out,HG.out];simp [folB,hcr,hg])
      clear hcr hg f1
      exact apP355
     | false=>
      exact apP356
    | false=>
     rw [hcr] at hK
     cases hg:(h i).gone with
     | true=>
      exact apP356
     | false=>
      rw [hg] at f1
      have y1:=subcell f1 Zk
      by_cases hq:pv=bo
      ·have hqb:(bo != pv)=false:=by simp [hq]
       have HN:=hid (show hisB now floor h k=true by unfold hisB;rw [HLV.out,HCE.out,HG.out];simp [folB,hcr,hg,HPB.out,hq])
       clear hcr hg f1 hq
       exact apP355
      ·have hqb:(bo != pv)=true:=by simp;exact fun e=>hq e.symm
       have HE:=hid (show histS now floor m x n h=false by unfold histS;rw [allTo_no (p:=hisB now floor h) hkn (by unfold hisB;rw [HLV.out];simp [folB,hcr,hg,HPB.out,hq])];simp)
       clear hcr hg f1 hq
       exact apP352
  ·have:n=k:=Za
   subst this
   have HO1:=hid (show allTo (hisB now floor h) n=true from allTo_iff.2 hall)
   clear hall
   go_wp2
   clear o0 o1 o2 o3
   obtain ⟨W,hW⟩:∃ W,W=wr:=⟨wr,rfl⟩
   subst hW
   go_loopw [7] (fun i wq=>∃ k:Nat,k≤m∧i=.int .i64 k∧Below (w.1.size+1) (w.alloc (.cells #[.int .i64 now,.int .i64 floor,.slice a1 m c1,.slice a2 n c2,.slice a3 n3 c3] 35)) wq∧∀ j,j<k→agO floor x n h j=true) (fun i _=>m-(intOf i).toNat)
   case atStart=>exact ⟨0,Nat.zero_le _,rfl,hb,fun j hj=>absurd hj (Nat.not_lt_zero _)⟩
   case round=>
    obtain ⟨k,hk2,rfl,hb,hall⟩:=hrel
    have hBw:Below w.1.size w wr:=(below_alloc' _ _).trans (hb.mono Za)
    have hsz:w.1.size+1≤wr.1.size:=by have:=hb.size;simpa using this
    have hwz:w.1.size<wr.1.size:=Za
    have hhw:hi≤wr.1.size:=Za
    have o0:=box_cell Zaj 0
    have o1:=box_cell Zaj 1
    have o2:=box_cell Zaj 2
    have o3:=box_cell Zaj 3
    have o4:=box_cell Zaj 4
    simp only [List.getElem?_toArray,List.getElem?_cons_succ,List.getElem?_cons_zero] at o0 o1 o2 o3 o4
    by_cases hkm:k<m
    ·obtain ⟨b,off,ah,ch,rfl,hlo,hbh,hcx,hsx⟩:=hco k hkm
     have hxk:=hx k hkm
     have hxh:((x k).hn:Int)≤140737488355328:=by have:=hxk.h;omega
     obtain ⟨d0,d1,d2,d3,d4,d5,d6⟩:=hcx.below hBw Za
     have HA:=hid hall
     have HC:=hid hc
     have HF:=hid hf
     have HS:=hid hsx
     have hcu:∀ u:GW wr,ChgsIn u.val lo hi a2 n h:=fun u=>hc.below (hBw.trans (u.prop.mono Za)) hhi
     have hhu:∀ u:GW wr,hi≤u.val.1.size:=fun u=>Nat.le_trans hhw u.prop.size
     have hLU:∀ u:GW wr,Calls Tryz.prog 128 #[.slice a2 n c2,.agg #[.string (x k).kind,.string (x k).name,.int .i64 (x k).ver,.int .i64 (x k).born,.string (x k).text,.bool (x k).ending,.slice ah (x k).hn ch],.int .i64 n] u.val fun e w'=>e=.returned (.int .i64 (lastI h (x k) n))∧Below u.val.1.size u.val w':=fun u=>l1Last_any n n h (x k) a2 ah c2 ch _ lo hi (hhu u) hl Zbt (hcu u)
     clear hall hc hf hco hx hcx hsx hcu hhu
     have z2:=subcell o2 Zh
     have z3:=subcell o3 Zh
     have x0:=subcell d0 Zk
     have x1:=subcell d1 Zk
     have x2:=subcell d2 Zk
     have x3:=subcell d3 Zk
     have x4:=subcell d4 Zk
     have x5:=subcell d5 Zk
     have x6:=subcell d6 Zk
     have hne:Nonempty (GW wr):=⟨⟨_,Below.refl _ _⟩⟩
     go_wp2
     cases hfd:lst h (x k).kind (x k).name n with
     | none=>
      have HLI:lastI h (x k) n = -1:=by unfold lastI;rw [hfd]
      have HL:=hid (show agO floor x n h k=decide ((x k).ver≤floor) by unfold agO;rw [hfd])
      simp only [HLI] at hLU
      clear HLI hfd
      refine wp_region_grow Zf Zf ?_
      repeat (go_big_quiet_step ((go_at_call 128;go_must (exact grow_of (hLU _)))))
      refine wpQuiet_nil ?_
      rintro w1 ⟨u,hu⟩
      have hw1:Below wr.1.size wr w1:=hu▸u.prop
      clear hu u hne hLU z2 z3 x0 x1 x2 x3 x4 x5 x6
      have hB1:=hb.trans (hw1.mono Za)
      have p1:=(hw1.cell (p:=⟨w.1.size,1,none⟩) Zh).trans o1
      have p2:=(hw1.cell (p:=⟨w.1.size,2,none⟩) Zh).trans o2
      have p3:=(hw1.cell (p:=⟨w.1.size,3,none⟩) Zh).trans o3
      have e2:=(hw1.cell (p:=⟨b,off+k*7+2,none⟩) Zk).trans d2
      have hz1:wr.1.size≤w1.1.size:=hw1.size
      have u1:=subcell p1 Zh
      have u2:=subcell p2 Zh
      have u3:=subcell p3 Zh
      have y2:=subcell e2 Zk
      have hne:Nonempty (GW w1):=⟨⟨_,Below.refl _ _⟩⟩
      clear d0 d1 d2 d3 d4 d5 d6 o0 o1 o2 o3 o4 p1 p2 p3 e2 hw1
      go_wp2
      by_cases hv:(x k).ver≤floor
      ·have HN:=hid (show agO floor x n h k=true by rw [HL.out];exact decide_eq_true hv)
       have hd:decide (floor<(x k).ver)=false:=decide_eq_false Za
       refine wp_region_grow Zf Zf ?_
       repeat (go_big_quiet_step (fail))
       refine wpQuiet_nil ?_
       rintro w2 ⟨u,hu⟩
       have hw2:Below w1.1.size w1 w2:=hu▸u.prop
       clear hu u hne
       have hB2:=hB1.trans (hw2.mono Za)
       clear u1 u2 u3 y2
       exact apP357
      ·have HE:=hid (show histS now floor m x n h=false by unfold histS agB;rw [allTo_no (p:=agO floor x n h) hkm (HL.out.trans (decide_eq_false hv))];simp)
       have hd:decide (floor<(x k).ver)=true:=decide_eq_true Za
       refine wp_region_grow Zf Zf ?_
       repeat (go_big_quiet_step (fail))
       refine wpQuiet_nil ?_
       rintro w2 ⟨u,hu⟩
       have hw2:Below w1.1.size w1 w2:=hu▸u.prop
       clear hu u hne
       have hB2:=hB1.trans (hw2.mono Za)
       clear u1 u2 u3 y2
       go_wp2
       go_ret
       exact ⟨ret_bool HE.out.symm,(below_alloc' _ _).trans (hB2.mono Za)⟩
     | some j=>
      have hjn:=(lst_lt hfd).1
      have HLI:lastI h (x k) n=j:=by unfold lastI;rw [hfd]
      have HL:=hid (show agO floor x n h k=(!(h j).gone&&sameB (h j).ob (x k)) by unfold agO;rw [hfd,sameB_comm (h j).ob])
      simp only [HLI] at hLU
      clear HLI hfd
      obtain ⟨b',off',ah',ch',rfl,hlo',hbh',hcy,hsy⟩:=HC.out j hjn
      have hjh:((h j).ob.hn:Int)≤140737488355328:=by have:=(HF.out j hjn).h;omega
      have HSY:=hid hsy
      clear hsy
      have hjz:(j:Int)+1≤n:=Za
      have hj0:decide ((0:Int)≤(j:Int))=true:=decide_eq_true Za
      have hj1:decide ((j:Int)<0)=false:=decide_eq_false Za
      refine wp_region_grow Zf Zf ?_
      repeat (go_big_quiet_step ((go_at_call 128;go_must (exact grow_of (hLU _)))))
      refine wpQuiet_nil ?_
      rintro w1 ⟨u,hu⟩
      have hw1:Below wr.1.size wr w1:=hu▸u.prop
      clear hu u hne hLU z2 z3 x0 x1 x2 x3 x4 x5 x6
      have hB1:=hb.trans (hw1.mono Za)
      have hBw1:Below w.1.size w w1:=(below_alloc' _ _).trans (hB1.mono Za)
      have hz1:wr.1.size≤w1.1.size:=hw1.size
      have p1:=(hw1.cell (p:=⟨w.1.size,1,none⟩) Zh).trans o1
      have p2:=(hw1.cell (p:=⟨w.1.size,2,none⟩) Zh).trans o2
      have p3:=(hw1.cell (p:=⟨w.1.size,3,none⟩) Zh).trans o3
      have u1:=subcell p1 Zh
      have u2:=subcell p2 Zh
      have u3:=subcell p3 Zh
      have e0:=(hw1.cell (p:=⟨b,off+k*7,none⟩) Zk).trans d0
      have e1:=(hw1.cell (p:=⟨b,off+k*7+1,none⟩) Zk).trans d1
      have e2:=(hw1.cell (p:=⟨b,off+k*7+2,none⟩) Zk).trans d2
      have e3:=(hw1.cell (p:=⟨b,off+k*7+3,none⟩) Zk).trans d3
      have e4:=(hw1.cell (p:=⟨b,off+k*7+4,none⟩) Zk).trans d4
      have e5:=(hw1.cell (p:=⟨b,off+k*7+5,none⟩) Zk).trans d5
      have e6:=(hw1.cell (p:=⟨b,off+k*7+6,none⟩) Zk).trans d6
      have xx0:=subcell e0 Zk
      have xx1:=subcell e1 Zk
      have xx2:=subcell e2 Zk
      have xx3:=subcell e3 Zk
      have xx4:=subcell e4 Zk
      have xx5:=subcell e5 Zk
      have xx6:=subcell e6 Zk
      obtain ⟨f0,f1,f2,f3,f4,f5,f6,f7,f8⟩:=hcy.below hBw1 Za
      have y2:=subcell f2 Zap
      have y3:=subcell f3 Zap
      have y4:=subcell f4 Zap
      have y5:=subcell f5 Zap
      have y6:=subcell f6 Zap
      have y7:=subcell f7 Zap
      have y8:=subcell f8 Zap
      have hne:Nonempty (GW w1):=⟨⟨_,Below.refl _ _⟩⟩
      have hhw1:hi≤w1.1.size:=Za
      have hhu:∀ u:GW w1,hi≤u.val.1.size:=fun u=>Nat.le_trans hhw1 u.prop.size
      have hu1:∀ u:GW w1,StrsIn u.val lo hi ah (x k).hn (x k).hs:=fun u=>HS.out.below (hBw1.trans (u.prop.mono Za)) hhi
      have hu2:∀ u:GW w1,StrsIn u.val lo hi ah' (h j).ob.hn (h j).ob.hs:=fun u=>HSY.out.below (hBw1.trans (u.prop.mono Za)) hhi
      have hSU:∀ u:GW w1,Calls Tryz.prog 130 #[.agg #[.string (h j).ob.kind,.string (h j).ob.name,.int .i64 (h j).ob.ver,.int .i64 (h j).ob.born,.string (h j).ob.text,.bool (h j).ob.ending,.slice ah' (h j).ob.hn ch'],.agg #[.string (x k).kind,.string (x k).name,.int .i64 (x k).ver,.int .i64 (x k).born,.string (x k).text,.bool (x k).ending,.slice ah (x k).hn ch]] u.val fun e w'=>e=.returned (.bool (sameB (h j).ob (x k)))∧Below u.val.1.size u.val w':=fun u=>l1Same_any (h j).ob (x k) ah' ah ch' ch _ lo hi (hhu u) hjh hxh (hu2 u) (hu1 u)
      clear d0 d1 d2 d3 d4 d5 d6 o0 o1 o2 o3 o4 p1 p2 p3 e0 e1 e2 e3 e4 e5 e6 hw1 hcy f0 f2 f3 f4 f5 f6 f7 f8 hhu hu1 hu2
      go_wp2
      cases hg:(h j).gone with
      | true=>
       have HE:=hid (show histS now floor m x n h=false by unfold histS agB;rw [allTo_no (p:=agO floor x n h) hkm (HL.out.trans (by rw [hg];rfl))];simp)
       rw [hg] at f1
       have v1:=subcell f1 Zap
       clear hg f1
       exact apP354
      | false=>
       rw [hg] at f1
       have v1:=subcell f1 Zap
       have HL2:=hid (show agO floor x n h k=sameB (h j).ob (x k) by rw [HL.out,hg];rfl)
       clear hg f1
       cases hsm:sameB (h j).ob (x k) with
       | false=>
        have HE:=hid (show histS now floor m x n h=false by unfold histS agB;rw [allTo_no (p:=agO floor x n h) hkm (HL2.out.trans hsm)];simp)
        simp only [hsm] at hSU
        clear hsm
        exact apP354
       | true=>
        have HN:=hid (HL2.out.trans hsm)
        simp only [hsm] at hSU
        clear hsm
        refine wp_region_grow Zf Zf ?_
        repeat (go_big_quiet_step ((go_at_call 130;go_must (exact grow_of (hSU _)))))
        refine wpQuiet_nil ?_
        rintro w2 ⟨u,hu⟩
        have hw2:Below w1.1.size w1 w2:=hu▸u.prop
        clear hu u hne
        have hB2:=hB1.trans (hw2.mono Za)
        clear u1 u2 u3 v1 hSU xx0 xx1 xx2 xx3 xx4 xx5 xx6 y2 y3 y4 y5 y6 y7 y8
        exact apP357
    ·have:m=k:=Za
     subst this
     have HO2:=hid (show allTo (agO floor x n h) m=true from allTo_iff.2 hall)
     clear hall
     go_wp2
     clear o0 o1 o2 o3 o4
     obtain ⟨V,hV⟩:∃ V,V=wr:=⟨wr,rfl⟩
     subst hV
     go_loopw [9] (fun i wq=>∃ k:Nat,k≤n∧i=.int .i64 k∧Below (w.1.size+1) (w.alloc (.cells #[.int .i64 now,.int .i64 floor,.slice a1 m c1,.slice a2 n c2,.slice a3 n3 c3] 35)) wq∧∀ j,j<k→agH m x n h j=true) (fun i _=>n-(intOf i).toNat)
     case atStart=>exact ⟨0,Nat.zero_le _,rfl,hb,fun j hj=>absurd hj (Nat.not_lt_zero _)⟩
     case round=>
      obtain ⟨k,hk2,rfl,hb,hall⟩:=hrel
      have hBw:Below w.1.size w wr:=(below_alloc' _ _).trans (hb.mono Za)
      have hsz:w.1.size+1≤wr.1.size:=by have:=hb.size;simpa using this
      have hwz:w.1.size<wr.1.size:=Za
      have hhw:hi≤wr.1.size:=Za
      have o0:=box_cell Zaj 0
      have o1:=box_cell Zaj 1
      have o2:=box_cell Zaj 2
      have o3:=box_cell Zaj 3
      have o4:=box_cell Zaj 4
      simp only [List.getElem?_toArray,List.getElem?_cons_succ,List.getElem?_cons_zero] at o0 o1 o2 o3 o4
      by_cases hkn2:k<n
      ·obtain ⟨b,off,ah,ch,rfl,hlo,hbh,hcx,hsx⟩:=hc k hkn2
       obtain ⟨d0,d1,d2,d3,d4,d5,d6,d7,d8⟩:=hcx.below hBw Za
       obtain ⟨i',hli⟩:=lst_some (h:=h) hkn2
       have HLI:lastI h (h k).ob n=i':=by unfold lastI;rw [hli]
       have HLL:=hid hli
       have hin:=(lst_lt hli).1
       have hL:=l1Last_any n n h (h k).ob (some ⟨b,off,none⟩) ah c2 ch (wr.alloc (.cells #[.int .i64 (h k).ver,.bool (h k).gone,.string (h k).ob.kind,.string (h k).ob.name,.int .i64 (h k).ob.ver,.int .i64 (h k).ob.born,.string (h k).ob.text,.bool (h k).ob.ending,.slice ah (h k).ob.hn ch] 120)) lo hi Zc hl Zbt (hc.below (hBw.alloc hBw.size _) hhi)
       rw [HLI] at hL
       have HA:=hid hall
       have HCO:=hid hco
       have HX:=hid hx
       clear HLI hli hall hc hf hcx hsx hco hx
       go_wp2_with fail
       refine hL.mono ?_
       rintro e w1 ⟨rfl,hb1⟩
       clear hL
       have hB1:Below (w.1.size+1) (w.alloc (.cells #[.int .i64 now,.int .i64 floor,.slice a1 m c1,.slice (some ⟨b,off,none⟩) n c2,.slice a3 n3 c3] 35)) w1:=(hb.alloc hsz _).trans (hb1.mono Zc)
       have hBw1:Below w.1.size w w1:=(below_alloc' _ _).trans (hB1.mono Za)
       have hz1:wr.1.size+1≤w1.1.size:=by have:=hb1.size;simp at this;omega
       have p1:=box_cell hb1 1
       have p2:=box_cell hb1 2
       have p3:=box_cell hb1 3
       have o0:=box_cell Zbf 0
       have o1:=box_cell Zbf 1
       have o2:=box_cell Zbf 2
       have o3:=box_cell Zbf 3
       have o4:=box_cell Zbf 4
       simp only [List.getElem?_toArray,List.getElem?_cons_succ,List.getElem?_cons_zero] at p1 p2 p3 o0 o1 o2 o3 o4
       clear d0 d1 d2 d3 d4 d5 d6 d7 d8 hb1
       by_cases hii:i'=k
       case neg=>
        have HN:=hid (show agH m x n h k=true by unfold agH;rw [HLL.out];simp [hii])
        have hd:((i':Int) != (k:Int))=true:=Zc
        have hd2:¬(i':Int)=(k:Int):=Za
        clear hii
        go_wp2
        go_roundw
        case rel=>exact ⟨k+1,Za,by go_num,hB1,fun j hj=>(by
         rcases Nat.lt_or_ge j k with h3|h3
         ·exact HA.out j h3
         ·have:j=k:=Za
          subst this;exact HN.out)⟩
        case measure=>simp [intOf];omega
       subst hii
       cases hg:(h i').gone with
       | true=>
        have HN:=hid (show agH m x n h i'=true by unfold agH;rw [hg];simp)
        rw [hg] at p1
        clear hg
        go_wp2
        go_roundw
        case rel=>exact ⟨i'+1,Za,by go_num,hB1,fun j hj=>(by
         rcases Nat.lt_or_ge j i' with h3|h3
         ·exact HA.out j h3
         ·have:j=i':=Za
          subst this;exact HN.out)⟩
        case measure=>simp [intOf];omega
       | false=>
        rw [hg] at p1
        have HG:=hid hg
        clear hg
        have hS:=specFind_any now floor m x a1 (some ⟨b,off,none⟩) a3 c1 n c2 n3 c3 (h i').ob.kind (h i').ob.name w1 lo hi Za hm HX.out (HCO.out.below hBw1 hhi)
        cases hfn:fndIs x (h i').ob.kind (h i').ob.name m with
        | false=>
         have HE:=hid (show histS now floor m x n h=false by unfold histS agB;rw [allTo_no (p:=agH m x n h) hkn2 (show agH m x n h i'=false by unfold agH;rw [HLL.out,HG.out,show (fnd x (h i').ob.kind (h i').ob.name m).isSome=false from hfn];simp)];simp)
         rw [hfn] at hS
         clear hfn
         go_wp2_with fail
         refine hS.mono ?_
         rintro e w2 ⟨ad',cap',rfl,_,_,hb2⟩
         have hB2:=hB1.trans (hb2.mono Za)
         clear hS hb2
         go_wp2
         go_ret
         exact ⟨ret_bool HE.out.symm,((below_alloc' _ _).trans (hB2.mono Za)).alloc (by have:=hB2.size;simp at this;omega) _⟩
        | true=>
         have HN:=hid (show agH m x n h i'=true by unfold agH;rw [show (fnd x (h i').ob.kind (h i').ob.name m).isSome=true from hfn];simp)
         rw [hfn] at hS
         clear hfn
         go_wp2_with fail
         refine hS.mono ?_
         rintro e w2 ⟨ad',cap',rfl,_,_,hb2⟩
         have hB2:=hB1.trans (hb2.mono Za)
         have hz2:w.1.size+1≤w2.1.size:=by have:=hB2.size;simp at this;omega
         clear hS hb2
         go_wp2
         go_roundw
         case rel=>exact ⟨i'+1,Za,by go_num,(hB2.alloc hz2 _),fun j hj=>(by
          rcases Nat.lt_or_ge j i' with h3|h3
          ·exact HA.out j h3
          ·have:j=i':=Za
           subst this;exact HN.out)⟩
         case measure=>simp [intOf];omega
      ·have HE:=hid (show histS now floor m x n h=true by unfold histS agB;rw [decide_eq_true (show n≤200 by omega),decide_eq_true HNF.out,HO1.out,HO2.out,allTo_iff.2 (fun i hi=>hall i Za)];rfl)
       clear hall hc hf hco hx
       go_wp2
       go_ret
       exact ⟨ret_bool HE.out.symm,hBw⟩
def bvS (B:Bk):Bool:=numB B.now B.floor&&(objsB B.on B.os B.now&&(histS B.now B.floor B.on B.os B.hn B.hs&&tkS B.tn B.ts B.now))
theorem allTo_and (p q:Nat→Bool):∀ n,allTo (fun i=>p i&&q i) n=(allTo p n&&allTo q n)
 | 0=>rfl
 | n+1=>by
  simp only [allTo,allTo_and p q n]
  cases allTo p n<;>cases allTo q n<;>cases p n<;>cases q n<;>rfl
theorem objs_eq (n:Nat) (x:Nat→Ob) (now:Int):objsB n x now=(objs1B n x now&&verDiff n x):=by
 unfold objsB objs1B
 cases decide (n≤100)<;>cases objAsc n x<;>cases objFit n x now<;>cases verDiff n x<;>rfl
theorem hist_eq (now floor:Int) (m:Nat) (x:Nat→Ob) (n:Nat) (h:Nat→Ch):histS now floor m x n h=(histB now floor n h&&(allTo (livB floor h) n&&agB floor m x n h)):=by
 have h1:allTo (hisB now floor h) n=(allTo (fun i=>decide ((h i).ver=floor+1+i)&&chgB (h i) now) n&&allTo (livB floor h) n):=by
  rw [←allTo_and]
  exact congrArg (fun p=>allTo p n) (funext fun i=>by
   unfold hisB
   cases decide ((h i).ver=floor+1+i)<;>cases chgB (h i) now<;>cases livB floor h i<;>rfl)
 unfold histS histB
 rw [h1]
 cases decide (n≤200)<;>cases decide ((n:Int)=now-floor)<;>cases allTo (fun i=>decide ((h i).ver=floor+1+i)&&chgB (h i) now) n<;>cases allTo (livB floor h) n<;>cases agB floor m x n h<;>rfl
theorem tics_eq (n:Nat) (x:Nat→Ti) (now:Int):tkS n x now=tisB n x now:=by
 unfold tkS tisB
 have h1:allTo (tkB x now) n=(allTo (fun i=>tiB (x i) now) n&&allTo (fun i=>i==0||ltB (x (i-1)).client (x i).client) n):=by
  rw [←allTo_and]
  rfl
 rw [h1]
 unfold tiAsc
 cases decide (n≤50)<;>cases allTo (fun i=>tiB (x i) now) n<;>cases allTo (fun i=>i==0||ltB (x (i-1)).client (x i).client) n<;>rfl
theorem valid_eq (B:Bk):bvS B=allTo (chk B) 7:=by
 unfold bvS
 rw [objs_eq,hist_eq,tics_eq]
 simp only [allTo,chk]
 cases numB B.now B.floor<;>cases objs1B B.on B.os B.now<;>cases verDiff B.on B.os<;>cases histB B.now B.floor B.hn B.hs<;>cases allTo (livB B.floor B.hs) B.hn<;>cases agB B.floor B.on B.os B.hn B.hs<;>cases tisB B.tn B.ts B.now<;>rfl
theorem specValid_any (B:Bk) (a1 a2 a3:Option Addr) (c1 c2 c3:Nat) (w:World) (lo hi:Nat) (hhi:hi≤w.1.size) (hfit:BkFit B) (hin:BkIn w lo hi B a1 a2 a3) :
  Calls Tryz.prog 34 #[.agg #[.int .i64 B.now,.int .i64 B.floor,.slice a1 B.on c1,.slice a2 B.hn c2,.slice a3 B.tn c3]] w fun e w'=>e=.returned (.bool (allTo (chk B) 7))∧Below w.1.size w w':=by
 rw [←valid_eq]
 obtain ⟨f1,f2,f3,f4,f5,f6⟩:=hfit
 cases h1:inB B.now 0 1000000 with
 | false=>
  have HE:=hid (show bvS B=false by unfold bvS numB;rw [h1];rfl)
  go_enter Tryz.func34,Tryz.ntmps34
  go_wp2_with (go_at_call 70;refine (in_any _ _ _ _).mono ?_;rintro e w1 ⟨rfl,rfl⟩;rw [h1])
  go_ret
  exact ⟨ret_bool HE.out.symm,below_alloc' _ _⟩
 | true=>
 cases h2:inB B.floor 0 B.now with
 | false=>
  have HE:=hid (show bvS B=false by unfold bvS numB;rw [h2];simp)
  go_enter Tryz.func34,Tryz.ntmps34
  go_wp2_with (go_at_call 70;refine (in_any _ _ _ _).mono ?_;rintro e w1 ⟨rfl,rfl⟩;first|rw [h1]|rw [h2])
  go_ret
  exact ⟨ret_bool HE.out.symm,below_alloc' _ _⟩
 | true=>
 have HN:=hid (show numB B.now B.floor=true by unfold numB;rw [h1,h2];rfl)
 obtain ⟨n1,n2,n3⟩:=numB_yes HN.out
 have N1:=hid n1
 have N2:=hid n2
 have N3:=hid n3
 clear n1 n2 n3
 have hA:=hid (show BkIn (w.alloc (.cells #[.int .i64 B.now,.int .i64 B.floor,.slice a1 B.on c1,.slice a2 B.hn c2,.slice a3 B.tn c3] 35)) lo hi B a1 a2 a3 from hin.below (below_alloc' _ _) hhi)
 clear hin
 go_enter Tryz.func34,Tryz.ntmps34
 go_wp2_with (go_at_call 70;refine (in_any _ _ _ _).mono ?_;rintro e w1 ⟨rfl,rfl⟩;first|rw [h1]|rw [h2])
 refine (specObjs_any B.now B.floor B.on B.os a1 a2 a3 c1 B.hn c2 B.tn c3 _ lo hi Zc Za f4 hA.out.o).mono ?_
 rintro e w1 ⟨rfl,hb1⟩
 cases ho:objsB B.on B.os B.now with
 | false=>
  have HE:=hid (show bvS B=false by unfold bvS;rw [ho];simp)
  go_wp2
  go_ret
  exact ⟨ret_bool HE.out.symm,(below_alloc' _ _).trans (hb1.mono Zd)⟩
 | true=>
 have HO:=hid ho
 have p0:=box_cell hb1 0
 have p1:=box_cell hb1 1
 have p2:=box_cell hb1 2
 have p3:=box_cell hb1 3
 have p4:=box_cell hb1 4
 simp only [List.getElem?_toArray,List.getElem?_cons_succ,List.getElem?_cons_zero] at p0 p1 p2 p3 p4
 have hz1:w.1.size<w1.1.size:=by have:=hb1.size;simp at this;omega
 have hA1:=hid (hA.out.below hb1 Zc)
 have hB1:Below w.1.size w w1:=(below_alloc' _ _).trans (hb1.mono Zd)
 clear hb1 hA ho
 go_wp2_with fail
 refine (specHist_any B.now B.floor B.on B.hn B.os B.hs a1 a2 a3 c1 c2 B.tn c3 w1 lo hi Za Za Za N1.out N2.out N3.out f4 f5 hA1.out.o hA1.out.h).mono ?_
 rintro e w2 ⟨rfl,hb2⟩
 cases hh:histS B.now B.floor B.on B.os B.hn B.hs with
 | false=>
  have HE:=hid (show bvS B=false by unfold bvS;rw [hh];simp)
  go_wp2
  go_ret
  exact ⟨ret_bool HE.out.symm,hB1.trans (hb2.mono Za)⟩
 | true=>
 have HH:=hid hh
 have q0:=(hb2.cell (p:=⟨w.1.size,0,none⟩) hz1).trans p0
 have q1:=(hb2.cell (p:=⟨w.1.size,1,none⟩) hz1).trans p1
 have q2:=(hb2.cell (p:=⟨w.1.size,2,none⟩) hz1).trans p2
 have q3:=(hb2.cell (p:=⟨w.1.size,3,none⟩) hz1).trans p3
 have q4:=(hb2.cell (p:=⟨w.1.size,4,none⟩) hz1).trans p4
 have hA2:=hid (hA1.out.below hb2 Za)
 have hB2:Below w.1.size w w2:=hB1.trans (hb2.mono Za)
 have hz2:w.1.size<w2.1.size:=by have:=hb2.size;omega
 clear hb2 hA1 hh p0 p1 p2 p3 p4
 go_wp2_with fail
 refine (specTics_any B.now B.floor B.tn B.ts a1 a2 a3 B.on c1 B.hn c2 c3 w2 lo hi Za Za f6 hA2.out.t).mono ?_
 rintro e w3 ⟨rfl,hb3⟩
 have HE:=hid (show bvS B=tkS B.tn B.ts B.now by unfold bvS;rw [HN.out,HO.out,HH.out];rfl)
 clear q0 q1 q2 q3 q4
 go_wp2
 go_ret
 exact ⟨ret_bool HE.out.symm,hB2.trans (hb3.mono Za)⟩
end Go.Proofs.YtllmmkchokkaaaaGreatDoor
