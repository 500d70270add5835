import Derived.Test.YtllmmkchokkaaaaGreatDoorPk20
import Derived.Test.YtllmmkchokkaaaaGreatDoorPk19
import Derived.Test.YtllmmkchokkaaaaGreatDoorPk14
import Derived.Deep.Cut
import Derived.Deep.CutRange
set_option maxRecDepth 100000
set_option maxHeartbeats 4000000
namespace Go.Proofs.YtllmmkchokkaaaaGreatDoor
open Go.RowKit Go.Maps
def gnB (gn en:Bool) (hn:Nat) (bo ve:Int):Bool:=if gn then en&&(decide (hn=0) && !decide (bo=ve)) else (!en||decide (0<hn))
def hisB (now floor:Int) (h:Nat→Ch) (i:Nat):Bool:=decide ((h i).ver=floor+1+i)&&(chgB (h i) now&&livB floor h i)
def histS (now floor:Int) (m:Nat) (x:Nat→Ob) (n:Nat) (h:Nat→Ch):Bool:=decide (n≤200)&&(decide ((n:Int)=now-floor)&&(allTo (hisB now floor h) n&&agB floor m x n h))
theorem partsB_born {x:Ob} {now:Int} (h:partsB x now=true):x.born≤x.ver:=by
 unfold partsB inB at h
 simp at h
 omega
theorem chgB_gn (ve:Int) (gn:Bool) (ki na:ByteArray) (bo:Int) (te:ByteArray) (en:Bool) (hn:Nat) (hs:Nat→ByteArray) (now:Int) (hp:partsB ⟨ki,na,ve,bo,te,en,hn,hs⟩ now=true):chgB ⟨ve,gn,⟨ki,na,ve,bo,te,en,hn,hs⟩⟩ now=gnB gn en hn bo ve:=by
 have h1:=partsB_born hp
 dsimp only at h1
 unfold chgB gnB
 simp only [hp]
 cases gn with
 | false=>simp [standB]
 | true=>
  have h2:decide (bo<ve) = !decide (bo=ve):=by
   by_cases h:bo=ve
   ·rw [decide_eq_true h,decide_eq_false (by omega)];rfl
   ·rw [decide_eq_false h,decide_eq_true (by omega)];rfl
  simp [goneB,h2]
theorem sEq_comm (n:Nat) (s:Nat→ByteArray) (m:Nat) (t:Nat→ByteArray):sEq n s m t=sEq m t n s:=by
 unfold sEq
 by_cases h:n=m
 ·subst h
  rw [show (fun i=>decide (s i=t i))=fun i=>decide (t i=s i) from funext fun i=>by rw [decide_eq_decide];exact ⟨Eq.symm,Eq.symm⟩]
 ·rw [decide_eq_false h,decide_eq_false (fun e=>h e.symm)];rfl
theorem deq_comm {α:Type} [DecidableEq α] (a b:α):decide (a=b)=decide (b=a):=by rw [decide_eq_decide];exact ⟨Eq.symm,Eq.symm⟩
theorem sameB_comm (x z:Ob):sameB x z=sameB z x:=by
 unfold sameB
 rw [deq_comm x.kind,deq_comm x.name,deq_comm x.ver,deq_comm x.born,deq_comm x.text,deq_comm x.ending,sEq_comm]
theorem specHist_any (now floor:Int) (m n:Nat) (x:Nat→Ob) (h:Nat→Ch) (a1 a2 a3:Option Addr) (c1 c2 n3 c3:Nat) (w:World) (lo hi:Nat) (hhi:hi≤w.1.size) (hm:(m:Int)≤1099511627776) (hl:(n:Int)≤1099511627776) (hfl:0≤floor) (hno:floor≤now) (hnm:now≤1000000) (hx:∀ i,i<m→ObFit (x i)) (hf:∀ i,i<n→ObFit (h i).ob) (hco:ObjsIn w lo hi a1 m x) (hc:ChgsIn w lo hi a2 n h) :
  Calls Tryz.prog 72 #[.agg #[.int .i64 now,.int .i64 floor,.slice a1 m c1,.slice a2 n c2,.slice a3 n3 c3]] w fun e w'=>e=.returned (.bool (histS now floor m x n h))∧Below w.1.size w w':=by
 by_cases h200:(200:Int)<n
 ·have HE:=hid (show histS now floor m x n h=false by unfold histS;rw [decide_eq_false (by omega)];rfl)
  go_enter Tryz.func72,Tryz.ntmps72
  go_wp2
  go_ret
  exact ⟨ret_bool HE.out.symm,below_alloc' _ _⟩
 by_cases hnf:(n:Int)=now-floor
 case neg=>
  have HE:=hid (show histS now floor m x n h=false by unfold histS;rw [decide_eq_false hnf];simp)
  go_enter Tryz.func72,Tryz.ntmps72
  go_wp2
  go_ret
  exact ⟨ret_bool HE.out.symm,below_alloc' _ _⟩
 have HNF:=hid hnf
 have hnf2:now-floor=(n:Int):=by omega
 clear hnf
 go_enter Tryz.func72,Tryz.ntmps72
 go_wp2
 clear hnf2
 go_loopw [3] (fun i wr=>∃ k:Nat,k≤n∧i=.int .i64 k∧(∀ j,j<k→hisB now floor h j=true)∧Below (w.1.size+1) (w.alloc (.cells #[.int .i64 now,.int .i64 floor,.slice a1 m c1,.slice a2 n c2,.slice a3 n3 c3] 35)) wr) (fun i _=>n-(intOf i).toNat)
 case atStart=>exact ⟨0,Nat.zero_le _,rfl,fun j hj=>absurd hj (Nat.not_lt_zero _),Below.refl _ _⟩
 case round=>
  obtain ⟨k,hk,rfl,hall,hb⟩:=hrel
  have hBw:Below w.1.size w wr:=(below_alloc' _ _).trans (hb.mono (by omega))
  have hsz:w.1.size+1≤wr.1.size:=by have:=hb.size;simpa using this
  have hwz:w.1.size<wr.1.size:=by omega
  have o0:=box_cell (by simpa using hb) 0
  have o1:=box_cell (by simpa using hb) 1
  have o2:=box_cell (by simpa using hb) 2
  have o3:=box_cell (by simpa using hb) 3
  simp only [List.getElem?_toArray,List.getElem?_cons_succ,List.getElem?_cons_zero] at o0 o1 o2 o3
  by_cases hkn:k<n
  ·obtain ⟨b,off,ah,ch,rfl,hlo,hbh,hcx,hsx⟩:=hc k hkn
   have hfk:=hf k hkn
   have hcx:=hcx.below hBw (by omega)
   have hs1:=hsx.below hBw hhi
   have HA:=hid hall
   have HF:=hid hf
   have HCO:=hid hco
   have HX:=hid hx
   have HCC:=hid hc
   obtain ⟨c,hce⟩:∃ c,h k=c:=⟨_,rfl⟩
   rw [hce] at hcx hfk hs1
   have HCE:=hid hce
   obtain ⟨ve,gn,ki,na,ov,bo,te,en,hn,hs⟩:=c
   obtain ⟨d0,d1,d2,d3,d4,d5,d6,d7,d8⟩:=hcx
   dsimp only at d0 d1 d2 d3 d4 d5 d6 d7 d8 hs1 hfk
   clear hall hc hf hsx hco hx hce
   have hkz:(k:Int)+1≤n:=by omega
   by_cases hv:ve=floor+1+k
   case neg=>
    have HE:=hid (show histS now floor m x n h=false by unfold histS;rw [allTo_no (p:=hisB now floor h) hkn (by unfold hisB;rw [HCE.out,decide_eq_false hv];rfl)];simp)
    go_wp2
    go_ret
    exact ⟨ret_bool HE.out.symm,(hBw.alloc hBw.size _).alloc (by simp;omega) _⟩
   subst hv
   by_cases hov:ov=floor+1+k
   case neg=>
    have HE:=hid (show histS now floor m x n h=false by unfold histS;rw [allTo_no (p:=hisB now floor h) hkn (by unfold hisB chgB;rw [HCE.out];simp [hov])];simp)
    go_wp2
    go_ret
    exact ⟨ret_bool HE.out.symm,(hBw.alloc hBw.size _).alloc (by simp;omega) _⟩
   subst hov
   have hC:=parts_any ⟨ki,na,floor+1+k,bo,te,en,hn,hs⟩ now ah ch ((wr.alloc (.cells #[.int .i64 (floor+1+k),.bool gn,.string ki,.string na,.int .i64 (floor+1+k),.int .i64 bo,.string te,.bool en,.slice ah hn ch] 120)).alloc (.cells #[.string ki,.string na,.int .i64 (floor+1+k),.int .i64 bo,.string te,.bool en,.slice ah hn ch] 118)) lo hi (by simp;omega) hfk ((hs1.alloc (by omega) _).alloc (by simp;omega) _)
   dsimp only at hC
   cases hp:partsB ⟨ki,na,floor+1+k,bo,te,en,hn,hs⟩ now with
   | false=>
    have HE:=hid (show histS now floor m x n h=false by unfold histS;rw [allTo_no (p:=hisB now floor h) hkn (by unfold hisB chgB;rw [HCE.out];simp [hp])];simp)
    go_wp2_with fail
    refine hC.mono ?_
    rintro e w2 ⟨rfl,hb2⟩
    rw [hp]
    clear hC
    go_wp2
    go_ret
    exact ⟨ret_bool HE.out.symm,((hBw.alloc hBw.size _).alloc (by simp;omega) _).trans (hb2.mono (by simp;omega))⟩
   | true=>
   have HCG:=hid (chgB_gn (floor+1+k) gn ki na bo te en hn hs now hp)
   have hnn:(hn:Int)≤140737488355328:=by have:=hfk.h;simpa using (by dsimp only at this;omega)
   go_upto_region 10 with (go_at_call 126;refine hC.mono ?_;rintro e w2 ⟨rfl,hb2⟩;rw [hp];clear hC)
   have hB2:Below (w.1.size+1) (w.alloc (.cells #[.int .i64 now,.int .i64 floor,.slice a1 m c1,.slice (some ⟨b,off,none⟩) n c2,.slice a3 n3 c3] 35)) w2:=((hb.alloc hsz _).alloc (by simp;omega) _).trans (hb2.mono (by simp;omega))
   have hz2:wr.1.size+2≤w2.1.size:=by have:=hb2.size;simp at this;omega
   have s0:=box2_cell hb2 0
   have s1:=box2_cell hb2 1
   have s2:=box2_cell hb2 2
   have s3:=box2_cell hb2 3
   have s4:=box2_cell hb2 4
   have s5:=box2_cell hb2 5
   have s6:=box2_cell hb2 6
   have s7:=box2_cell hb2 7
   have s8:=box2_cell hb2 8
   have t0:=box_cell hb2 0
   have t1:=box_cell hb2 1
   have t2:=box_cell hb2 2
   have t3:=box_cell hb2 3
   have t4:=box_cell hb2 4
   have t5:=box_cell hb2 5
   have t6:=box_cell hb2 6
   simp only [List.getElem?_toArray,List.getElem?_cons_succ,List.getElem?_cons_zero,World.size_alloc] at s0 s1 s2 s3 s4 s5 s6 s7 s8 t0 t1 t2 t3 t4 t5 t6
   have o0:=box_cell (by simpa using hB2) 0
   have o1:=box_cell (by simpa using hB2) 1
   have o2:=box_cell (by simpa using hB2) 2
   have o3:=box_cell (by simpa using hB2) 3
   simp only [List.getElem?_toArray,List.getElem?_cons_succ,List.getElem?_cons_zero] at o0 o1 o2 o3
   clear hb2 d0 d1 d2 d3 d4 d5 d6 d7 d8 hp
   go_cut [98] from 28 to 141 (fun s98 wx=>s98=.bool (!gnB gn en hn bo (floor+1+k))∧w2=wx)
   case first=>
    cases gn with
    | true=>
     cases en with
     | false=>
      go_wp2_with fail
      go_meet
      exact ⟨rfl,rfl⟩
     | true=>
      by_cases h0:hn=0
      ·subst h0
       by_cases h1:bo=floor+1+k
       ·subst h1
        go_wp2_with fail
        go_meet
        exact ⟨congrArg Value.bool (by simp [gnB]),rfl⟩
       ·have h1b:(bo==floor+1+k)=false:=by simp [h1]
        have HH:=hid h1
        clear h1
        go_wp2_with fail
        go_meet
        exact ⟨congrArg Value.bool (by simp [gnB,HH.out]),rfl⟩
      ·have h2:decide ((0:Int)<(hn:Int))=true:=decide_eq_true (by omega)
       have h3:(0:Int)<hn:=by omega
       have HH:=hid h0
       clear h0
       go_wp2_with fail
       go_meet
       exact ⟨congrArg Value.bool (by simp [gnB,HH.out]),rfl⟩
    | false=>
     cases en with
     | false=>
      go_wp2_with fail
      go_meet
      exact ⟨rfl,rfl⟩
     | true=>
      by_cases h0:hn=0
      ·subst h0
       go_wp2_with fail
       go_meet
       exact ⟨congrArg Value.bool (by simp [gnB]),rfl⟩
      ·have h2:((hn:Int)==0)=false:=by simp;omega
       have HH:=hid h0
       clear h0
       go_wp2_with fail
       go_meet
       exact ⟨congrArg Value.bool (by have:=HH.out;simp [gnB];omega),rfl⟩
   case rest=>
   obtain ⟨rfl,rfl⟩:=hcut
   cases hgb:gnB gn en hn bo (floor+1+k) with
   | false=>
    have HE:=hid (show histS now floor m x n h=false by unfold histS;rw [allTo_no (p:=hisB now floor h) hkn (by unfold hisB;rw [HCE.out,HCG.out,hgb];simp)];simp)
    go_wp2
    go_ret
    exact ⟨ret_bool HE.out.symm,(below_alloc' _ _).trans (hB2.mono (by omega))⟩
   | true=>
   have HG:=hid (HCG.out.trans hgb)
   clear hgb
   have hBW2:Below w.1.size w w2:=(below_alloc' _ _).trans (hB2.mono (by omega))
   have hL:=l1Last_any n k h ⟨ki,na,floor+1+k,bo,te,en,hn,hs⟩ (some ⟨b,off,none⟩) ah c2 ch w2 lo hi (by omega) hl (by omega) (HCC.out.below hBW2 hhi)
   dsimp only at hL
   have hK:=fun w=>specCre_any ⟨floor+1+k,gn,⟨ki,na,floor+1+k,bo,te,en,hn,hs⟩⟩ ah ch w
   dsimp only at hK
   cases hfd:lst h ki na k with
   | none=>
    have HLI:lastI h ⟨ki,na,floor+1+k,bo,te,en,hn,hs⟩ k = -1:=by unfold lastI;dsimp only;rw [hfd]
    have HLV:=hid (show livB floor h k=begB ⟨floor+1+k,gn,⟨ki,na,floor+1+k,bo,te,en,hn,hs⟩⟩ floor by unfold livB;rw [HCE.out];dsimp only;rw [hfd])
    rw [HLI] at hL
    clear HLI hfd
    go_wp2_with fail
    refine hL.mono ?_
    rintro e w3 ⟨rfl,hb3⟩
    clear hL
    have q0:=(hb3.cell (p:=⟨wr.1.size,0,none⟩) (by show wr.1.size<_;omega)).trans s0
    have q1:=(hb3.cell (p:=⟨wr.1.size,1,none⟩) (by show wr.1.size<_;omega)).trans s1
    have q2:=(hb3.cell (p:=⟨wr.1.size,2,none⟩) (by show wr.1.size<_;omega)).trans s2
    have q3:=(hb3.cell (p:=⟨wr.1.size,3,none⟩) (by show wr.1.size<_;omega)).trans s3
    have q4:=(hb3.cell (p:=⟨wr.1.size,4,none⟩) (by show wr.1.size<_;omega)).trans s4
    have q5:=(hb3.cell (p:=⟨wr.1.size,5,none⟩) (by show wr.1.size<_;omega)).trans s5
    have q6:=(hb3.cell (p:=⟨wr.1.size,6,none⟩) (by show wr.1.size<_;omega)).trans s6
    have q7:=(hb3.cell (p:=⟨wr.1.size,7,none⟩) (by show wr.1.size<_;omega)).trans s7
    have q8:=(hb3.cell (p:=⟨wr.1.size,8,none⟩) (by show wr.1.size<_;omega)).trans s8
    have r3:=(hb3.cell (p:=⟨wr.1.size+1,3,none⟩) (by show wr.1.size+1<_;omega)).trans t3
    have v1:=(hb3.cell (p:=⟨w.1.size,1,none⟩) (by show w.1.size<_;omega)).trans o1
    have hz3:wr.1.size+2≤w3.1.size:=by have:=hb3.size;omega
    have hB3:=hB2.trans (hb3.mono (by omega))
    clear s0 s1 s2 s3 s4 s5 s6 s7 s8 t0 t1 t2 t3 t4 t5 t6 o0 o1 o2 o3 hb3
    go_wp2_with fail
    refine (hK _).mono ?_
    rintro e w4 ⟨rfl,hb4⟩
    clear hK
    have g3:=(hb4.cell (p:=⟨wr.1.size+1,3,none⟩) (by show wr.1.size+1<_;omega)).trans r3
    have f1:=(hb4.cell (p:=⟨w.1.size,1,none⟩) (by show w.1.size<_;omega)).trans v1
    have hB4:=hB3.trans (hb4.mono (by omega))
    clear q0 q1 q2 q3 q4 q5 q6 q7 q8 r3 v1 hb4
    cases hcr:creB ⟨floor+1+k,gn,⟨ki,na,floor+1+k,bo,te,en,hn,hs⟩⟩ with
    | true=>
     have HN:=hid (show hisB now floor h k=true by unfold hisB;rw [HLV.out,HCE.out,HG.out];simp [begB,hcr])
     go_wp2
     go_roundw
     case rel=>exact ⟨k+1,by omega,by go_num,fun j hj=>(by
      rcases Nat.lt_or_ge j k with h3|h3
      ·exact HA.out j h3
      ·have:j=k:=by omega
       subst this;exact HN.out),hB4⟩
     case measure=>simp [intOf];omega
    | false=>
     by_cases hbf:floor<bo
     ·have HE:=hid (show histS now floor m x n h=false by unfold histS;rw [allTo_no (p:=hisB now floor h) hkn (by unfold hisB;rw [HLV.out];have:¬bo≤floor:=(by omega);simp [begB,hcr,this])];simp)
      go_wp2
      go_ret
      exact ⟨ret_bool HE.out.symm,(below_alloc' _ _).trans (hB4.mono (by omega))⟩
     ·have HN:=hid (show hisB now floor h k=true by unfold hisB;rw [HLV.out,HCE.out,HG.out];have:bo≤floor:=(by omega);simp [begB,this])
      go_wp2
      go_roundw
      case rel=>exact ⟨k+1,by omega,by go_num,fun j hj=>(by
       rcases Nat.lt_or_ge j k with h3|h3
       ·exact HA.out j h3
       ·have:j=k:=by omega
        subst this;exact HN.out),hB4⟩
      case measure=>simp [intOf];omega
   | some i=>
    have hin:=(lst_lt hfd).1
    have HLI:lastI h ⟨ki,na,floor+1+k,bo,te,en,hn,hs⟩ k=i:=by unfold lastI;dsimp only;rw [hfd]
    have HLV:=hid (show livB floor h k=folB (h i) ⟨floor+1+k,gn,⟨ki,na,floor+1+k,bo,te,en,hn,hs⟩⟩ by unfold livB;rw [HCE.out];dsimp only;rw [hfd])
    rw [HLI] at hL
    clear HLI hfd
    obtain ⟨b',off',ah',ch',e,hlo',hbh',hcy,hsy⟩:=HCC.out i (by omega)
    cases e
    have hiz:(i:Int)+1≤n:=by omega
    have hi0:decide ((i:Int)<0)=false:=decide_eq_false (by omega)
    go_wp2_with fail
    refine hL.mono ?_
    rintro e w3 ⟨rfl,hb3⟩
    clear hL
    have hz3:wr.1.size+2≤w3.1.size:=by have:=hb3.size;omega
    have q0:=(hb3.cell (p:=⟨wr.1.size,0,none⟩) (by show wr.1.size<_;omega)).trans s0
    have q1:=(hb3.cell (p:=⟨wr.1.size,1,none⟩) (by show wr.1.size<_;omega)).trans s1
    have q2:=(hb3.cell (p:=⟨wr.1.size,2,none⟩) (by show wr.1.size<_;omega)).trans s2
    have q3:=(hb3.cell (p:=⟨wr.1.size,3,none⟩) (by show wr.1.size<_;omega)).trans s3
    have q4:=(hb3.cell (p:=⟨wr.1.size,4,none⟩) (by show wr.1.size<_;omega)).trans s4
    have q5:=(hb3.cell (p:=⟨wr.1.size,5,none⟩) (by show wr.1.size<_;omega)).trans s5
    have q6:=(hb3.cell (p:=⟨wr.1.size,6,none⟩) (by show wr.1.size<_;omega)).trans s6
    have q7:=(hb3.cell (p:=⟨wr.1.size,7,none⟩) (by show wr.1.size<_;omega)).trans s7
    have q8:=(hb3.cell (p:=⟨wr.1.size,8,none⟩) (by show wr.1.size<_;omega)).trans s8
    have r3:=(hb3.cell (p:=⟨wr.1.size+1,3,none⟩) (by show wr.1.size+1<_;omega)).trans t3
    have v3:=(hb3.cell (p:=⟨w.1.size,3,none⟩) (by show w.1.size<_;omega)).trans o3
    have hB3:=hB2.trans (hb3.mono (by omega))
    have hBw3:Below w.1.size w w3:=(below_alloc' _ _).trans (hB3.mono (by omega))
    obtain ⟨f0,f1,f2,f3,f4,f5,f6,f7,f8⟩:=hcy.below hBw3 (by omega)
    clear s0 s1 s2 s3 s4 s5 s6 s7 s8 t0 t1 t2 t3 t4 t5 t6 o0 o1 o2 o3 hb3 hcy hsy
    go_wp2
    have x0:=subcell q0 (by show wr.1.size<_;omega)
    have x1:=subcell q1 (by show wr.1.size<_;omega)
    have x2:=subcell q2 (by show wr.1.size<_;omega)
    have x3:=subcell q3 (by show wr.1.size<_;omega)
    have x4:=subcell q4 (by show wr.1.size<_;omega)
    have x5:=subcell q5 (by show wr.1.size<_;omega)
    have x6:=subcell q6 (by show wr.1.size<_;omega)
    have x7:=subcell q7 (by show wr.1.size<_;omega)
    have x8:=subcell q8 (by show wr.1.size<_;omega)
    have xr3:=subcell r3 (by show wr.1.size+1<_;omega)
    have xv3:=subcell v3 (by show w.1.size<_;omega)
    have y5:=subcell f5 (by show b<_;omega)
    have hne:Nonempty (GW w3):=⟨⟨_,Below.refl _ _⟩⟩
    obtain ⟨pv,hpb⟩:∃ pv,(h i).ob.born=pv:=⟨_,rfl⟩
    rw [hpb] at y5
    have HPB:=hid hpb
    clear hpb
    clear q0 q1 q2 q3 q4 q5 q6 q7 q8 r3 v3 f0 f2 f3 f4 f5 f6 f7 f8
    cases hcr:creB ⟨floor+1+k,gn,⟨ki,na,floor+1+k,bo,te,en,hn,hs⟩⟩ with
    | true=>
     rw [hcr] at hK
     cases hg:(h i).gone with
     | true=>
      rw [hg] at f1
      have y1:=subcell f1 (by show b<_;omega)
      have HN:=hid (show hisB now floor h k=true by unfold hisB;rw [HLV.out,HCE.out,HG.out];simp [folB,hcr,hg])
      clear hcr hg f1
      refine wp_region_grow (by kernel_rfl) (by kernel_rfl) ?_
      repeat (go_big_quiet_step ((go_at_call 129;go_must (exact grow_of (hK _)))))
      refine wpQuiet_nil ?_
      rintro w4 ⟨u,hu⟩
      have hw4:Below w3.1.size w3 w4:=hu▸u.prop
      clear hu u hne
      have hB4:=hB3.trans (hw4.mono (by omega))
      clear x0 x1 x2 x3 x4 x5 x6 x7 x8 xr3 xv3 y5 y1 hK
      go_wp2
      go_roundw
      case rel=>exact ⟨k+1,by omega,by go_num,fun j hj=>(by
       rcases Nat.lt_or_ge j k with h3|h3
       ·exact HA.out j h3
       ·have:j=k:=by omega
        subst this;exact HN.out),hB4⟩
      case measure=>simp [intOf];omega
     | false=>
      rw [hg] at f1
      have y1:=subcell f1 (by show b<_;omega)
      have HE:=hid (show histS now floor m x n h=false by unfold histS;rw [allTo_no (p:=hisB now floor h) hkn (by unfold hisB;rw [HLV.out];simp [folB,hcr,hg])];simp)
      clear hcr hg f1
      refine wp_region_grow (by kernel_rfl) (by kernel_rfl) ?_
      repeat (go_big_quiet_step ((go_at_call 129;go_must (exact grow_of (hK _)))))
      refine wpQuiet_nil ?_
      rintro w4 ⟨u,hu⟩
      have hw4:Below w3.1.size w3 w4:=hu▸u.prop
      clear hu u hne
      have hB4:=hB3.trans (hw4.mono (by omega))
      clear x0 x1 x2 x3 x4 x5 x6 x7 x8 xr3 xv3 y5 y1 hK
      go_wp2
      go_ret
      exact ⟨ret_bool HE.out.symm,(below_alloc' _ _).trans (hB4.mono (by omega))⟩
    | false=>
     rw [hcr] at hK
     cases hg:(h i).gone with
     | true=>
      rw [hg] at f1
      have y1:=subcell f1 (by show b<_;omega)
      have HE:=hid (show histS now floor m x n h=false by unfold histS;rw [allTo_no (p:=hisB now floor h) hkn (by unfold hisB;rw [HLV.out];simp [folB,hcr,hg])];simp)
      clear hcr hg f1
      refine wp_region_grow (by kernel_rfl) (by kernel_rfl) ?_
      repeat (go_big_quiet_step ((go_at_call 129;go_must (exact grow_of (hK _)))))
      refine wpQuiet_nil ?_
      rintro w4 ⟨u,hu⟩
      have hw4:Below w3.1.size w3 w4:=hu▸u.prop
      clear hu u hne
      have hB4:=hB3.trans (hw4.mono (by omega))
      clear x0 x1 x2 x3 x4 x5 x6 x7 x8 xr3 xv3 y5 y1 hK
      go_wp2
      go_ret
      exact ⟨ret_bool HE.out.symm,(below_alloc' _ _).trans (hB4.mono (by omega))⟩
     | false=>
      rw [hg] at f1
      have y1:=subcell f1 (by show b<_;omega)
      by_cases hq:pv=bo
      ·have hqb:(bo != pv)=false:=by simp [hq]
       have HN:=hid (show hisB now floor h k=true by unfold hisB;rw [HLV.out,HCE.out,HG.out];simp [folB,hcr,hg,HPB.out,hq])
       clear hcr hg f1 hq
       refine wp_region_grow (by kernel_rfl) (by kernel_rfl) ?_
       repeat (go_big_quiet_step ((go_at_call 129;go_must (exact grow_of (hK _)))))
       refine wpQuiet_nil ?_
       rintro w4 ⟨u,hu⟩
       have hw4:Below w3.1.size w3 w4:=hu▸u.prop
       clear hu u hne
       have hB4:=hB3.trans (hw4.mono (by omega))
       clear x0 x1 x2 x3 x4 x5 x6 x7 x8 xr3 xv3 y5 y1 hK
       go_wp2
       go_roundw
       case rel=>exact ⟨k+1,by omega,by go_num,fun j hj=>(by
        rcases Nat.lt_or_ge j k with h3|h3
        ·exact HA.out j h3
        ·have:j=k:=by omega
         subst this;exact HN.out),hB4⟩
       case measure=>simp [intOf];omega
      ·have hqb:(bo != pv)=true:=by simp;exact fun e=>hq e.symm
       have HE:=hid (show histS now floor m x n h=false by unfold histS;rw [allTo_no (p:=hisB now floor h) hkn (by unfold hisB;rw [HLV.out];simp [folB,hcr,hg,HPB.out,hq])];simp)
       clear hcr hg f1 hq
       refine wp_region_grow (by kernel_rfl) (by kernel_rfl) ?_
       repeat (go_big_quiet_step ((go_at_call 129;go_must (exact grow_of (hK _)))))
       refine wpQuiet_nil ?_
       rintro w4 ⟨u,hu⟩
       have hw4:Below w3.1.size w3 w4:=hu▸u.prop
       clear hu u hne
       have hB4:=hB3.trans (hw4.mono (by omega))
       clear x0 x1 x2 x3 x4 x5 x6 x7 x8 xr3 xv3 y5 y1 hK
       go_wp2
       go_ret
       exact ⟨ret_bool HE.out.symm,(below_alloc' _ _).trans (hB4.mono (by omega))⟩
  ·have:n=k:=by omega
   subst this
   have HO1:=hid (show allTo (hisB now floor h) n=true from allTo_iff.2 hall)
   clear hall
   go_wp2
   clear o0 o1 o2 o3
   obtain ⟨W,hW⟩:∃ W,W=wr:=⟨wr,rfl⟩
   subst hW
   go_loopw [7] (fun i wq=>∃ k:Nat,k≤m∧i=.int .i64 k∧Below (w.1.size+1) (w.alloc (.cells #[.int .i64 now,.int .i64 floor,.slice a1 m c1,.slice a2 n c2,.slice a3 n3 c3] 35)) wq∧∀ j,j<k→agO floor x n h j=true) (fun i _=>m-(intOf i).toNat)
   case atStart=>exact ⟨0,Nat.zero_le _,rfl,hb,fun j hj=>absurd hj (Nat.not_lt_zero _)⟩
   case round=>
    obtain ⟨k,hk2,rfl,hb,hall⟩:=hrel
    have hBw:Below w.1.size w wr:=(below_alloc' _ _).trans (hb.mono (by omega))
    have hsz:w.1.size+1≤wr.1.size:=by have:=hb.size;simpa using this
    have hwz:w.1.size<wr.1.size:=by omega
    have hhw:hi≤wr.1.size:=by omega
    have o0:=box_cell (by simpa using hb) 0
    have o1:=box_cell (by simpa using hb) 1
    have o2:=box_cell (by simpa using hb) 2
    have o3:=box_cell (by simpa using hb) 3
    have o4:=box_cell (by simpa using hb) 4
    simp only [List.getElem?_toArray,List.getElem?_cons_succ,List.getElem?_cons_zero] at o0 o1 o2 o3 o4
    by_cases hkm:k<m
    ·obtain ⟨b,off,ah,ch,rfl,hlo,hbh,hcx,hsx⟩:=hco k hkm
     have hxk:=hx k hkm
     have hxh:((x k).hn:Int)≤140737488355328:=by have:=hxk.h;omega
     obtain ⟨d0,d1,d2,d3,d4,d5,d6⟩:=hcx.below hBw (by omega)
     have HA:=hid hall
     have HC:=hid hc
     have HF:=hid hf
     have HS:=hid hsx
     have hcu:∀ u:GW wr,ChgsIn u.val lo hi a2 n h:=fun u=>hc.below (hBw.trans (u.prop.mono (by omega))) hhi
     have hhu:∀ u:GW wr,hi≤u.val.1.size:=fun u=>Nat.le_trans hhw u.prop.size
     have hLU:∀ u:GW wr,Calls Tryz.prog 128 #[.slice a2 n c2,.agg #[.string (x k).kind,.string (x k).name,.int .i64 (x k).ver,.int .i64 (x k).born,.string (x k).text,.bool (x k).ending,.slice ah (x k).hn ch],.int .i64 n] u.val fun e w'=>e=.returned (.int .i64 (lastI h (x k) n))∧Below u.val.1.size u.val w':=fun u=>l1Last_any n n h (x k) a2 ah c2 ch _ lo hi (hhu u) hl (Nat.le_refl _) (hcu u)
     clear hall hc hf hco hx hcx hsx hcu hhu
     have z2:=subcell o2 (by show w.1.size<_;omega)
     have z3:=subcell o3 (by show w.1.size<_;omega)
     have x0:=subcell d0 (by show b<_;omega)
     have x1:=subcell d1 (by show b<_;omega)
     have x2:=subcell d2 (by show b<_;omega)
     have x3:=subcell d3 (by show b<_;omega)
     have x4:=subcell d4 (by show b<_;omega)
     have x5:=subcell d5 (by show b<_;omega)
     have x6:=subcell d6 (by show b<_;omega)
     have hne:Nonempty (GW wr):=⟨⟨_,Below.refl _ _⟩⟩
     go_wp2
     cases hfd:lst h (x k).kind (x k).name n with
     | none=>
      have HLI:lastI h (x k) n = -1:=by unfold lastI;rw [hfd]
      have HL:=hid (show agO floor x n h k=decide ((x k).ver≤floor) by unfold agO;rw [hfd])
      simp only [HLI] at hLU
      clear HLI hfd
      refine wp_region_grow (by kernel_rfl) (by kernel_rfl) ?_
      repeat (go_big_quiet_step ((go_at_call 128;go_must (exact grow_of (hLU _)))))
      refine wpQuiet_nil ?_
      rintro w1 ⟨u,hu⟩
      have hw1:Below wr.1.size wr w1:=hu▸u.prop
      clear hu u hne hLU z2 z3 x0 x1 x2 x3 x4 x5 x6
      have hB1:=hb.trans (hw1.mono (by omega))
      have p1:=(hw1.cell (p:=⟨w.1.size,1,none⟩) (by show w.1.size<_;omega)).trans o1
      have p2:=(hw1.cell (p:=⟨w.1.size,2,none⟩) (by show w.1.size<_;omega)).trans o2
      have p3:=(hw1.cell (p:=⟨w.1.size,3,none⟩) (by show w.1.size<_;omega)).trans o3
      have e2:=(hw1.cell (p:=⟨b,off+k*7+2,none⟩) (by show b<_;omega)).trans d2
      have hz1:wr.1.size≤w1.1.size:=hw1.size
      have u1:=subcell p1 (by show w.1.size<_;omega)
      have u2:=subcell p2 (by show w.1.size<_;omega)
      have u3:=subcell p3 (by show w.1.size<_;omega)
      have y2:=subcell e2 (by show b<_;omega)
      have hne:Nonempty (GW w1):=⟨⟨_,Below.refl _ _⟩⟩
      clear d0 d1 d2 d3 d4 d5 d6 o0 o1 o2 o3 o4 p1 p2 p3 e2 hw1
      go_wp2
      by_cases hv:(x k).ver≤floor
      ·have HN:=hid (show agO floor x n h k=true by rw [HL.out];exact decide_eq_true hv)
       have hd:decide (floor<(x k).ver)=false:=decide_eq_false (by omega)
       refine wp_region_grow (by kernel_rfl) (by kernel_rfl) ?_
       repeat (go_big_quiet_step (fail))
       refine wpQuiet_nil ?_
       rintro w2 ⟨u,hu⟩
       have hw2:Below w1.1.size w1 w2:=hu▸u.prop
       clear hu u hne
       have hB2:=hB1.trans (hw2.mono (by omega))
       clear u1 u2 u3 y2
       go_wp2
       go_roundw
       case rel=>exact ⟨k+1,by omega,by go_num,hB2,fun j hj=>(by
        rcases Nat.lt_or_ge j k with h3|h3
        ·exact HA.out j h3
        ·have:j=k:=by omega
         subst this;exact HN.out)⟩
       case measure=>simp [intOf];omega
      ·have HE:=hid (show histS now floor m x n h=false by unfold histS agB;rw [allTo_no (p:=agO floor x n h) hkm (HL.out.trans (decide_eq_false hv))];simp)
       have hd:decide (floor<(x k).ver)=true:=decide_eq_true (by omega)
       refine wp_region_grow (by kernel_rfl) (by kernel_rfl) ?_
       repeat (go_big_quiet_step (fail))
       refine wpQuiet_nil ?_
       rintro w2 ⟨u,hu⟩
       have hw2:Below w1.1.size w1 w2:=hu▸u.prop
       clear hu u hne
       have hB2:=hB1.trans (hw2.mono (by omega))
       clear u1 u2 u3 y2
       go_wp2
       go_ret
       exact ⟨ret_bool HE.out.symm,(below_alloc' _ _).trans (hB2.mono (by omega))⟩
     | some j=>
      have hjn:=(lst_lt hfd).1
      have HLI:lastI h (x k) n=j:=by unfold lastI;rw [hfd]
      have HL:=hid (show agO floor x n h k=(!(h j).gone&&sameB (h j).ob (x k)) by unfold agO;rw [hfd,sameB_comm (h j).ob])
      simp only [HLI] at hLU
      clear HLI hfd
      obtain ⟨b',off',ah',ch',rfl,hlo',hbh',hcy,hsy⟩:=HC.out j hjn
      have hjh:((h j).ob.hn:Int)≤140737488355328:=by have:=(HF.out j hjn).h;omega
      have HSY:=hid hsy
      clear hsy
      have hjz:(j:Int)+1≤n:=by omega
      have hj0:decide ((0:Int)≤(j:Int))=true:=decide_eq_true (by omega)
      have hj1:decide ((j:Int)<0)=false:=decide_eq_false (by omega)
      refine wp_region_grow (by kernel_rfl) (by kernel_rfl) ?_
      repeat (go_big_quiet_step ((go_at_call 128;go_must (exact grow_of (hLU _)))))
      refine wpQuiet_nil ?_
      rintro w1 ⟨u,hu⟩
      have hw1:Below wr.1.size wr w1:=hu▸u.prop
      clear hu u hne hLU z2 z3 x0 x1 x2 x3 x4 x5 x6
      have hB1:=hb.trans (hw1.mono (by omega))
      have hBw1:Below w.1.size w w1:=(below_alloc' _ _).trans (hB1.mono (by omega))
      have hz1:wr.1.size≤w1.1.size:=hw1.size
      have p1:=(hw1.cell (p:=⟨w.1.size,1,none⟩) (by show w.1.size<_;omega)).trans o1
      have p2:=(hw1.cell (p:=⟨w.1.size,2,none⟩) (by show w.1.size<_;omega)).trans o2
      have p3:=(hw1.cell (p:=⟨w.1.size,3,none⟩) (by show w.1.size<_;omega)).trans o3
      have u1:=subcell p1 (by show w.1.size<_;omega)
      have u2:=subcell p2 (by show w.1.size<_;omega)
      have u3:=subcell p3 (by show w.1.size<_;omega)
      have e0:=(hw1.cell (p:=⟨b,off+k*7,none⟩) (by show b<_;omega)).trans d0
      have e1:=(hw1.cell (p:=⟨b,off+k*7+1,none⟩) (by show b<_;omega)).trans d1
      have e2:=(hw1.cell (p:=⟨b,off+k*7+2,none⟩) (by show b<_;omega)).trans d2
      have e3:=(hw1.cell (p:=⟨b,off+k*7+3,none⟩) (by show b<_;omega)).trans d3
      have e4:=(hw1.cell (p:=⟨b,off+k*7+4,none⟩) (by show b<_;omega)).trans d4
      have e5:=(hw1.cell (p:=⟨b,off+k*7+5,none⟩) (by show b<_;omega)).trans d5
      have e6:=(hw1.cell (p:=⟨b,off+k*7+6,none⟩) (by show b<_;omega)).trans d6
      have xx0:=subcell e0 (by show b<_;omega)
      have xx1:=subcell e1 (by show b<_;omega)
      have xx2:=subcell e2 (by show b<_;omega)
      have xx3:=subcell e3 (by show b<_;omega)
      have xx4:=subcell e4 (by show b<_;omega)
      have xx5:=subcell e5 (by show b<_;omega)
      have xx6:=subcell e6 (by show b<_;omega)
      obtain ⟨f0,f1,f2,f3,f4,f5,f6,f7,f8⟩:=hcy.below hBw1 (by omega)
      have y2:=subcell f2 (by show b'<_;omega)
      have y3:=subcell f3 (by show b'<_;omega)
      have y4:=subcell f4 (by show b'<_;omega)
      have y5:=subcell f5 (by show b'<_;omega)
      have y6:=subcell f6 (by show b'<_;omega)
      have y7:=subcell f7 (by show b'<_;omega)
      have y8:=subcell f8 (by show b'<_;omega)
      have hne:Nonempty (GW w1):=⟨⟨_,Below.refl _ _⟩⟩
      have hhw1:hi≤w1.1.size:=by omega
      have hhu:∀ u:GW w1,hi≤u.val.1.size:=fun u=>Nat.le_trans hhw1 u.prop.size
      have hu1:∀ u:GW w1,StrsIn u.val lo hi ah (x k).hn (x k).hs:=fun u=>HS.out.below (hBw1.trans (u.prop.mono (by omega))) hhi
      have hu2:∀ u:GW w1,StrsIn u.val lo hi ah' (h j).ob.hn (h j).ob.hs:=fun u=>HSY.out.below (hBw1.trans (u.prop.mono (by omega))) hhi
      have hSU:∀ u:GW w1,Calls Tryz.prog 130 #[.agg #[.string (h j).ob.kind,.string (h j).ob.name,.int .i64 (h j).ob.ver,.int .i64 (h j).ob.born,.string (h j).ob.text,.bool (h j).ob.ending,.slice ah' (h j).ob.hn ch'],.agg #[.string (x k).kind,.string (x k).name,.int .i64 (x k).ver,.int .i64 (x k).born,.string (x k).text,.bool (x k).ending,.slice ah (x k).hn ch]] u.val fun e w'=>e=.returned (.bool (sameB (h j).ob (x k)))∧Below u.val.1.size u.val w':=fun u=>l1Same_any (h j).ob (x k) ah' ah ch' ch _ lo hi (hhu u) hjh hxh (hu2 u) (hu1 u)
      clear d0 d1 d2 d3 d4 d5 d6 o0 o1 o2 o3 o4 p1 p2 p3 e0 e1 e2 e3 e4 e5 e6 hw1 hcy f0 f2 f3 f4 f5 f6 f7 f8 hhu hu1 hu2
      go_wp2
      cases hg:(h j).gone with
      | true=>
       have HE:=hid (show histS now floor m x n h=false by unfold histS agB;rw [allTo_no (p:=agO floor x n h) hkm (HL.out.trans (by rw [hg];rfl))];simp)
       rw [hg] at f1
       have v1:=subcell f1 (by show b'<_;omega)
       clear hg f1
       refine wp_region_grow (by kernel_rfl) (by kernel_rfl) ?_
       repeat (go_big_quiet_step ((go_at_call 130;go_must (exact grow_of (hSU _)))))
       refine wpQuiet_nil ?_
       rintro w2 ⟨u,hu⟩
       have hw2:Below w1.1.size w1 w2:=hu▸u.prop
       clear hu u hne
       have hB2:=hB1.trans (hw2.mono (by omega))
       clear u1 u2 u3 v1 hSU xx0 xx1 xx2 xx3 xx4 xx5 xx6 y2 y3 y4 y5 y6 y7 y8
       go_wp2
       go_ret
       exact ⟨ret_bool HE.out.symm,(below_alloc' _ _).trans (hB2.mono (by omega))⟩
      | false=>
       rw [hg] at f1
       have v1:=subcell f1 (by show b'<_;omega)
       have HL2:=hid (show agO floor x n h k=sameB (h j).ob (x k) by rw [HL.out,hg];rfl)
       clear hg f1
       cases hsm:sameB (h j).ob (x k) with
       | false=>
        have HE:=hid (show histS now floor m x n h=false by unfold histS agB;rw [allTo_no (p:=agO floor x n h) hkm (HL2.out.trans hsm)];simp)
        simp only [hsm] at hSU
        clear hsm
        refine wp_region_grow (by kernel_rfl) (by kernel_rfl) ?_
        repeat (go_big_quiet_step ((go_at_call 130;go_must (exact grow_of (hSU _)))))
        refine wpQuiet_nil ?_
        rintro w2 ⟨u,hu⟩
        have hw2:Below w1.1.size w1 w2:=hu▸u.prop
        clear hu u hne
        have hB2:=hB1.trans (hw2.mono (by omega))
        clear u1 u2 u3 v1 hSU xx0 xx1 xx2 xx3 xx4 xx5 xx6 y2 y3 y4 y5 y6 y7 y8
        go_wp2
        go_ret
        exact ⟨ret_bool HE.out.symm,(below_alloc' _ _).trans (hB2.mono (by omega))⟩
       | true=>
        have HN:=hid (HL2.out.trans hsm)
        simp only [hsm] at hSU
        clear hsm
        refine wp_region_grow (by kernel_rfl) (by kernel_rfl) ?_
        repeat (go_big_quiet_step ((go_at_call 130;go_must (exact grow_of (hSU _)))))
        refine wpQuiet_nil ?_
        rintro w2 ⟨u,hu⟩
        have hw2:Below w1.1.size w1 w2:=hu▸u.prop
        clear hu u hne
        have hB2:=hB1.trans (hw2.mono (by omega))
        clear u1 u2 u3 v1 hSU xx0 xx1 xx2 xx3 xx4 xx5 xx6 y2 y3 y4 y5 y6 y7 y8
        go_wp2
        go_roundw
        case rel=>exact ⟨k+1,by omega,by go_num,hB2,fun j hj=>(by
         rcases Nat.lt_or_ge j k with h3|h3
         ·exact HA.out j h3
         ·have:j=k:=by omega
          subst this;exact HN.out)⟩
        case measure=>simp [intOf];omega
    ·have:m=k:=by omega
     subst this
     have HO2:=hid (show allTo (agO floor x n h) m=true from allTo_iff.2 hall)
     clear hall
     go_wp2
     clear o0 o1 o2 o3 o4
     obtain ⟨V,hV⟩:∃ V,V=wr:=⟨wr,rfl⟩
     subst hV
     go_loopw [9] (fun i wq=>∃ k:Nat,k≤n∧i=.int .i64 k∧Below (w.1.size+1) (w.alloc (.cells #[.int .i64 now,.int .i64 floor,.slice a1 m c1,.slice a2 n c2,.slice a3 n3 c3] 35)) wq∧∀ j,j<k→agH m x n h j=true) (fun i _=>n-(intOf i).toNat)
     case atStart=>exact ⟨0,Nat.zero_le _,rfl,hb,fun j hj=>absurd hj (Nat.not_lt_zero _)⟩
     case round=>
      obtain ⟨k,hk2,rfl,hb,hall⟩:=hrel
      have hBw:Below w.1.size w wr:=(below_alloc' _ _).trans (hb.mono (by omega))
      have hsz:w.1.size+1≤wr.1.size:=by have:=hb.size;simpa using this
      have hwz:w.1.size<wr.1.size:=by omega
      have hhw:hi≤wr.1.size:=by omega
      have o0:=box_cell (by simpa using hb) 0
      have o1:=box_cell (by simpa using hb) 1
      have o2:=box_cell (by simpa using hb) 2
      have o3:=box_cell (by simpa using hb) 3
      have o4:=box_cell (by simpa using hb) 4
      simp only [List.getElem?_toArray,List.getElem?_cons_succ,List.getElem?_cons_zero] at o0 o1 o2 o3 o4
      by_cases hkn2:k<n
      ·obtain ⟨b,off,ah,ch,rfl,hlo,hbh,hcx,hsx⟩:=hc k hkn2
       obtain ⟨d0,d1,d2,d3,d4,d5,d6,d7,d8⟩:=hcx.below hBw (by omega)
       obtain ⟨i',hli⟩:=lst_some (h:=h) hkn2
       have HLI:lastI h (h k).ob n=i':=by unfold lastI;rw [hli]
       have HLL:=hid hli
       have hin:=(lst_lt hli).1
       have hL:=l1Last_any n n h (h k).ob (some ⟨b,off,none⟩) ah c2 ch (wr.alloc (.cells #[.int .i64 (h k).ver,.bool (h k).gone,.string (h k).ob.kind,.string (h k).ob.name,.int .i64 (h k).ob.ver,.int .i64 (h k).ob.born,.string (h k).ob.text,.bool (h k).ob.ending,.slice ah (h k).ob.hn ch] 120)) lo hi (by simp;omega) hl (Nat.le_refl _) (hc.below (hBw.alloc hBw.size _) hhi)
       rw [HLI] at hL
       have HA:=hid hall
       have HCO:=hid hco
       have HX:=hid hx
       clear HLI hli hall hc hf hcx hsx hco hx
       go_wp2_with fail
       refine hL.mono ?_
       rintro e w1 ⟨rfl,hb1⟩
       clear hL
       have hB1:Below (w.1.size+1) (w.alloc (.cells #[.int .i64 now,.int .i64 floor,.slice a1 m c1,.slice (some ⟨b,off,none⟩) n c2,.slice a3 n3 c3] 35)) w1:=(hb.alloc hsz _).trans (hb1.mono (by simp;omega))
       have hBw1:Below w.1.size w w1:=(below_alloc' _ _).trans (hB1.mono (by omega))
       have hz1:wr.1.size+1≤w1.1.size:=by have:=hb1.size;simp at this;omega
       have p1:=box_cell hb1 1
       have p2:=box_cell hb1 2
       have p3:=box_cell hb1 3
       have o0:=box_cell (by simpa using hB1) 0
       have o1:=box_cell (by simpa using hB1) 1
       have o2:=box_cell (by simpa using hB1) 2
       have o3:=box_cell (by simpa using hB1) 3
       have o4:=box_cell (by simpa using hB1) 4
       simp only [List.getElem?_toArray,List.getElem?_cons_succ,List.getElem?_cons_zero] at p1 p2 p3 o0 o1 o2 o3 o4
       clear d0 d1 d2 d3 d4 d5 d6 d7 d8 hb1
       by_cases hii:i'=k
       case neg=>
        have HN:=hid (show agH m x n h k=true by unfold agH;rw [HLL.out];simp [hii])
        have hd:((i':Int) != (k:Int))=true:=by simp;omega
        have hd2:¬(i':Int)=(k:Int):=by omega
        clear hii
        go_wp2
        go_roundw
        case rel=>exact ⟨k+1,by omega,by go_num,hB1,fun j hj=>(by
         rcases Nat.lt_or_ge j k with h3|h3
         ·exact HA.out j h3
         ·have:j=k:=by omega
          subst this;exact HN.out)⟩
        case measure=>simp [intOf];omega
       subst hii
       cases hg:(h i').gone with
       | true=>
        have HN:=hid (show agH m x n h i'=true by unfold agH;rw [hg];simp)
        rw [hg] at p1
        clear hg
        go_wp2
        go_roundw
        case rel=>exact ⟨i'+1,by omega,by go_num,hB1,fun j hj=>(by
         rcases Nat.lt_or_ge j i' with h3|h3
         ·exact HA.out j h3
         ·have:j=i':=by omega
          subst this;exact HN.out)⟩
        case measure=>simp [intOf];omega
       | false=>
        rw [hg] at p1
        have HG:=hid hg
        clear hg
        have hS:=specFind_any now floor m x a1 (some ⟨b,off,none⟩) a3 c1 n c2 n3 c3 (h i').ob.kind (h i').ob.name w1 lo hi (by omega) hm HX.out (HCO.out.below hBw1 hhi)
        cases hfn:fndIs x (h i').ob.kind (h i').ob.name m with
        | false=>
         have HE:=hid (show histS now floor m x n h=false by unfold histS agB;rw [allTo_no (p:=agH m x n h) hkn2 (show agH m x n h i'=false by unfold agH;rw [HLL.out,HG.out,show (fnd x (h i').ob.kind (h i').ob.name m).isSome=false from hfn];simp)];simp)
         rw [hfn] at hS
         clear hfn
         go_wp2_with fail
         refine hS.mono ?_
         rintro e w2 ⟨ad',cap',rfl,_,_,hb2⟩
         have hB2:=hB1.trans (hb2.mono (by omega))
         clear hS hb2
         go_wp2
         go_ret
         exact ⟨ret_bool HE.out.symm,((below_alloc' _ _).trans (hB2.mono (by omega))).alloc (by have:=hB2.size;simp at this;omega) _⟩
        | true=>
         have HN:=hid (show agH m x n h i'=true by unfold agH;rw [show (fnd x (h i').ob.kind (h i').ob.name m).isSome=true from hfn];simp)
         rw [hfn] at hS
         clear hfn
         go_wp2_with fail
         refine hS.mono ?_
         rintro e w2 ⟨ad',cap',rfl,_,_,hb2⟩
         have hB2:=hB1.trans (hb2.mono (by omega))
         have hz2:w.1.size+1≤w2.1.size:=by have:=hB2.size;simp at this;omega
         clear hS hb2
         go_wp2
         go_roundw
         case rel=>exact ⟨i'+1,by omega,by go_num,(hB2.alloc hz2 _),fun j hj=>(by
          rcases Nat.lt_or_ge j i' with h3|h3
          ·exact HA.out j h3
          ·have:j=i':=by omega
           subst this;exact HN.out)⟩
         case measure=>simp [intOf];omega
      ·have HE:=hid (show histS now floor m x n h=true by unfold histS agB;rw [decide_eq_true (show n≤200 by omega),decide_eq_true HNF.out,HO1.out,HO2.out,allTo_iff.2 (fun i hi=>hall i (by omega))];rfl)
       clear hall hc hf hco hx
       go_wp2
       go_ret
       exact ⟨ret_bool HE.out.symm,hBw⟩
end Go.Proofs.YtllmmkchokkaaaaGreatDoor
