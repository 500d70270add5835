import Derived.Test.YtllmmkchokkaaaaGreatDoorPk05
import Derived.Test.YtllmmkchokkaaaaGreatDoorPk02
set_option maxRecDepth 100000
set_option maxHeartbeats 800000
namespace Go.Proofs.YtllmmkchokkaaaaGreatDoor
open Go.RowKit
theorem less_irr:∀ l:List UInt8,Op.bytesLess l l=false
 | []=>by simp [Op.bytesLess]
 | c::r=>by simp [Op.bytesLess,less_irr r]
theorem ltB_irr {a b:ByteArray} (h:a.toList=b.toList):ltB a b=false:=by unfold ltB;rw [h];exact less_irr _
theorem keyI_bef (x z:Ob):decide (0≤keyI x z) = !befB x z:=by
 unfold keyI befB
 by_cases h:x.kind.toList=z.kind.toList
 ·rw [if_pos h,if_pos h,ltB_irr h]
  cases h1:ltB x.name z.name with
  | true=>simp
  | false=>
   by_cases h2:x.name.toList=z.name.toList<;>simp [h2]
 ·rw [if_neg h,if_neg h]
  cases h1:ltB x.kind z.kind<;>simp
def objAsc (n:Nat) (x:Nat→Ob):Bool:=allTo (fun i=>i==0||befB (x (i-1)) (x i)) n
def objFit (n:Nat) (x:Nat→Ob) (now:Int):Bool:=allTo (fun i=>partsB (x i) now&&standB (x i)) n
def verDiff (n:Nat) (x:Nat→Ob):Bool:=allTo (fun i=>allTo (fun k=>decide (¬(x k).ver=(x i).ver)) i) n
def objsB (n:Nat) (x:Nat→Ob) (now:Int):Bool:=decide (n≤100)&&(objAsc n x&&(objFit n x now&&verDiff n x))
theorem apP070 {P:Prop} (h:P:=by
  refine wp_region_grow Zf Zf ?_
  repeat (go_big_quiet_step (first|(go_at_call 126;go_must (exact grow_of (parts_en (x k) now _ (by first|rfl|exact hen) ah ch _ lo hi Zbs hfk (by exact StrsIn.below hs1 (GW.prop _) hh1))))|(go_at_call 127;go_must (exact grow_of (key_en (x (k-1)) (x k) _ _ _ _ _ _ _)))))
  refine wpQuiet_nil ?_
  rintro w2 ⟨u,hu⟩
  have hw2:Below W1.1.size W1 w2:=hu▸u.prop
  clear hu u
  go_wp2
  go_ret
  exact ⟨ret_bool HE.out.symm,HBW.out.trans (hw2.mono Za)⟩):P:=h
theorem apP071 {P:Prop} (h:P:=by
  have HVE:=hid hve
  clear hve
  go_wp2
  go_quiet (fail)
  go_wp2
  go_roundw
  case rel=>exact ⟨j+1,Za,by go_num,fun m' hm'=>(by
   rcases Nat.lt_or_ge m' j with h3|h3
   ·exact HV.out m' h3
   ·have:m'=j:=Za
    subst this;exact HVE.out),drewQ HQ.out⟩
  case measure=>simp [intOf];omega):P:=h
theorem apP072 {P:Prop} (h:P:=by
  clear hve
  go_wp2
  go_quiet (fail)
  go_wp2
  go_ret
  exact ⟨ret_bool HE.out.symm,hB2.trans (Below.mono (by obtain ⟨q',hq'⟩:=drewQ (nq:=nq) HQ.out;rw [hq'];exact below_drewN' _ _) hB2.size)⟩):P:=h
theorem specObjs_any (now floor:Int) (n:Nat) (x:Nat→Ob) (a1 a2 a3:Option Addr) (c1 n2 c2 n3 c3:Nat) (w:World) (lo hi:Nat) (hhi:hi≤w.1.size) (hl:(n:Int)≤1099511627776) (hf:∀ i,i<n→ObFit (x i)) (hc:ObjsIn w lo hi a1 n x) :
  Calls Tryz.prog 71 #[.agg #[.int .i64 now,.int .i64 floor,.slice a1 n c1,.slice a2 n2 c2,.slice a3 n3 c3]] w fun e w'=>e=.returned (.bool (objsB n x now))∧Below w.1.size w w':=by
 by_cases h100:(100:Int)<n
 ·have HE:=hid (show objsB n x now=false by unfold objsB;rw [decide_eq_false Za];rfl)
  go_enter Tryz.func71,Tryz.ntmps71
  go_wp2
  go_ret
  exact ⟨ret_bool HE.out.symm,below_alloc' _ _⟩
 go_enter Tryz.func71,Tryz.ntmps71
 go_wp2
 go_loopw [3] (fun i wr=>∃ k:Nat,k≤n∧i=.int .i64 k∧(∀ j,j<k→(partsB (x j) now=true∧standB (x j)=true∧(j==0||befB (x (j-1)) (x j))=true∧∀ m,m<j→¬(x m).ver=(x j).ver))∧Below w.1.size w wr∧w.1.size<wr.1.size∧wr.cell? ⟨w.1.size,0,none⟩=some (.int .i64 now)∧wr.cell? ⟨w.1.size,2,none⟩=some (.slice a1 n c1)) (fun i _=>n-(intOf i).toNat)
 case atStart=>exact ⟨0,Nat.zero_le _,rfl,fun j hj=>absurd hj (Nat.not_lt_zero _),below_alloc' _ _,Zd,Zd,Zd⟩
 case round=>
  obtain ⟨k,hk,rfl,hall,hb,hz,hb0,hb2⟩:=hrel
  by_cases hkn:k<n
  ·obtain ⟨b,off,ah,ch,rfl,hlo,hbh,hcx,hsx⟩:=hc k hkn
   have hfk:=hf k hkn
   obtain ⟨d0,d1,d2,d3,d4,d5,d6⟩:=hcx.below hb Za
   have HA:=hid hall
   have HC:=hid hc
   have HF:=hid hf
   clear hall hc hf hcx
   go_wp2
   generalize hW:wr.alloc (.cells #[.string (x k).kind,.string (x k).name,.int .i64 (x k).ver,.int .i64 (x k).born,.string (x k).text,.bool (x k).ending,.slice ah (x k).hn ch] 118)=W1
   have hWs:W1.1.size=wr.1.size+1:=by rw [←hW];simp
   have hBW:Below w.1.size w W1:=by rw [←hW];exact hb.alloc hb.size _
   have e0:W1.cell? ⟨wr.1.size,0,none⟩=some (.string (x k).kind):=by rw [←hW];simp
   have e1:W1.cell? ⟨wr.1.size,1,none⟩=some (.string (x k).name):=by rw [←hW];simp
   have e2:W1.cell? ⟨wr.1.size,2,none⟩=some (.int .i64 (x k).ver):=by rw [←hW];simp
   have e3:W1.cell? ⟨wr.1.size,3,none⟩=some (.int .i64 (x k).born):=by rw [←hW];simp
   have e4:W1.cell? ⟨wr.1.size,4,none⟩=some (.string (x k).text):=by rw [←hW];simp
   have e5:W1.cell? ⟨wr.1.size,5,none⟩=some (.bool (x k).ending):=by rw [←hW];simp
   have e6:W1.cell? ⟨wr.1.size,6,none⟩=some (.slice ah (x k).hn ch):=by rw [←hW];simp
   have f0:W1.cell? ⟨w.1.size,0,none⟩=some (.int .i64 now):=by rw [←hW,World.cell?_alloc_past _ _ _ hz];exact hb0
   have f2:W1.cell? ⟨w.1.size,2,none⟩=some (.slice (some ⟨b,off,none⟩) n c1):=by rw [←hW,World.cell?_alloc_past _ _ _ hz];exact hb2
   have ro0:=subcell e0 Zl
   have ro1:=subcell e1 Zl
   have ro2:=subcell e2 Zl
   have ro3:=subcell e3 Zl
   have ro4:=subcell e4 Zl
   have ro5:=subcell e5 Zl
   have ro6:=subcell e6 Zl
   have rb0:=subcell f0 Zh
   have rb2:=subcell f2 Zh
   have hs1:=hsx.below hBW hhi
   have hh1:hi≤W1.1.size:=Za
   have hne:Nonempty (GW W1):=⟨⟨W1,Below.refl _ _⟩⟩
   have HBW:=hid hBW
   clear d0 d1 d2 d3 d4 d5 d6 hsx hW hb hb0 hb2 hBW e0 e1 e3 e4 e5 e6
   cases hp:partsB (x k) now with
   | false=>
    have HE:=hid (show objsB n x now=false by unfold objsB objFit;rw [allTo_no (p:=fun i=>partsB (x i) now&&standB (x i)) hkn (by rw [hp];rfl)];simp)
    exact apP070
   | true=>
    have HP:=hid hp
    by_cases hst:(x k).ending=true∧(x k).hn=0
    ·have HE:=hid (show objsB n x now=false by unfold objsB objFit;rw [allTo_no (p:=fun i=>partsB (x i) now&&standB (x i)) hkn (by simp [standB,hst.1,hst.2])];simp)
     have hen:=hst.1
     have hh0:(((x k).hn:Int)==0)=true:=by simp [hst.2]
     clear hst
     exact apP070
    ·have HST:=hid (show standB (x k)=true by
      unfold standB
      cases he:(x k).ending with
      | false=>rfl
      | true=>simp;exact Nat.pos_of_ne_zero (fun h=>hst ⟨he,h⟩))
     have hpair:((x k).ending=false∧True)∨((x k).ending=true∧(((x k).hn:Int)==0)=false):=by
      cases he:(x k).ending with
      | false=>exact Or.inl ⟨rfl,trivial⟩
      | true=>exact Or.inr ⟨rfl,by simp;exact fun h=>hst ⟨he,h⟩⟩
     clear hst
     rcases hpair with ⟨hen,hh0⟩|⟨hen,hh0⟩
     all_goals
      rcases Nat.eq_zero_or_pos k with hk0|hpos
      ·have hg:decide ((0:Int)<(k:Int))=false:=decide_eq_false Za
       have hg2:decide (0<k)=false:=decide_eq_false Za
       have HK0:=hid hk0
       clear hk0
       refine wp_region_grow Zf Zf ?_
       repeat (go_big_quiet_step (first|(go_at_call 126;go_must (exact grow_of (parts_en (x k) now _ (by first|rfl|exact hen) ah ch _ lo hi Zbs hfk (by exact StrsIn.below hs1 (GW.prop _) hh1))))|(go_at_call 127;go_must (exact grow_of (key_en (x (k-1)) (x k) _ _ _ _ _ _ _)))))
       refine wpQuiet_nil ?_
       rintro w2 ⟨u,hu⟩
       have hw2:Below W1.1.size W1 w2:=hu▸u.prop
       clear hu u
       have hB2:Below w.1.size w w2:=HBW.out.trans (hw2.mono Za)
       have o2:=(hw2.cell (p:=⟨wr.1.size,2,none⟩) Zl).trans e2
       have g0:=(hw2.cell (p:=⟨w.1.size,0,none⟩) Zh).trans f0
       have g2:=(hw2.cell (p:=⟨w.1.size,2,none⟩) Zh).trans f2
       have hz2:wr.1.size<w2.1.size:=by have:=hw2.size;omega
       have HW2:=hid hw2
       clear ro0 ro1 ro2 ro3 ro4 ro5 ro6 rb0 rb2 e2 f0 f2 hne hs1 hw2
       go_wp2
       go_loopw [5] (fun i w3=>∃ j:Nat,j≤k∧i=.int .i64 j∧(∀ m',m'<j→¬(x m').ver=(x (k)).ver)∧∃ q,w3=w2.drewN q) (fun i _=>(k)-(intOf i).toNat)
       case atStart=>exact ⟨0,Nat.zero_le _,rfl,fun j hj=>absurd hj (Nat.not_lt_zero _),0,rfl⟩
       case round=>
        obtain ⟨j,hj,rfl,hvs,q,hq⟩:=hrel
        have HQ:=hid hq
        have hcr:∀ p,wr.cell? p=w2.cell? p:=fun p=>(by rw [hq,World.cell?_drewN])
        have o2':=(hcr _).trans o2
        have g2':=(hcr _).trans g2
        have g0':=(hcr _).trans g0
        clear hcr
        have hzr:w2.1.size=wr.1.size:=by rw [hq];rfl
        have HV:=hid hvs
        clear hvs
        by_cases hjk:j<k
        ·obtain ⟨b',off',_,_,e,_,hbh',hcj,_⟩:=HC.out j Za
         cases e
         have hvj:wr.cell? ⟨b,off+j*7+2,none⟩=some (.int .i64 (x j).ver):=by rw [hq];exact (hcj.below hB2 Za).c2
         clear hcj hq o2 g2 g0
         by_cases hve:(x j).ver=(x (k)).ver
         ·have HE:=hid (show objsB n x now=false by unfold objsB verDiff;rw [allTo_no (p:=fun i=>allTo (fun k=>decide (¬(x k).ver=(x i).ver)) i) hkn (allTo_no (p:=fun k'=>decide (¬(x k').ver=(x (k)).ver)) hjk (by simp [hve]))];simp)
          have hvb:((x j).ver==(x (k)).ver)=true:=by simp [hve]
          exact apP072
         ·have hvb:((x j).ver==(x (k)).ver)=false:=by simp [hve]
          exact apP071
        ·have hjk':j=k:=Za
         have HBR:=hid (show Below w.1.size w wr by rw [hq];exact hB2.trans ((below_drewN' _ _).mono hB2.size))
         have HRZ:Hid (w.1.size<wr.1.size):=(by rw [←hzr];omega:w.1.size<wr.1.size)
         have HVK:=hid (show ∀ m',m'<k→¬(x m').ver=(x (k)).ver from fun m' hm'=>HV.out m' Za)
         have HGG:=hid (And.intro g0' g2')
         clear hq o2 g2 g0 o2' HV
         go_wp2
         go_roundw
         case rel=>exact ⟨(k)+1,Za,by go_num,fun m' hm'=>(by
          rcases Nat.lt_or_ge m' (k) with h3|h3
          ·exact HA.out m' h3
          ·have:m'=k:=Za
           subst this;exact ⟨HP.out,HST.out,by rw [HK0.out];rfl,HVK.out⟩),HBR.out,HRZ.out,HGG.out.1,HGG.out.2⟩
         case measure=>simp [intOf];omega
      ·obtain ⟨m,rfl⟩:∃ m,k=m+1:=⟨k-1,Za⟩
       obtain ⟨b',off',ah',ch',e,_,hbh',hcm,_⟩:=HC.out m Za
       cases e
       obtain ⟨q0,q1,q2,q3,q4,q5,q6⟩:=hcm.below HBW.out Za
       have rp0:=subcell q0 Zk
       have rp1:=subcell q1 Zk
       have rp2:=subcell q2 Zk
       have rp3:=subcell q3 Zk
       have rp4:=subcell q4 Zk
       have rp5:=subcell q5 Zk
       have rp6:=subcell q6 Zk
       have hkb:=keyI_bef (x m) (x (m+1))
       clear hcm q0 q1 q2 q3 q4 q5 q6
       cases hbf:befB (x m) (x (m+1)) with
       | false=>
        rw [hbf] at hkb
        simp only [Bool.not_false] at hkb
        have HE:=hid (show objsB n x now=false by unfold objsB objAsc;rw [allTo_no (p:=fun i=>i==0||befB (x (i-1)) (x i)) hkn (by simp [hbf])];simp)
        refine wp_region_grow Zf Zf ?_
        repeat (go_big_quiet_step (first|(go_at_call 126;go_must (exact grow_of (parts_en (x (m+1)) now _ (by first|rfl|exact hen) ah ch _ lo hi Zbs hfk (by exact StrsIn.below hs1 (GW.prop _) hh1))))|(go_at_call 127;go_must (exact grow_of (key_en (x m) (x (m+1)) _ _ _ _ _ _ _)))))
        refine wpQuiet_nil ?_
        rintro w2 ⟨u,hu⟩
        have hw2:Below W1.1.size W1 w2:=hu▸u.prop
        clear hu u
        go_wp2
        go_ret
        exact ⟨ret_bool HE.out.symm,HBW.out.trans (hw2.mono Za)⟩
       | true=>
        rw [hbf] at hkb
        simp only [Bool.not_true] at hkb
        have HBF:=hid (show (m+1==0||befB (x (m+1-1)) (x (m+1)))=true by simp [hbf])
        refine wp_region_grow Zf Zf ?_
        repeat (go_big_quiet_step (first|(go_at_call 126;go_must (exact grow_of (parts_en (x (m+1)) now _ (by first|rfl|exact hen) ah ch _ lo hi Zbs hfk (by exact StrsIn.below hs1 (GW.prop _) hh1))))|(go_at_call 127;go_must (exact grow_of (key_en (x m) (x (m+1)) _ _ _ _ _ _ _)))))
        refine wpQuiet_nil ?_
        rintro w2 ⟨u,hu⟩
        have hw2:Below W1.1.size W1 w2:=hu▸u.prop
        clear hu u
        have hB2:Below w.1.size w w2:=HBW.out.trans (hw2.mono Za)
        have o2:=(hw2.cell (p:=⟨wr.1.size,2,none⟩) Zl).trans e2
        have g0:=(hw2.cell (p:=⟨w.1.size,0,none⟩) Zh).trans f0
        have g2:=(hw2.cell (p:=⟨w.1.size,2,none⟩) Zh).trans f2
        have hz2:wr.1.size<w2.1.size:=by have:=hw2.size;omega
        have HW2:=hid hw2
        clear ro0 ro1 ro2 ro3 ro4 ro5 ro6 rb0 rb2 rp0 rp1 rp2 rp3 rp4 rp5 rp6 hkb e2 f0 f2 hne hs1 hw2
        go_wp2
        go_loopw [5] (fun i w3=>∃ j:Nat,j≤m+1∧i=.int .i64 j∧(∀ m',m'<j→¬(x m').ver=(x (m+1)).ver)∧∃ q,w3=w2.drewN q) (fun i _=>(m+1)-(intOf i).toNat)
        case atStart=>exact ⟨0,Nat.zero_le _,rfl,fun j hj=>absurd hj (Nat.not_lt_zero _),0,rfl⟩
        case round=>
         obtain ⟨j,hj,rfl,hvs,q,hq⟩:=hrel
         have HQ:=hid hq
         have hcr:∀ p,wr.cell? p=w2.cell? p:=fun p=>(by rw [hq,World.cell?_drewN])
         have o2':=(hcr _).trans o2
         have g2':=(hcr _).trans g2
         have g0':=(hcr _).trans g0
         clear hcr
         have hzr:w2.1.size=wr.1.size:=by rw [hq];rfl
         have HV:=hid hvs
         clear hvs
         by_cases hjk:j<m+1
         ·obtain ⟨b',off',_,_,e,_,hbh',hcj,_⟩:=HC.out j Za
          cases e
          have hvj:wr.cell? ⟨b,off+j*7+2,none⟩=some (.int .i64 (x j).ver):=by rw [hq];exact (hcj.below hB2 Za).c2
          clear hcj hq o2 g2 g0
          by_cases hve:(x j).ver=(x (m+1)).ver
          ·have HE:=hid (show objsB n x now=false by unfold objsB verDiff;rw [allTo_no (p:=fun i=>allTo (fun k=>decide (¬(x k).ver=(x i).ver)) i) hkn (allTo_no (p:=fun k'=>decide (¬(x k').ver=(x (m+1)).ver)) hjk (by simp [hve]))];simp)
           have hvb:((x j).ver==(x (m+1)).ver)=true:=by simp [hve]
           exact apP072
          ·have hvb:((x j).ver==(x (m+1)).ver)=false:=by simp [hve]
           exact apP071
         ·have hjk':j=m+1:=Za
          have HBR:=hid (show Below w.1.size w wr by rw [hq];exact hB2.trans ((below_drewN' _ _).mono hB2.size))
          have HRZ:Hid (w.1.size<wr.1.size):=(by rw [←hzr];omega:w.1.size<wr.1.size)
          have HVK:=hid (show ∀ m',m'<m+1→¬(x m').ver=(x (m+1)).ver from fun m' hm'=>HV.out m' Za)
          have HGG:=hid (And.intro g0' g2')
          clear hq o2 g2 g0 o2' HV
          go_wp2
          go_roundw
          case rel=>exact ⟨(m+1)+1,Za,by go_num,fun m' hm'=>(by
           rcases Nat.lt_or_ge m' (m+1) with h3|h3
           ·exact HA.out m' h3
           ·have:m'=m+1:=Za
            subst this;exact ⟨HP.out,HST.out,HBF.out,HVK.out⟩),HBR.out,HRZ.out,HGG.out.1,HGG.out.2⟩
          case measure=>simp [intOf];omega
  ·have hkn':k=n:=Za
   have HE:=hid (show objsB n x now=true by
    unfold objsB objAsc objFit verDiff
    rw [decide_eq_true (show n≤100 by omega),allTo_iff.2 (fun i hi=>(hall i Za).2.2.1),allTo_iff.2 (fun i hi=>by rw [(hall i Za).1,(hall i Za).2.1];rfl),allTo_iff.2 (fun i hi=>allTo_iff.2 (fun k' hk'=>decide_eq_true ((hall i Za).2.2.2 k' hk')))]
    rfl)
   clear hall hc hf
   go_wp2
   go_ret
   exact ⟨ret_bool HE.out.symm,hb⟩
end Go.Proofs.YtllmmkchokkaaaaGreatDoor
