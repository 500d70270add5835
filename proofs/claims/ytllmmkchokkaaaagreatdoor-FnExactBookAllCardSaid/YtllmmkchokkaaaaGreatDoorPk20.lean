import Derived.Test.YtllmmkchokkaaaaGreatDoorPk18
import Derived.Test.YtllmmkchokkaaaaGreatDoorPk19
import Derived.Test.YtllmmkchokkaaaaGreatDoorPk17
import Derived.Test.YtllmmkchokkaaaaGreatDoorPk15
import Derived.Deep.RegionWith
set_option maxRecDepth 100000
set_option maxHeartbeats 2000000
namespace Go.Proofs.YtllmmkchokkaaaaGreatDoor
open Go.RowKit Go.Maps
theorem lst_some {h:Nat→Ch} {i n:Nat} (hi:i<n):∃ i',lst h (h i).ob.kind (h i).ob.name n=some i':=by
 induction n with
 | zero=>omega
 | succ n ih=>
  by_cases h2:(h n).ob.kind=(h i).ob.kind∧(h n).ob.name=(h i).ob.name
  ·exact ⟨n,lst_hit h2⟩
  ·rw [lst_miss h2]
   rcases Nat.lt_or_ge i n with h3|h3
   ·exact ih h3
   ·have:i=n:=Za
    subst this;exact absurd ⟨rfl,rfl⟩ h2
def agO (floor:Int) (x:Nat→Ob) (n:Nat) (h:Nat→Ch) (i:Nat):Bool:=match lst h (x i).kind (x i).name n with|none=>decide ((x i).ver≤floor)|some j=>!(h j).gone&&sameB (x i) (h j).ob
def agH (m:Nat) (x:Nat→Ob) (n:Nat) (h:Nat→Ch) (i:Nat):Bool:=!decide (lst h (h i).ob.kind (h i).ob.name n=some i)||((h i).gone||(fnd x (h i).ob.kind (h i).ob.name m).isSome)
def agB (floor:Int) (m:Nat) (x:Nat→Ob) (n:Nat) (h:Nat→Ch):Bool:=allTo (agO floor x n h) m&&allTo (agH m x n h) n
theorem apP200 {P:Prop} (h:P:=by
  rw [hg] at r1
  clear hg
  go_wp2_with (at_lookup;go_must (refine wpList_lookup_own_int _ rfl _ _ 186 rfl 139 3 .i64 Tryz.law139 Tryz.underlying186 Tryz.underlying3 (zero3 _) (w.1.size+1) n D rfl hD2.out _ _ rfl hky ?_;intro c2 hat hwc;have hci:c2=(i':Int):=lit_int (hat.symm.trans HAT.out);subst hci;clear hat hwc))
  go_roundw
  case rel=>exact ⟨i'+1,Za,by go_num,hB2,hE2.out,fun j hj=>(by
   rcases Nat.lt_or_ge j i' with h3|h3
   ·exact HA.out j h3
   ·have:j=i':=Za
    subst this;exact HN.out)⟩
  case measure=>simp [intOf];omega):P:=h
theorem apP201 {P:Prop} (h:P:=by
  have HN:=hid (show agH m x n h k=true by unfold agH;rw [HLI.out];simp [hii])
  have hd:((i':Int)==(k:Int))=false:=Zc
  go_wp2_with (at_lookup;go_must (refine wpList_lookup_own_int _ rfl _ _ 186 rfl 139 3 .i64 Tryz.law139 Tryz.underlying186 Tryz.underlying3 (zero3 _) (w.1.size+1) n D rfl hD2.out _ _ rfl hky ?_;intro c2 hat hwc;have hci:c2=(i':Int):=lit_int (hat.symm.trans HAT.out);subst hci;clear hat hwc))
  go_roundw
  case rel=>exact ⟨k+1,Za,by go_num,hB2,hE2.out,fun j hj=>(by
   rcases Nat.lt_or_ge j k with h3|h3
   ·exact HA.out j h3
   ·have:j=k:=Za
    subst this;exact HN.out)⟩
  case measure=>simp [intOf];omega):P:=h
theorem apP202 {P:Prop} (h:P:=by
  have hne:Nonempty (GW w1):=⟨⟨_,Below.refl _ _⟩⟩
  refine wp_region_grow Zf Zf ?_
  repeat (go_big_quiet_step ((go_at_call 143;go_must (exact grow_of (sameOb_any (x k) (h j).ob ah ah' ch ch' _ lo hi (hhu _) hxh hjh (hu1 _) (hu2 _))))))
  refine wpQuiet_nil ?_
  rintro w2 ⟨u,hu⟩
  have hw2:Below w1.1.size w1 w2:=hu▸u.prop
  clear hu u hne
  have hB2:=hB1.trans (hw2.mono Za)
  clear hown1 hhu hu1 hu2 z3 x0 x1 x2 x3 x4 x5 x6 y1 y2 y3 y4 y5 y6 y7 y8 p0 p1 p2 p3 p4 p5 p6 o1 o3
  go_wp2
  go_ret
  exact ⟨ret_bool HE.out.symm,(below_alloc' _ _).trans (hB2.mono Za)⟩):P:=h
theorem apP205 {P:Prop} (h:P:=by
  go_wp2
  go_roundw
  case rel=>exact ⟨k+1,Za,by go_num,hB2,hown2.out,fun j hj=>(by
   rcases Nat.lt_or_ge j k with h3|h3
   ·exact HA.out j h3
   ·have:j=k:=Za
    subst this;exact HN.out)⟩
  case measure=>simp [intOf];omega):P:=h
theorem agree_any (now floor:Int) (m n:Nat) (x:Nat→Ob) (h:Nat→Ch) (a1 a2 a3:Option Addr) (c1 c2 n3 c3:Nat) (w:World) (lo hi:Nat) (hhi:hi≤w.1.size) (hm:(m:Int)≤1099511627776) (hl:(n:Int)≤1099511627776) (hx:∀ i,i<m→ObFit (x i)) (hf:∀ i,i<n→ObFit (h i).ob) (hco:ObjsIn w lo hi a1 m x) (hc:ChgsIn w lo hi a2 n h) :
  Calls Tryz.prog 88 #[.agg #[.int .i64 now,.int .i64 floor,.slice a1 m c1,.slice a2 n c2,.slice a3 n3 c3]] w fun e w'=>e=.returned (.bool (agB floor m x n h))∧Below w.1.size w w':=by
 have hcA:=fun o=>hc.below (below_alloc' w o) hhi
 go_enter Tryz.func88,Tryz.ntmps88
 go_wp2_with fail
 refine (lastChg_any n h a2 c2 _ lo hi Zc hl hf (hcA _)).mono ?_
 rintro e w0 ⟨D,rfl,hown0,htold,hb0⟩
 simp only [World.size_alloc] at hown0 hb0 ⊢
 have k2:w0.cell? ⟨w.1.size,2,none⟩=some (.slice a1 m c1):=(hb0.cell (p:=⟨w.1.size,2,none⟩) Zh).trans (World.cell?_alloc_new _ _ _ _)
 have HOW0:=hid hown0
 have HTO:=hid htold
 clear hown0 htold hcA
 go_wp2
 go_loopw [19] (fun i wr=>∃ k:Nat,k≤m∧i=.int .i64 k∧Below (w.1.size+1) (w.alloc (.cells #[.int .i64 now,.int .i64 floor,.slice a1 m c1,.slice a2 n c2,.slice a3 n3 c3] 35)) wr∧wr.ownsMap Tryz.prog 139 (plainElem Tryz.prog 3) (w.1.size+1) n D∧∀ j,j<k→agO floor x n h j=true) (fun i _=>m-(intOf i).toNat)
 case atStart=>exact ⟨0,Nat.zero_le _,rfl,hb0,HOW0.out,fun j hj=>absurd hj (Nat.not_lt_zero _)⟩
 case round=>
  obtain ⟨k,hk,rfl,hb,hown,hall⟩:=hrel
  have hBw:Below w.1.size w wr:=(below_alloc' _ _).trans (hb.mono Za)
  have hsz:w.1.size+1≤wr.1.size:=by have:=hb.size;simpa using this
  have hlt:=hown.lt
  clear k2 HOW0 hb0
  by_cases hkn:k<m
  ·obtain ⟨b,off,ah,ch,rfl,hlo,hbh,hcx,hsx⟩:=hco k hkn
   have hxk:=hx k hkn
   have hxh:((x k).hn:Int)≤140737488355328:=by have:=hxk.h;omega
   have hsk:(x k).kind.size≤maxLen:=by unfold maxLen;have:=hxk.k;omega
   have hsn:(x k).name.size≤maxLen:=by unfold maxLen;have:=hxk.n;omega
   obtain ⟨d0,d1,d2,d3,d4,d5,d6⟩:=hcx.below hBw Za
   have HS:=hid hsx
   have HC:=hid hc
   have HF:=hid hf
   have HA:=hid hall
   have hky:=hkey (x k).kind (x k).name hsk hsn
   have HOW:=hid hown
   clear hc hf hco hx hcx hsx hall hown
   cases hfd:lst h (x k).kind (x k).name n with
   | none=>
    have hhas:=(HTO.out _ _ hsk hsn).2 hfd
    have HL:=hid (show agO floor x n h k=decide ((x k).ver≤floor) by unfold agO;rw [hfd])
    clear hfd
    go_wp2_with fail
    refine (keyOf_any (x k) ah ch _).mono ?_
    rintro e w1 ⟨rfl,hb1⟩
    have hown1:=hid (ownsMap_below (HOW.out.alloc _) hb1 Zc)
    have hB1:Below (w.1.size+1) (w.alloc (.cells #[.int .i64 now,.int .i64 floor,.slice (some ⟨b,off,none⟩) m c1,.slice a2 n c2,.slice a3 n3 c3] 35)) w1:=(hb.alloc hsz (.cells #[.string (x k).kind,.string (x k).name,.int .i64 (x k).ver,.int .i64 (x k).born,.string (x k).text,.bool (x k).ending,.slice ah (x k).hn ch] 118)).trans (hb1.mono Zc)
    have hz1:wr.1.size<w1.1.size:=by have:=hb1.size;simp at this;omega
    have p0:=box_cell hb1 0
    have p1:=box_cell hb1 1
    have p2:=box_cell hb1 2
    have p3:=box_cell hb1 3
    have p4:=box_cell hb1 4
    have p5:=box_cell hb1 5
    have p6:=box_cell hb1 6
    simp only [List.getElem?_toArray,List.getElem?_cons_succ,List.getElem?_cons_zero] at p0 p1 p2 p3 p4 p5 p6
    have o1:=box_cell Zbf 1
    have o3:=box_cell Zbf 3
    simp only [List.getElem?_toArray,List.getElem?_cons_succ,List.getElem?_cons_zero] at o1 o3
    clear hb1 d0 d1 d2 d3 d4 d5 d6 HOW
    by_cases hv:(x k).ver≤floor
    ·have HN:=hid (show agO floor x n h k=true by rw [HL.out];exact decide_eq_true hv)
     have hd:decide (floor<(x k).ver)=false:=decide_eq_false Za
     go_wp2_with (at_lookup;go_must (refine wpList_lookup_own_ok_int _ rfl _ _ 186 rfl 139 3 .i64 Tryz.law139 Tryz.underlying186 Tryz.underlying3 (zero3 _) (w.1.size+1) n D rfl hown1.out _ _ rfl hky ?_;intro c hat hwc;clear hat hwc))
     have hne:Nonempty (GW w1):=⟨⟨_,Below.refl _ _⟩⟩
     refine wp_region_grow Zf Zf ?_
     repeat (go_big_quiet_step (fail))
     refine wpQuiet_nil ?_
     rintro w2 ⟨u,hu⟩
     have hw2:Below w1.1.size w1 w2:=hu▸u.prop
     clear hu u hne
     have hB2:=hB1.trans (hw2.mono Za)
     have hown2:=hid (ownsMap_below hown1.out hw2 hown1.out.lt)
     clear hown1 p0 p1 p2 p3 p4 p5 p6 o1 o3
     exact apP205
    ·have HE:=hid (show agB floor m x n h=false by unfold agB;rw [allTo_no hkn (HL.out.trans (decide_eq_false hv))];rfl)
     have hd:decide (floor<(x k).ver)=true:=decide_eq_true Za
     go_wp2_with (at_lookup;go_must (refine wpList_lookup_own_ok_int _ rfl _ _ 186 rfl 139 3 .i64 Tryz.law139 Tryz.underlying186 Tryz.underlying3 (zero3 _) (w.1.size+1) n D rfl hown1.out _ _ rfl hky ?_;intro c hat hwc;clear hat hwc))
     go_ret
     exact ⟨ret_bool HE.out.symm,(below_alloc' _ _).trans (hB1.mono Za)⟩
   | some j=>
    obtain ⟨hhas,hatk⟩:=(HTO.out _ _ hsk hsn).1 j hfd
    have hjn:=(lst_lt hfd).1
    have HL:=hid (show agO floor x n h k=(!(h j).gone&&sameB (x k) (h j).ob) by unfold agO;rw [hfd])
    have HAT:=hid hatk
    clear hfd hatk
    obtain ⟨b',off',ah',ch',rfl,hlo',hbh',hcy,hsy⟩:=HC.out j hjn
    have hjh:((h j).ob.hn:Int)≤140737488355328:=by have:=(HF.out j hjn).h;omega
    have HSY:=hid hsy
    clear hsy
    have hjz:(j:Int)<n:=Za
    go_wp2_with fail
    refine (keyOf_any (x k) ah ch _).mono ?_
    rintro e w1 ⟨rfl,hb1⟩
    have hown1:=hid (ownsMap_below (HOW.out.alloc _) hb1 Zc)
    have hB1:Below (w.1.size+1) (w.alloc (.cells #[.int .i64 now,.int .i64 floor,.slice (some ⟨b,off,none⟩) m c1,.slice (some ⟨b',off',none⟩) n c2,.slice a3 n3 c3] 35)) w1:=(hb.alloc hsz (.cells #[.string (x k).kind,.string (x k).name,.int .i64 (x k).ver,.int .i64 (x k).born,.string (x k).text,.bool (x k).ending,.slice ah (x k).hn ch] 118)).trans (hb1.mono Zc)
    have hz1:wr.1.size<w1.1.size:=by have:=hb1.size;simp at this;omega
    have p0:=box_cell hb1 0
    have p1:=box_cell hb1 1
    have p2:=box_cell hb1 2
    have p3:=box_cell hb1 3
    have p4:=box_cell hb1 4
    have p5:=box_cell hb1 5
    have p6:=box_cell hb1 6
    simp only [List.getElem?_toArray,List.getElem?_cons_succ,List.getElem?_cons_zero] at p0 p1 p2 p3 p4 p5 p6
    have o1:=box_cell Zbf 1
    have o3:=box_cell Zbf 3
    simp only [List.getElem?_toArray,List.getElem?_cons_succ,List.getElem?_cons_zero] at o1 o3
    clear hb1 d0 d1 d2 d3 d4 d5 d6 HOW
    go_wp2_with (at_lookup;go_must (refine wpList_lookup_own_ok_int _ rfl _ _ 186 rfl 139 3 .i64 Tryz.law139 Tryz.underlying186 Tryz.underlying3 (zero3 _) (w.1.size+1) n D rfl hown1.out _ _ rfl hky ?_;intro c hat hwc;have hci:c=(j:Int):=lit_int (hat.symm.trans HAT.out);subst hci;clear hat hwc))
    have hBw1:Below w.1.size w w1:=(below_alloc' _ _).trans (hB1.mono Za)
    obtain ⟨f0,f1,f2,f3,f4,f5,f6,f7,f8⟩:=hcy.below hBw1 Za
    have hhw:hi≤w1.1.size:=Za
    have y2:=subcell f2 Zap
    have y3:=subcell f3 Zap
    have y4:=subcell f4 Zap
    have y5:=subcell f5 Zap
    have y6:=subcell f6 Zap
    have y7:=subcell f7 Zap
    have y8:=subcell f8 Zap
    have x0:=subcell p0 hz1
    have x1:=subcell p1 hz1
    have x2:=subcell p2 hz1
    have x3:=subcell p3 hz1
    have x4:=subcell p4 hz1
    have x5:=subcell p5 hz1
    have x6:=subcell p6 hz1
    have z3:=subcell o3 Zh
    have hhu:∀ u:GW w1,hi≤u.val.1.size:=fun u=>Nat.le_trans hhw u.prop.size
    have hu1:∀ u:GW w1,StrsIn u.val lo hi ah (x k).hn (x k).hs:=fun u=>HS.out.below (hBw1.trans (u.prop.mono Za)) hhi
    have hu2:∀ u:GW w1,StrsIn u.val lo hi ah' (h j).ob.hn (h j).ob.hs:=fun u=>HSY.out.below (hBw1.trans (u.prop.mono Za)) hhi
    cases hg:(h j).gone with
    | true=>
     have HE:=hid (show agB floor m x n h=false by unfold agB;rw [allTo_no hkn (HL.out.trans (by rw [hg];rfl))];rfl)
     rw [hg] at f1
     have y1:=subcell f1 Zap
     clear hg f0 f1 f2 f3 f4 f5 f6 f7 f8 hcy
     exact apP202
    | false=>
     rw [hg] at f1
     have y1:=subcell f1 Zap
     have HL2:=hid (show agO floor x n h k=sameB (x k) (h j).ob by rw [HL.out,hg];rfl)
     clear hg f0 f1 f2 f3 f4 f5 f6 f7 f8 hcy
     cases hsm:sameB (x k) (h j).ob with
     | false=>
      have HE:=hid (show agB floor m x n h=false by unfold agB;rw [allTo_no hkn (HL2.out.trans hsm)];rfl)
      exact apP202
     | true=>
      have HN:=hid (HL2.out.trans hsm)
      have hne:Nonempty (GW w1):=⟨⟨_,Below.refl _ _⟩⟩
      refine wp_region_grow Zf Zf ?_
      repeat (go_big_quiet_step ((go_at_call 143;go_must (exact grow_of (sameOb_any (x k) (h j).ob ah ah' ch ch' _ lo hi (hhu _) hxh hjh (hu1 _) (hu2 _))))))
      refine wpQuiet_nil ?_
      rintro w2 ⟨u,hu⟩
      have hw2:Below w1.1.size w1 w2:=hu▸u.prop
      clear hu u hne
      have hB2:=hB1.trans (hw2.mono Za)
      have hown2:=hid (ownsMap_below hown1.out hw2 hown1.out.lt)
      clear hown1 hhu hu1 hu2 z3 x0 x1 x2 x3 x4 x5 x6 y1 y2 y3 y4 y5 y6 y7 y8 p0 p1 p2 p3 p4 p5 p6 o1 o3
      exact apP205
  ·have:m=k:=Za
   subst this
   have HO:=hid (show allTo (agO floor x n h) m=true from allTo_iff.2 hall)
   have o2:=box_cell Zaj 2
   have o3:=box_cell Zaj 3
   simp only [List.getElem?_toArray,List.getElem?_cons_succ,List.getElem?_cons_zero] at o2 o3
   have HD:=hid hown
   clear hall hown
   go_wp2_with fail
   refine (places_any m x a1 c1 wr lo hi Za hm hx (hco.below hBw hhi)).mono ?_
   rintro e wp ⟨E,rfl,hownE,htoldE,hbp⟩
   have HE0:=hid hownE
   have HTE:=hid htoldE
   have q3:=(hbp.cell (p:=⟨w.1.size,3,none⟩) Zh).trans o3
   clear hownE htoldE o2 o3 hx hco
   obtain ⟨W,hW⟩:∃ W,W=wr:=⟨wr,rfl⟩
   subst hW
   go_wp2
   go_loopw [66] (fun i wq=>∃ k:Nat,k≤n∧i=.int .i64 k∧Below W.1.size W wq∧wq.ownsMap Tryz.prog 139 (plainElem Tryz.prog 3) W.1.size m E∧∀ j,j<k→agH m x n h j=true) (fun i _=>n-(intOf i).toNat)
   case atStart=>exact ⟨0,Nat.zero_le _,rfl,hbp,HE0.out,fun j hj=>absurd hj (Nat.not_lt_zero _)⟩
   case round=>
    obtain ⟨k,hk2,rfl,hb2,hownE,hall⟩:=hrel
    have hBq:Below w.1.size w wr:=hBw.trans (hb2.mono hBw.size)
    have hltE:=hownE.lt
    clear q3 HE0 hbp
    by_cases hkn2:k<n
    ·obtain ⟨b,off,ah,ch,rfl,hlo,hbh,hcx,hsx⟩:=hc k hkn2
     have hfk:=hf k hkn2
     have hsk:(h k).ob.kind.size≤maxLen:=by unfold maxLen;have:=hfk.k;omega
     have hsn:(h k).ob.name.size≤maxLen:=by unfold maxLen;have:=hfk.n;omega
     obtain ⟨d0,d1,d2,d3,d4,d5,d6,d7,d8⟩:=hcx.below hBq Za
     have hky:=hkey (h k).ob.kind (h k).ob.name hsk hsn
     obtain ⟨i',hli⟩:=lst_some (h:=h) hkn2
     have HLI:=hid hli
     have hin:=(lst_lt hli).1
     have HAT:=hid ((HTO.out _ _ hsk hsn).1 i' hli).2
     have HA:=hid hall
     have HWE:=hid hownE
     clear hli hc hf hcx hsx hall hownE hb
     go_wp2_with fail
     refine (keyOf_any (h k).ob ah ch _).mono ?_
     rintro e w1 ⟨rfl,hb1⟩
     have hE1:=hid (ownsMap_below (HWE.out.alloc _) hb1 Zc)
     have hB1:Below W.1.size W w1:=(hb2.alloc Za _).trans (hb1.mono Zc)
     have hz1:wr.1.size<w1.1.size:=by have:=hb1.size;simp at this;omega
     have p0:=box_cell hb1 0
     have p1:=box_cell hb1 1
     have p2:=box_cell hb1 2
     have p3:=box_cell hb1 3
     have p4:=box_cell hb1 4
     have p5:=box_cell hb1 5
     have p6:=box_cell hb1 6
     have p7:=box_cell hb1 7
     have p8:=box_cell hb1 8
     simp only [List.getElem?_toArray,List.getElem?_cons_succ,List.getElem?_cons_zero] at p0 p1 p2 p3 p4 p5 p6 p7 p8
     clear hb1 d0 d1 d2 d3 d4 d5 d6 d7 d8 HWE
     cases hfn:fnd x (h k).ob.kind (h k).ob.name m with
     | none=>
      have hhas:=(HTE.out _ _ hsk hsn).2 hfn
      have HFN:=hid hfn
      clear hfn
      go_wp2_with (at_lookup;go_must (refine wpList_lookup_own_ok_int _ rfl _ _ 186 rfl 139 3 .i64 Tryz.law139 Tryz.underlying186 Tryz.underlying3 (zero3 _) W.1.size m E rfl hE1.out _ _ rfl hky ?_;intro c hat hwc;clear hat hwc))
      refine (keyOf_any (h k).ob ah ch _).mono ?_
      rintro e w2 ⟨rfl,hb22⟩
      have hB2:Below W.1.size W w2:=hB1.trans (hb22.mono Za)
      have hE2:=hid (ownsMap_below hE1.out hb22 Za)
      have hD2:=hid (ownsMap_below HD.out hB2 Za)
      have r1:=(hb22.cell (p:=⟨wr.1.size,1,none⟩) hz1).trans p1
      clear hb22 p0 p1 p2 p3 p4 p5 p6 p7 p8 hE1
      by_cases hii:i'=k
      case neg=>
       exact apP201
      subst hii
      cases hg:(h i').gone with
      | true=>
       have HN:=hid (show agH m x n h i'=true by unfold agH;rw [HLI.out,hg];simp)
       exact apP200
      | false=>
       have HE:=hid (show agB floor m x n h=false by unfold agB;rw [allTo_no hkn2 (show agH m x n h i'=false by unfold agH;rw [HLI.out,hg,HFN.out];simp)];simp)
       rw [hg] at r1
       clear hg
       go_wp2_with (at_lookup;go_must (refine wpList_lookup_own_int _ rfl _ _ 186 rfl 139 3 .i64 Tryz.law139 Tryz.underlying186 Tryz.underlying3 (zero3 _) (w.1.size+1) n D rfl hD2.out _ _ rfl hky ?_;intro c2 hat hwc;have hci:c2=(i':Int):=lit_int (hat.symm.trans HAT.out);subst hci;clear hat hwc))
       go_ret
       exact ⟨ret_bool HE.out.symm,hBw.trans (hB2.mono hBw.size)⟩
     | some g=>
      have hhas:=((HTE.out _ _ hsk hsn).1 g hfn).1
      have HFN:=hid hfn
      clear hfn
      go_wp2_with (at_lookup;go_must (refine wpList_lookup_own_ok_int _ rfl _ _ 186 rfl 139 3 .i64 Tryz.law139 Tryz.underlying186 Tryz.underlying3 (zero3 _) W.1.size m E rfl hE1.out _ _ rfl hky ?_;intro c hat hwc;clear hat hwc))
      refine (keyOf_any (h k).ob ah ch _).mono ?_
      rintro e w2 ⟨rfl,hb22⟩
      have hB2:Below W.1.size W w2:=hB1.trans (hb22.mono Za)
      have hE2:=hid (ownsMap_below hE1.out hb22 Za)
      have hD2:=hid (ownsMap_below HD.out hB2 Za)
      have r1:=(hb22.cell (p:=⟨wr.1.size,1,none⟩) hz1).trans p1
      clear hb22 p0 p1 p2 p3 p4 p5 p6 p7 p8 hE1
      by_cases hii:i'=k
      case neg=>
       exact apP201
      subst hii
      cases hg:(h i').gone with
      | true=>
       have HN:=hid (show agH m x n h i'=true by unfold agH;rw [HLI.out,hg];simp)
       exact apP200
      | false=>
       have HN:=hid (show agH m x n h i'=true by unfold agH;rw [HLI.out,hg,HFN.out];simp)
       exact apP200
    ·have HE:=hid (show agB floor m x n h=true by unfold agB;rw [HO.out,allTo_iff.2 (fun i hi=>hall i Za)];rfl)
     clear hc hf hall hownE
     go_wp2
     go_ret
     exact ⟨ret_bool HE.out.symm,hBq⟩
end Go.Proofs.YtllmmkchokkaaaaGreatDoor
namespace Go.Proofs.YtllmmkchokkaaaaGreatDoor
open Go.RowKit Go.Maps
def chk (B:Bk):Nat→Bool
 | 0=>numB B.now B.floor
 | 1=>objs1B B.on B.os B.now
 | 2=>verDiff B.on B.os
 | 3=>histB B.now B.floor B.hn B.hs
 | 4=>allTo (livB B.floor B.hs) B.hn
 | 5=>agB B.floor B.on B.os B.hn B.hs
 | _=>tisB B.tn B.ts B.now
theorem numB_yes {now floor:Int} (h:numB now floor=true):0≤floor∧floor≤now∧now≤1000000:=by
 unfold numB inB at h
 simp at h
 omega
theorem apP204 {P:Prop} (h:P:=by
  go_ret
  exact ⟨ret_bool HE.out.symm,hBw.trans (hb2.mono Za)⟩):P:=h
theorem implValid_any (B:Bk) (a1 a2 a3:Option Addr) (c1 c2 c3:Nat) (w:World) (lo hi:Nat) (hhi:hi≤w.1.size) (hfit:BkFit B) (hin:BkIn w lo hi B a1 a2 a3) :
  Calls Tryz.prog 40 #[.agg #[.int .i64 B.now,.int .i64 B.floor,.slice a1 B.on c1,.slice a2 B.hn c2,.slice a3 B.tn c3]] w fun e w'=>e=.returned (.bool (allTo (chk B) 7))∧Below w.1.size w w':=by
 obtain ⟨f1,f2,f3,f4,f5,f6⟩:=hfit
 go_enter Tryz.func40,Tryz.ntmps40
 go_wp2_with fail
 go_loopw [9] (fun i wr=>∃ k:Nat,k≤7∧i=.int .i64 k∧Below (w.1.size+1+1) ((w.alloc (.cells #[.int .i64 B.now,.int .i64 B.floor,.slice a1 B.on c1,.slice a2 B.hn c2,.slice a3 B.tn c3] 35)).alloc (.cells #[.func (.func 83) #[] #[],.func (.func 84) #[] #[],.func (.func 85) #[] #[],.func (.func 86) #[] #[],.func (.func 87) #[] #[],.func (.func 88) #[] #[],.func (.func 89) #[] #[]] 79)) wr∧∀ j,j<k→chk B j=true) (fun i _=>7-(intOf i).toNat)
 case atStart=>exact ⟨0,Nat.zero_le _,rfl,Below.refl _ _,fun j hj=>absurd hj (Nat.not_lt_zero _)⟩
 case round=>
  obtain ⟨k,hk,rfl,hb,hall⟩:=hrel
  have hBw:Below w.1.size w wr:=((below_alloc' _ _).alloc Zd _).trans (hb.mono Za)
  have hsz:w.1.size+2≤wr.1.size:=by have:=hb.size;simpa using this
  have hhw:hi≤wr.1.size:=Za
  have HI:=hid (show BkIn wr lo hi B a1 a2 a3 from ⟨hin.o.below hBw hhi,hin.h.below hBw hhi,hin.t.below hBw hhi⟩)
  have HA:=hid hall
  have e0:wr.cell? ⟨w.1.size,0,none⟩=some (.int .i64 B.now):=(hb.cell (p:=⟨w.1.size,0,none⟩) Zh).trans Zd
  have e1:wr.cell? ⟨w.1.size,1,none⟩=some (.int .i64 B.floor):=(hb.cell (p:=⟨w.1.size,1,none⟩) Zh).trans Zd
  have e2:wr.cell? ⟨w.1.size,2,none⟩=some (.slice a1 B.on c1):=(hb.cell (p:=⟨w.1.size,2,none⟩) Zh).trans Zd
  have e3:wr.cell? ⟨w.1.size,3,none⟩=some (.slice a2 B.hn c2):=(hb.cell (p:=⟨w.1.size,3,none⟩) Zh).trans Zd
  have e4:wr.cell? ⟨w.1.size,4,none⟩=some (.slice a3 B.tn c3):=(hb.cell (p:=⟨w.1.size,4,none⟩) Zh).trans Zd
  clear hin
  rcases (show k=0∨k=1∨k=2∨k=3∨k=4∨k=5∨k=6∨k=7 by omega) with rfl|rfl|rfl|rfl|rfl|rfl|rfl|rfl
  all_goals clear hall
  iterate 1
   ·-- 0
    have g:wr.cell? ⟨w.1.size+1,0,none⟩=some (.func (.func 83) #[] #[]):=(hb.cell (p:=⟨w.1.size+1,0,none⟩) Zab).trans Zd
    cases hp:chk B 0 with
    | false=>
     have HE:=hid (show allTo (chk B) 7=false from allTo_no (show 0<7 by omega) hp)
     have hp':numB B.now B.floor=false:=hp
     go_wp2_with (go_at_call 83;refine (numbers_any B.now B.floor a1 a2 a3 B.on c1 B.hn c2 B.tn c3 wr).mono ?_;rintro e w2 ⟨rfl,hb2⟩;rw [hp'])
     exact apP204
    | true=>
     have HP:=hid hp
     have hp':numB B.now B.floor=true:=hp
     go_wp2_with (go_at_call 83;refine (numbers_any B.now B.floor a1 a2 a3 B.on c1 B.hn c2 B.tn c3 wr).mono ?_;rintro e w2 ⟨rfl,hb2⟩;rw [hp'])
     go_roundw
     case rel=>exact ⟨1,Za,by go_num,hb.trans (hb2.mono Za),fun j hj=>(by
      rcases Nat.lt_or_ge j 0 with h3|h3
      ·exact HA.out j h3
      ·have:j=0:=Za
       subst this;exact HP.out)⟩
     case measure=>simp [intOf]
   ·-- 1
    have g:wr.cell? ⟨w.1.size+1,1,none⟩=some (.func (.func 84) #[] #[]):=(hb.cell (p:=⟨w.1.size+1,1,none⟩) Zab).trans Zd
    cases hp:chk B 1 with
    | false=>
     have HE:=hid (show allTo (chk B) 7=false from allTo_no (show 1<7 by omega) hp)
     have hp':objs1B B.on B.os B.now=false:=hp
     go_wp2_with (go_at_call 84;refine (objsFit_any B.now B.floor B.on B.os a1 a2 a3 c1 B.hn c2 B.tn c3 wr lo hi hhw f1 f4 HI.out.o).mono ?_;rintro e w2 ⟨rfl,hb2⟩;rw [hp'])
     exact apP204
    | true=>
     have HP:=hid hp
     have hp':objs1B B.on B.os B.now=true:=hp
     go_wp2_with (go_at_call 84;refine (objsFit_any B.now B.floor B.on B.os a1 a2 a3 c1 B.hn c2 B.tn c3 wr lo hi hhw f1 f4 HI.out.o).mono ?_;rintro e w2 ⟨rfl,hb2⟩;rw [hp'])
     go_roundw
     case rel=>exact ⟨2,Za,by go_num,hb.trans (hb2.mono Za),fun j hj=>(by
      rcases Nat.lt_or_ge j 1 with h3|h3
      ·exact HA.out j h3
      ·have:j=1:=Za
       subst this;exact HP.out)⟩
     case measure=>simp [intOf]
   ·-- 2
    have g:wr.cell? ⟨w.1.size+1,2,none⟩=some (.func (.func 85) #[] #[]):=(hb.cell (p:=⟨w.1.size+1,2,none⟩) Zab).trans Zd
    cases hp:chk B 2 with
    | false=>
     have HE:=hid (show allTo (chk B) 7=false from allTo_no (show 2<7 by omega) hp)
     have hp':verDiff B.on B.os=false:=hp
     go_wp2_with (go_at_call 85;refine (verDiff_any B.now B.floor B.on B.os a1 a2 a3 c1 B.hn c2 B.tn c3 wr lo hi hhw f1 f4 HI.out.o).mono ?_;rintro e w2 ⟨rfl,hb2⟩;rw [hp'])
     exact apP204
    | true=>
     have HP:=hid hp
     have hp':verDiff B.on B.os=true:=hp
     go_wp2_with (go_at_call 85;refine (verDiff_any B.now B.floor B.on B.os a1 a2 a3 c1 B.hn c2 B.tn c3 wr lo hi hhw f1 f4 HI.out.o).mono ?_;rintro e w2 ⟨rfl,hb2⟩;rw [hp'])
     go_roundw
     case rel=>exact ⟨3,Za,by go_num,hb.trans (hb2.mono Za),fun j hj=>(by
      rcases Nat.lt_or_ge j 2 with h3|h3
      ·exact HA.out j h3
      ·have:j=2:=Za
       subst this;exact HP.out)⟩
     case measure=>simp [intOf]
   ·-- 3
    have g:wr.cell? ⟨w.1.size+1,3,none⟩=some (.func (.func 86) #[] #[]):=(hb.cell (p:=⟨w.1.size+1,3,none⟩) Zab).trans Zd
    have hnn:=HA.out 0 Za
    obtain ⟨hn1,hn2,hn3⟩:=numB_yes hnn
    clear hnn
    cases hp:chk B 3 with
    | false=>
     have HE:=hid (show allTo (chk B) 7=false from allTo_no (show 3<7 by omega) hp)
     have hp':histB B.now B.floor B.hn B.hs=false:=hp
     go_wp2_with (go_at_call 86;refine (histFits_any B.now B.floor B.hn B.hs a1 a2 a3 B.on c1 c2 B.tn c3 wr lo hi hhw f2 hn1 hn2 hn3 f5 HI.out.h).mono ?_;rintro e w2 ⟨rfl,hb2⟩;rw [hp'])
     exact apP204
    | true=>
     have HP:=hid hp
     have hp':histB B.now B.floor B.hn B.hs=true:=hp
     go_wp2_with (go_at_call 86;refine (histFits_any B.now B.floor B.hn B.hs a1 a2 a3 B.on c1 c2 B.tn c3 wr lo hi hhw f2 hn1 hn2 hn3 f5 HI.out.h).mono ?_;rintro e w2 ⟨rfl,hb2⟩;rw [hp'])
     go_roundw
     case rel=>exact ⟨4,Za,by go_num,hb.trans (hb2.mono Za),fun j hj=>(by
      rcases Nat.lt_or_ge j 3 with h3|h3
      ·exact HA.out j h3
      ·have:j=3:=Za
       subst this;exact HP.out)⟩
     case measure=>simp [intOf]
   ·-- 4
    have g:wr.cell? ⟨w.1.size+1,4,none⟩=some (.func (.func 87) #[] #[]):=(hb.cell (p:=⟨w.1.size+1,4,none⟩) Zab).trans Zd
    cases hp:chk B 4 with
    | false=>
     have HE:=hid (show allTo (chk B) 7=false from allTo_no (show 4<7 by omega) hp)
     have hp':allTo (livB B.floor B.hs) B.hn=false:=hp
     go_wp2_with (go_at_call 87;refine (livesFit_any B.now B.floor B.hn B.hs a1 a2 a3 B.on c1 c2 B.tn c3 wr lo hi hhw f2 f5 HI.out.h).mono ?_;rintro e w2 ⟨rfl,hb2⟩;rw [hp'])
     exact apP204
    | true=>
     have HP:=hid hp
     have hp':allTo (livB B.floor B.hs) B.hn=true:=hp
     go_wp2_with (go_at_call 87;refine (livesFit_any B.now B.floor B.hn B.hs a1 a2 a3 B.on c1 c2 B.tn c3 wr lo hi hhw f2 f5 HI.out.h).mono ?_;rintro e w2 ⟨rfl,hb2⟩;rw [hp'])
     go_roundw
     case rel=>exact ⟨5,Za,by go_num,hb.trans (hb2.mono Za),fun j hj=>(by
      rcases Nat.lt_or_ge j 4 with h3|h3
      ·exact HA.out j h3
      ·have:j=4:=Za
       subst this;exact HP.out)⟩
     case measure=>simp [intOf]
   ·-- 5
    have g:wr.cell? ⟨w.1.size+1,5,none⟩=some (.func (.func 88) #[] #[]):=(hb.cell (p:=⟨w.1.size+1,5,none⟩) Zab).trans Zd
    cases hp:chk B 5 with
    | false=>
     have HE:=hid (show allTo (chk B) 7=false from allTo_no (show 5<7 by omega) hp)
     have hp':agB B.floor B.on B.os B.hn B.hs=false:=hp
     go_wp2_with (go_at_call 88;refine (agree_any B.now B.floor B.on B.hn B.os B.hs a1 a2 a3 c1 c2 B.tn c3 wr lo hi hhw f1 f2 f4 f5 HI.out.o HI.out.h).mono ?_;rintro e w2 ⟨rfl,hb2⟩;rw [hp'])
     exact apP204
    | true=>
     have HP:=hid hp
     have hp':agB B.floor B.on B.os B.hn B.hs=true:=hp
     go_wp2_with (go_at_call 88;refine (agree_any B.now B.floor B.on B.hn B.os B.hs a1 a2 a3 c1 c2 B.tn c3 wr lo hi hhw f1 f2 f4 f5 HI.out.o HI.out.h).mono ?_;rintro e w2 ⟨rfl,hb2⟩;rw [hp'])
     go_roundw
     case rel=>exact ⟨6,Za,by go_num,hb.trans (hb2.mono Za),fun j hj=>(by
      rcases Nat.lt_or_ge j 5 with h3|h3
      ·exact HA.out j h3
      ·have:j=5:=Za
       subst this;exact HP.out)⟩
     case measure=>simp [intOf]
   ·-- 6
    have g:wr.cell? ⟨w.1.size+1,6,none⟩=some (.func (.func 89) #[] #[]):=(hb.cell (p:=⟨w.1.size+1,6,none⟩) Zab).trans Zd
    cases hp:chk B 6 with
    | false=>
     have HE:=hid (show allTo (chk B) 7=false from allTo_no (show 6<7 by omega) hp)
     have hp':tisB B.tn B.ts B.now=false:=hp
     go_wp2_with (go_at_call 89;refine (ticsFit_any B.now B.floor B.tn B.ts a1 a2 a3 B.on c1 B.hn c2 c3 wr lo hi hhw f3 f6 HI.out.t).mono ?_;rintro e w2 ⟨rfl,hb2⟩;rw [hp'])
     exact apP204
    | true=>
     have HP:=hid hp
     have hp':tisB B.tn B.ts B.now=true:=hp
     go_wp2_with (go_at_call 89;refine (ticsFit_any B.now B.floor B.tn B.ts a1 a2 a3 B.on c1 B.hn c2 c3 wr lo hi hhw f3 f6 HI.out.t).mono ?_;rintro e w2 ⟨rfl,hb2⟩;rw [hp'])
     go_roundw
     case rel=>exact ⟨7,Za,by go_num,hb.trans (hb2.mono Za),fun j hj=>(by
      rcases Nat.lt_or_ge j 6 with h3|h3
      ·exact HA.out j h3
      ·have:j=6:=Za
       subst this;exact HP.out)⟩
     case measure=>simp [intOf]
   ·have HE:=hid (show allTo (chk B) 7=true from allTo_iff.2 HA.out)
    go_wp2
    go_ret
    exact ⟨ret_bool HE.out.symm,hBw⟩
end Go.Proofs.YtllmmkchokkaaaaGreatDoor
namespace Go.Proofs.YtllmmkchokkaaaaGreatDoor
open Go.RowKit
/-! what a write comes to -/
theorem less_tri:∀ a b:List UInt8,Op.bytesLess a b=false→¬a=b→Op.bytesLess b a=true
 | [],[],_,h=>absurd rfl h
 | [],_::_,h,_=>by simp [Op.bytesLess] at h
 | _::_,[],_,_=>rfl
 | x::a,y::b,h,hn=>by
  simp only [Op.bytesLess] at h ⊢
  by_cases e:x=y
  ·subst e
   simp at h ⊢
   exact less_tri a b h (fun e=>hn (by rw [e]))
  ·simp [e] at h
   have e2:¬y=x:=fun q=>e q.symm
   simp [e2]
   have h1:¬x.toNat<y.toNat:=by
    intro hh
    exact absurd (UInt8.lt_iff_toNat_lt.2 hh) (by simpa using h)
   have h2:¬x.toNat=y.toNat:=fun q=>e (UInt8.toNat_inj.1 q)
   exact UInt8.lt_iff_toNat_lt.2 Za
theorem ltB_tri {a b:ByteArray} (h:ltB a b=false) (hn:¬a=b):ltB b a=true:=less_tri _ _ h (fun e=>hn (toList_inj0 e))
theorem befB_trans {x y z:Ob} (h1:befB x y=true) (h2:befB y z=true):befB x z=true:=by
 unfold befB at h1 h2 ⊢
 by_cases e1:x.kind.toList=y.kind.toList
 ·by_cases e2:y.kind.toList=z.kind.toList
  ·rw [if_pos e1] at h1
   rw [if_pos e2] at h2
   rw [if_pos (e1.trans e2)]
   exact ltB_trans h1 h2
  ·rw [if_neg e2] at h2
   rw [if_neg (fun e=>e2 (e1.symm.trans e))]
   unfold ltB at h2 ⊢
   rw [e1]
   exact h2
 ·rw [if_neg e1] at h1
  by_cases e2:y.kind.toList=z.kind.toList
  ·rw [if_neg (fun e=>e1 (e.trans e2.symm))]
   unfold ltB at h1 ⊢
   rw [←e2]
   exact h1
  ·rw [if_neg e2] at h2
   have h3:=ltB_trans h1 h2
   by_cases e3:x.kind.toList=z.kind.toList
   ·rw [ltB_irr e3] at h3
    cases h3
   ·rw [if_neg e3]
    exact h3
def ObAsc (n:Nat) (x:Nat→Ob):Prop:=∀ i j,i<j→j<n→befB (x i) (x j)=true
def HsAsc (n:Nat) (s:Nat→ByteArray):Prop:=∀ i j,i<j→j<n→ltB (s i) (s j)=true
theorem obAsc_of {n:Nat} {x:Nat→Ob} (h:objAsc n x=true):ObAsc n x:=by
 unfold objAsc at h
 rw [allTo_iff] at h
 intro i j
 induction j with
 | zero=>intro h1;omega
 | succ j ih=>
  intro h1 h2
  have hj:=h (j+1) h2
  simp at hj
  rcases Nat.lt_or_ge i j with h3|h3
  ·exact befB_trans (ih h3 Za) hj
  ·obtain rfl:i=j:=Za
   exact hj
theorem hsAsc_of {n:Nat} {s:Nat→ByteArray} (h:ascB n s=true):HsAsc n s:=by
 rw [ascB_split,Bool.and_eq_true] at h
 have h:=h.1
 unfold ascS at h
 rw [allTo_iff] at h
 intro i j
 induction j with
 | zero=>intro h1;omega
 | succ j ih=>
  intro h1 h2
  have hj:=h (j+1) h2
  simp at hj
  rcases Nat.lt_or_ge i j with h3|h3
  ·exact ltB_trans (ih h3 Za) hj
  ·obtain rfl:i=j:=Za
   exact hj
def rkS (s:Nat→ByteArray) (a:ByteArray):Nat→Nat
 | 0=>0
 | n+1=>if rkS s a n=n∧ltB (s n) a=true then n+1 else rkS s a n
theorem rkS_is (s:Nat→ByteArray) (a:ByteArray):∀ n,rkS s a n≤n∧(∀ j,j<rkS s a n→ltB (s j) a=true)∧(rkS s a n<n→ltB (s (rkS s a n)) a=false)
 | 0=>⟨Nat.le_refl _,fun j hj=>absurd hj (Nat.not_lt_zero _),fun h=>absurd h (Nat.not_lt_zero _)⟩
 | n+1=>by
  obtain ⟨h1,h2,h3⟩:=rkS_is s a n
  unfold rkS
  by_cases e:rkS s a n=n∧ltB (s n) a=true
  ·rw [if_pos e]
   refine ⟨Nat.le_refl _,fun j hj=>?_,fun h=>absurd h (Nat.lt_irrefl _)⟩
   rcases Nat.lt_or_ge j n with h|h
   ·exact h2 j Za
   ·obtain rfl:j=n:=Za
    exact e.2
  ·rw [if_neg e]
   refine ⟨Za,h2,fun _=>?_⟩
   rcases Nat.lt_or_ge (rkS s a n) n with h|h
   ·exact h3 h
   ·have e1:rkS s a n=n:=Za
    rw [e1]
    cases hx:ltB (s n) a with
    | false=>rfl
    | true=>exact absurd ⟨e1,hx⟩ e
theorem rkS_eq {s:Nat→ByteArray} {a:ByteArray} {n i:Nat} (hi:i≤n) (h1:∀ j,j<i→ltB (s j) a=true) (h2:i<n→ltB (s i) a=false):rkS s a n=i:=by
 obtain ⟨g1,g2,g3⟩:=rkS_is s a n
 rcases Nat.lt_trichotomy (rkS s a n) i with h|h|h
 ·have e1:=h1 _ h
  rw [g3 Za] at e1
  cases e1
 ·exact h
 ·have e1:=g2 _ h
  rw [h2 Za] at e1
  cases e1
def insS (s:Nat→ByteArray) (k:Nat) (a:ByteArray):Nat→ByteArray:=fun j=>if j<k then s j else if j=k then a else s (j-1)
def remS (s:Nat→ByteArray) (k:Nat):Nat→ByteArray:=fun j=>if j<k then s j else s (j+1)
theorem has_rk {n:Nat} {s:Nat→ByteArray} {a:ByteArray} (h:HsAsc n s):hasB n s a=(decide (rkS s a n<n)&&decide (s (rkS s a n)=a)):=by
 obtain ⟨g1,g2,g3⟩:=rkS_is s a n
 by_cases e:rkS s a n<n∧s (rkS s a n)=a
 ·rw [hasB_yes e.1 e.2]
  simp [e.1,e.2]
 ·rw [hasB_no (fun i hi q=>e ?_)]
  ·symm
   rw [Bool.and_eq_false_iff]
   by_cases e1:rkS s a n<n
   ·exact Or.inr (by simpa using fun q=>e ⟨e1,q⟩)
   ·exact Or.inl (by simpa using e1)
  ·have hr:rkS s a n=i:=by
    refine rkS_eq (Nat.le_of_lt hi) (fun j hj=>?_) (fun _=>?_)
    ·rw [←q];exact h j i hj hi
    ·rw [q];exact ltB_irr rfl
   rw [hr]
   exact ⟨hi,q⟩
def wOf (B:Bk) (v:Wr):Ob:=fndOb B.os v.kind v.name B.on
def oCode (B:Bk) (v:Wr):Int:=
 if fndIs B.os v.kind v.name B.on=decide (v.op=1) then 3
 else if ¬v.seen=0∧¬v.seen=(wOf B v).ver then 4
 else if (wOf B v).ending=true∧¬v.op=5 then 5
 else if v.op=1 then (if 100≤B.on then 7 else 0)
 else if v.op=4 then (if hasB (wOf B v).hn (wOf B v).hs v.hold=true then 6 else if 5≤(wOf B v).hn then 7 else 0)
 else if v.op=5 then (if hasB (wOf B v).hn (wOf B v).hs v.hold=true then 0 else 6)
 else 0
def wCode (B:Bk) (v:Wr):Int:=if oCode B v=0 then (if 1000000≤B.now then 8 else 0) else oCode B v
def oVer (B:Bk) (v:Wr):Int:=if oCode B v=4 then (wOf B v).ver else 0
def opOb (B:Bk) (v:Wr) (ve:Int):Ob:=
 if v.op=1 then ⟨v.kind,v.name,ve,B.now+1,v.text,false,if emB v.hold then 0 else 1,fun _=>v.hold⟩
 else if v.op=2 then ⟨(wOf B v).kind,(wOf B v).name,ve,(wOf B v).born,v.text,(wOf B v).ending,(wOf B v).hn,(wOf B v).hs⟩
 else if v.op=3 then ⟨(wOf B v).kind,(wOf B v).name,ve,(wOf B v).born,(wOf B v).text,true,(wOf B v).hn,(wOf B v).hs⟩
 else if v.op=4 then ⟨(wOf B v).kind,(wOf B v).name,ve,(wOf B v).born,(wOf B v).text,(wOf B v).ending,(wOf B v).hn+1,insS (wOf B v).hs (rkS (wOf B v).hs v.hold (wOf B v).hn) v.hold⟩
 else ⟨(wOf B v).kind,(wOf B v).name,ve,(wOf B v).born,(wOf B v).text,(wOf B v).ending,(wOf B v).hn-1,remS (wOf B v).hs (rkS (wOf B v).hs v.hold (wOf B v).hn)⟩
def wOb (B:Bk) (v:Wr):Ob:=opOb B v (B.now+1)
def wGone (B:Bk) (v:Wr):Bool:=!standB (wOb B v)
def wCh (B:Bk) (v:Wr):Ch:=⟨B.now+1,wGone B v,wOb B v⟩
def wCut (B:Bk):Nat:=if B.hn=200 then 1 else 0
def wHs (B:Bk) (c:Ch):Nat→Ch:=fun i=>if i<B.hn-wCut B then B.hs (i+wCut B) else c
def wBk (B:Bk) (v:Wr):Bk:=
 { now:=B.now+1,floor:=if B.hn=200 then (B.hs 0).ver else B.floor,on:=(putAll B.on B.os (wOb B v) (wGone B v)).m,os:=(putAll B.on B.os (wOb B v) (wGone B v)).y,hn:=B.hn-wCut B+1,hs:=wHs B (wCh B v),tn:=B.tn,ts:=B.ts }
structure WOk (B:Bk) (v:Wr):Prop where
 fit:BkFit B
 now0:0≤B.now
 now1:B.now≤1000000
 on:B.on≤100
 hn:B.hn≤200
 asc:ObAsc B.on B.os
 hold:∀ i,i<B.on→(B.os i).hn≤5∧HsAsc (B.os i).hn (B.os i).hs
 wr:wrB v=true
 wf:WrFit v
theorem wok_of {B:Bk} {v:Wr} (hf:BkFit B) (hv:allTo (chk B) 7=true) (hw:wrB v=true) (wf:WrFit v):WOk B v:=by
 rw [allTo_iff] at hv
 have c0:numB B.now B.floor=true:=hv 0 Za
 have c1:objs1B B.on B.os B.now=true:=hv 1 Za
 have c3:histB B.now B.floor B.hn B.hs=true:=hv 3 Za
 unfold numB at c0
 unfold objs1B at c1
 unfold histB at c3
 rw [Bool.and_eq_true] at c0 c1 c3
 rw [Bool.and_eq_true] at c1
 have n0:=inB_of c0.1
 refine ⟨hf,n0.1,n0.2,of_decide_eq_true c1.1,of_decide_eq_true c3.1,obAsc_of c1.2.1,fun i hi=>?_,hw,wf⟩
 have h:=allTo_iff.1 c1.2.2 i hi
 rw [Bool.and_eq_true] at h
 have h:=h.1
 unfold partsB at h
 simp only [Bool.and_eq_true] at h
 have h:=h.2.2.2.2.2
 unfold holdsB at h
 rw [Bool.and_eq_true] at h
 exact ⟨of_decide_eq_true h.1,hsAsc_of h.2⟩
def PlaceAt (B:Bk) (v:Wr) (i:Nat):Prop:=i≤B.on∧(∀ j,j<i→kcI B.os v.kind v.name j<0)∧(∀ j,i≤j→j<B.on→¬kcI B.os v.kind v.name j<0)
theorem kc_is (x:Nat→Ob) (ki na:ByteArray) (i:Nat) (o:Ob) (hk:o.kind=ki) (hn:o.name=na):kcI x ki na i=keyI (x i) o:=by subst hk hn;exact kcI_key x o i
def obK (v:Wr):Ob:=⟨v.kind,v.name,0,0,v.text,false,0,fun _=>v.hold⟩
theorem kc_asc {B:Bk} {v:Wr} (h:WOk B v):∀ i j,i<j→j<B.on→kcI B.os v.kind v.name j<0→kcI B.os v.kind v.name i<0:=fun i j h1 h2 h3=>by
 rw [kc_is B.os v.kind v.name j (obK v) rfl rfl] at h3
 rw [kc_is B.os v.kind v.name i (obK v) rfl rfl]
 exact (keyI_neg7 _ _).2 (befB_trans (h.asc i j h1 h2) ((keyI_neg7 _ _).1 h3))
theorem fnd_none {x:Nat→Ob} {a b:ByteArray} : ∀ {n:Nat},(∀ i,i<n→¬((x i).kind=a∧(x i).name=b))→fnd x a b n=none
 | 0,_=>rfl
 | n+1,h=>fnd_miss (fnd_none fun i hi=>h i Za) (h n Za)
theorem kc_nil (x:Nat→Ob) (ki na:ByteArray) (i:Nat):kcI x ki na i=0↔((x i).kind=ki∧(x i).name=na):=by
 rw [kc_is x ki na i ⟨ki,na,0,0,ki,false,0,fun _=>ki⟩ rfl rfl,keyI_nil7]
 exact ⟨fun h=>⟨toList_inj0 h.1,toList_inj0 h.2⟩,fun h=>⟨congrArg _ h.1,congrArg _ h.2⟩⟩
theorem fnd_place {B:Bk} {v:Wr} (h:WOk B v) {i:Nat} (hp:PlaceAt B v i):fnd B.os v.kind v.name B.on=if i<B.on∧kcI B.os v.kind v.name i=0 then some i else none:=by
 by_cases e:i<B.on∧kcI B.os v.kind v.name i=0
 ·rw [if_pos e]
  have h1:fnd B.os v.kind v.name i=none:=fnd_none fun j hj q=>by
   have:=hp.2.1 j hj
   rw [(kc_nil _ _ _ _).2 q] at this
   omega
  exact fnd_keep (fnd_hit h1 ((kc_nil _ _ _ _).1 e.2)) (Nat.succ_le_of_lt e.1)
 ·rw [if_neg e]
  refine fnd_none fun j hj q=>?_
  have h0:=(kc_nil _ _ _ _).2 q
  rcases Nat.lt_or_ge j i with h1|h1
  ·have:=hp.2.1 j h1
   omega
  ·rcases Nat.lt_or_ge i j with h2|h2
   ·have h3:=hp.2.2 i Zbt Za
    have h4:=h.asc i j h2 hj
    rw [kc_is B.os v.kind v.name i (obK v) rfl rfl,keyI_neg7] at h3
    refine h3 ?_
    have e1:(B.os j).kind=(obK v).kind:=q.1
    have e2:(B.os j).name=(obK v).name:=q.2
    unfold befB at h4 ⊢
    rw [e1,e2] at h4
    exact h4
   ·obtain rfl:i=j:=Za
    exact e ⟨hj,h0⟩
end Go.Proofs.YtllmmkchokkaaaaGreatDoor
namespace Go.Proofs.YtllmmkchokkaaaaGreatDoor
open Go.RowKit
structure DeskAt (w:World) (D K:Nat) (v:Wr) (pl:Int) (fo:Bool):Prop where
 c0:w.cell? ⟨D,0,none⟩=some (.pointer (some ⟨K,0,none⟩))
 c1:w.cell? ⟨D,1,none⟩=some (.int .i64 v.op)
 c2:w.cell? ⟨D,2,none⟩=some (.string v.kind)
 c3:w.cell? ⟨D,3,none⟩=some (.string v.name)
 c4:w.cell? ⟨D,4,none⟩=some (.int .i64 v.seen)
 c5:w.cell? ⟨D,5,none⟩=some (.string v.text)
 c6:w.cell? ⟨D,6,none⟩=some (.string v.hold)
 c7:w.cell? ⟨D,7,none⟩=some (.int .i64 pl)
 c8:w.cell? ⟨D,8,none⟩=some (.bool fo)
theorem DeskAt.grow {w w':World} {D K:Nat} {v:Wr} {pl:Int} {fo:Bool} (h:DeskAt w D K v pl fo) (hb:Below w.1.size w w') (hD:D<w.1.size):DeskAt w' D K v pl fo:=
 ⟨(hb.cell (p:=⟨D,0,none⟩) hD).trans h.c0,(hb.cell (p:=⟨D,1,none⟩) hD).trans h.c1,(hb.cell (p:=⟨D,2,none⟩) hD).trans h.c2,(hb.cell (p:=⟨D,3,none⟩) hD).trans h.c3,(hb.cell (p:=⟨D,4,none⟩) hD).trans h.c4,(hb.cell (p:=⟨D,5,none⟩) hD).trans h.c5,(hb.cell (p:=⟨D,6,none⟩) hD).trans h.c6,(hb.cell (p:=⟨D,7,none⟩) hD).trans h.c7,(hb.cell (p:=⟨D,8,none⟩) hD).trans h.c8⟩
theorem DeskAt.fr {w w':World} {P:Nat→Prop} {D K:Nat} {v:Wr} {pl:Int} {fo:Bool} (h:DeskAt w D K v pl fo) (hb:FrP P w w') (hD:D<w.1.size) (hp:¬P D):DeskAt w' D K v pl fo:=
 ⟨(hb.cell (p:=⟨D,0,none⟩) hD hp).trans h.c0,(hb.cell (p:=⟨D,1,none⟩) hD hp).trans h.c1,(hb.cell (p:=⟨D,2,none⟩) hD hp).trans h.c2,(hb.cell (p:=⟨D,3,none⟩) hD hp).trans h.c3,(hb.cell (p:=⟨D,4,none⟩) hD hp).trans h.c4,(hb.cell (p:=⟨D,5,none⟩) hD hp).trans h.c5,(hb.cell (p:=⟨D,6,none⟩) hD hp).trans h.c6,(hb.cell (p:=⟨D,7,none⟩) hD hp).trans h.c7,(hb.cell (p:=⟨D,8,none⟩) hD hp).trans h.c8⟩
theorem two_alloc {w w1:World} {o:Obj} (hb:Below (w.alloc o).1.size (w.alloc o) w1):Below w.1.size w w1∧w.1.size<w1.1.size:=⟨(below_alloc _ _).trans (hb.mono Zd),by have:=hb.size;simp at this;omega⟩
theorem standing_no (D K:Nat) (v:Wr) (pl:Int) (w:World) (hD:D<w.1.size) (hd:DeskAt w D K v pl false) :
  Calls Tryz.prog 157 #[.pointer (some ⟨D,0,none⟩)] w fun e w'=>e=.returned (.tuple #[.agg #[.string ⟨#[]⟩,.string ⟨#[]⟩,.int .i64 0,.int .i64 0,.string ⟨#[]⟩,.bool false,.slice none 0 0],.iface 90 (.agg #[.int .i64 3,.int .i64 0])])∧Below w.1.size w w':=by
 obtain ⟨c0,c1,c2,c3,c4,c5,c6,c7,c8⟩:=hd
 go_enter Tryz.func157,Tryz.ntmps157
 go_wp2
 refine bodyPost_ret (v:=.tuple #[.agg #[.string ⟨#[]⟩,.string ⟨#[]⟩,.int .i64 0,.int .i64 0,.string ⟨#[]⟩,.bool false,.slice none 0 0],.iface 90 (.agg #[.int .i64 3,.int .i64 0])]) (by simp [results,Tryz.results157,go_sem]) rfl ⟨rfl,below_alloc _ _⟩
theorem standing_stale (D K:Nat) (v:Wr) (pl:Nat) (n:Nat) (x:Ob) (g:Nat) (A:Option Addr) (C cap:Nat) (w:World) (hg:g<w.1.size) (hD:D<w.1.size) (hK:K<w.1.size) (hd:DeskAt w D K v pl true) (hk:w.cell? ⟨K,2,none⟩=some (.slice (some ⟨g,0,none⟩) n cap)) (hpn:pl<n) (_hl:(n:Int)≤1099511627776) (hc:ObCells w g (pl*7) x A C) (hs:¬v.seen=0) (hv:¬v.seen=x.ver) :
  Calls Tryz.prog 157 #[.pointer (some ⟨D,0,none⟩)] w fun e w'=>e=.returned (.tuple #[.agg #[.string ⟨#[]⟩,.string ⟨#[]⟩,.int .i64 0,.int .i64 0,.string ⟨#[]⟩,.bool false,.slice none 0 0],.iface 90 (.agg #[.int .i64 4,.int .i64 x.ver])])∧Below w.1.size w w':=by
 obtain ⟨c0,c1,c2,c3,c4,c5,c6,c7,c8⟩:=hd
 obtain ⟨d0,d1,d2,d3,d4,d5,d6⟩:=hc
 have hsb:(v.seen != 0)=true:=by simp [hs]
 have hvb:(v.seen != x.ver)=true:=by simp [hv]
 go_enter Tryz.func157,Tryz.ntmps157
 go_wp2
 go_region
 go_wp2
 go_region
 go_wp2
 go_region
 go_wp2
 refine bodyPost_ret (v:=.tuple #[.agg #[.string ⟨#[]⟩,.string ⟨#[]⟩,.int .i64 0,.int .i64 0,.string ⟨#[]⟩,.bool false,.slice none 0 0],.iface 90 (.agg #[.int .i64 4,.int .i64 x.ver])]) (by simp [results,Tryz.results157,go_sem]) rfl ⟨rfl,by repeat (first|exact Below.refl _ _|refine Below.drew ?_|refine Below.setCell ?_ Zd _|refine Below.alloc ?_ Zm _)⟩
theorem apP203 {P:Prop} (h:P:=by
  clear hs
  go_enter Tryz.func157,Tryz.ntmps157
  go_wp2
  go_region
  go_wp2
  go_region
  go_wp2
  refine bodyPost_ret (v:=.tuple #[.agg #[.string x.kind,.string x.name,.int .i64 x.ver,.int .i64 x.born,.string x.text,.bool x.ending,.slice A x.hn C],.nilIface]) (by simp [results,Tryz.results157,go_sem]) rfl ⟨rfl,by repeat (first|exact Below.refl _ _|refine Below.drew ?_|refine Below.setCell ?_ Zd _|refine Below.alloc ?_ Zm _)⟩):P:=h
theorem standing_ok (D K:Nat) (v:Wr) (pl:Nat) (n:Nat) (x:Ob) (g:Nat) (A:Option Addr) (C cap:Nat) (w:World) (hg:g<w.1.size) (hD:D<w.1.size) (hK:K<w.1.size) (hd:DeskAt w D K v pl true) (hk:w.cell? ⟨K,2,none⟩=some (.slice (some ⟨g,0,none⟩) n cap)) (hpn:pl<n) (_hl:(n:Int)≤1099511627776) (hc:ObCells w g (pl*7) x A C) (hs:v.seen=0∨v.seen=x.ver) :
  Calls Tryz.prog 157 #[.pointer (some ⟨D,0,none⟩)] w fun e w'=>e=.returned (.tuple #[.agg #[.string x.kind,.string x.name,.int .i64 x.ver,.int .i64 x.born,.string x.text,.bool x.ending,.slice A x.hn C],.nilIface])∧Below w.1.size w w':=by
 obtain ⟨op,ki,na,se,te,ho⟩:=v
 obtain ⟨c0,c1,c2,c3,c4,c5,c6,c7,c8⟩:=hd
 dsimp only at c1 c2 c3 c4 c5 c6 hs
 obtain ⟨d0,d1,d2,d3,d4,d5,d6⟩:=hc
 by_cases h0:se=0
 ·subst h0
  exact apP203
 ·have hv:se=x.ver:=by
   rcases hs with h|h
   ·exact absurd h h0
   ·exact h
  subst hv
  have hsb:(x.ver != 0)=true:=by simp [h0]
  exact apP203
theorem lasting_err (D:Nat) (c d:Int) (w:World) (hs:∀ o:Obj,Calls Tryz.prog 157 #[.pointer (some ⟨D,0,none⟩)] (w.alloc o) fun e w'=>e=.returned (.tuple #[.agg #[.string ⟨#[]⟩,.string ⟨#[]⟩,.int .i64 0,.int .i64 0,.string ⟨#[]⟩,.bool false,.slice none 0 0],.iface 90 (.agg #[.int .i64 c,.int .i64 d])])∧Below (w.alloc o).1.size (w.alloc o) w') :
  Calls Tryz.prog 154 #[.pointer (some ⟨D,0,none⟩)] w fun e w'=>e=.returned (.tuple #[.agg #[.string ⟨#[]⟩,.string ⟨#[]⟩,.int .i64 0,.int .i64 0,.string ⟨#[]⟩,.bool false,.slice none 0 0],.iface 90 (.agg #[.int .i64 c,.int .i64 d])])∧Below w.1.size w w':=by
 have HS:=hid hs
 clear hs
 go_enter Tryz.func154,Tryz.ntmps154
 go_wp2_with fail
 refine (HS.out _).mono ?_
 rintro e w1 ⟨rfl,hb1⟩
 have z1:=(two_alloc hb1).2
 have b1:=(two_alloc hb1).1
 have r1:=RowF.new (w:=w) (l:=[.string ⟨#[]⟩,.string ⟨#[]⟩,.int .i64 0,.int .i64 0,.string ⟨#[]⟩,.bool false,.slice none 0 0]) (t:=118) hb1
 have q0:=r1.cell 0 Zb
 have q1:=r1.cell 1 Zb
 have q2:=r1.cell 2 Zb
 have q3:=r1.cell 3 Zb
 have q4:=r1.cell 4 Zb
 have q5:=r1.cell 5 Zb
 have q6:=r1.cell 6 Zb
 have qf:=r1.free
 clear hb1 r1
 simp only [vec,List.getD_cons_zero,List.getD_cons_succ] at q0 q1 q2 q3 q4 q5 q6
 go_wp2
 refine bodyPost_ret (v:=.tuple #[.agg #[.string ⟨#[]⟩,.string ⟨#[]⟩,.int .i64 0,.int .i64 0,.string ⟨#[]⟩,.bool false,.slice none 0 0],.iface 90 (.agg #[.int .i64 c,.int .i64 d])]) Zbr rfl ⟨rfl,by repeat (first|with_reducible exact b1|with_reducible refine Below.setCell ?_ Zm _|with_reducible refine Below.alloc ?_ Zm _|with_reducible refine Below.drew ?_)⟩
theorem lasting_end (D:Nat) (x:Ob) (A:Option Addr) (C:Nat) (w:World) (hs:∀ o:Obj,Calls Tryz.prog 157 #[.pointer (some ⟨D,0,none⟩)] (w.alloc o) fun e w'=>e=.returned (.tuple #[.agg #[.string x.kind,.string x.name,.int .i64 x.ver,.int .i64 x.born,.string x.text,.bool x.ending,.slice A x.hn C],.nilIface])∧Below (w.alloc o).1.size (w.alloc o) w') (he:x.ending=true) :
  Calls Tryz.prog 154 #[.pointer (some ⟨D,0,none⟩)] w fun e w'=>e=.returned (.tuple #[.agg #[.string ⟨#[]⟩,.string ⟨#[]⟩,.int .i64 0,.int .i64 0,.string ⟨#[]⟩,.bool false,.slice none 0 0],.iface 90 (.agg #[.int .i64 5,.int .i64 0])])∧Below w.1.size w w':=by
 have HS:=hid hs
 clear hs
 go_enter Tryz.func154,Tryz.ntmps154
 go_wp2_with fail
 refine (HS.out _).mono ?_
 rintro e w1 ⟨rfl,hb1⟩
 rw [he]
 have z1:=(two_alloc hb1).2
 have b1:=(two_alloc hb1).1
 have r1:=RowF.new (w:=w) (l:=[.string ⟨#[]⟩,.string ⟨#[]⟩,.int .i64 0,.int .i64 0,.string ⟨#[]⟩,.bool false,.slice none 0 0]) (t:=118) hb1
 have q0:=r1.cell 0 Zb
 have q1:=r1.cell 1 Zb
 have q2:=r1.cell 2 Zb
 have q3:=r1.cell 3 Zb
 have q4:=r1.cell 4 Zb
 have q5:=r1.cell 5 Zb
 have q6:=r1.cell 6 Zb
 have qf:=r1.free
 clear hb1 r1
 simp only [vec,List.getD_cons_zero,List.getD_cons_succ] at q0 q1 q2 q3 q4 q5 q6
 go_wp2
 refine bodyPost_ret (v:=.tuple #[.agg #[.string ⟨#[]⟩,.string ⟨#[]⟩,.int .i64 0,.int .i64 0,.string ⟨#[]⟩,.bool false,.slice none 0 0],.iface 90 (.agg #[.int .i64 5,.int .i64 0])]) Zbr rfl ⟨rfl,by repeat (first|with_reducible exact b1|with_reducible refine Below.setCell ?_ Zm _|with_reducible refine Below.alloc ?_ Zm _|with_reducible refine Below.drew ?_)⟩
theorem lasting_ok (D:Nat) (x:Ob) (A:Option Addr) (C:Nat) (w:World) (hs:∀ o:Obj,Calls Tryz.prog 157 #[.pointer (some ⟨D,0,none⟩)] (w.alloc o) fun e w'=>e=.returned (.tuple #[.agg #[.string x.kind,.string x.name,.int .i64 x.ver,.int .i64 x.born,.string x.text,.bool x.ending,.slice A x.hn C],.nilIface])∧Below (w.alloc o).1.size (w.alloc o) w') (he:x.ending=false) :
  Calls Tryz.prog 154 #[.pointer (some ⟨D,0,none⟩)] w fun e w'=>e=.returned (.tuple #[.agg #[.string x.kind,.string x.name,.int .i64 x.ver,.int .i64 x.born,.string x.text,.bool x.ending,.slice A x.hn C],.nilIface])∧Below w.1.size w w':=by
 have HS:=hid hs
 clear hs
 go_enter Tryz.func154,Tryz.ntmps154
 go_wp2_with fail
 refine (HS.out _).mono ?_
 rintro e w1 ⟨rfl,hb1⟩
 rw [he]
 have z1:=(two_alloc hb1).2
 have b1:=(two_alloc hb1).1
 have r1:=RowF.new (w:=w) (l:=[.string ⟨#[]⟩,.string ⟨#[]⟩,.int .i64 0,.int .i64 0,.string ⟨#[]⟩,.bool false,.slice none 0 0]) (t:=118) hb1
 have q0:=r1.cell 0 Zb
 have q1:=r1.cell 1 Zb
 have q2:=r1.cell 2 Zb
 have q3:=r1.cell 3 Zb
 have q4:=r1.cell 4 Zb
 have q5:=r1.cell 5 Zb
 have q6:=r1.cell 6 Zb
 have qf:=r1.free
 clear hb1 r1
 simp only [vec,List.getD_cons_zero,List.getD_cons_succ] at q0 q1 q2 q3 q4 q5 q6
 go_wp2
 refine bodyPost_ret (v:=.tuple #[.agg #[.string x.kind,.string x.name,.int .i64 x.ver,.int .i64 x.born,.string x.text,.bool false,.slice A x.hn C],.nilIface]) Zbr rfl ⟨by rw [he],by repeat (first|with_reducible exact b1|with_reducible refine Below.setCell ?_ Zm _|with_reducible refine Below.alloc ?_ Zm _|with_reducible refine Below.drew ?_)⟩
theorem update_err (D:Nat) (c d:Int) (w:World) (hs:∀ o:Obj,Calls Tryz.prog 154 #[.pointer (some ⟨D,0,none⟩)] (w.alloc o) fun e w'=>e=.returned (.tuple #[.agg #[.string ⟨#[]⟩,.string ⟨#[]⟩,.int .i64 0,.int .i64 0,.string ⟨#[]⟩,.bool false,.slice none 0 0],.iface 90 (.agg #[.int .i64 c,.int .i64 d])])∧Below (w.alloc o).1.size (w.alloc o) w') :
  Calls Tryz.prog 98 #[.pointer (some ⟨D,0,none⟩)] w fun e w'=>e=.returned (.tuple #[.agg #[.string ⟨#[]⟩,.string ⟨#[]⟩,.int .i64 0,.int .i64 0,.string ⟨#[]⟩,.bool false,.slice none 0 0],.iface 90 (.agg #[.int .i64 c,.int .i64 d])])∧Below w.1.size w w':=by
 have HS:=hid hs
 clear hs
 go_enter Tryz.func98,Tryz.ntmps98
 go_wp2_with fail
 refine (HS.out _).mono ?_
 rintro e w1 ⟨rfl,hb1⟩
 have z1:=(two_alloc hb1).2
 have b1:=(two_alloc hb1).1
 have r1:=RowF.new (w:=w) (l:=[.string ⟨#[]⟩,.string ⟨#[]⟩,.int .i64 0,.int .i64 0,.string ⟨#[]⟩,.bool false,.slice none 0 0]) (t:=118) hb1
 have q0:=r1.cell 0 Zb
 have q1:=r1.cell 1 Zb
 have q2:=r1.cell 2 Zb
 have q3:=r1.cell 3 Zb
 have q4:=r1.cell 4 Zb
 have q5:=r1.cell 5 Zb
 have q6:=r1.cell 6 Zb
 have qf:=r1.free
 clear hb1 r1
 simp only [vec,List.getD_cons_zero,List.getD_cons_succ] at q0 q1 q2 q3 q4 q5 q6
 go_wp2
 refine bodyPost_ret (v:=.tuple #[.agg #[.string ⟨#[]⟩,.string ⟨#[]⟩,.int .i64 0,.int .i64 0,.string ⟨#[]⟩,.bool false,.slice none 0 0],.iface 90 (.agg #[.int .i64 c,.int .i64 d])]) (by simp [results,Tryz.results98,go_sem,q0,q1,q2,q3,q4,q5,q6,z1]) rfl ⟨rfl,by repeat (first|with_reducible exact b1|with_reducible refine Below.setCell ?_ Zm _|with_reducible refine Below.alloc ?_ Zm _|with_reducible refine Below.drew ?_)⟩
theorem end_err (D:Nat) (c d:Int) (w:World) (hs:∀ o:Obj,Calls Tryz.prog 154 #[.pointer (some ⟨D,0,none⟩)] (w.alloc o) fun e w'=>e=.returned (.tuple #[.agg #[.string ⟨#[]⟩,.string ⟨#[]⟩,.int .i64 0,.int .i64 0,.string ⟨#[]⟩,.bool false,.slice none 0 0],.iface 90 (.agg #[.int .i64 c,.int .i64 d])])∧Below (w.alloc o).1.size (w.alloc o) w') :
  Calls Tryz.prog 99 #[.pointer (some ⟨D,0,none⟩)] w fun e w'=>e=.returned (.tuple #[.agg #[.string ⟨#[]⟩,.string ⟨#[]⟩,.int .i64 0,.int .i64 0,.string ⟨#[]⟩,.bool false,.slice none 0 0],.iface 90 (.agg #[.int .i64 c,.int .i64 d])])∧Below w.1.size w w':=by
 have HS:=hid hs
 clear hs
 go_enter Tryz.func99,Tryz.ntmps99
 go_wp2_with fail
 refine (HS.out _).mono ?_
 rintro e w1 ⟨rfl,hb1⟩
 have z1:=(two_alloc hb1).2
 have b1:=(two_alloc hb1).1
 have r1:=RowF.new (w:=w) (l:=[.string ⟨#[]⟩,.string ⟨#[]⟩,.int .i64 0,.int .i64 0,.string ⟨#[]⟩,.bool false,.slice none 0 0]) (t:=118) hb1
 have q0:=r1.cell 0 Zb
 have q1:=r1.cell 1 Zb
 have q2:=r1.cell 2 Zb
 have q3:=r1.cell 3 Zb
 have q4:=r1.cell 4 Zb
 have q5:=r1.cell 5 Zb
 have q6:=r1.cell 6 Zb
 have qf:=r1.free
 clear hb1 r1
 simp only [vec,List.getD_cons_zero,List.getD_cons_succ] at q0 q1 q2 q3 q4 q5 q6
 go_wp2
 refine bodyPost_ret (v:=.tuple #[.agg #[.string ⟨#[]⟩,.string ⟨#[]⟩,.int .i64 0,.int .i64 0,.string ⟨#[]⟩,.bool false,.slice none 0 0],.iface 90 (.agg #[.int .i64 c,.int .i64 d])]) (by simp [results,Tryz.results99,go_sem,q0,q1,q2,q3,q4,q5,q6,z1]) rfl ⟨rfl,by repeat (first|with_reducible exact b1|with_reducible refine Below.setCell ?_ Zm _|with_reducible refine Below.alloc ?_ Zm _|with_reducible refine Below.drew ?_)⟩
theorem hold_err (D:Nat) (c d:Int) (w:World) (hs:∀ o:Obj,Calls Tryz.prog 154 #[.pointer (some ⟨D,0,none⟩)] (w.alloc o) fun e w'=>e=.returned (.tuple #[.agg #[.string ⟨#[]⟩,.string ⟨#[]⟩,.int .i64 0,.int .i64 0,.string ⟨#[]⟩,.bool false,.slice none 0 0],.iface 90 (.agg #[.int .i64 c,.int .i64 d])])∧Below (w.alloc o).1.size (w.alloc o) w') :
  Calls Tryz.prog 100 #[.pointer (some ⟨D,0,none⟩)] w fun e w'=>e=.returned (.tuple #[.agg #[.string ⟨#[]⟩,.string ⟨#[]⟩,.int .i64 0,.int .i64 0,.string ⟨#[]⟩,.bool false,.slice none 0 0],.iface 90 (.agg #[.int .i64 c,.int .i64 d])])∧Below w.1.size w w':=by
 have HS:=hid hs
 clear hs
 go_enter Tryz.func100,Tryz.ntmps100
 go_wp2_with fail
 refine (HS.out _).mono ?_
 rintro e w1 ⟨rfl,hb1⟩
 have z1:=(two_alloc hb1).2
 have b1:=(two_alloc hb1).1
 have r1:=RowF.new (w:=w) (l:=[.string ⟨#[]⟩,.string ⟨#[]⟩,.int .i64 0,.int .i64 0,.string ⟨#[]⟩,.bool false,.slice none 0 0]) (t:=118) hb1
 have q0:=r1.cell 0 Zb
 have q1:=r1.cell 1 Zb
 have q2:=r1.cell 2 Zb
 have q3:=r1.cell 3 Zb
 have q4:=r1.cell 4 Zb
 have q5:=r1.cell 5 Zb
 have q6:=r1.cell 6 Zb
 have qf:=r1.free
 clear hb1 r1
 simp only [vec,List.getD_cons_zero,List.getD_cons_succ] at q0 q1 q2 q3 q4 q5 q6
 go_wp2
 refine bodyPost_ret (v:=.tuple #[.agg #[.string ⟨#[]⟩,.string ⟨#[]⟩,.int .i64 0,.int .i64 0,.string ⟨#[]⟩,.bool false,.slice none 0 0],.iface 90 (.agg #[.int .i64 c,.int .i64 d])]) (by simp [results,Tryz.results100,go_sem,q0,q1,q2,q3,q4,q5,q6,z1]) rfl ⟨rfl,by repeat (first|with_reducible exact b1|with_reducible refine Below.setCell ?_ Zm _|with_reducible refine Below.alloc ?_ Zm _|with_reducible refine Below.drew ?_)⟩
theorem letGo_err (D:Nat) (c d:Int) (w:World) (hs:∀ o:Obj,Calls Tryz.prog 157 #[.pointer (some ⟨D,0,none⟩)] (w.alloc o) fun e w'=>e=.returned (.tuple #[.agg #[.string ⟨#[]⟩,.string ⟨#[]⟩,.int .i64 0,.int .i64 0,.string ⟨#[]⟩,.bool false,.slice none 0 0],.iface 90 (.agg #[.int .i64 c,.int .i64 d])])∧Below (w.alloc o).1.size (w.alloc o) w') :
  Calls Tryz.prog 101 #[.pointer (some ⟨D,0,none⟩)] w fun e w'=>e=.returned (.tuple #[.agg #[.string ⟨#[]⟩,.string ⟨#[]⟩,.int .i64 0,.int .i64 0,.string ⟨#[]⟩,.bool false,.slice none 0 0],.iface 90 (.agg #[.int .i64 c,.int .i64 d])])∧Below w.1.size w w':=by
 have HS:=hid hs
 clear hs
 go_enter Tryz.func101,Tryz.ntmps101
 go_wp2_with fail
 refine (HS.out _).mono ?_
 rintro e w1 ⟨rfl,hb1⟩
 have z1:=(two_alloc hb1).2
 have b1:=(two_alloc hb1).1
 have r1:=RowF.new (w:=w) (l:=[.string ⟨#[]⟩,.string ⟨#[]⟩,.int .i64 0,.int .i64 0,.string ⟨#[]⟩,.bool false,.slice none 0 0]) (t:=118) hb1
 have q0:=r1.cell 0 Zb
 have q1:=r1.cell 1 Zb
 have q2:=r1.cell 2 Zb
 have q3:=r1.cell 3 Zb
 have q4:=r1.cell 4 Zb
 have q5:=r1.cell 5 Zb
 have q6:=r1.cell 6 Zb
 have qf:=r1.free
 clear hb1 r1
 simp only [vec,List.getD_cons_zero,List.getD_cons_succ] at q0 q1 q2 q3 q4 q5 q6
 go_wp2
 refine bodyPost_ret (v:=.tuple #[.agg #[.string ⟨#[]⟩,.string ⟨#[]⟩,.int .i64 0,.int .i64 0,.string ⟨#[]⟩,.bool false,.slice none 0 0],.iface 90 (.agg #[.int .i64 c,.int .i64 d])]) (by simp [results,Tryz.results101,go_sem,q0,q1,q2,q3,q4,q5,q6,z1]) rfl ⟨rfl,by repeat (first|with_reducible exact b1|with_reducible refine Below.setCell ?_ Zm _|with_reducible refine Below.alloc ?_ Zm _|with_reducible refine Below.drew ?_)⟩
theorem update_ok (D K:Nat) (v:Wr) (pl:Int) (fo:Bool) (x:Ob) (A:Option Addr) (C:Nat) (w:World) (hD:D<w.1.size) (hd:DeskAt w D K v pl fo) (hs:∀ o:Obj,Calls Tryz.prog 154 #[.pointer (some ⟨D,0,none⟩)] (w.alloc o) fun e w'=>e=.returned (.tuple #[.agg #[.string x.kind,.string x.name,.int .i64 x.ver,.int .i64 x.born,.string x.text,.bool x.ending,.slice A x.hn C],.nilIface])∧Below (w.alloc o).1.size (w.alloc o) w') :
  Calls Tryz.prog 98 #[.pointer (some ⟨D,0,none⟩)] w fun e w'=>e=.returned (.tuple #[.agg #[.string x.kind,.string x.name,.int .i64 x.ver,.int .i64 x.born,.string v.text,.bool x.ending,.slice A x.hn C],.nilIface])∧Below w.1.size w w':=by
 have HD:=hid hd
 clear hd
 have HS:=hid hs
 clear hs
 go_enter Tryz.func98,Tryz.ntmps98
 go_wp2_with fail
 refine (HS.out _).mono ?_
 rintro e w1 ⟨rfl,hb1⟩
 have z1:=(two_alloc hb1).2
 have b1:=(two_alloc hb1).1
 have r1:=RowF.new (w:=w) (l:=[.string ⟨#[]⟩,.string ⟨#[]⟩,.int .i64 0,.int .i64 0,.string ⟨#[]⟩,.bool false,.slice none 0 0]) (t:=118) hb1
 have q0:=r1.cell 0 Zb
 have q1:=r1.cell 1 Zb
 have q2:=r1.cell 2 Zb
 have q3:=r1.cell 3 Zb
 have q4:=r1.cell 4 Zb
 have q5:=r1.cell 5 Zb
 have q6:=r1.cell 6 Zb
 have qf:=r1.free
 clear hb1 r1
 simp only [vec,List.getD_cons_zero,List.getD_cons_succ] at q0 q1 q2 q3 q4 q5 q6
 have zz:D<w1.1.size:=Za
 obtain ⟨c0,c1,c2,c3,c4,c5,c6,c7,c8⟩:=HD.out.grow b1 hD
 go_wp2
 refine bodyPost_ret (v:=.tuple #[.agg #[.string x.kind,.string x.name,.int .i64 x.ver,.int .i64 x.born,.string v.text,.bool x.ending,.slice A x.hn C],.nilIface]) (by simp [results,Tryz.results98,go_sem,q0,q1,q2,q3,q4,q5,q6,z1]) rfl ⟨rfl,by repeat (first|with_reducible exact b1|with_reducible refine Below.setCell ?_ Zm _|with_reducible refine Below.alloc ?_ Zm _|with_reducible refine Below.drew ?_)⟩
theorem end_ok (D K:Nat) (v:Wr) (pl:Int) (fo:Bool) (x:Ob) (A:Option Addr) (C:Nat) (w:World) (hD:D<w.1.size) (hd:DeskAt w D K v pl fo) (hs:∀ o:Obj,Calls Tryz.prog 154 #[.pointer (some ⟨D,0,none⟩)] (w.alloc o) fun e w'=>e=.returned (.tuple #[.agg #[.string x.kind,.string x.name,.int .i64 x.ver,.int .i64 x.born,.string x.text,.bool x.ending,.slice A x.hn C],.nilIface])∧Below (w.alloc o).1.size (w.alloc o) w') :
  Calls Tryz.prog 99 #[.pointer (some ⟨D,0,none⟩)] w fun e w'=>e=.returned (.tuple #[.agg #[.string x.kind,.string x.name,.int .i64 x.ver,.int .i64 x.born,.string x.text,.bool true,.slice A x.hn C],.nilIface])∧Below w.1.size w w':=by
 have HD:=hid hd
 clear hd
 have HS:=hid hs
 clear hs
 go_enter Tryz.func99,Tryz.ntmps99
 go_wp2_with fail
 refine (HS.out _).mono ?_
 rintro e w1 ⟨rfl,hb1⟩
 have z1:=(two_alloc hb1).2
 have b1:=(two_alloc hb1).1
 have r1:=RowF.new (w:=w) (l:=[.string ⟨#[]⟩,.string ⟨#[]⟩,.int .i64 0,.int .i64 0,.string ⟨#[]⟩,.bool false,.slice none 0 0]) (t:=118) hb1
 have q0:=r1.cell 0 Zb
 have q1:=r1.cell 1 Zb
 have q2:=r1.cell 2 Zb
 have q3:=r1.cell 3 Zb
 have q4:=r1.cell 4 Zb
 have q5:=r1.cell 5 Zb
 have q6:=r1.cell 6 Zb
 have qf:=r1.free
 clear hb1 r1
 simp only [vec,List.getD_cons_zero,List.getD_cons_succ] at q0 q1 q2 q3 q4 q5 q6
 have zz:D<w1.1.size:=Za
 obtain ⟨c0,c1,c2,c3,c4,c5,c6,c7,c8⟩:=HD.out.grow b1 hD
 go_wp2
 refine bodyPost_ret (v:=.tuple #[.agg #[.string x.kind,.string x.name,.int .i64 x.ver,.int .i64 x.born,.string x.text,.bool true,.slice A x.hn C],.nilIface]) (by simp [results,Tryz.results99,go_sem,q0,q1,q2,q3,q4,q5,q6,z1]) rfl ⟨rfl,by repeat (first|with_reducible exact b1|with_reducible refine Below.setCell ?_ Zm _|with_reducible refine Below.alloc ?_ Zm _|with_reducible refine Below.drew ?_)⟩
end Go.Proofs.YtllmmkchokkaaaaGreatDoor
