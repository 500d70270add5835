import Derived.Test.YtllmmkchokkaaaaGreatDoorPk14
set_option maxRecDepth 100000
set_option maxHeartbeats 1000000
namespace Go.Proofs.YtllmmkchokkaaaaGreatDoor
open Go.RowKit Go.Maps
def lst (h:Nat→Ch) (a b:ByteArray):Nat→Option Nat
 | 0=>none
 | n+1=>if (h n).ob.kind=a∧(h n).ob.name=b then some n else lst h a b n
theorem lst_hit {h:Nat→Ch} {a b:ByteArray} {n:Nat} (h2:(h n).ob.kind=a∧(h n).ob.name=b):lst h a b (n+1)=some n:=by unfold lst;exact if_pos h2
theorem lst_miss {h:Nat→Ch} {a b:ByteArray} {n:Nat} (h2:¬((h n).ob.kind=a∧(h n).ob.name=b)):lst h a b (n+1)=lst h a b n:=by simp only [lst];exact if_neg h2
theorem lst_lt {h:Nat→Ch} {a b:ByteArray} : ∀ {n i:Nat},lst h a b n=some i→i<n∧(h i).ob.kind=a∧(h i).ob.name=b
 | 0,_,e=>by cases e
 | n+1,i,e=>by
  by_cases h2:(h n).ob.kind=a∧(h n).ob.name=b
  ·rw [lst_hit h2] at e;cases e;exact ⟨Nat.lt_succ_self _,h2⟩
  ·rw [lst_miss h2] at e;have:=lst_lt e;exact ⟨Za,this.2⟩
def LTold (h:Nat→Ch) (n:Nat) (D:DataW Unit):Prop:=∀ a b:ByteArray,a.size≤maxLen→b.size≤maxLen →
 (∀ i,lst h a b n=some i→Maps.has D (kl a b)=true∧D.atKey (kl a b) (.lit (.int .i64 0))=.lit (.int .i64 i))∧(lst h a b n=none→Maps.has D (kl a b)=false)
theorem ltold_start (h:Nat→Ch):LTold h 0 (.map []):=fun a b _ _=>⟨fun i h=>Zbh,fun _=>rfl⟩
theorem ltold_put {h:Nat→Ch} {n:Nat} {D:DataW Unit} (ht:LTold h n D) (hD:IsMap D) (hk:(h n).ob.kind.size≤maxLen) (hn:(h n).ob.name.size≤maxLen):LTold h (n+1) (D.put (kl (h n).ob.kind (h n).ob.name) (.lit (.int .i64 n))):=fun a b ha hb=>by
 by_cases hh:(h n).ob.kind=a∧(h n).ob.name=b
 ·obtain ⟨rfl,rfl⟩:=hh
  refine ⟨fun j hj=>?_,fun hj=>?_⟩
  ·rw [lst_hit ⟨rfl,rfl⟩] at hj
   cases hj
   exact ⟨has_put_same hD (kl_key _ _ hk hn) _,atKey_put_same hD (kl_key _ _ hk hn) _ _⟩
  ·rw [lst_hit ⟨rfl,rfl⟩] at hj;cases hj
 ·have hne:kl a b≠kl (h n).ob.kind (h n).ob.name:=kl_ne ha hb hk hn (fun e=>hh ⟨e.1.symm,e.2.symm⟩)
  rw [has_put_other hne,atKey_put_other hne,lst_miss hh]
  exact ht a b ha hb
theorem lastChg_any (n:Nat) (h:Nat→Ch) (ad:Option Addr) (cap:Nat) (w:World) (lo hi:Nat) (hhi:hi≤w.1.size) (hl:(n:Int)≤1099511627776) (hf:∀ i,i<n→ObFit (h i).ob) (hc:ChgsIn w lo hi ad n h) :
  Calls Tryz.prog 142 #[.slice ad n cap] w fun e w'=>∃ D:DataW Unit,e=.returned (.map (some w.1.size))∧w'.ownsMap Tryz.prog 139 (plainElem Tryz.prog 3) w.1.size n D∧LTold h n D∧Below w.1.size w w':=by
 have hmm:=run_makeMap_hint n w
 go_enter Tryz.func142,Tryz.ntmps142
 go_wp2_with fail
 go_loopw [11] (fun i wr=>∃ (k:Nat) (D:DataW Unit),k≤n∧i=.int .i64 k∧Below w.1.size w wr∧wr.ownsMap Tryz.prog 139 (plainElem Tryz.prog 3) w.1.size k D∧LTold h k D) (fun i _=>n-(intOf i).toNat)
 case atStart=>exact ⟨0,.map [],Nat.zero_le _,rfl,below_alloc _ _,World.ownsMap_made _ _ _ _,ltold_start h⟩
 case round=>
  obtain ⟨k,D,hk,rfl,hb,hown,htold⟩:=hrel
  clear hmm
  by_cases hkn:k<n
  ·obtain ⟨b,off,ah,ch,rfl,hlo,hbh,hcx,hsx⟩:=hc k hkn
   obtain ⟨fk,fn,_,_,_⟩:=hf k hkn
   have hsk:(h k).ob.kind.size≤maxLen:=by unfold maxLen;omega
   have hsn:(h k).ob.name.size≤maxLen:=by unfold maxLen;omega
   obtain ⟨d0,d1,d2,d3,d4,d5,d6,d7,d8⟩:=hcx.below hb Za
   clear hc hf hcx hsx
   have hky:=hkey (h k).ob.kind (h k).ob.name hsk hsn
   have HT:=hid (ltold_put htold hown.isMap hsk hsn)
   have HOW:=hid hown
   clear htold hown
   go_wp2_with fail
   refine (keyOf_any (h k).ob ah ch _).mono ?_
   rintro e w1 ⟨rfl,hb1⟩
   have hown1:=hid (ownsMap_below (HOW.out.alloc _) hb1 (by simp;have:=HOW.out.lt;omega))
   have hB1:=(hb.alloc hb.size (.cells #[.int .i64 (h k).ver,.bool (h k).gone,.string (h k).ob.kind,.string (h k).ob.name,.int .i64 (h k).ob.ver,.int .i64 (h k).ob.born,.string (h k).ob.text,.bool (h k).ob.ending,.slice ah (h k).ob.hn ch] 120)).trans (hb1.mono Zan)
   clear hb1 d0 d1 d2 d3 d4 d5 d6 d7 d8 HOW
   go_wp2_with (at_mapUpdate;go_must (refine wpList_mapUpdate_own _ rfl _ _ _ 186 rfl 139 3 Tryz.law139 Tryz.underlying186 _ w.1.size k D rfl hown1.out Zs _ _ _ rfl rfl hky _ [] (plainElem_int Tryz.underlying3 (WalkArith.wf_i64 Za)) ?_;intro w3 hown3 hgrow3))
   go_roundw
   case rel=>exact ⟨k+1,_,Za,by go_num,hB1.grown hgrow3 hB1.size (fun j hj=>by cases hj;exact Nat.le_refl _),hown3,HT.out⟩
   case measure=>simp [intOf];omega
  ·have:k=n:=Za
   subst this
   have HR:=hid (And.intro hown htold)
   clear hc hf hown htold
   go_wp2
   go_ret
   exact ⟨D,rfl,HR.out.1,HR.out.2,hb⟩
def livB (floor:Int) (h:Nat→Ch) (j:Nat):Bool:=match lst h (h j).ob.kind (h j).ob.name j with|none=>begB (h j) floor|some i=>folB (h i) (h j)
theorem livesFit_any (now floor:Int) (n:Nat) (h:Nat→Ch) (a1 a2 a3:Option Addr) (n1 c1 c2 n3 c3:Nat) (w:World) (lo hi:Nat) (hhi:hi≤w.1.size) (hl:(n:Int)≤1099511627776) (hf:∀ i,i<n→ObFit (h i).ob) (hc:ChgsIn w lo hi a2 n h) :
  Calls Tryz.prog 87 #[.agg #[.int .i64 now,.int .i64 floor,.slice a1 n1 c1,.slice a2 n c2,.slice a3 n3 c3]] w fun e w'=>e=.returned (.bool (allTo (livB floor h) n))∧Below w.1.size w w':=by
 have hmm:=run_makeMap_hint n
 go_enter Tryz.func87,Tryz.ntmps87
 go_wp2_with fail
 go_loopw [16] (fun i wr=>∃ (k:Nat) (D:DataW Unit),k≤n∧i=.int .i64 k∧Below (w.1.size+1) (w.alloc (.cells #[.int .i64 now,.int .i64 floor,.slice a1 n1 c1,.slice a2 n c2,.slice a3 n3 c3] 35)) wr∧wr.ownsMap Tryz.prog 139 (plainElem Tryz.prog 3) (w.1.size+1) k D∧LTold h k D∧∀ j,j<k→livB floor h j=true) (fun i _=>n-(intOf i).toNat)
 case atStart=>
  have h9:=World.ownsMap_made (H:=Unit) (w.alloc (.cells #[.int .i64 now,.int .i64 floor,.slice a1 n1 c1,.slice a2 n c2,.slice a3 n3 c3] 35)) Tryz.prog 139 (plainElem Tryz.prog 3)
  rw [World.size_alloc] at h9
  exact ⟨0,.map [],Nat.zero_le _,rfl,by simpa using below_alloc' (w.alloc _) _,h9,ltold_start h,fun j hj=>absurd hj (Nat.not_lt_zero _)⟩
 case round=>
  obtain ⟨k,D,hk,rfl,hb,hown,htold,hall⟩:=hrel
  clear hmm
  have hBw:Below w.1.size w wr:=(below_alloc' _ _).trans (hb.mono Za)
  have hsz:w.1.size+1≤wr.1.size:=by have:=hb.size;simpa using this
  have hlt:=hown.lt
  by_cases hkn:k<n
  ·obtain ⟨b,off,ah,ch,rfl,hlo,hbh,hcx,hsx⟩:=hc k hkn
   obtain ⟨fk,fn,_,_,_⟩:=hf k hkn
   have hsk:(h k).ob.kind.size≤maxLen:=by unfold maxLen;omega
   have hsn:(h k).ob.name.size≤maxLen:=by unfold maxLen;omega
   obtain ⟨d0,d1,d2,d3,d4,d5,d6,d7,d8⟩:=hcx.below hBw Za
   have HC:=hid hc
   have HA:=hid hall
   have hky:=hkey (h k).ob.kind (h k).ob.name hsk hsn
   have HT:=hid (ltold_put htold hown.isMap hsk hsn)
   have HOW:=hid hown
   clear hc hf hcx hsx hall hown
   cases hfd:lst h (h k).ob.kind (h k).ob.name k with
   | none=>
    have hhas:=(htold _ _ hsk hsn).2 hfd
    have HL:=hid (show livB floor h k=begB (h k) floor by unfold livB;rw [hfd])
    clear htold hfd
    go_wp2_with fail
    refine (keyOf_any (h k).ob ah ch _).mono ?_
    rintro e w1 ⟨rfl,hb1⟩
    have hown1:=hid (ownsMap_below (HOW.out.alloc _) hb1 (by simp;have:=HOW.out.lt;omega))
    have hB1:Below (w.1.size+1) (w.alloc (.cells #[.int .i64 now,.int .i64 floor,.slice a1 n1 c1,.slice (some ⟨b,off,none⟩) n c2,.slice a3 n3 c3] 35)) w1:=(hb.alloc hsz (.cells #[.int .i64 (h k).ver,.bool (h k).gone,.string (h k).ob.kind,.string (h k).ob.name,.int .i64 (h k).ob.ver,.int .i64 (h k).ob.born,.string (h k).ob.text,.bool (h k).ob.ending,.slice ah (h k).ob.hn ch] 120)).trans (hb1.mono Zc)
    have hz1:wr.1.size<w1.1.size:=by have:=hb1.size;simp at this;omega
    have p0:=box_cell hb1 0
    have p1:=box_cell hb1 1
    have p2:=box_cell hb1 2
    have p3:=box_cell hb1 3
    have p4:=box_cell hb1 4
    have p5:=box_cell hb1 5
    have p6:=box_cell hb1 6
    have p7:=box_cell hb1 7
    have p8:=box_cell hb1 8
    simp only [List.getElem?_toArray,List.getElem?_cons_succ,List.getElem?_cons_zero] at p0 p1 p2 p3 p4 p5 p6 p7 p8
    have o1:=box_cell Zbf 1
    have o3:=box_cell Zbf 3
    simp only [List.getElem?_toArray,List.getElem?_cons_succ,List.getElem?_cons_zero] at o1 o3
    clear hb1 d0 d1 d2 d3 d4 d5 d6 d7 d8 HOW
    go_wp2_with (at_lookup;go_must (refine wpList_lookup_own_ok_int _ rfl _ _ 186 rfl 139 3 .i64 Tryz.law139 Tryz.underlying186 Tryz.underlying3 (zero3 _) (w.1.size+1) k D rfl (hown1.out.alloc _) _ _ rfl hky ?_;intro c hat hwc))
    have hne:Nonempty (GW (w1.alloc (.cells #[.string (h k).ob.kind,.string (h k).ob.name] 139))):=⟨⟨_,Below.refl _ _⟩⟩
    refine wp_region_grow Zf Zf ?_
    repeat (go_big_quiet_step (fail))
    refine wpQuiet_nil ?_
    rintro w2 ⟨u,hu⟩
    have hw2:Below (w1.1.size+1) (w1.alloc (.cells #[.string (h k).ob.kind,.string (h k).ob.name] 139)) w2:=by have h9:=hu▸u.prop;simpa using h9
    clear hu u hne
    have hz2:w1.1.size+1≤w2.1.size:=by have:=hw2.size;simpa using this
    have hB2:Below (w.1.size+1) (w.alloc (.cells #[.int .i64 now,.int .i64 floor,.slice a1 n1 c1,.slice (some ⟨b,off,none⟩) n c2,.slice a3 n3 c3] 35)) w2:=(hB1.alloc Za _).trans (hw2.mono Za)
    have hown2:=hid (ownsMap_below (hown1.out.alloc _) hw2 Za)
    have r0:=(hw2.cell (p:=⟨wr.1.size,0,none⟩) Zl).trans ((World.cell?_alloc_past _ _ _ hz1).trans p0)
    have r1:=(hw2.cell (p:=⟨wr.1.size,1,none⟩) Zl).trans ((World.cell?_alloc_past _ _ _ hz1).trans p1)
    have r2:=(hw2.cell (p:=⟨wr.1.size,2,none⟩) Zl).trans ((World.cell?_alloc_past _ _ _ hz1).trans p2)
    have r3:=(hw2.cell (p:=⟨wr.1.size,3,none⟩) Zl).trans ((World.cell?_alloc_past _ _ _ hz1).trans p3)
    have r4:=(hw2.cell (p:=⟨wr.1.size,4,none⟩) Zl).trans ((World.cell?_alloc_past _ _ _ hz1).trans p4)
    have r5:=(hw2.cell (p:=⟨wr.1.size,5,none⟩) Zl).trans ((World.cell?_alloc_past _ _ _ hz1).trans p5)
    have r6:=(hw2.cell (p:=⟨wr.1.size,6,none⟩) Zl).trans ((World.cell?_alloc_past _ _ _ hz1).trans p6)
    have r7:=(hw2.cell (p:=⟨wr.1.size,7,none⟩) Zl).trans ((World.cell?_alloc_past _ _ _ hz1).trans p7)
    have r8:=(hw2.cell (p:=⟨wr.1.size,8,none⟩) Zl).trans ((World.cell?_alloc_past _ _ _ hz1).trans p8)
    have q0:w2.cell? ⟨w1.1.size,0,none⟩=some (.string (h k).ob.kind):=(hw2.cell (p:=⟨w1.1.size,0,none⟩) (by show w1.1.size<_;omega)).trans (World.cell?_alloc_new _ _ _ _)
    have q1:w2.cell? ⟨w1.1.size,1,none⟩=some (.string (h k).ob.name):=(hw2.cell (p:=⟨w1.1.size,1,none⟩) (by show w1.1.size<_;omega)).trans (World.cell?_alloc_new _ _ _ _)
    have o12:w2.cell? ⟨w.1.size,1,none⟩=some (.int .i64 floor):=(hw2.cell (p:=⟨w.1.size,1,none⟩) Zh).trans ((World.cell?_alloc_past _ _ _ Zh).trans o1)
    clear p0 p1 p2 p3 p4 p5 p6 p7 p8 o1 o3 hw2 hat hwc hown1
    cases hbg:begB (h k) floor with
    | false=>
     have HE:=hid (show allTo (livB floor h) n=false from allTo_no hkn (HL.out.trans hbg))
     go_wp2_with (go_at_call 141;refine (begin_any (h k) floor ah ch _).mono ?_;rintro e w3 ⟨rfl,hb3⟩;rw [hbg])
     go_ret
     exact ⟨ret_bool HE.out.symm,(below_alloc' _ _).trans ((hB2.mono Za).trans (hb3.mono Za))⟩
    | true=>
     have HN:=hid (HL.out.trans hbg)
     go_wp2_with (first|(go_at_call 141;refine (begin_any (h k) floor ah ch _).mono ?_;rintro e w3 ⟨rfl,hb3⟩;rw [hbg];have s0:=(hb3.cell (p:=⟨w1.1.size,0,none⟩) (by show w1.1.size<_;omega)).trans q0;have s1:=(hb3.cell (p:=⟨w1.1.size,1,none⟩) (by show w1.1.size<_;omega)).trans q1;have hown3:=hid (ownsMap_below hown2.out hb3 Za);have hB3:=hB2.trans (hb3.mono Za);have hz3:=hb3.size;clear hb3)|(at_mapUpdate;go_must (refine wpList_mapUpdate_own _ rfl _ _ _ 186 rfl 139 3 Tryz.law139 Tryz.underlying186 _ (w.1.size+1) k D rfl hown3.out Zs _ _ _ rfl rfl hky _ [] (plainElem_int Tryz.underlying3 (WalkArith.wf_i64 Za)) ?_;intro w4 hown4 hgrow4)))
     go_roundw
     case rel=>exact ⟨k+1,_,Za,by go_num,hB3.grown hgrow4 Za (fun j hj=>by cases hj;omega),hown4,HT.out,fun j hj=>(by
      rcases Nat.lt_or_ge j k with h3|h3
      ·exact HA.out j h3
      ·have:j=k:=Za
       subst this;exact HN.out)⟩
     case measure=>simp [intOf];omega
   | some i=>
    obtain ⟨hhas,hatk⟩:=(htold _ _ hsk hsn).1 i hfd
    have HL:=hid (show livB floor h k=folB (h i) (h k) by unfold livB;rw [hfd])
    have hik:=(lst_lt hfd).1
    have HAT:=hid hatk
    clear htold hfd hatk
    obtain ⟨b',off',ah',ch',e,hlo',hbh',hcx',_⟩:=HC.out i Za
    cases e
    have hin:(i:Int)<n:=Za
    go_wp2_with fail
    refine (keyOf_any (h k).ob ah ch _).mono ?_
    rintro e w1 ⟨rfl,hb1⟩
    have hown1:=hid (ownsMap_below (HOW.out.alloc _) hb1 (by simp;have:=HOW.out.lt;omega))
    have hB1:Below (w.1.size+1) (w.alloc (.cells #[.int .i64 now,.int .i64 floor,.slice a1 n1 c1,.slice (some ⟨b,off,none⟩) n c2,.slice a3 n3 c3] 35)) w1:=(hb.alloc hsz (.cells #[.int .i64 (h k).ver,.bool (h k).gone,.string (h k).ob.kind,.string (h k).ob.name,.int .i64 (h k).ob.ver,.int .i64 (h k).ob.born,.string (h k).ob.text,.bool (h k).ob.ending,.slice ah (h k).ob.hn ch] 120)).trans (hb1.mono Zc)
    have hz1:wr.1.size<w1.1.size:=by have:=hb1.size;simp at this;omega
    have p0:=box_cell hb1 0
    have p1:=box_cell hb1 1
    have p2:=box_cell hb1 2
    have p3:=box_cell hb1 3
    have p4:=box_cell hb1 4
    have p5:=box_cell hb1 5
    have p6:=box_cell hb1 6
    have p7:=box_cell hb1 7
    have p8:=box_cell hb1 8
    simp only [List.getElem?_toArray,List.getElem?_cons_succ,List.getElem?_cons_zero] at p0 p1 p2 p3 p4 p5 p6 p7 p8
    have o1:=box_cell Zbf 1
    have o3:=box_cell Zbf 3
    simp only [List.getElem?_toArray,List.getElem?_cons_succ,List.getElem?_cons_zero] at o1 o3
    clear hb1 d0 d1 d2 d3 d4 d5 d6 d7 d8 HOW
    go_wp2_with (at_lookup;go_must (refine wpList_lookup_own_ok_int _ rfl _ _ 186 rfl 139 3 .i64 Tryz.law139 Tryz.underlying186 Tryz.underlying3 (zero3 _) (w.1.size+1) k D rfl (hown1.out.alloc _) _ _ rfl hky ?_;intro c hat hwc;have hci:c=(i:Int):=lit_int (hat.symm.trans HAT.out);subst hci;clear hat hwc))
    have hBw1:Below w.1.size w (w1.alloc (.cells #[.string (h k).ob.kind,.string (h k).ob.name] 139)):=(below_alloc' _ _).trans ((hB1.alloc Za _).mono Za)
    obtain ⟨f0,f1,f2,f3,f4,f5,f6,f7,f8⟩:=hcx'.below hBw1 Za
    have y0:=subcell f0 Zc
    have y1:=subcell f1 Zc
    have y2:=subcell f2 Zc
    have y3:=subcell f3 Zc
    have y4:=subcell f4 Zc
    have y5:=subcell f5 Zc
    have y6:=subcell f6 Zc
    have y7:=subcell f7 Zc
    have y8:=subcell f8 Zc
    have x0:=subcell ((World.cell?_alloc_past (w:=w1) (.cells #[.string (h k).ob.kind,.string (h k).ob.name] 139) _ _ hz1).trans p0) Zc
    have x1:=subcell ((World.cell?_alloc_past (w:=w1) (.cells #[.string (h k).ob.kind,.string (h k).ob.name] 139) _ _ hz1).trans p1) Zc
    have x2:=subcell ((World.cell?_alloc_past (w:=w1) (.cells #[.string (h k).ob.kind,.string (h k).ob.name] 139) _ _ hz1).trans p2) Zc
    have x3:=subcell ((World.cell?_alloc_past (w:=w1) (.cells #[.string (h k).ob.kind,.string (h k).ob.name] 139) _ _ hz1).trans p3) Zc
    have x4:=subcell ((World.cell?_alloc_past (w:=w1) (.cells #[.string (h k).ob.kind,.string (h k).ob.name] 139) _ _ hz1).trans p4) Zc
    have x5:=subcell ((World.cell?_alloc_past (w:=w1) (.cells #[.string (h k).ob.kind,.string (h k).ob.name] 139) _ _ hz1).trans p5) Zc
    have x6:=subcell ((World.cell?_alloc_past (w:=w1) (.cells #[.string (h k).ob.kind,.string (h k).ob.name] 139) _ _ hz1).trans p6) Zc
    have x7:=subcell ((World.cell?_alloc_past (w:=w1) (.cells #[.string (h k).ob.kind,.string (h k).ob.name] 139) _ _ hz1).trans p7) Zc
    have x8:=subcell ((World.cell?_alloc_past (w:=w1) (.cells #[.string (h k).ob.kind,.string (h k).ob.name] 139) _ _ hz1).trans p8) Zc
    have z3:=subcell ((World.cell?_alloc_past (w:=w1) (.cells #[.string (h k).ob.kind,.string (h k).ob.name] 139) _ _ Zh).trans o3) Zc
    have hne:Nonempty (GW (w1.alloc (.cells #[.string (h k).ob.kind,.string (h k).ob.name] 139))):=⟨⟨_,Below.refl _ _⟩⟩
    clear f0 f1 f2 f3 f4 f5 f6 f7 f8 hcx'
    cases hfo:folB (h i) (h k) with
    | false=>
     have HE:=hid (show allTo (livB floor h) n=false from allTo_no hkn (HL.out.trans hfo))
     refine wp_region_grow Zf Zf ?_
     repeat (go_big_quiet_step ((go_at_call 140;go_must (exact grow_of (follow_any (h i) (h k) ah' ah ch' ch _)))))
     refine wpQuiet_nil ?_
     rintro w2 ⟨u,hu⟩
     have hw2:Below (w1.1.size+1) (w1.alloc (.cells #[.string (h k).ob.kind,.string (h k).ob.name] 139)) w2:=by have h9:=hu▸u.prop;simpa using h9
     clear hu u hne
     have hz2:w1.1.size+1≤w2.1.size:=by have:=hw2.size;simpa using this
     have hB2:Below (w.1.size+1) (w.alloc (.cells #[.int .i64 now,.int .i64 floor,.slice a1 n1 c1,.slice (some ⟨b,off,none⟩) n c2,.slice a3 n3 c3] 35)) w2:=(hB1.alloc Za _).trans (hw2.mono Za)
     have hown2:=hid (ownsMap_below (hown1.out.alloc _) hw2 Za)
     clear p0 p1 p2 p3 p4 p5 p6 p7 p8 o1 o3 hw2 hown1
     go_wp2
     go_ret
     exact ⟨ret_bool HE.out.symm,(below_alloc' _ _).trans (hB2.mono Za)⟩
    | true=>
     have HN:=hid (HL.out.trans hfo)
     refine wp_region_grow Zf Zf ?_
     repeat (go_big_quiet_step ((go_at_call 140;go_must (exact grow_of (follow_any (h i) (h k) ah' ah ch' ch _)))))
     refine wpQuiet_nil ?_
     rintro w2 ⟨u,hu⟩
     have hw2:Below (w1.1.size+1) (w1.alloc (.cells #[.string (h k).ob.kind,.string (h k).ob.name] 139)) w2:=by have h9:=hu▸u.prop;simpa using h9
     clear hu u hne
     have hz2:w1.1.size+1≤w2.1.size:=by have:=hw2.size;simpa using this
     have hB2:Below (w.1.size+1) (w.alloc (.cells #[.int .i64 now,.int .i64 floor,.slice a1 n1 c1,.slice (some ⟨b,off,none⟩) n c2,.slice a3 n3 c3] 35)) w2:=(hB1.alloc Za _).trans (hw2.mono Za)
     have hown2:=hid (ownsMap_below (hown1.out.alloc _) hw2 Za)
     have q0:w2.cell? ⟨w1.1.size,0,none⟩=some (.string (h k).ob.kind):=(hw2.cell (p:=⟨w1.1.size,0,none⟩) (by show w1.1.size<_;omega)).trans (World.cell?_alloc_new _ _ _ _)
     have q1:w2.cell? ⟨w1.1.size,1,none⟩=some (.string (h k).ob.name):=(hw2.cell (p:=⟨w1.1.size,1,none⟩) (by show w1.1.size<_;omega)).trans (World.cell?_alloc_new _ _ _ _)
     clear p0 p1 p2 p3 p4 p5 p6 p7 p8 o1 o3 hw2 hown1
     go_wp2_with (at_mapUpdate;go_must (refine wpList_mapUpdate_own _ rfl _ _ _ 186 rfl 139 3 Tryz.law139 Tryz.underlying186 _ (w.1.size+1) k D rfl hown2.out Zs _ _ _ rfl rfl hky _ [] (plainElem_int Tryz.underlying3 (WalkArith.wf_i64 Za)) ?_;intro w4 hown4 hgrow4))
     go_roundw
     case rel=>exact ⟨k+1,_,Za,by go_num,hB2.grown hgrow4 Za (fun j hj=>by cases hj;omega),hown4,HT.out,fun j hj=>(by
      rcases Nat.lt_or_ge j k with h3|h3
      ·exact HA.out j h3
      ·have:j=k:=Za
       subst this;exact HN.out)⟩
     case measure=>simp [intOf];omega
  ·have HE:=hid (show allTo (livB floor h) n=true from allTo_iff.2 (fun i hi=>hall i Za))
   clear hc hf hown htold hall
   go_wp2
   go_ret
   exact ⟨ret_bool HE.out.symm,hBw⟩
end Go.Proofs.YtllmmkchokkaaaaGreatDoor
