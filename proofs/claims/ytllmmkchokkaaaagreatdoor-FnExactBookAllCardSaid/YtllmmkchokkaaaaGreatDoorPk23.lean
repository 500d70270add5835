import Derived.Test.YtllmmkchokkaaaaGreatDoorPk21
set_option maxRecDepth 100000
set_option maxHeartbeats 4000000
namespace Go.Proofs.YtllmmkchokkaaaaGreatDoor
open Go.RowKit Go.Maps
theorem growO_any (n:Nat) (w:World) (hn:(n:Int)≤1099511627776) :
  Calls Tryz.prog 203 #[.slice none 0 0,.int .i64 n] w fun e w'=>∃ v,e=.returned v∧w'.ownsRow w.1.size 118 7 v 0 []∧Below w.1.size w w':=by
 rcases Nat.eq_zero_or_pos n with h00|h0
 ·subst h00
  go_enter Tryz.func203,Tryz.ntmps203
  go_wp2
  go_ret
  exact ⟨_,rfl,⟨rfl,Or.inl ⟨rfl,rfl⟩⟩,Below.refl _ _⟩
 obtain ⟨i0,hi0,hz0,hz1,hz2⟩:=info_parts Tryz.info118
 have hrz:∀ ty,∃ G cur,n≤G∧G≤maxLen∧cur.size=G*7∧(Builtin.append_ #[31,3] ty #[.slice none 0 0,.int .i64 (n:Int)]).run Tryz.prog w=.ok (.slice (some ⟨w.1.size,0,none⟩) n G) (w.drew.alloc (.cells cur 118)):=fun ty=>by
  have h:=Lib.run_append_grow_zeros w 31 3 ty 118 i0 _ .i64 .i64 Tryz.underlying31 Tryz.underlying3 hi0 hz0 none 0 0 [] (run_firstCells_none w.drew i0.size 0 0 0) n h0 Za Za Za Zbd (growslice_fits Za Zbd)
  rw [Nat.zero_add] at h
  refine ⟨_,_,grownCap_ge w _ _ _,grownCap_le_maxLen w n 0 118 Zs,?_,h⟩
  have hG:=grownCap_ge w n 0 118
  simp only [Array.size_append,Builtin.zeroCells,Array.size_map,Array.size_range]
  simp [Value.cells]
  omega
 obtain ⟨G,cur,hG1,hG2,hcur,hap⟩:=hrz 31
 have h63:(G:Int)≤9223372036854775807:=by unfold maxLen at hG2;omega
 have HC:=hid hcur
 have HG:=hid hG2
 have HAP:=hid hap
 clear hap
 clear hcur hG2 hrz hi0 hz0 hz1 hz2
 go_enter Tryz.func203,Tryz.ntmps203
 go_wp2_with (at_builtin;go_must (refine wpList_builtin_append rfl _ _ 31 3 rfl _ _ _ rfl rfl HAP.out ?_))
 go_ret
 exact ⟨_,rfl,World.ownsRow_made (base:=w.1.size) (e:=118) (size:=7) w.drew cur G Zbt HG.out HC.out,((Below.refl _ _).drew).alloc Zbt _⟩
theorem apP233 {P:Prop} (h:P:=by
  have c0:=HC.out k hkq
  have hm:=HM.out (k+1) hkq
  have hms:sumTo M (k+1)=sumTo M k+M k:=rfl
  rw [hms] at hm
  have hkz:(k:Int)<q:=Za
  clear hms
  go_wp2
  go_roundw
  case rel=>exact ⟨k+1,hkq,by go_num,congrArg (Value.int .i64) (by show (_:Int)=((sumTo M k+M k:Nat):Int);omega),trivial⟩
  case measure=>simp [intOf];omega):P:=h
theorem concatO_any (q:Nat) (A:Nat→Option Addr) (M C:Nat→Nat) (news:Nat→List Value) (b:Nat) (w:World) (hb:b<w.1.size) (hq:(q:Int)≤1000) (hcell:∀ j,j<q→w.cell? ⟨b,j,none⟩=some (.slice (A j) (M j) (C j))) (hsrc:SrcN w 7 q A M C news) (hs1:(sumTo M q:Int)≤1099511627776) :
  Calls Tryz.prog 187 #[.slice (some ⟨b,0,none⟩) q q] w fun e w'=>∃ v,e=.returned v∧w'.ownsRow w.1.size 118 7 v (sumTo M q) (flatN news q)∧Below w.1.size w w':=by
 obtain ⟨i0,hi0,hz0,hz1,hz2⟩:=info_parts Tryz.info118
 have HC:=hid hcell
 have HS:=hid hsrc
 have hmo:∀ k,k≤q→sumTo M k≤sumTo M q:=fun k hk=>sumTo_mono M hk
 have HM:=hid hmo
 clear hcell hsrc hmo
 go_enter Tryz.func187,Tryz.ntmps187
 go_wp2
 go_loopw [3,5,11] (fun s _ i wr=>∃ k:Nat,k≤q∧i=.int .i64 k∧s=.int .i64 (sumTo M k:Nat)∧wr=w) (fun _ _ i _=>q-(intOf i).toNat)
 case atStart=>exact ⟨0,Nat.zero_le _,rfl,rfl,rfl⟩
 case round=>
  obtain ⟨k,hk,rfl,rfl,rfl⟩:=hrel
  by_cases hkq:k<q
  ·exact apP233
  ·obtain rfl:k=q:=Za
   have hs2:¬(sumTo M k:Int)<0:=Za
   go_wp2_with (go_at_call 203;go_must (refine (growO_any (sumTo M k) _ hs1).mono ?_;rintro e w1 ⟨v1,rfl,hown1,hb1⟩))
   have HO1:=hid hown1
   clear hown1
   obtain ⟨W0,hW0⟩:∃ W0,W0=wr:=⟨_,rfl⟩
   subst hW0
   go_loopw [6,8,27] (fun v _ i wr=>∃ j:Nat,j≤k∧i=.int .i64 j∧Hid (wr.ownsRow W0.1.size 118 7 v (sumTo M j) (flatN news j))∧Below W0.1.size W0 wr) (fun _ _ i _=>k-(intOf i).toNat)
   case atStart=>exact ⟨0,Nat.zero_le _,rfl,HO1.out,hb1⟩
   case round=>
    clear HO1 hb1 hkq
    obtain ⟨j,hj,rfl,HOW,hbr⟩:=hrel
    by_cases hjk:j<k
    ·have c0:=(hbr.cell (p:=⟨b,j,none⟩) hb).trans (HC.out j hjk)
     have hm:=HM.out (j+1) hjk
     have hms:sumTo M (j+1)=sumTo M j+M j:=rfl
     rw [hms] at hm
     have HMS:=hid hms
     have hjz:(j:Int)<k:=Za
     have hbw:b<wr.1.size:=Nat.lt_of_lt_of_le hb hbr.size
     clear hms
     rcases HS.out.src j hjk with ⟨hA,hM0,hC0⟩|⟨sb,off,hA,hsb,hcs⟩
     ·rw [hA,hM0,hC0] at c0
      have hnil:news j=[]:=List.length_eq_zero_iff.1 (by rw [HS.out.len j hjk,hM0,Nat.zero_mul])
      have HN:=hid hnil
      have HM0:=hid hM0
      clear hA hM0 hC0 hnil
      go_wp2_with (at_builtin;go_must (refine wpList_append_own_none rfl _ _ 31 rfl W0.1.size 118 i0 7 Tryz.underlying31 hi0 _ (sumTo M j) (flatN news j) rfl HOW.out rfl ?_))
      go_roundw
      case rel=>exact ⟨j+1,hjk,by go_num,(show Hid _ from by
       show wr.ownsRow W0.1.size 118 7 _ (sumTo M j+M j) (flatN news j ++ news j)
       rw [HN.out,HM0.out,List.append_nil]
       exact HOW.out),hbr⟩
      case measure=>simp [intOf];omega
     ·rw [hA] at c0
      have HNW:=hid (show ∀ t u,(news j)[t]? = some u→wr.cell? ((⟨sb,off,none⟩:Addr).add t)=some u from fun t u h=>by
       rw [Addr.add_lit]
       exact (hbr.cell (p:=⟨sb,off+t,none⟩) hsb).trans (hcs t u h))
      clear hcs hA
      go_wp2_with (at_builtin;go_must (refine wpList_append_own_at _ rfl _ _ 31 rfl W0.1.size 118 i0 _ 7 96 Tryz.underlying31 hi0 hz0 hz1 hz2 rfl Zb _ (sumTo M j) (flatN news j) rfl HOW.out ⟨sb,off,none⟩ (M j) (C j) (news j) rfl (HS.out.len j hjk) HNW.out (HS.out.one j hjk) Zs Za hbr.size ?_;intro v' w2 hown2 hgrow2 hnil2 hat2;clear hnil2 hat2))
      have B2:Below W0.1.size W0 w2:=hbr.trans ((FrP.of_grown hgrow2).below (fun q hq e=>by have:=(HOW.out.lt q e).1;omega) hbr.size)
      have HO2:Hid (w2.ownsRow W0.1.size 118 7 v' (sumTo M (j+1)) (flatN news (j+1))):=hown2
      clear hown2 hgrow2
      go_wp2
      go_roundw
      case rel=>exact ⟨j+1,hjk,by go_num,HO2,B2⟩
      case measure=>simp [intOf];omega
    ·obtain rfl:j=k:=Za
     go_wp2
     go_ret
     exact ⟨_,rfl,HOW.out,hbr⟩
def insORegG (ad:Option Addr) (b off n cap k:Nat) (cs:List Value) (x:Ob) (A:Option Addr) (C:Nat) (W:World) (i:Nat) (v:Value) (X:World):Prop:=
 match i with
 | 0=>v=.slice ad n cap
 | 1=>v=.int .i64 k
 | 2=>v=.slice ad k cap
 | 3=>v=.agg #[.string x.kind,.string x.name,.int .i64 x.ver,.int .i64 x.born,.string x.text,.bool x.ending,.slice A x.hn C]
 | 4=>∃ b1,v=.slice (some ⟨b1,0,none⟩) 1 1∧b1<X.1.size∧Holds X b1 #[.string x.kind,.string x.name,.int .i64 x.ver,.int .i64 x.born,.string x.text,.bool x.ending,.slice A x.hn C]
 | 5=>v=.slice ad n cap
 | 6=>v=.int .i64 k
 | 7=>v=.slice (tlC ad b off cap k 7) (n-k) (cap-k)
 | 8=>∃ b3 b1,v=.slice (some ⟨b3,0,none⟩) 3 3∧b3<X.1.size∧b1<X.1.size∧Holds X b1 #[.string x.kind,.string x.name,.int .i64 x.ver,.int .i64 x.born,.string x.text,.bool x.ending,.slice A x.hn C]∧Holds X b3 #[.slice ad k cap,.slice (some ⟨b1,0,none⟩) 1 1,.slice (tlC ad b off cap k 7) (n-k) (cap-k)]
 | 9=>X.ownsRow W.1.size 118 7 v (n+1) (cs.take (k*7) ++ [.string x.kind,.string x.name,.int .i64 x.ver,.int .i64 x.born,.string x.text,.bool x.ending,.slice A x.hn C] ++ cs.drop (k*7))
 | _=>True
theorem apP230 {P:Prop} (h:P:=by
  intro i v X Y hi h hb
  rcases (show i=0∨i=1∨i=2∨i=3∨i=4∨i=5∨i=6∨i=7∨i=8∨i=9 by omega) with rfl|rfl|rfl|rfl|rfl|rfl|rfl|rfl|rfl|rfl
  ·exact h
  ·exact h
  ·exact h
  ·exact h
  ·obtain ⟨b1,e1,e2,e3⟩:=h
   exact ⟨b1,e1,Nat.lt_of_lt_of_le e2 hb.size,e3.below hb e2⟩
  ·exact h
  ·exact h
  ·exact h
  ·obtain ⟨b3,b1,e1,e2,e3,e4,e5⟩:=h
   exact ⟨b3,b1,e1,Nat.lt_of_lt_of_le e2 hb.size,Nat.lt_of_lt_of_le e3 hb.size,e4.below hb e3,e5.below hb e2⟩
  ·exact own_grow h hb):P:=h
theorem apP231 {P:Prop} (h:P:=by
  have e5:t 5=.slice ad n cap:=hg 5 (Wt rfl)
  have e6:t 6=.int .i64 k:=hg 6 (Wt rfl)
  have h:=hK _ X rfl Zbv
  refine wpOp_of rfl rfl ?_
  clear hK hg
  unfold tlC at h
  rcases hst.src with ⟨rfl,rfl,rfl⟩|⟨rfl,hc,_,_⟩
  ·obtain rfl:k=0:=Za
   go_simp
   simpa [updT,e5,e6] using h
  ·by_cases hck:cap=k
   ·subst hck
    rw [if_pos rfl,show n-cap=0 by omega,Nat.sub_self] at h
    go_simp
    simpa [updT,e5,e6] using h
   ·rw [if_neg hck] at h
    go_simp
    simpa [updT,e5,e6] using h):P:=h
theorem apP232 {P:Prop} (h:P:=by
  have e0:t 0=.slice ad n cap:=hg 0 (Wt rfl)
  have e1:t 1=.int .i64 k:=hg 1 (Wt rfl)
  have h:=hK _ X rfl Zbv
  refine wpOp_of rfl rfl ?_
  clear hK hg
  rcases hst.src with ⟨rfl,rfl,rfl⟩|⟨rfl,hc,_,_⟩
  ·obtain rfl:k=0:=Za
   go_simp
   simpa [updT,e0,e1] using h
  ·have hkc:k≤cap:=Nat.le_trans hk hc
   go_simp
   simpa [updT,e0,e1] using h):P:=h
theorem apP234 {P:Prop} (h:P:=by
  rcases (show j=0∨j=1∨j=2 by omega) with rfl|rfl|rfl
  ·exact (HST.out.take hk).2.2
  ·refine Or.inr ⟨b1,0,rfl,z1,fun t u hu=>?_⟩
   rw [Nat.zero_add,H1.out t,←hu]
   simp
  ·exact (HST.out.drop hk).2.2):P:=h
theorem apP236 {P:Prop} (h:P:=by
  have hbX:bx<X.1.size:=Nat.lt_of_lt_of_le hb0 hb.size
  have h:=hK _ X rfl Zbv
  refine wpOp_of rfl rfl ?_
  clear hK hg HB
  go_simp
  exact h):P:=h
theorem insOReg (p3 p4 p6:Value) (t0:Nat→Value) (ad:Option Addr) (b off n cap k:Nat) (cs:List Value) (x:Ob) (A:Option Addr) (C:Nat) (W:World) (hst:RowC W 7 ad b off n cap cs) (hk:k≤n) (hl:(n:Int)≤1099511627775) (bx:Nat) (hbx:Holds W bx #[.string x.kind,.string x.name,.int .i64 x.ver,.int .i64 x.born,.string x.text,.bool x.ending,.slice A x.hn C]) (hb0:bx<W.1.size) (Q:Exit→Act→World→Prop) (hQ:∀ (t:Nat→Value) (vv:Value) X,Below W.1.size W X→X.ownsRow W.1.size 118 7 vv (n+1) (cs.take (k*7) ++ [.string x.kind,.string x.name,.int .i64 x.ver,.int .i64 x.born,.string x.text,.bool x.ending,.slice A x.hn C] ++ cs.drop (k*7))→Q .normal ⟨#[.slice ad n cap,.int .i64 k,.agg #[.string x.kind,.string x.name,.int .i64 x.ver,.int .i64 x.born,.string x.text,.bool x.ending,.slice A x.hn C],p3,p4,.pointer (some ⟨bx,0,none⟩),vv,t 0,t 1,t 2,t 3,t 4,t 5,t 6,t 7,t 8,t 9],[]⟩ X) :
  Code.wp Tryz.prog (Code.region 1 #[⟨some 7,.move (.tmp 0),31, "l2_book_write.go:260",#[],none⟩,⟨some 8,.move (.tmp 1),3, "l2_book_write.go:260",#[],none⟩,⟨some 9,.slice 31 (.tmp 7) none (some (.tmp 8)) none,31, "l2_book_write.go:260",#[⟨0,.data⟩,⟨1,.data⟩],none⟩,⟨some 10,.load 118 (.tmp 5),118, "l2_book_write.go:260",#[],none⟩,⟨some 11,.buildSlice 31 1 #[(0,.tmp 10)],31, "l2_book_write.go:260",#[⟨3,.data⟩],none⟩,⟨some 12,.move (.tmp 0),31, "l2_book_write.go:260",#[],none⟩,⟨some 13,.move (.tmp 1),3, "l2_book_write.go:260",#[],none⟩,⟨some 14,.slice 31 (.tmp 12) (some (.tmp 13)) none none,31, "l2_book_write.go:260",#[⟨5,.data⟩,⟨6,.data⟩],none⟩,⟨some 15,.buildSlice 254 3 #[(0,.tmp 9),(1,.tmp 11),(2,.tmp 14)],254, "l2_book_write.go:260",#[⟨2,.data⟩,⟨4,.data⟩,⟨7,.data⟩],none⟩,⟨some 16,.call ⟨.value (.func 187),#[.tmp 15],#[254]⟩,31, "l2_book_write.go:260",#[⟨8,.data⟩],none⟩,⟨some 6,.assign (.tmp 16),31, "l2_book_write.go:260",#[⟨9,.data⟩,⟨9,.chain⟩,⟨0,.phase⟩,⟨1,.phase⟩,⟨2,.phase⟩,⟨3,.phase⟩,⟨4,.phase⟩,⟨5,.phase⟩,⟨6,.phase⟩,⟨7,.phase⟩,⟨8,.phase⟩,⟨9,.phase⟩],none⟩] true) Q ⟨#[.slice ad n cap,.int .i64 k,.agg #[.string x.kind,.string x.name,.int .i64 x.ver,.int .i64 x.born,.string x.text,.bool x.ending,.slice A x.hn C],p3,p4,.pointer (some ⟨bx,0,none⟩),p6,t0 0,t0 1,t0 2,t0 3,t0 4,t0 5,t0 6,t0 7,t0 8,t0 9],[]⟩ W:=by
 refine regionH Zf 10 (fun t:Nat→Value=>#[.slice ad n cap,.int .i64 k,.agg #[.string x.kind,.string x.name,.int .i64 x.ver,.int .i64 x.born,.string x.text,.bool x.ending,.slice A x.hn C],p3,p4,.pointer (some ⟨bx,0,none⟩),p6,t 0,t 1,t 2,t 3,t 4,t 5,t 6,t 7,t 8,t 9]) t0 (insORegG ad b off n cap k cs x A C W) (fun a X=>∃ (t:Nat→Value) (vv:Value),a=⟨#[.slice ad n cap,.int .i64 k,.agg #[.string x.kind,.string x.name,.int .i64 x.ver,.int .i64 x.born,.string x.text,.bool x.ending,.slice A x.hn C],p3,p4,.pointer (some ⟨bx,0,none⟩),vv,t 0,t 1,t 2,t 3,t 4,t 5,t 6,t 7,t 8,t 9],[]⟩∧Below W.1.size W X∧X.ownsRow W.1.size 118 7 vv (n+1) (cs.take (k*7) ++ [.string x.kind,.string x.name,.int .i64 x.ver,.int .i64 x.born,.string x.text,.bool x.ending,.slice A x.hn C] ++ cs.drop (k*7))) Zf Zf Zf ?_ rfl ?_ ?_ ?_
 ·exact apP230
 ·intro i hi t X K hb hg hK
  rcases (show i=0∨i=1∨i=2∨i=3∨i=4∨i=5∨i=6∨i=7∨i=8∨i=9 by omega) with rfl|rfl|rfl|rfl|rfl|rfl|rfl|rfl|rfl|rfl
  ·exact sg
  ·exact sg
  ·exact apP232
  ·have HB:=hbx.below hb hb0
   have q0:=HB 0
   have q1:=HB 1
   have q2:=HB 2
   have q3:=HB 3
   have q4:=HB 4
   have q5:=HB 5
   have q6:=HB 6
   simp only [List.getElem?_toArray,List.getElem?_cons_succ,List.getElem?_cons_zero] at q0 q1 q2 q3 q4 q5 q6
   exact apP236
  ·have e3:t 3=.agg #[.string x.kind,.string x.name,.int .i64 x.ver,.int .i64 x.born,.string x.text,.bool x.ending,.slice A x.hn C]:=hg 3 (Wt rfl)
   have h:=hK (.slice (some ⟨X.1.size,0,none⟩) 1 1) (X.alloc (.cells #[.string x.kind,.string x.name,.int .i64 x.ver,.int .i64 x.born,.string x.text,.bool x.ending,.slice A x.hn C] 118)) ⟨X.1.size,rfl,Zd,holds_new X _ 118⟩ Zbu
   refine wpOp_of rfl rfl ?_
   clear hK hg
   go_simp
   simpa [updT,e3] using h
  ·exact sg
  ·exact sg
  ·exact apP231
  ·have e2:t 2=.slice ad k cap:=hg 2 (Wt rfl)
   obtain ⟨b1,e4,z1,h1⟩:∃ b1,t 4=.slice (some ⟨b1,0,none⟩) 1 1∧b1<X.1.size∧Holds X b1 #[.string x.kind,.string x.name,.int .i64 x.ver,.int .i64 x.born,.string x.text,.bool x.ending,.slice A x.hn C]:=hg 4 (Wt rfl)
   have e7:t 7=.slice (tlC ad b off cap k 7) (n-k) (cap-k):=hg 7 (Wt rfl)
   have hB:=below_alloc X (.cells #[.slice ad k cap,.slice (some ⟨b1,0,none⟩) 1 1,.slice (tlC ad b off cap k 7) (n-k) (cap-k)] 31)
   have h:=hK (.slice (some ⟨X.1.size,0,none⟩) 3 3) _ ⟨X.1.size,b1,rfl,Zd,Nat.lt_of_lt_of_le z1 hB.size,h1.below hB z1,holds_new X _ 31⟩ hB
   refine wpOp_of rfl rfl ?_
   clear hK hg
   go_simp
   simpa [updT,e2,e4,e7] using h
  ·obtain ⟨b3,b1,e8,z3,z1,h1,h3⟩:∃ b3 b1,t 8=.slice (some ⟨b3,0,none⟩) 3 3∧b3<X.1.size∧b1<X.1.size∧Holds X b1 #[.string x.kind,.string x.name,.int .i64 x.ver,.int .i64 x.born,.string x.text,.bool x.ending,.slice A x.hn C]∧Holds X b3 #[.slice ad k cap,.slice (some ⟨b1,0,none⟩) 1 1,.slice (tlC ad b off cap k 7) (n-k) (cap-k)]:=hg 8 (Wt rfl)
   refine wpOp_of rfl rfl ?_
   have HK:=hid hK
   have HST:=hid (hst.grow ((hb)))
   have H1:=hid h1
   have H3:=hid h3
   clear hK hg h1 h3
   go_simp
   go_at_call 187
   refine (concatO_any 3 (fun j=>match j with|0=>ad|1=>some ⟨b1,0,none⟩|_=>tlC ad b off cap k 7) (fun j=>match j with|0=>k|1=>1|_=>n-k) (fun j=>match j with|0=>cap|1=>1|_=>cap-k) (fun j=>match j with|0=>cs.take (k*7)|1=>[.string x.kind,.string x.name,.int .i64 x.ver,.int .i64 x.born,.string x.text,.bool x.ending,.slice A x.hn C]|_=>cs.drop (k*7)) b3 X z3 Za (fun j hj=>?_) ⟨fun j hj=>?_,fun j hj=>?_,fun j hj=>?_⟩ (by rw [sum3];show ((k+1+(n-k):Nat):Int)≤1099511627776;omega)).mono ?_
   ·rcases (show j=0∨j=1∨j=2 by omega) with rfl|rfl|rfl
    ·exact H3.out 0
    ·exact H3.out 1
    ·exact H3.out 2
   ·rcases (show j=0∨j=1∨j=2 by omega) with rfl|rfl|rfl
    ·exact (HST.out.take hk).1
    ·rfl
    ·exact (HST.out.drop hk).1
   ·rcases (show j=0∨j=1∨j=2 by omega) with rfl|rfl|rfl
    ·exact (HST.out.take hk).2.1
    ·intro u hu
     simp at hu
     rcases hu with rfl|rfl|rfl|rfl|rfl|rfl|rfl<;>rfl
    ·exact (HST.out.drop hk).2.1
   ·exact apP234
   ·rintro r Y ⟨v,rfl,hown,hbY⟩
    have hs:k+1+(n-k)=n+1:=Za
    rw [sum3,flat3] at hown
    have hown2:Y.ownsRow X.1.size 118 7 v (n+1) (cs.take (k*7) ++ [.string x.kind,.string x.name,.int .i64 x.ver,.int .i64 x.born,.string x.text,.bool x.ending,.slice A x.hn C] ++ cs.drop (k*7)):=by
     rw [←hs]
     exact hown
    have h:=HK.out v Y (own_base hown2 hb.size) hbY
    simpa [updT,e8,e8] using h
 ·intro t X K hb hg hK
  have h:=hK ⟨#[.slice ad n cap,.int .i64 k,.agg #[.string x.kind,.string x.name,.int .i64 x.ver,.int .i64 x.born,.string x.text,.bool x.ending,.slice A x.hn C],p3,p4,.pointer (some ⟨bx,0,none⟩),t 9,t 0,t 1,t 2,t 3,t 4,t 5,t 6,t 7,t 8,t 9],[]⟩ X ⟨t,t 9,rfl,hb,hg 9 Za⟩
  refine wpOp_of rfl rfl ?_
  clear hK hg
  go_simp
  exact h
 ·rintro a X ⟨t,vv,rfl,hb,ho⟩
  exact hQ t vv X hb ho
theorem apP235 {P:Prop} (h:P:=by
  intro t v X hbX hown
  have HO:=hid (own_base hown (show w.1.size≤_ by simp))
  have hBX:Below w.1.size w X:=hB.trans (hbX.mono Zd)
  clear hown hbX
  go_wp2
  go_ret
  exact ⟨_,rfl,HO.out,hBX⟩):P:=h
theorem insO_any (ad:Option Addr) (b off n cap k:Nat) (cs:List Value) (x:Ob) (A:Option Addr) (C:Nat) (w:World) (hst:RowC w 7 ad b off n cap cs) (hk:k≤n) (hl:(n:Int)≤1099511627775) :
  Calls Tryz.prog 160 #[.slice ad n cap,.int .i64 k,.agg #[.string x.kind,.string x.name,.int .i64 x.ver,.int .i64 x.born,.string x.text,.bool x.ending,.slice A x.hn C]] w fun r w'=>∃ v,r=.returned v∧w'.ownsRow w.1.size 118 7 v (n+1) (cs.take (k*7) ++ [.string x.kind,.string x.name,.int .i64 x.ver,.int .i64 x.born,.string x.text,.bool x.ending,.slice A x.hn C] ++ cs.drop (k*7))∧Below w.1.size w w':=by
 have hB:=below_alloc w (.cells #[.string x.kind,.string x.name,.int .i64 x.ver,.int .i64 x.born,.string x.text,.bool x.ending,.slice A x.hn C] 118)
 have HST:=hid (hst.grow hB)
 have HX:=hid (holds_new w #[.string x.kind,.string x.name,.int .i64 x.ver,.int .i64 x.born,.string x.text,.bool x.ending,.slice A x.hn C] 118)
 clear hst
 go_enter Tryz.func160,Tryz.ntmps160
 go_wp2_with fail
 refine insOReg _ _ _ (fun _=>undef) ad b off n cap k cs x A C _ (by exact HST.out) hk hl w.1.size (by exact HX.out) Zd _ ?_
 exact apP235
def remORegG (ad:Option Addr) (b off n cap k:Nat) (cs:List Value) (W:World) (i:Nat) (v:Value) (X:World):Prop:=
 match i with
 | 0=>v=.slice ad n cap
 | 1=>v=.int .i64 k
 | 2=>v=.slice ad k cap
 | 3=>v=.slice ad n cap
 | 4=>v=.int .i64 k
 | 5=>v=.int .i64 ((k:Int)+1)
 | 6=>v=.slice (tlC ad b off cap (k+1) 7) (n-(k+1)) (cap-(k+1))
 | 7=>∃ b3,v=.slice (some ⟨b3,0,none⟩) 2 2∧b3<X.1.size∧Holds X b3 #[.slice ad k cap,.slice (tlC ad b off cap (k+1) 7) (n-(k+1)) (cap-(k+1))]
 | 8=>X.ownsRow W.1.size 118 7 v (n-1) (cs.take (k*7) ++ cs.drop ((k+1)*7))
 | _=>True
theorem remOReg (p2 p3 p4:Value) (t0:Nat→Value) (ad:Option Addr) (b off n cap k:Nat) (cs:List Value) (W:World) (hst:RowC W 7 ad b off n cap cs) (hk:k<n) (hl:(n:Int)≤1099511627775) (Q:Exit→Act→World→Prop) (hQ:∀ (t:Nat→Value) (vv:Value) X,Below W.1.size W X→X.ownsRow W.1.size 118 7 vv (n-1) (cs.take (k*7) ++ cs.drop ((k+1)*7))→Q .normal ⟨#[.slice ad n cap,.int .i64 k,p2,p3,vv,t 0,t 1,t 2,t 3,t 4,t 5,t 6,t 7,t 8],[]⟩ X) :
  Code.wp Tryz.prog (Code.region 1 #[⟨some 5,.move (.tmp 0),31, "l2_book_write.go:264",#[],none⟩,⟨some 6,.move (.tmp 1),3, "l2_book_write.go:264",#[],none⟩,⟨some 7,.slice 31 (.tmp 5) none (some (.tmp 6)) none,31, "l2_book_write.go:264",#[⟨0,.data⟩,⟨1,.data⟩],none⟩,⟨some 8,.move (.tmp 0),31, "l2_book_write.go:264",#[],none⟩,⟨some 9,.move (.tmp 1),3, "l2_book_write.go:264",#[],none⟩,⟨some 10,.binOp .add 3 (.tmp 9) (.const (.int .i64 1)) 3,3, "l2_book_write.go:264",#[⟨4,.data⟩],none⟩,⟨some 11,.slice 31 (.tmp 8) (some (.tmp 10)) none none,31, "l2_book_write.go:264",#[⟨3,.data⟩,⟨5,.data⟩],none⟩,⟨some 12,.buildSlice 254 2 #[(0,.tmp 7),(1,.tmp 11)],254, "l2_book_write.go:264",#[⟨2,.data⟩,⟨6,.data⟩],none⟩,⟨some 13,.call ⟨.value (.func 187),#[.tmp 12],#[254]⟩,31, "l2_book_write.go:264",#[⟨7,.data⟩],none⟩,⟨some 4,.assign (.tmp 13),31, "l2_book_write.go:264",#[⟨8,.data⟩,⟨8,.chain⟩,⟨0,.phase⟩,⟨1,.phase⟩,⟨2,.phase⟩,⟨3,.phase⟩,⟨4,.phase⟩,⟨5,.phase⟩,⟨6,.phase⟩,⟨7,.phase⟩,⟨8,.phase⟩],none⟩] true) Q ⟨#[.slice ad n cap,.int .i64 k,p2,p3,p4,t0 0,t0 1,t0 2,t0 3,t0 4,t0 5,t0 6,t0 7,t0 8],[]⟩ W:=by
 refine regionH Zf 9 (fun t:Nat→Value=>#[.slice ad n cap,.int .i64 k,p2,p3,p4,t 0,t 1,t 2,t 3,t 4,t 5,t 6,t 7,t 8]) t0 (remORegG ad b off n cap k cs W) (fun a X=>∃ (t:Nat→Value) (vv:Value),a=⟨#[.slice ad n cap,.int .i64 k,p2,p3,vv,t 0,t 1,t 2,t 3,t 4,t 5,t 6,t 7,t 8],[]⟩∧Below W.1.size W X∧X.ownsRow W.1.size 118 7 vv (n-1) (cs.take (k*7) ++ cs.drop ((k+1)*7))) Zf Zf Zf ?_ rfl ?_ ?_ ?_
 ·intro i v X Y hi h hb
  rcases (show i=0∨i=1∨i=2∨i=3∨i=4∨i=5∨i=6∨i=7∨i=8 by omega) with rfl|rfl|rfl|rfl|rfl|rfl|rfl|rfl|rfl
  ·exact h
  ·exact h
  ·exact h
  ·exact h
  ·exact h
  ·exact h
  ·exact h
  ·obtain ⟨b3,e1,e2,e3⟩:=h
   exact ⟨b3,e1,Nat.lt_of_lt_of_le e2 hb.size,e3.below hb e2⟩
  ·exact own_grow h hb
 ·intro i hi t X K hb hg hK
  rcases (show i=0∨i=1∨i=2∨i=3∨i=4∨i=5∨i=6∨i=7∨i=8 by omega) with rfl|rfl|rfl|rfl|rfl|rfl|rfl|rfl|rfl
  ·exact sg
  ·exact sg
  ·have e0:t 0=.slice ad n cap:=hg 0 (Wt rfl)
   have e1:t 1=.int .i64 k:=hg 1 (Wt rfl)
   have h:=hK _ X rfl Zbv
   refine wpOp_of rfl rfl ?_
   clear hK hg
   rcases hst.src with ⟨_,h0,_⟩|⟨rfl,hc,_,_⟩
   ·omega
   ·have hkc:k≤cap:=Za
    go_simp
    simpa [updT,e0,e1] using h
  ·exact sg
  ·exact sg
  ·have e4:t 4=.int .i64 k:=hg 4 (Wt rfl)
   have hk2:(k:Int)+1≤1099511627776:=Za
   have hw:IntKind.i64.wrap ((k:Int)+1)=(k:Int)+1:=IntWalk.i64_in _ ⟨Za,Za⟩
   have h:=hK _ X rfl Zbv
   refine wpOp_of rfl rfl ?_
   clear hK hg
   go_simp
   simpa [updT,e4,hw] using h
  ·have e3:t 3=.slice ad n cap:=hg 3 (Wt rfl)
   have e5:t 5=.int .i64 ((k:Int)+1):=hg 5 (Wt rfl)
   have h:=hK _ X rfl Zbv
   refine wpOp_of rfl rfl ?_
   clear hK hg
   unfold tlC at h
   rcases hst.src with ⟨_,h0,_⟩|⟨rfl,hc,_,_⟩
   ·omega
   ·have hk3:(k:Int)+1≤cap:=Za
    have hk4:((k:Int)+1).toNat=k+1:=Za
    have hk5:(0:Int)≤(k:Int)+1:=Za
    have hk6:(k:Int)+1≤(n:Int):=Za
    by_cases hck:cap=k+1
    ·subst hck
     rw [if_pos rfl,show n-(k+1)=0 by omega,Nat.sub_self] at h
     go_simp
     simpa [updT,e3,e5,hk4,hk5,hk6] using h
    ·rw [if_neg hck] at h
     go_simp
     simpa [updT,e3,e5,hk4,hk5,hk6] using h
  ·have e2:t 2=.slice ad k cap:=hg 2 (Wt rfl)
   have e6:t 6=.slice (tlC ad b off cap (k+1) 7) (n-(k+1)) (cap-(k+1)):=hg 6 (Wt rfl)
   have hB:=below_alloc X (.cells #[.slice ad k cap,.slice (tlC ad b off cap (k+1) 7) (n-(k+1)) (cap-(k+1))] 31)
   have h:=hK (.slice (some ⟨X.1.size,0,none⟩) 2 2) _ ⟨X.1.size,rfl,Zd,holds_new X _ 31⟩ hB
   refine wpOp_of rfl rfl ?_
   clear hK hg
   go_simp
   simpa [updT,e2,e6] using h
  ·obtain ⟨b3,e7,z3,h3⟩:∃ b3,t 7=.slice (some ⟨b3,0,none⟩) 2 2∧b3<X.1.size∧Holds X b3 #[.slice ad k cap,.slice (tlC ad b off cap (k+1) 7) (n-(k+1)) (cap-(k+1))]:=hg 7 (Wt rfl)
   refine wpOp_of rfl rfl ?_
   have HK:=hid hK
   have HST:=hid (hst.grow ((hb)))
   have H3:=hid h3
   clear hK hg h3
   go_simp
   go_at_call 187
   refine (concatO_any 2 (fun j=>match j with|0=>ad|_=>tlC ad b off cap (k+1) 7) (fun j=>match j with|0=>k|_=>n-(k+1)) (fun j=>match j with|0=>cap|_=>cap-(k+1)) (fun j=>match j with|0=>cs.take (k*7)|_=>cs.drop ((k+1)*7)) b3 X z3 Za (fun j hj=>?_) ⟨fun j hj=>?_,fun j hj=>?_,fun j hj=>?_⟩ (by rw [sum2];show ((k+(n-(k+1)):Nat):Int)≤1099511627776;omega)).mono ?_
   ·rcases (show j=0∨j=1 by omega) with rfl|rfl
    ·exact H3.out 0
    ·exact H3.out 1
   ·rcases (show j=0∨j=1 by omega) with rfl|rfl
    ·exact (HST.out.take (Nat.le_of_lt hk)).1
    ·exact (HST.out.drop (k:=k+1) hk).1
   ·rcases (show j=0∨j=1 by omega) with rfl|rfl
    ·exact (HST.out.take (Nat.le_of_lt hk)).2.1
    ·exact (HST.out.drop (k:=k+1) hk).2.1
   ·rcases (show j=0∨j=1 by omega) with rfl|rfl
    ·exact (HST.out.take (Nat.le_of_lt hk)).2.2
    ·exact (HST.out.drop (k:=k+1) hk).2.2
   ·rintro r Y ⟨v,rfl,hown,hbY⟩
    have hs:k+(n-(k+1))=n-1:=Za
    rw [sum2,flat2] at hown
    have hown2:Y.ownsRow X.1.size 118 7 v (n-1) (cs.take (k*7) ++ cs.drop ((k+1)*7)):=by
     rw [←hs]
     exact hown
    have h:=HK.out v Y (own_base hown2 hb.size) hbY
    simpa [updT,e7,e7] using h
 ·intro t X K hb hg hK
  have h:=hK ⟨#[.slice ad n cap,.int .i64 k,p2,p3,t 8,t 0,t 1,t 2,t 3,t 4,t 5,t 6,t 7,t 8],[]⟩ X ⟨t,t 8,rfl,hb,hg 8 Za⟩
  refine wpOp_of rfl rfl ?_
  clear hK hg
  go_simp
  exact h
 ·rintro a X ⟨t,vv,rfl,hb,ho⟩
  exact hQ t vv X hb ho
theorem remO_any (ad:Option Addr) (b off n cap k:Nat) (cs:List Value) (w:World) (hst:RowC w 7 ad b off n cap cs) (hk:k<n) (hl:(n:Int)≤1099511627775) :
  Calls Tryz.prog 159 #[.slice ad n cap,.int .i64 k] w fun r w'=>∃ v,r=.returned v∧w'.ownsRow w.1.size 118 7 v (n-1) (cs.take (k*7) ++ cs.drop ((k+1)*7))∧Below w.1.size w w':=by
 have HST:=hid hst
 clear hst
 go_enter Tryz.func159,Tryz.ntmps159
 go_wp2_with fail
 refine remOReg _ _ _ (fun _=>undef) ad b off n cap k cs _ (by exact HST.out) hk hl _ ?_
 intro t v X hbX hown
 have HO:=hid hown
 have hBX:=hid hbX
 clear hown hbX
 go_wp2
 go_ret
 exact ⟨_,rfl,HO.out,hBX.out⟩
theorem growH_any (n:Nat) (w:World) (hn:(n:Int)≤1099511627776) :
  Calls Tryz.prog 209 #[.slice none 0 0,.int .i64 n] w fun e w'=>∃ v,e=.returned v∧w'.ownsRow w.1.size 120 9 v 0 []∧Below w.1.size w w':=by
 rcases Nat.eq_zero_or_pos n with h00|h0
 ·subst h00
  go_enter Tryz.func209,Tryz.ntmps209
  go_wp2
  go_ret
  exact ⟨_,rfl,⟨rfl,Or.inl ⟨rfl,rfl⟩⟩,Below.refl _ _⟩
 obtain ⟨i0,hi0,hz0,hz1,hz2⟩:=info_parts Tryz.info120
 have hrz:∀ ty,∃ G cur,n≤G∧G≤maxLen∧cur.size=G*9∧(Builtin.append_ #[32,3] ty #[.slice none 0 0,.int .i64 (n:Int)]).run Tryz.prog w=.ok (.slice (some ⟨w.1.size,0,none⟩) n G) (w.drew.alloc (.cells cur 120)):=fun ty=>by
  have h:=Lib.run_append_grow_zeros w 32 3 ty 120 i0 _ .i64 .i64 Tryz.underlying32 Tryz.underlying3 hi0 hz0 none 0 0 [] (run_firstCells_none w.drew i0.size 0 0 0) n h0 Za Za Za Zbd (growslice_fits Za Zbd)
  rw [Nat.zero_add] at h
  refine ⟨_,_,grownCap_ge w _ _ _,grownCap_le_maxLen w n 0 120 Zs,?_,h⟩
  have hG:=grownCap_ge w n 0 120
  simp only [Array.size_append,Builtin.zeroCells,Array.size_map,Array.size_range]
  simp [Value.cells]
  omega
 obtain ⟨G,cur,hG1,hG2,hcur,hap⟩:=hrz 32
 have h63:(G:Int)≤9223372036854775807:=by unfold maxLen at hG2;omega
 have HC:=hid hcur
 have HG:=hid hG2
 have HAP:=hid hap
 clear hap
 clear hcur hG2 hrz hi0 hz0 hz1 hz2
 go_enter Tryz.func209,Tryz.ntmps209
 go_wp2_with (at_builtin;go_must (refine wpList_builtin_append rfl _ _ 32 3 rfl _ _ _ rfl rfl HAP.out ?_))
 go_ret
 exact ⟨_,rfl,World.ownsRow_made (base:=w.1.size) (e:=120) (size:=9) w.drew cur G Zbt HG.out HC.out,((Below.refl _ _).drew).alloc Zbt _⟩
theorem concatH_any (q:Nat) (A:Nat→Option Addr) (M C:Nat→Nat) (news:Nat→List Value) (b:Nat) (w:World) (hb:b<w.1.size) (hq:(q:Int)≤1000) (hcell:∀ j,j<q→w.cell? ⟨b,j,none⟩=some (.slice (A j) (M j) (C j))) (hsrc:SrcN w 9 q A M C news) (hs1:(sumTo M q:Int)≤1099511627776) :
  Calls Tryz.prog 204 #[.slice (some ⟨b,0,none⟩) q q] w fun e w'=>∃ v,e=.returned v∧w'.ownsRow w.1.size 120 9 v (sumTo M q) (flatN news q)∧Below w.1.size w w':=by
 obtain ⟨i0,hi0,hz0,hz1,hz2⟩:=info_parts Tryz.info120
 have HC:=hid hcell
 have HS:=hid hsrc
 have hmo:∀ k,k≤q→sumTo M k≤sumTo M q:=fun k hk=>sumTo_mono M hk
 have HM:=hid hmo
 clear hcell hsrc hmo
 go_enter Tryz.func204,Tryz.ntmps204
 go_wp2
 go_loopw [3,5,11] (fun s _ i wr=>∃ k:Nat,k≤q∧i=.int .i64 k∧s=.int .i64 (sumTo M k:Nat)∧wr=w) (fun _ _ i _=>q-(intOf i).toNat)
 case atStart=>exact ⟨0,Nat.zero_le _,rfl,rfl,rfl⟩
 case round=>
  obtain ⟨k,hk,rfl,rfl,rfl⟩:=hrel
  by_cases hkq:k<q
  ·exact apP233
  ·obtain rfl:k=q:=Za
   have hs2:¬(sumTo M k:Int)<0:=Za
   go_wp2_with (go_at_call 209;go_must (refine (growH_any (sumTo M k) _ hs1).mono ?_;rintro e w1 ⟨v1,rfl,hown1,hb1⟩))
   have HO1:=hid hown1
   clear hown1
   obtain ⟨W0,hW0⟩:∃ W0,W0=wr:=⟨_,rfl⟩
   subst hW0
   go_loopw [6,8,27] (fun v _ i wr=>∃ j:Nat,j≤k∧i=.int .i64 j∧Hid (wr.ownsRow W0.1.size 120 9 v (sumTo M j) (flatN news j))∧Below W0.1.size W0 wr) (fun _ _ i _=>k-(intOf i).toNat)
   case atStart=>exact ⟨0,Nat.zero_le _,rfl,HO1.out,hb1⟩
   case round=>
    clear HO1 hb1 hkq
    obtain ⟨j,hj,rfl,HOW,hbr⟩:=hrel
    by_cases hjk:j<k
    ·have c0:=(hbr.cell (p:=⟨b,j,none⟩) hb).trans (HC.out j hjk)
     have hm:=HM.out (j+1) hjk
     have hms:sumTo M (j+1)=sumTo M j+M j:=rfl
     rw [hms] at hm
     have HMS:=hid hms
     have hjz:(j:Int)<k:=Za
     have hbw:b<wr.1.size:=Nat.lt_of_lt_of_le hb hbr.size
     clear hms
     rcases HS.out.src j hjk with ⟨hA,hM0,hC0⟩|⟨sb,off,hA,hsb,hcs⟩
     ·rw [hA,hM0,hC0] at c0
      have hnil:news j=[]:=List.length_eq_zero_iff.1 (by rw [HS.out.len j hjk,hM0,Nat.zero_mul])
      have HN:=hid hnil
      have HM0:=hid hM0
      clear hA hM0 hC0 hnil
      go_wp2_with (at_builtin;go_must (refine wpList_append_own_none rfl _ _ 32 rfl W0.1.size 120 i0 9 Tryz.underlying32 hi0 _ (sumTo M j) (flatN news j) rfl HOW.out rfl ?_))
      go_roundw
      case rel=>exact ⟨j+1,hjk,by go_num,(show Hid _ from by
       show wr.ownsRow W0.1.size 120 9 _ (sumTo M j+M j) (flatN news j ++ news j)
       rw [HN.out,HM0.out,List.append_nil]
       exact HOW.out),hbr⟩
      case measure=>simp [intOf];omega
     ·rw [hA] at c0
      have HNW:=hid (show ∀ t u,(news j)[t]? = some u→wr.cell? ((⟨sb,off,none⟩:Addr).add t)=some u from fun t u h=>by
       rw [Addr.add_lit]
       exact (hbr.cell (p:=⟨sb,off+t,none⟩) hsb).trans (hcs t u h))
      clear hcs hA
      go_wp2_with (at_builtin;go_must (refine wpList_append_own_at _ rfl _ _ 32 rfl W0.1.size 120 i0 _ 9 112 Tryz.underlying32 hi0 hz0 hz1 hz2 rfl Zb _ (sumTo M j) (flatN news j) rfl HOW.out ⟨sb,off,none⟩ (M j) (C j) (news j) rfl (HS.out.len j hjk) HNW.out (HS.out.one j hjk) Zs Za hbr.size ?_;intro v' w2 hown2 hgrow2 hnil2 hat2;clear hnil2 hat2))
      have B2:Below W0.1.size W0 w2:=hbr.trans ((FrP.of_grown hgrow2).below (fun q hq e=>by have:=(HOW.out.lt q e).1;omega) hbr.size)
      have HO2:Hid (w2.ownsRow W0.1.size 120 9 v' (sumTo M (j+1)) (flatN news (j+1))):=hown2
      clear hown2 hgrow2
      go_wp2
      go_roundw
      case rel=>exact ⟨j+1,hjk,by go_num,HO2,B2⟩
      case measure=>simp [intOf];omega
    ·obtain rfl:j=k:=Za
     go_wp2
     go_ret
     exact ⟨_,rfl,HOW.out,hbr⟩
def insHRegG (ad:Option Addr) (b off n cap k:Nat) (cs:List Value) (x:Ch) (A:Option Addr) (C:Nat) (W:World) (i:Nat) (v:Value) (X:World):Prop:=
 match i with
 | 0=>v=.slice ad n cap
 | 1=>v=.int .i64 k
 | 2=>v=.slice ad k cap
 | 3=>v=.agg #[.int .i64 x.ver,.bool x.gone,.string x.ob.kind,.string x.ob.name,.int .i64 x.ob.ver,.int .i64 x.ob.born,.string x.ob.text,.bool x.ob.ending,.slice A x.ob.hn C]
 | 4=>∃ b1,v=.slice (some ⟨b1,0,none⟩) 1 1∧b1<X.1.size∧Holds X b1 #[.int .i64 x.ver,.bool x.gone,.string x.ob.kind,.string x.ob.name,.int .i64 x.ob.ver,.int .i64 x.ob.born,.string x.ob.text,.bool x.ob.ending,.slice A x.ob.hn C]
 | 5=>v=.slice ad n cap
 | 6=>v=.int .i64 k
 | 7=>v=.slice (tlC ad b off cap k 9) (n-k) (cap-k)
 | 8=>∃ b3 b1,v=.slice (some ⟨b3,0,none⟩) 3 3∧b3<X.1.size∧b1<X.1.size∧Holds X b1 #[.int .i64 x.ver,.bool x.gone,.string x.ob.kind,.string x.ob.name,.int .i64 x.ob.ver,.int .i64 x.ob.born,.string x.ob.text,.bool x.ob.ending,.slice A x.ob.hn C]∧Holds X b3 #[.slice ad k cap,.slice (some ⟨b1,0,none⟩) 1 1,.slice (tlC ad b off cap k 9) (n-k) (cap-k)]
 | 9=>X.ownsRow W.1.size 120 9 v (n+1) (cs.take (k*9) ++ [.int .i64 x.ver,.bool x.gone,.string x.ob.kind,.string x.ob.name,.int .i64 x.ob.ver,.int .i64 x.ob.born,.string x.ob.text,.bool x.ob.ending,.slice A x.ob.hn C] ++ cs.drop (k*9))
 | _=>True
theorem insHReg (p3 p4 p6:Value) (t0:Nat→Value) (ad:Option Addr) (b off n cap k:Nat) (cs:List Value) (x:Ch) (A:Option Addr) (C:Nat) (W:World) (hst:RowC W 9 ad b off n cap cs) (hk:k≤n) (hl:(n:Int)≤1099511627775) (bx:Nat) (hbx:Holds W bx #[.int .i64 x.ver,.bool x.gone,.string x.ob.kind,.string x.ob.name,.int .i64 x.ob.ver,.int .i64 x.ob.born,.string x.ob.text,.bool x.ob.ending,.slice A x.ob.hn C]) (hb0:bx<W.1.size) (Q:Exit→Act→World→Prop) (hQ:∀ (t:Nat→Value) (vv:Value) X,Below W.1.size W X→X.ownsRow W.1.size 120 9 vv (n+1) (cs.take (k*9) ++ [.int .i64 x.ver,.bool x.gone,.string x.ob.kind,.string x.ob.name,.int .i64 x.ob.ver,.int .i64 x.ob.born,.string x.ob.text,.bool x.ob.ending,.slice A x.ob.hn C] ++ cs.drop (k*9))→Q .normal ⟨#[.slice ad n cap,.int .i64 k,.agg #[.int .i64 x.ver,.bool x.gone,.string x.ob.kind,.string x.ob.name,.int .i64 x.ob.ver,.int .i64 x.ob.born,.string x.ob.text,.bool x.ob.ending,.slice A x.ob.hn C],p3,p4,.pointer (some ⟨bx,0,none⟩),vv,t 0,t 1,t 2,t 3,t 4,t 5,t 6,t 7,t 8,t 9],[]⟩ X) :
  Code.wp Tryz.prog (Code.region 1 #[⟨some 7,.move (.tmp 0),32, "l2_book_write.go:260",#[],none⟩,⟨some 8,.move (.tmp 1),3, "l2_book_write.go:260",#[],none⟩,⟨some 9,.slice 32 (.tmp 7) none (some (.tmp 8)) none,32, "l2_book_write.go:260",#[⟨0,.data⟩,⟨1,.data⟩],none⟩,⟨some 10,.load 120 (.tmp 5),120, "l2_book_write.go:260",#[],none⟩,⟨some 11,.buildSlice 32 1 #[(0,.tmp 10)],32, "l2_book_write.go:260",#[⟨3,.data⟩],none⟩,⟨some 12,.move (.tmp 0),32, "l2_book_write.go:260",#[],none⟩,⟨some 13,.move (.tmp 1),3, "l2_book_write.go:260",#[],none⟩,⟨some 14,.slice 32 (.tmp 12) (some (.tmp 13)) none none,32, "l2_book_write.go:260",#[⟨5,.data⟩,⟨6,.data⟩],none⟩,⟨some 15,.buildSlice 258 3 #[(0,.tmp 9),(1,.tmp 11),(2,.tmp 14)],258, "l2_book_write.go:260",#[⟨2,.data⟩,⟨4,.data⟩,⟨7,.data⟩],none⟩,⟨some 16,.call ⟨.value (.func 204),#[.tmp 15],#[258]⟩,32, "l2_book_write.go:260",#[⟨8,.data⟩],none⟩,⟨some 6,.assign (.tmp 16),32, "l2_book_write.go:260",#[⟨9,.data⟩,⟨9,.chain⟩,⟨0,.phase⟩,⟨1,.phase⟩,⟨2,.phase⟩,⟨3,.phase⟩,⟨4,.phase⟩,⟨5,.phase⟩,⟨6,.phase⟩,⟨7,.phase⟩,⟨8,.phase⟩,⟨9,.phase⟩],none⟩] true) Q ⟨#[.slice ad n cap,.int .i64 k,.agg #[.int .i64 x.ver,.bool x.gone,.string x.ob.kind,.string x.ob.name,.int .i64 x.ob.ver,.int .i64 x.ob.born,.string x.ob.text,.bool x.ob.ending,.slice A x.ob.hn C],p3,p4,.pointer (some ⟨bx,0,none⟩),p6,t0 0,t0 1,t0 2,t0 3,t0 4,t0 5,t0 6,t0 7,t0 8,t0 9],[]⟩ W:=by
 refine regionH Zf 10 (fun t:Nat→Value=>#[.slice ad n cap,.int .i64 k,.agg #[.int .i64 x.ver,.bool x.gone,.string x.ob.kind,.string x.ob.name,.int .i64 x.ob.ver,.int .i64 x.ob.born,.string x.ob.text,.bool x.ob.ending,.slice A x.ob.hn C],p3,p4,.pointer (some ⟨bx,0,none⟩),p6,t 0,t 1,t 2,t 3,t 4,t 5,t 6,t 7,t 8,t 9]) t0 (insHRegG ad b off n cap k cs x A C W) (fun a X=>∃ (t:Nat→Value) (vv:Value),a=⟨#[.slice ad n cap,.int .i64 k,.agg #[.int .i64 x.ver,.bool x.gone,.string x.ob.kind,.string x.ob.name,.int .i64 x.ob.ver,.int .i64 x.ob.born,.string x.ob.text,.bool x.ob.ending,.slice A x.ob.hn C],p3,p4,.pointer (some ⟨bx,0,none⟩),vv,t 0,t 1,t 2,t 3,t 4,t 5,t 6,t 7,t 8,t 9],[]⟩∧Below W.1.size W X∧X.ownsRow W.1.size 120 9 vv (n+1) (cs.take (k*9) ++ [.int .i64 x.ver,.bool x.gone,.string x.ob.kind,.string x.ob.name,.int .i64 x.ob.ver,.int .i64 x.ob.born,.string x.ob.text,.bool x.ob.ending,.slice A x.ob.hn C] ++ cs.drop (k*9))) Zf Zf Zf ?_ rfl ?_ ?_ ?_
 ·exact apP230
 ·intro i hi t X K hb hg hK
  rcases (show i=0∨i=1∨i=2∨i=3∨i=4∨i=5∨i=6∨i=7∨i=8∨i=9 by omega) with rfl|rfl|rfl|rfl|rfl|rfl|rfl|rfl|rfl|rfl
  ·exact sg
  ·exact sg
  ·exact apP232
  ·have HB:=hbx.below hb hb0
   have q0:=HB 0
   have q1:=HB 1
   have q2:=HB 2
   have q3:=HB 3
   have q4:=HB 4
   have q5:=HB 5
   have q6:=HB 6
   have q7:=HB 7
   have q8:=HB 8
   simp only [List.getElem?_toArray,List.getElem?_cons_succ,List.getElem?_cons_zero] at q0 q1 q2 q3 q4 q5 q6 q7 q8
   exact apP236
  ·have e3:t 3=.agg #[.int .i64 x.ver,.bool x.gone,.string x.ob.kind,.string x.ob.name,.int .i64 x.ob.ver,.int .i64 x.ob.born,.string x.ob.text,.bool x.ob.ending,.slice A x.ob.hn C]:=hg 3 (Wt rfl)
   have h:=hK (.slice (some ⟨X.1.size,0,none⟩) 1 1) (X.alloc (.cells #[.int .i64 x.ver,.bool x.gone,.string x.ob.kind,.string x.ob.name,.int .i64 x.ob.ver,.int .i64 x.ob.born,.string x.ob.text,.bool x.ob.ending,.slice A x.ob.hn C] 120)) ⟨X.1.size,rfl,Zd,holds_new X _ 120⟩ Zbu
   refine wpOp_of rfl rfl ?_
   clear hK hg
   go_simp
   simpa [updT,e3] using h
  ·exact sg
  ·exact sg
  ·exact apP231
  ·have e2:t 2=.slice ad k cap:=hg 2 (Wt rfl)
   obtain ⟨b1,e4,z1,h1⟩:∃ b1,t 4=.slice (some ⟨b1,0,none⟩) 1 1∧b1<X.1.size∧Holds X b1 #[.int .i64 x.ver,.bool x.gone,.string x.ob.kind,.string x.ob.name,.int .i64 x.ob.ver,.int .i64 x.ob.born,.string x.ob.text,.bool x.ob.ending,.slice A x.ob.hn C]:=hg 4 (Wt rfl)
   have e7:t 7=.slice (tlC ad b off cap k 9) (n-k) (cap-k):=hg 7 (Wt rfl)
   have hB:=below_alloc X (.cells #[.slice ad k cap,.slice (some ⟨b1,0,none⟩) 1 1,.slice (tlC ad b off cap k 9) (n-k) (cap-k)] 32)
   have h:=hK (.slice (some ⟨X.1.size,0,none⟩) 3 3) _ ⟨X.1.size,b1,rfl,Zd,Nat.lt_of_lt_of_le z1 hB.size,h1.below hB z1,holds_new X _ 32⟩ hB
   refine wpOp_of rfl rfl ?_
   clear hK hg
   go_simp
   simpa [updT,e2,e4,e7] using h
  ·obtain ⟨b3,b1,e8,z3,z1,h1,h3⟩:∃ b3 b1,t 8=.slice (some ⟨b3,0,none⟩) 3 3∧b3<X.1.size∧b1<X.1.size∧Holds X b1 #[.int .i64 x.ver,.bool x.gone,.string x.ob.kind,.string x.ob.name,.int .i64 x.ob.ver,.int .i64 x.ob.born,.string x.ob.text,.bool x.ob.ending,.slice A x.ob.hn C]∧Holds X b3 #[.slice ad k cap,.slice (some ⟨b1,0,none⟩) 1 1,.slice (tlC ad b off cap k 9) (n-k) (cap-k)]:=hg 8 (Wt rfl)
   refine wpOp_of rfl rfl ?_
   have HK:=hid hK
   have HST:=hid (hst.grow ((hb)))
   have H1:=hid h1
   have H3:=hid h3
   clear hK hg h1 h3
   go_simp
   go_at_call 204
   refine (concatH_any 3 (fun j=>match j with|0=>ad|1=>some ⟨b1,0,none⟩|_=>tlC ad b off cap k 9) (fun j=>match j with|0=>k|1=>1|_=>n-k) (fun j=>match j with|0=>cap|1=>1|_=>cap-k) (fun j=>match j with|0=>cs.take (k*9)|1=>[.int .i64 x.ver,.bool x.gone,.string x.ob.kind,.string x.ob.name,.int .i64 x.ob.ver,.int .i64 x.ob.born,.string x.ob.text,.bool x.ob.ending,.slice A x.ob.hn C]|_=>cs.drop (k*9)) b3 X z3 Za (fun j hj=>?_) ⟨fun j hj=>?_,fun j hj=>?_,fun j hj=>?_⟩ (by rw [sum3];show ((k+1+(n-k):Nat):Int)≤1099511627776;omega)).mono ?_
   ·rcases (show j=0∨j=1∨j=2 by omega) with rfl|rfl|rfl
    ·exact H3.out 0
    ·exact H3.out 1
    ·exact H3.out 2
   ·rcases (show j=0∨j=1∨j=2 by omega) with rfl|rfl|rfl
    ·exact (HST.out.take hk).1
    ·rfl
    ·exact (HST.out.drop hk).1
   ·rcases (show j=0∨j=1∨j=2 by omega) with rfl|rfl|rfl
    ·exact (HST.out.take hk).2.1
    ·intro u hu
     simp at hu
     rcases hu with rfl|rfl|rfl|rfl|rfl|rfl|rfl|rfl|rfl<;>rfl
    ·exact (HST.out.drop hk).2.1
   ·exact apP234
   ·rintro r Y ⟨v,rfl,hown,hbY⟩
    have hs:k+1+(n-k)=n+1:=Za
    rw [sum3,flat3] at hown
    have hown2:Y.ownsRow X.1.size 120 9 v (n+1) (cs.take (k*9) ++ [.int .i64 x.ver,.bool x.gone,.string x.ob.kind,.string x.ob.name,.int .i64 x.ob.ver,.int .i64 x.ob.born,.string x.ob.text,.bool x.ob.ending,.slice A x.ob.hn C] ++ cs.drop (k*9)):=by
     rw [←hs]
     exact hown
    have h:=HK.out v Y (own_base hown2 hb.size) hbY
    simpa [updT,e8,e8] using h
 ·intro t X K hb hg hK
  have h:=hK ⟨#[.slice ad n cap,.int .i64 k,.agg #[.int .i64 x.ver,.bool x.gone,.string x.ob.kind,.string x.ob.name,.int .i64 x.ob.ver,.int .i64 x.ob.born,.string x.ob.text,.bool x.ob.ending,.slice A x.ob.hn C],p3,p4,.pointer (some ⟨bx,0,none⟩),t 9,t 0,t 1,t 2,t 3,t 4,t 5,t 6,t 7,t 8,t 9],[]⟩ X ⟨t,t 9,rfl,hb,hg 9 Za⟩
  refine wpOp_of rfl rfl ?_
  clear hK hg
  go_simp
  exact h
 ·rintro a X ⟨t,vv,rfl,hb,ho⟩
  exact hQ t vv X hb ho
theorem insH_any (ad:Option Addr) (b off n cap k:Nat) (cs:List Value) (x:Ch) (A:Option Addr) (C:Nat) (w:World) (hst:RowC w 9 ad b off n cap cs) (hk:k≤n) (hl:(n:Int)≤1099511627775) :
  Calls Tryz.prog 188 #[.slice ad n cap,.int .i64 k,.agg #[.int .i64 x.ver,.bool x.gone,.string x.ob.kind,.string x.ob.name,.int .i64 x.ob.ver,.int .i64 x.ob.born,.string x.ob.text,.bool x.ob.ending,.slice A x.ob.hn C]] w fun r w'=>∃ v,r=.returned v∧w'.ownsRow w.1.size 120 9 v (n+1) (cs.take (k*9) ++ [.int .i64 x.ver,.bool x.gone,.string x.ob.kind,.string x.ob.name,.int .i64 x.ob.ver,.int .i64 x.ob.born,.string x.ob.text,.bool x.ob.ending,.slice A x.ob.hn C] ++ cs.drop (k*9))∧Below w.1.size w w':=by
 have hB:=below_alloc w (.cells #[.int .i64 x.ver,.bool x.gone,.string x.ob.kind,.string x.ob.name,.int .i64 x.ob.ver,.int .i64 x.ob.born,.string x.ob.text,.bool x.ob.ending,.slice A x.ob.hn C] 120)
 have HST:=hid (hst.grow hB)
 have HX:=hid (holds_new w #[.int .i64 x.ver,.bool x.gone,.string x.ob.kind,.string x.ob.name,.int .i64 x.ob.ver,.int .i64 x.ob.born,.string x.ob.text,.bool x.ob.ending,.slice A x.ob.hn C] 120)
 clear hst
 go_enter Tryz.func188,Tryz.ntmps188
 go_wp2_with fail
 refine insHReg _ _ _ (fun _=>undef) ad b off n cap k cs x A C _ (by exact HST.out) hk hl w.1.size (by exact HX.out) Zd _ ?_
 exact apP235
end Go.Proofs.YtllmmkchokkaaaaGreatDoor
