import Derived.Test.YtllmmkchokkaaaaGreatDoorPk42
import Derived.Test.YtllmmkchokkaaaaGreatDoorPk43
import Derived.Test.YtllmmkchokkaaaaGreatDoorPk28
set_option maxRecDepth 100000
set_option maxHeartbeats 8000000
namespace Go.Proofs.YtllmmkchokkaaaaGreatDoor
open Go.RowKit Go.Maps
def AnS (C:Int) (Y:Bk) (V:Int) (n:Nat) (w:World) (e:Ending) (w':World):Prop:=
 Below w.1.size w w'∧∃ (a1 a2 a3:Option Addr) (c1 c2 c3:Nat),e=.returned (.tuple #[.agg #[.int .i64 C,.int .i64 Y.now,.int .i64 Y.floor,.slice a1 Y.on c1,.slice a2 Y.hn c2,.slice a3 Y.tn c3,.int .i64 V],.int .i64 n])∧BkIn w' 0 w'.1.size Y a1 a2 a3
structure A3 (W:World) (s0:Nat) (B:Bk) (a1 a2 a3:Option Addr) (c1 c2 c3:Nat) (x:Bu) (u1 u2:Option Addr) (d1 d2:Nat):Prop where
 bk:HoldN W s0 [.int .i64 B.now,.int .i64 B.floor,.slice a1 B.on c1,.slice a2 B.hn c2,.slice a3 B.tn c3]
 bu:HoldN W (s0+1) [.slice u1 x.wn d1,.slice u2 x.rn d2]
 ans:Bx W (s0+1+1)
 bin:BkIn W 0 s0 B a1 a2 a3
 uin:BuIn W 0 s0 x u1 u2
theorem A3.below {W W':World} {s0:Nat} {B:Bk} {a1 a2 a3:Option Addr} {c1 c2 c3:Nat} {x:Bu} {u1 u2:Option Addr} {d1 d2:Nat} (h:A3 W s0 B a1 a2 a3 c1 c2 c3 x u1 u2 d1 d2) (hb:Below W.1.size W W'):A3 W' s0 B a1 a2 a3 c1 c2 c3 x u1 u2 d1 d2:=by
 have hz:=h.ans.row.lt
 exact ⟨h.bk.below hb Za,h.bu.below hb Za,h.ans.grow hb,h.bin.below hb Za,h.uin.below hb Za⟩
theorem A3.frBox {W W':World} {s0:Nat} {B:Bk} {a1 a2 a3:Option Addr} {c1 c2 c3:Nat} {x:Bu} {u1 u2:Option Addr} {d1 d2:Nat} (h:A3 W s0 B a1 a2 a3 c1 c2 c3 x u1 u2 d1 d2) {Z:Nat→Prop} (hf:FrP Z W W') (hZ:∀ q,Z q→s0+1+1<q):A3 W' s0 B a1 a2 a3 c1 c2 c3 x u1 u2 d1 d2:=by
 have hz:=h.ans.row.lt
 have hB:Below (s0+1+1+1) W W':=hf.below (fun q hq e=>by have:=hZ q e;omega) Za
 exact ⟨h.bk.below hB Za,h.bu.below hB Za,⟨h.ans.row.below hB Za,fun j s e=>h.ans.no j s (by rw [←hB.cell (p:=⟨s0+1+1,j,none⟩) (by show s0+1+1<_;omega)];exact e)⟩,h.bin.below hB Za,h.uin.below hB Za⟩
theorem a3_new (w:World) (B:Bk) (a1 a2 a3:Option Addr) (c1 c2 c3:Nat) (x:Bu) (u1 u2:Option Addr) (d1 d2:Nat) (hb:BkIn w 0 w.1.size B a1 a2 a3) (hu:BuIn w 0 w.1.size x u1 u2) :
  A3 (((w.alloc (.cells #[.int .i64 B.now,.int .i64 B.floor,.slice a1 B.on c1,.slice a2 B.hn c2,.slice a3 B.tn c3] 35)).alloc (.cells #[.slice u1 x.wn d1,.slice u2 x.rn d2] 57)).alloc (.cells #[.int .i64 0,.int .i64 0,.int .i64 0,.slice none 0 0,.slice none 0 0,.slice none 0 0,.int .i64 0] 37)) w.1.size B a1 a2 a3 c1 c2 c3 x u1 u2 d1 d2:=by
 obtain ⟨X0,X1,X2,Y1,Y2⟩:=three_cell (Below.refl (((w.alloc (.cells #[.int .i64 B.now,.int .i64 B.floor,.slice a1 B.on c1,.slice a2 B.hn c2,.slice a3 B.tn c3] 35)).alloc (.cells #[.slice u1 x.wn d1,.slice u2 x.rn d2] 57)).alloc (.cells #[.int .i64 0,.int .i64 0,.int .i64 0,.slice none 0 0,.slice none 0 0,.slice none 0 0,.int .i64 0] 37)).1.size (((w.alloc (.cells #[.int .i64 B.now,.int .i64 B.floor,.slice a1 B.on c1,.slice a2 B.hn c2,.slice a3 B.tn c3] 35)).alloc (.cells #[.slice u1 x.wn d1,.slice u2 x.rn d2] 57)).alloc (.cells #[.int .i64 0,.int .i64 0,.int .i64 0,.slice none 0 0,.slice none 0 0,.slice none 0 0,.int .i64 0] 37)))
 have hB:Below w.1.size w (((w.alloc (.cells #[.int .i64 B.now,.int .i64 B.floor,.slice a1 B.on c1,.slice a2 B.hn c2,.slice a3 B.tn c3] 35)).alloc (.cells #[.slice u1 x.wn d1,.slice u2 x.rn d2] 57)).alloc (.cells #[.int .i64 0,.int .i64 0,.int .i64 0,.slice none 0 0,.slice none 0 0,.slice none 0 0,.int .i64 0] 37)):=(((Below.refl _ _).alloc Zbt _).alloc Zd _).alloc Zc _
 refine ⟨fun j hj=>?_,fun j hj=>?_,by have:=bx_new ((w.alloc (.cells #[.int .i64 B.now,.int .i64 B.floor,.slice a1 B.on c1,.slice a2 B.hn c2,.slice a3 B.tn c3] 35)).alloc (.cells #[.slice u1 x.wn d1,.slice u2 x.rn d2] 57));simpa using this,hb.below hB Zbt,hu.below hB Zbt⟩
 ·rw [X0 j]
  rcases (show j=0∨j=1∨j=2∨j=3∨j=4 by simp at hj;omega) with rfl|rfl|rfl|rfl|rfl<;>rfl
 ·rw [X1 j]
  rcases (show j=0∨j=1 by simp at hj;omega) with rfl|rfl<;>rfl
theorem ret53 {Q:Ending→World→Prop} {tmps:Array Value} {W:World} {b:Nat} {v0 v1 v2 v3 v4 v5 v6:Value} {n:Int} (hr:RowF W b 7 (vec [v0,v1,v2,v3,v4,v5,v6])) (h4:tmps[4]?.getD undef=.pointer (some ⟨b,0,none⟩)) (h5:tmps[5]?.getD undef=.int .i64 n) (hQ:Q (.returned (.tuple #[.agg #[v0,v1,v2,v3,v4,v5,v6],.int .i64 n])) W) :
  bodyPost Tryz.prog Tryz.f53 Q .ret ⟨tmps,[]⟩ W:=by
 have u0:=hr.cell 0 Za
 have u1:=hr.cell 1 Za
 have u2:=hr.cell 2 Za
 have u3:=hr.cell 3 Za
 have u4:=hr.cell 4 Za
 have u5:=hr.cell 5 Za
 have u6:=hr.cell 6 Za
 simp only [vec,List.getD_cons_zero,List.getD_cons_succ] at u0 u1 u2 u3 u4 u5 u6
 exact bodyPost_ret (v:=.tuple #[.agg #[v0,v1,v2,v3,v4,v5,v6],.int .i64 n]) (by simp only [results,Tryz.results53];simp [go_sem,h4,h5,u0,u1,u2,u3,u4,u5,u6]) rfl hQ
theorem nameB_wt {y:Wnt} (h:wtB y=false):nameB y.kind=false∨(nameB y.kind=true∧nameB y.name=false)∨(nameB y.kind=true∧nameB y.name=true∧y.ver<0):=by
 unfold wtB at h
 cases h1:nameB y.kind with
 | false=>exact Or.inl rfl
 | true=>
  cases h2:nameB y.name with
  | false=>exact Or.inr (Or.inl ⟨rfl,rfl⟩)
  | true=>
   rw [h1,h2] at h
   simp at h
   exact Or.inr (Or.inr ⟨rfl,rfl,Za⟩)
theorem bu_no1 {x:Bu} (h:10<x.wn∨10<x.rn):buB x=false:=by
 cases hb:buB x with
 | false=>rfl
 | true=>have:=buOk_of hb;have:=this.wn;have:=(buOk_of hb).rn;omega
theorem bu_no2 {x:Bu} {k:Nat} (hk:k<x.wn) (h:wtB (x.ws k)=false):buB x=false:=by
 cases hb:buB x with
 | false=>rfl
 | true=>rw [(buOk_of hb).ws k hk] at h;cases h
theorem bu_no3 {x:Bu} {k:Nat} (hk:k<x.rn) (h:wrB (x.rs k)=false):buB x=false:=by
 cases hb:buB x with
 | false=>rfl
 | true=>rw [(buOk_of hb).rs k hk] at h;cases h
theorem bu_yes {x:Bu} (h1:x.wn≤10) (h2:x.rn≤10) (h3:∀ i,i<x.wn→wtB (x.ws i)=true) (h4:∀ i,i<x.rn→wrB (x.rs i)=true):buB x=true:=by
 unfold buB
 simp [h1,h2,allTo_iff.2 h3,allTo_iff.2 h4]
def AlS (B:Bk) (x:Bu) (w:World) (e:Ending) (w':World):Prop:=
 if buB x then AnS (allC0 B x) (allB0 B x) (allV0 B x) (allN0 B x) w e w' else AnS 2 B 0 0 w e w'
theorem als_no {B:Bk} {x:Bu} {w:World} {e:Ending} {w':World} (h:buB x=false) (ha:AnS 2 B 0 0 w e w'):AlS B x w e w':=by
 unfold AlS
 rw [if_neg (by rw [h];decide)]
 exact ha
theorem apP440 {P:Prop} (h:P:=by
  have zz:=HS.out.ans.row.lt
  have zb:=HB.out.size
  go_wp2
  refine ret53 (row7 HS.out.ans.row) rfl rfl (als_no HN.out ⟨?_,a1,a2,a3,c1,c2,c3,rfl,?_⟩)
  ·exact HB.out.trans ((fr7 (.int .i64 2) (.int .i64 B.now) (.int .i64 B.floor) (.slice a1 B.on c1) (.slice a2 B.hn c2) (.slice a3 B.tn c3) (.int .i64 0)).below (fun q hq e=>by have e':q=w.1.size+1+1:=e;omega) zb)
  ·exact ((HS.out.bin.below ((fr7 (.int .i64 2) (.int .i64 B.now) (.int .i64 B.floor) (.slice a1 B.on c1) (.slice a2 B.hn c2) (.slice a3 B.tn c3) (.int .i64 0)).below (B:=w.1.size) (fun q hq e=>by have e':q=w.1.size+1+1:=e;omega) zb) Zbt)).upTo (by simp only [World.size_setCell];omega)):P:=h
theorem l3_big (B:Bk) (x:Bu) (a1 a2 a3:Option Addr) (c1 c2 c3:Nat) (u1 u2:Option Addr) (d1 d2:Nat) (w:World) (hbk:BkIn w 0 w.1.size B a1 a2 a3) (hbu:BuIn w 0 w.1.size x u1 u2) (h:10<x.wn∨10<x.rn) :
  Calls Tryz.prog 53 #[.agg #[.int .i64 B.now,.int .i64 B.floor,.slice a1 B.on c1,.slice a2 B.hn c2,.slice a3 B.tn c3],.agg #[.slice u1 x.wn d1,.slice u2 x.rn d2]] w fun e w'=>AlS B x w e w':=by
 have HN:=hid (bu_no1 h)
 have hs:=a3_new w B a1 a2 a3 c1 c2 c3 x u1 u2 d1 d2 hbk hbu
 have hb:=(((Below.refl w.1.size w).alloc Zbt (.cells #[.int .i64 B.now,.int .i64 B.floor,.slice a1 B.on c1,.slice a2 B.hn c2,.slice a3 B.tn c3] 35)).alloc Zd (.cells #[.slice u1 x.wn d1,.slice u2 x.rn d2] 57)).alloc Zc (.cells #[.int .i64 0,.int .i64 0,.int .i64 0,.slice none 0 0,.slice none 0 0,.slice none 0 0,.int .i64 0] 37)
 go_enter Tryz.func53,Tryz.ntmps53
 go_upto_region 1 with fail
 generalize (((w.alloc (.cells #[.int .i64 B.now,.int .i64 B.floor,.slice a1 B.on c1,.slice a2 B.hn c2,.slice a3 B.tn c3] 35)).alloc (.cells #[.slice u1 x.wn d1,.slice u2 x.rn d2] 57)).alloc (.cells #[.int .i64 0,.int .i64 0,.int .i64 0,.slice none 0 0,.slice none 0 0,.slice none 0 0,.int .i64 0] 37))=W1 at hs hb ⊢
 have HS:=hid hs
 have HB:=hid hb
 clear hs hb hbk hbu
 have p0:=HS.out.bk 0 Zd
 have p1:=HS.out.bk 1 Zd
 have p2:=HS.out.bk 2 Zd
 have p3:=HS.out.bk 3 Zd
 have p4:=HS.out.bk 4 Zd
 have q0:=HS.out.bu 0 Zd
 have q1:=HS.out.bu 1 Zd
 have r0:=HS.out.ans.row.cell 0 Za
 have r1:=HS.out.ans.row.cell 1 Za
 have r2:=HS.out.ans.row.cell 2 Za
 have r3:=HS.out.ans.row.cell 3 Za
 have r4:=HS.out.ans.row.cell 4 Za
 have r5:=HS.out.ans.row.cell 5 Za
 have r6:=HS.out.ans.row.cell 6 Za
 have rf:=HS.out.ans.row.free
 have rz:=HS.out.ans.row.lt
 simp only [vec,zdd,List.getD_cons_zero,List.getD_cons_succ] at p0 p1 p2 p3 p4 q0 q1 r0 r1 r2 r3 r4 r5 r6
 by_cases hw:10<x.wn
 ·exact apP440
 ·have hr:10<x.rn:=h.resolve_left hw
  exact apP440
end Go.Proofs.YtllmmkchokkaaaaGreatDoor
