import Derived.Test.YtokkbdlofbdljaaGreatUi
import Derived.Test.YtokkbdlofbdljaaGreatUd
namespace Go.Proofs.YtokkbdlofbdljaaGreat
open Go.RowKit
set_option maxHeartbeats 4000000
theorem Za {P:Program} {ops:Array Oper} {Q:Exit→Act→World→Prop} {i:Nat} {K:Act→World→Prop} {a:Act} {w:World} {o:Oper} (ho:ops[i]? = some o) (hg:Region.wanted o (yielded ops a.tmps)=true) (h:o.wp P a w K Q):wpOp P ops Q i K a w:=by
 unfold wpOp
 rw [ho]
 simp only [hg,if_true]
 exact Or.inl h
theorem Zk {P:Program} {ops:Array Oper} {Q:Exit→Act→World→Prop} {i:Nat} {K:Act→World→Prop} {a:Act} {w:World} {o:Oper} (ho:ops[i]? = some o) (hg:Region.wanted o (yielded ops a.tmps)=false) (h:K (a.put o.dst undef) w):wpOp P ops Q i K a w:=by
 unfold wpOp
 rw [ho]
 simp only [hg]
 exact h
def Eo (T B:Nat) (r:Rc) (_p:RcP) (i:Nat) (v:Value) (_X:World):Prop:=
 match i with
 | 0=>v=.pointer (some ⟨T,0,none⟩)
 | 1=>v=.pointer (some ⟨T,0,none⟩)
 | 2=>v=.pointer (some ⟨T,0,none⟩)
 | 3=>v=.pointer (some ⟨B,0,none⟩)
 | 4=>v=.pointer (some ⟨B,0,none⟩)
 | 5=>v=.pointer (some ⟨B,12,none⟩)
 | 6=>v=.bool true
 | 7=>v=.bool true
 | 8=>v=.pointer (some ⟨T,0,none⟩)
 | 9=>v=.pointer (some ⟨T,0,none⟩)
 | 10=>v=.pointer (some ⟨T,0,none⟩)
 | 11=>v=.pointer (some ⟨B,0,none⟩)
 | 12=>v=.pointer (some ⟨B,0,none⟩)
 | 13=>v=.pointer (some ⟨B,3,none⟩)
 | 14=>v=.pointer (some ⟨B,3,none⟩)
 | 15=>v=.int .i64 r.sf.pr
 | 16=>v=.pointer (some ⟨T,0,none⟩)
 | 17=>v=.pointer (some ⟨T,0,none⟩)
 | 18=>v=.pointer (some ⟨T,0,none⟩)
 | 19=>v=.pointer (some ⟨B,0,none⟩)
 | 20=>v=.pointer (some ⟨B,0,none⟩)
 | 21=>v=.pointer (some ⟨B,13,none⟩)
 | 22=>v=.int .i64 r.bal
 | 23=>v=.bool (r.sf.pr==r.bal)
 | _=>True
theorem Ia {P:Prop} (h:P:=by
  have e2:t 2=.pointer (some ⟨T,0,none⟩):=hg 2 (Wt rfl)
  have f1:=(hb.cell (p:=⟨T,0,none⟩) hT).trans cT0
  have h:=hK _ X rfl (br _ _)
  refine Zi rfl rfl ?_
  clear hK hg
  go_simp
  simpa [updT,e2] using h):P:=h
theorem UT {P:Prop} (h:P:=by
  have h:=hK _ X rfl (br _ _)
  refine Zi rfl rfl ?_
  clear hK hg
  go_simp
  simpa [updT] using h):P:=h
theorem N9 {P:Prop} (h:P:=by
  have e0:t 0=.pointer (some ⟨T,0,none⟩):=hg 0 (Wt rfl)
  have h:=hK _ X rfl (br _ _)
  refine Zi rfl rfl ?_
  clear hK hg
  go_simp
  simpa [updT,e0] using h):P:=h
theorem N8 {P:Prop} (h:P:=by
  have e1:t 1=.pointer (some ⟨T,0,none⟩):=hg 1 (Wt rfl)
  have h:=hK _ X rfl (br _ _)
  refine Zi rfl rfl ?_
  clear hK hg
  go_simp
  simpa [updT,e1] using h):P:=h
theorem N7 {P:Prop} (h:P:=by
  have e3:t 3=.pointer (some ⟨B,0,none⟩):=hg 3 (Wt rfl)
  have h:=hK _ X rfl (br _ _)
  refine Zi rfl rfl ?_
  clear hK hg
  go_simp
  simpa [updT,e3] using h):P:=h
theorem O9 {P:Prop} (h:P:=by
  have e4:t 4=.pointer (some ⟨B,0,none⟩):=hg 4 (Wt rfl)
  have h:=hK _ X rfl (br _ _)
  refine Zi rfl rfl ?_
  clear hK hg
  go_simp
  simpa [updT,e4] using h):P:=h
theorem N4 {P:Prop} (h:P:=by
  have h:=hK _ X rfl (br _ _)
  refine Zi rfl rfl ?_
  clear hK hg
  go_simp
  simpa [updT,e6] using h):P:=h
theorem PS {P:Prop} (h:P:=by
  have h:=hK _ X rfl (br _ _)
  refine Za rfl (by simp [Region.wanted,yielded,e7]) ?_
  clear hK hg
  go_simp
  simpa [updT,e7] using h):P:=h
theorem O8 {P:Prop} (h:P:=by
  have h:=hK _ X rfl (br _ _)
  refine Zi rfl rfl ?_
  clear hK hg
  go_simp
  simpa [updT,e5] using h):P:=h
abbrev Gr:Array Oper:=#[⟨some 2,.move (.tmp 0),125,GP,#[],none⟩,⟨some 3,.nilCheck (.tmp 2),0,GP,#[⟨0,.data⟩],none⟩,⟨some 4,.fieldAddr 122 (.tmp 3) 0,0,GP,#[⟨1,.data⟩],none⟩,⟨some 5,.load 81 (.tmp 4),81,GP,#[⟨2,.data⟩],none⟩,⟨some 6,.nilCheck (.tmp 5),0,GP,#[⟨3,.data⟩],none⟩,⟨some 7,.fieldAddr 38 (.tmp 6) 8,0,GP,#[⟨4,.data⟩],none⟩,⟨some 8,.load 4 (.tmp 7),4,GP,#[⟨5,.data⟩],none⟩,⟨some 9,.move (.tmp 8),4,GP,#[⟨6,.data⟩],none⟩,⟨some 10,.move (.tmp 0),125,GP,#[⟨7,.guard⟩],some (7,true)⟩,⟨some 11,.nilCheck (.tmp 10),0,GP,#[⟨8,.data⟩,⟨7,.guard⟩],some (7,true)⟩,⟨some 12,.fieldAddr 122 (.tmp 11) 0,0,GP,#[⟨9,.data⟩,⟨7,.guard⟩],some (7,true)⟩,⟨some 13,.load 81 (.tmp 12),81,GP,#[⟨10,.data⟩,⟨7,.guard⟩],some (7,true)⟩,⟨some 14,.nilCheck (.tmp 13),0,GP,#[⟨11,.data⟩,⟨7,.guard⟩],some (7,true)⟩,⟨some 15,.fieldAddr 38 (.tmp 14) 3,0,GP,#[⟨12,.data⟩,⟨7,.guard⟩],some (7,true)⟩,⟨some 16,.fieldAddr 34 (.tmp 15) 0,0,GP,#[⟨13,.data⟩,⟨7,.guard⟩],some (7,true)⟩,⟨some 17,.load 3 (.tmp 16),3,GP,#[⟨14,.data⟩,⟨7,.guard⟩],some (7,true)⟩,⟨some 18,.move (.tmp 0),125,GP,#[⟨7,.guard⟩],some (7,true)⟩,⟨some 19,.nilCheck (.tmp 18),0,GP,#[⟨16,.data⟩,⟨7,.guard⟩],some (7,true)⟩,⟨some 20,.fieldAddr 122 (.tmp 19) 0,0,GP,#[⟨17,.data⟩,⟨7,.guard⟩],some (7,true)⟩,⟨some 21,.load 81 (.tmp 20),81,GP,#[⟨18,.data⟩,⟨7,.guard⟩],some (7,true)⟩,⟨some 22,.nilCheck (.tmp 21),0,GP,#[⟨19,.data⟩,⟨7,.guard⟩],some (7,true)⟩,⟨some 23,.fieldAddr 38 (.tmp 22) 9,0,GP,#[⟨20,.data⟩,⟨7,.guard⟩],some (7,true)⟩,⟨some 24,.load 3 (.tmp 23),3,GP,#[⟨21,.data⟩,⟨7,.guard⟩],some (7,true)⟩,⟨some 25,.binOp .eql 3 (.tmp 17) (.tmp 24) 3,4,GP,#[⟨15,.data⟩,⟨22,.data⟩,⟨7,.guard⟩],some (7,true)⟩,⟨some 26,.pick (.tmp 9) (.tmp 25) (.const (.bool false)),4,GP,#[⟨7,.data⟩,⟨23,.data⟩],none⟩]
set_option maxRecDepth 100000 in
theorem Ou (p1 z9 yd z8 z0 zu zy zt yg yi yj yh yk ym yo yr yt xo jo jm jp j7:Value) (w0 w1 w2 w3 w4 w5 w6 w7 w8 w9 w10 w11 w12 w13 w14 w15 w16 w17 w18 w19 w20 w21 w22 w23:Value) (T B:Nat) (r:Rc) (p:RcP) (W:World) (hT:T<W.1.size) (hB:B<W.1.size) (cT0:W.cell? ⟨T,0,none⟩=some (.pointer (some ⟨B,0,none⟩))) (cB12:W.cell? ⟨B,12,none⟩=some (.bool true)) (cB3:W.cell? ⟨B,3,none⟩=some (.int .i64 r.sf.pr)) (cB13:W.cell? ⟨B,13,none⟩=some (.int .i64 r.bal)) (Q:Exit→Act→World→Prop) (hQ:∀ (t:Nat→Value) (v3:Value) X,v3=.bool (r.sf.pr==r.bal)∧Below W.1.size W X→Q .normal ⟨#[.pointer (some ⟨T,0,none⟩),p1,t 0,t 1,t 2,t 3,t 4,t 5,t 6,t 7,t 8,t 9,t 10,t 11,t 12,t 13,t 14,t 15,t 16,t 17,t 18,t 19,t 20,t 21,t 22,t 23,v3,yd,z8,z0,zu,zy,zt,yg,yi,yj,yh,yk,ym,yo,yr,yt,xo,jo,jm,jp,j7],[]⟩ X) :
  Code.wp Tryz.prog (Code.region 0 Gr true) Q ⟨#[.pointer (some ⟨T,0,none⟩),p1,w0,w1,w2,w3,w4,w5,w6,w7,w8,w9,w10,w11,w12,w13,w14,w15,w16,w17,w18,w19,w20,w21,w22,w23,z9,yd,z8,z0,zu,zy,zt,yg,yi,yj,yh,yk,ym,yo,yr,yt,xo,jo,jm,jp,j7],[]⟩ W:=by
 refine ZL (by kernel_rfl) 24 (fun t:Nat→Value=>#[.pointer (some ⟨T,0,none⟩),p1,t 0,t 1,t 2,t 3,t 4,t 5,t 6,t 7,t 8,t 9,t 10,t 11,t 12,t 13,t 14,t 15,t 16,t 17,t 18,t 19,t 20,t 21,t 22,t 23,z9,yd,z8,z0,zu,zy,zt,yg,yi,yj,yh,yk,ym,yo,yr,yt,xo,jo,jm,jp,j7]) (fun i=>match i with|0=>w0|1=>w1|2=>w2|3=>w3|4=>w4|5=>w5|6=>w6|7=>w7|8=>w8|9=>w9|10=>w10|11=>w11|12=>w12|13=>w13|14=>w14|15=>w15|16=>w16|17=>w17|18=>w18|19=>w19|20=>w20|21=>w21|22=>w22|_=>w23) (Eo T B r p) (fun a X=>∃ (t:Nat→Value) (v3:Value),a=⟨#[.pointer (some ⟨T,0,none⟩),p1,t 0,t 1,t 2,t 3,t 4,t 5,t 6,t 7,t 8,t 9,t 10,t 11,t 12,t 13,t 14,t 15,t 16,t 17,t 18,t 19,t 20,t 21,t 22,t 23,v3,yd,z8,z0,zu,zy,zt,yg,yi,yj,yh,yk,ym,yo,yr,yt,xo,jo,jm,jp,j7],[]⟩∧v3=.bool (r.sf.pr==r.bal)∧Below W.1.size W X) (by kernel_rfl) (by kernel_rfl) (by kernel_rfl) ?_ rfl ?_ ?_ ?_
 ·exact fun _ _ _ _ _ h _=>h
 ·intro i hi t X K hb hg hK
  rcases (show i=0∨i=1∨i=2∨i=3∨i=4∨i=5∨i=6∨i=7∨i=8∨i=9∨i=10∨i=11∨i=12∨i=13∨i=14∨i=15∨i=16∨i=17∨i=18∨i=19∨i=20∨i=21∨i=22∨i=23 by omega) with rfl|rfl|rfl|rfl|rfl|rfl|rfl|rfl|rfl|rfl|rfl|rfl|rfl|rfl|rfl|rfl|rfl|rfl|rfl|rfl|rfl|rfl|rfl|rfl
  ·exact UT
  ·exact N9
  ·exact N8
  ·exact Ia
  ·exact N7
  ·exact O9
  ·have e5:t 5=.pointer (some ⟨B,12,none⟩):=hg 5 (Wt rfl)
   have f1:=(hb.cell (p:=⟨B,12,none⟩) hB).trans cB12
   exact O8
  ·have e6:t 6=.bool true:=hg 6 (Wt rfl)
   exact N4
  ·have e7:t 7=.bool true:=hg 7 ⟨_,rfl,⟨7,.guard⟩,by simp,rfl,rfl⟩
   exact PS
  ·have e8:t 8=.pointer (some ⟨T,0,none⟩):=hg 8 (Wt rfl)
   have e7:t 7=.bool true:=hg 7 ⟨_,rfl,⟨7,.guard⟩,by simp,rfl,rfl⟩
   have h:=hK _ X rfl (br _ _)
   refine Za rfl (by simp [Region.wanted,yielded,e7]) ?_
   clear hK hg
   go_simp
   simpa [updT,e8,e7] using h
  ·have e9:t 9=.pointer (some ⟨T,0,none⟩):=hg 9 (Wt rfl)
   have e7:t 7=.bool true:=hg 7 ⟨_,rfl,⟨7,.guard⟩,by simp,rfl,rfl⟩
   have h:=hK _ X rfl (br _ _)
   refine Za rfl (by simp [Region.wanted,yielded,e7]) ?_
   clear hK hg
   go_simp
   simpa [updT,e9,e7] using h
  ·have e10:t 10=.pointer (some ⟨T,0,none⟩):=hg 10 (Wt rfl)
   have f1:=(hb.cell (p:=⟨T,0,none⟩) hT).trans cT0
   have e7:t 7=.bool true:=hg 7 ⟨_,rfl,⟨7,.guard⟩,by simp,rfl,rfl⟩
   have h:=hK _ X rfl (br _ _)
   refine Za rfl (by simp [Region.wanted,yielded,e7]) ?_
   clear hK hg
   go_simp
   simpa [updT,e10,e7] using h
  ·have e11:t 11=.pointer (some ⟨B,0,none⟩):=hg 11 (Wt rfl)
   have e7:t 7=.bool true:=hg 7 ⟨_,rfl,⟨7,.guard⟩,by simp,rfl,rfl⟩
   have h:=hK _ X rfl (br _ _)
   refine Za rfl (by simp [Region.wanted,yielded,e7]) ?_
   clear hK hg
   go_simp
   simpa [updT,e11,e7] using h
  ·have e12:t 12=.pointer (some ⟨B,0,none⟩):=hg 12 (Wt rfl)
   have e7:t 7=.bool true:=hg 7 ⟨_,rfl,⟨7,.guard⟩,by simp,rfl,rfl⟩
   have h:=hK _ X rfl (br _ _)
   refine Za rfl (by simp [Region.wanted,yielded,e7]) ?_
   clear hK hg
   go_simp
   simpa [updT,e12,e7] using h
  ·have e13:t 13=.pointer (some ⟨B,3,none⟩):=hg 13 (Wt rfl)
   have e7:t 7=.bool true:=hg 7 ⟨_,rfl,⟨7,.guard⟩,by simp,rfl,rfl⟩
   have h:=hK _ X rfl (br _ _)
   refine Za rfl (by simp [Region.wanted,yielded,e7]) ?_
   clear hK hg
   go_simp
   simpa [updT,e13,e7] using h
  ·have e14:t 14=.pointer (some ⟨B,3,none⟩):=hg 14 (Wt rfl)
   have f1:=(hb.cell (p:=⟨B,3,none⟩) hB).trans cB3
   have e7:t 7=.bool true:=hg 7 ⟨_,rfl,⟨7,.guard⟩,by simp,rfl,rfl⟩
   have h:=hK _ X rfl (br _ _)
   refine Za rfl (by simp [Region.wanted,yielded,e7]) ?_
   clear hK hg
   go_simp
   simpa [updT,e14,e7] using h
  ·have e7:t 7=.bool true:=hg 7 ⟨_,rfl,⟨7,.guard⟩,by simp,rfl,rfl⟩
   exact PS
  ·have e16:t 16=.pointer (some ⟨T,0,none⟩):=hg 16 (Wt rfl)
   have e7:t 7=.bool true:=hg 7 ⟨_,rfl,⟨7,.guard⟩,by simp,rfl,rfl⟩
   have h:=hK _ X rfl (br _ _)
   refine Za rfl (by simp [Region.wanted,yielded,e7]) ?_
   clear hK hg
   go_simp
   simpa [updT,e16,e7] using h
  ·have e17:t 17=.pointer (some ⟨T,0,none⟩):=hg 17 (Wt rfl)
   have e7:t 7=.bool true:=hg 7 ⟨_,rfl,⟨7,.guard⟩,by simp,rfl,rfl⟩
   have h:=hK _ X rfl (br _ _)
   refine Za rfl (by simp [Region.wanted,yielded,e7]) ?_
   clear hK hg
   go_simp
   simpa [updT,e17,e7] using h
  ·have e18:t 18=.pointer (some ⟨T,0,none⟩):=hg 18 (Wt rfl)
   have f1:=(hb.cell (p:=⟨T,0,none⟩) hT).trans cT0
   have e7:t 7=.bool true:=hg 7 ⟨_,rfl,⟨7,.guard⟩,by simp,rfl,rfl⟩
   have h:=hK _ X rfl (br _ _)
   refine Za rfl (by simp [Region.wanted,yielded,e7]) ?_
   clear hK hg
   go_simp
   simpa [updT,e18,e7] using h
  ·have e19:t 19=.pointer (some ⟨B,0,none⟩):=hg 19 (Wt rfl)
   have e7:t 7=.bool true:=hg 7 ⟨_,rfl,⟨7,.guard⟩,by simp,rfl,rfl⟩
   have h:=hK _ X rfl (br _ _)
   refine Za rfl (by simp [Region.wanted,yielded,e7]) ?_
   clear hK hg
   go_simp
   simpa [updT,e19,e7] using h
  ·have e20:t 20=.pointer (some ⟨B,0,none⟩):=hg 20 (Wt rfl)
   have e7:t 7=.bool true:=hg 7 ⟨_,rfl,⟨7,.guard⟩,by simp,rfl,rfl⟩
   have h:=hK _ X rfl (br _ _)
   refine Za rfl (by simp [Region.wanted,yielded,e7]) ?_
   clear hK hg
   go_simp
   simpa [updT,e20,e7] using h
  ·have e21:t 21=.pointer (some ⟨B,13,none⟩):=hg 21 (Wt rfl)
   have f1:=(hb.cell (p:=⟨B,13,none⟩) hB).trans cB13
   have e7:t 7=.bool true:=hg 7 ⟨_,rfl,⟨7,.guard⟩,by simp,rfl,rfl⟩
   have h:=hK _ X rfl (br _ _)
   refine Za rfl (by simp [Region.wanted,yielded,e7]) ?_
   clear hK hg
   go_simp
   simpa [updT,e21,e7] using h
  ·have e15:t 15=.int .i64 r.sf.pr:=hg 15 (Wt rfl)
   have e22:t 22=.int .i64 r.bal:=hg 22 (Wt rfl)
   have e7:t 7=.bool true:=hg 7 ⟨_,rfl,⟨7,.guard⟩,by simp,rfl,rfl⟩
   have h:=hK _ X rfl (br _ _)
   refine Za rfl (by simp [Region.wanted,yielded,e7]) ?_
   clear hK hg
   go_simp
   simpa [updT,e15,e22,e7] using h
 ·intro t X K hb hg hK
  have e7:t 7=.bool true:=hg 7 (by omega)
  have e23:t 23=.bool (r.sf.pr==r.bal):=hg 23 (by omega)
  have h:=hK _ X ⟨t,.bool (r.sf.pr==r.bal),rfl,rfl,hb⟩
  refine Zi rfl rfl ?_
  clear hK hg
  go_simp
  simpa [e7,e23] using h
 ·rintro a X ⟨t,v3,rfl,hp⟩
  exact hQ t v3 X hp
def Ep (T B:Nat) (_r:Rc) (_p:RcP) (i:Nat) (v:Value) (_X:World):Prop:=
 match i with
 | 0=>v=.pointer (some ⟨T,0,none⟩)
 | 1=>v=.pointer (some ⟨T,0,none⟩)
 | 2=>v=.pointer (some ⟨T,0,none⟩)
 | 3=>v=.pointer (some ⟨B,0,none⟩)
 | 4=>v=.pointer (some ⟨B,0,none⟩)
 | 5=>v=.pointer (some ⟨B,12,none⟩)
 | 6=>v=.bool false
 | 7=>v=.bool false
 | 8=>v=undef
 | 9=>v=undef
 | 10=>v=undef
 | 11=>v=undef
 | 12=>v=undef
 | 13=>v=undef
 | 14=>v=undef
 | 15=>v=undef
 | 16=>v=undef
 | 17=>v=undef
 | 18=>v=undef
 | 19=>v=undef
 | 20=>v=undef
 | 21=>v=undef
 | 22=>v=undef
 | 23=>v=undef
 | _=>True
theorem PT {P:Prop} (h:P:=by
  have h:=hK undef X rfl (br _ _)
  refine Zk rfl (by simp [Region.wanted,yielded,e7]) ?_
  clear hK hg
  go_simp
  simpa [updT,e7] using h):P:=h
set_option maxRecDepth 100000 in
theorem Fh (p1 z9 yd z8 z0 zu zy zt yg yi yj yh yk ym yo yr yt xo jo jm jp j7:Value) (w0 w1 w2 w3 w4 w5 w6 w7 w8 w9 w10 w11 w12 w13 w14 w15 w16 w17 w18 w19 w20 w21 w22 w23:Value) (T B:Nat) (r:Rc) (p:RcP) (W:World) (hT:T<W.1.size) (hB:B<W.1.size) (cT0:W.cell? ⟨T,0,none⟩=some (.pointer (some ⟨B,0,none⟩))) (cB12:W.cell? ⟨B,12,none⟩=some (.bool false)) (_cB3:W.cell? ⟨B,3,none⟩=some (.int .i64 r.sf.pr)) (_cB13:W.cell? ⟨B,13,none⟩=some (.int .i64 r.bal)) (Q:Exit→Act→World→Prop) (hQ:∀ (t:Nat→Value) (v3:Value) X,v3=.bool false∧Below W.1.size W X→Q .normal ⟨#[.pointer (some ⟨T,0,none⟩),p1,t 0,t 1,t 2,t 3,t 4,t 5,t 6,t 7,t 8,t 9,t 10,t 11,t 12,t 13,t 14,t 15,t 16,t 17,t 18,t 19,t 20,t 21,t 22,t 23,v3,yd,z8,z0,zu,zy,zt,yg,yi,yj,yh,yk,ym,yo,yr,yt,xo,jo,jm,jp,j7],[]⟩ X) :
  Code.wp Tryz.prog (Code.region 0 Gr true) Q ⟨#[.pointer (some ⟨T,0,none⟩),p1,w0,w1,w2,w3,w4,w5,w6,w7,w8,w9,w10,w11,w12,w13,w14,w15,w16,w17,w18,w19,w20,w21,w22,w23,z9,yd,z8,z0,zu,zy,zt,yg,yi,yj,yh,yk,ym,yo,yr,yt,xo,jo,jm,jp,j7],[]⟩ W:=by
 refine ZL (by kernel_rfl) 24 (fun t:Nat→Value=>#[.pointer (some ⟨T,0,none⟩),p1,t 0,t 1,t 2,t 3,t 4,t 5,t 6,t 7,t 8,t 9,t 10,t 11,t 12,t 13,t 14,t 15,t 16,t 17,t 18,t 19,t 20,t 21,t 22,t 23,z9,yd,z8,z0,zu,zy,zt,yg,yi,yj,yh,yk,ym,yo,yr,yt,xo,jo,jm,jp,j7]) (fun i=>match i with|0=>w0|1=>w1|2=>w2|3=>w3|4=>w4|5=>w5|6=>w6|7=>w7|8=>w8|9=>w9|10=>w10|11=>w11|12=>w12|13=>w13|14=>w14|15=>w15|16=>w16|17=>w17|18=>w18|19=>w19|20=>w20|21=>w21|22=>w22|_=>w23) (Ep T B r p) (fun a X=>∃ (t:Nat→Value) (v3:Value),a=⟨#[.pointer (some ⟨T,0,none⟩),p1,t 0,t 1,t 2,t 3,t 4,t 5,t 6,t 7,t 8,t 9,t 10,t 11,t 12,t 13,t 14,t 15,t 16,t 17,t 18,t 19,t 20,t 21,t 22,t 23,v3,yd,z8,z0,zu,zy,zt,yg,yi,yj,yh,yk,ym,yo,yr,yt,xo,jo,jm,jp,j7],[]⟩∧v3=.bool false∧Below W.1.size W X) (by kernel_rfl) (by kernel_rfl) (by kernel_rfl) ?_ rfl ?_ ?_ ?_
 ·exact fun _ _ _ _ _ h _=>h
 ·intro i hi t X K hb hg hK
  rcases (show i=0∨i=1∨i=2∨i=3∨i=4∨i=5∨i=6∨i=7∨i=8∨i=9∨i=10∨i=11∨i=12∨i=13∨i=14∨i=15∨i=16∨i=17∨i=18∨i=19∨i=20∨i=21∨i=22∨i=23 by omega) with rfl|rfl|rfl|rfl|rfl|rfl|rfl|rfl|rfl|rfl|rfl|rfl|rfl|rfl|rfl|rfl|rfl|rfl|rfl|rfl|rfl|rfl|rfl|rfl
  ·exact UT
  ·exact N9
  ·exact N8
  ·exact Ia
  ·exact N7
  ·exact O9
  ·have e5:t 5=.pointer (some ⟨B,12,none⟩):=hg 5 (Wt rfl)
   have f1:=(hb.cell (p:=⟨B,12,none⟩) hB).trans cB12
   exact O8
  ·have e6:t 6=.bool false:=hg 6 (Wt rfl)
   exact N4
  ·have e7:t 7=.bool false:=hg 7 ⟨_,rfl,⟨7,.guard⟩,by simp,rfl,rfl⟩
   exact PT
  ·have e8:t 8=undef:=hg 8 (Wt rfl)
   have e7:t 7=.bool false:=hg 7 ⟨_,rfl,⟨7,.guard⟩,by simp,rfl,rfl⟩
   have h:=hK undef X rfl (br _ _)
   refine Zk rfl (by simp [Region.wanted,yielded,e7]) ?_
   clear hK hg
   go_simp
   simpa [updT,e8,e7] using h
  ·have e9:t 9=undef:=hg 9 (Wt rfl)
   have e7:t 7=.bool false:=hg 7 ⟨_,rfl,⟨7,.guard⟩,by simp,rfl,rfl⟩
   have h:=hK undef X rfl (br _ _)
   refine Zk rfl (by simp [Region.wanted,yielded,e7]) ?_
   clear hK hg
   go_simp
   simpa [updT,e9,e7] using h
  ·have e10:t 10=undef:=hg 10 (Wt rfl)
   have e7:t 7=.bool false:=hg 7 ⟨_,rfl,⟨7,.guard⟩,by simp,rfl,rfl⟩
   have h:=hK undef X rfl (br _ _)
   refine Zk rfl (by simp [Region.wanted,yielded,e7]) ?_
   clear hK hg
   go_simp
   simpa [updT,e10,e7] using h
  ·have e11:t 11=undef:=hg 11 (Wt rfl)
   have e7:t 7=.bool false:=hg 7 ⟨_,rfl,⟨7,.guard⟩,by simp,rfl,rfl⟩
   have h:=hK undef X rfl (br _ _)
   refine Zk rfl (by simp [Region.wanted,yielded,e7]) ?_
   clear hK hg
   go_simp
   simpa [updT,e11,e7] using h
  ·have e12:t 12=undef:=hg 12 (Wt rfl)
   have e7:t 7=.bool false:=hg 7 ⟨_,rfl,⟨7,.guard⟩,by simp,rfl,rfl⟩
   have h:=hK undef X rfl (br _ _)
   refine Zk rfl (by simp [Region.wanted,yielded,e7]) ?_
   clear hK hg
   go_simp
   simpa [updT,e12,e7] using h
  ·have e13:t 13=undef:=hg 13 (Wt rfl)
   have e7:t 7=.bool false:=hg 7 ⟨_,rfl,⟨7,.guard⟩,by simp,rfl,rfl⟩
   have h:=hK undef X rfl (br _ _)
   refine Zk rfl (by simp [Region.wanted,yielded,e7]) ?_
   clear hK hg
   go_simp
   simpa [updT,e13,e7] using h
  ·have e14:t 14=undef:=hg 14 (Wt rfl)
   have e7:t 7=.bool false:=hg 7 ⟨_,rfl,⟨7,.guard⟩,by simp,rfl,rfl⟩
   have h:=hK undef X rfl (br _ _)
   refine Zk rfl (by simp [Region.wanted,yielded,e7]) ?_
   clear hK hg
   go_simp
   simpa [updT,e14,e7] using h
  ·have e7:t 7=.bool false:=hg 7 ⟨_,rfl,⟨7,.guard⟩,by simp,rfl,rfl⟩
   exact PT
  ·have e16:t 16=undef:=hg 16 (Wt rfl)
   have e7:t 7=.bool false:=hg 7 ⟨_,rfl,⟨7,.guard⟩,by simp,rfl,rfl⟩
   have h:=hK undef X rfl (br _ _)
   refine Zk rfl (by simp [Region.wanted,yielded,e7]) ?_
   clear hK hg
   go_simp
   simpa [updT,e16,e7] using h
  ·have e17:t 17=undef:=hg 17 (Wt rfl)
   have e7:t 7=.bool false:=hg 7 ⟨_,rfl,⟨7,.guard⟩,by simp,rfl,rfl⟩
   have h:=hK undef X rfl (br _ _)
   refine Zk rfl (by simp [Region.wanted,yielded,e7]) ?_
   clear hK hg
   go_simp
   simpa [updT,e17,e7] using h
  ·have e18:t 18=undef:=hg 18 (Wt rfl)
   have e7:t 7=.bool false:=hg 7 ⟨_,rfl,⟨7,.guard⟩,by simp,rfl,rfl⟩
   have h:=hK undef X rfl (br _ _)
   refine Zk rfl (by simp [Region.wanted,yielded,e7]) ?_
   clear hK hg
   go_simp
   simpa [updT,e18,e7] using h
  ·have e19:t 19=undef:=hg 19 (Wt rfl)
   have e7:t 7=.bool false:=hg 7 ⟨_,rfl,⟨7,.guard⟩,by simp,rfl,rfl⟩
   have h:=hK undef X rfl (br _ _)
   refine Zk rfl (by simp [Region.wanted,yielded,e7]) ?_
   clear hK hg
   go_simp
   simpa [updT,e19,e7] using h
  ·have e20:t 20=undef:=hg 20 (Wt rfl)
   have e7:t 7=.bool false:=hg 7 ⟨_,rfl,⟨7,.guard⟩,by simp,rfl,rfl⟩
   have h:=hK undef X rfl (br _ _)
   refine Zk rfl (by simp [Region.wanted,yielded,e7]) ?_
   clear hK hg
   go_simp
   simpa [updT,e20,e7] using h
  ·have e21:t 21=undef:=hg 21 (Wt rfl)
   have e7:t 7=.bool false:=hg 7 ⟨_,rfl,⟨7,.guard⟩,by simp,rfl,rfl⟩
   have h:=hK undef X rfl (br _ _)
   refine Zk rfl (by simp [Region.wanted,yielded,e7]) ?_
   clear hK hg
   go_simp
   simpa [updT,e21,e7] using h
  ·have e15:t 15=undef:=hg 15 (Wt rfl)
   have e22:t 22=undef:=hg 22 (Wt rfl)
   have e7:t 7=.bool false:=hg 7 ⟨_,rfl,⟨7,.guard⟩,by simp,rfl,rfl⟩
   have h:=hK undef X rfl (br _ _)
   refine Zk rfl (by simp [Region.wanted,yielded,e7]) ?_
   clear hK hg
   go_simp
   simpa [updT,e15,e22,e7] using h
 ·intro t X K hb hg hK
  have e7:t 7=.bool false:=hg 7 (by omega)
  have e23:t 23=undef:=hg 23 (by omega)
  have h:=hK _ X ⟨t,.bool false,rfl,rfl,hb⟩
  refine Zi rfl rfl ?_
  clear hK hg
  go_simp
  simpa [e7,e23] using h
 ·rintro a X ⟨t,v3,rfl,hp⟩
  exact hQ t v3 X hp
def Eg (T B:Nat) (r:Rc) (_p:RcP) (i:Nat) (v:Value) (_X:World):Prop:=
 match i with
 | 0=>v=.pointer (some ⟨T,0,none⟩)
 | 1=>v=.pointer (some ⟨T,0,none⟩)
 | 2=>v=.pointer (some ⟨T,0,none⟩)
 | 3=>v=.pointer (some ⟨B,0,none⟩)
 | 4=>v=.pointer (some ⟨B,0,none⟩)
 | 5=>v=.pointer (some ⟨B,11,none⟩)
 | 6=>v=.bool false
 | 7=>v=.bool false
 | 8=>v=.pointer (some ⟨T,0,none⟩)
 | 9=>v=.pointer (some ⟨T,0,none⟩)
 | 10=>v=.pointer (some ⟨T,0,none⟩)
 | 11=>v=.pointer (some ⟨B,0,none⟩)
 | 12=>v=.pointer (some ⟨B,0,none⟩)
 | 13=>v=.pointer (some ⟨B,17,none⟩)
 | 14=>v=.int .i64 r.hd
 | 15=>v=.pointer (some ⟨T,0,none⟩)
 | 16=>v=.pointer (some ⟨T,0,none⟩)
 | 17=>v=.pointer (some ⟨T,0,none⟩)
 | 18=>v=.pointer (some ⟨B,0,none⟩)
 | 19=>v=.pointer (some ⟨B,0,none⟩)
 | 20=>v=.pointer (some ⟨B,0,none⟩)
 | 21=>v=.int .i64 r.num
 | 22=>v=.int .i64 (3*r.num)
 | 23=>v=.int .i64 (4+3*r.num)
 | 24=>v=.bool (decide (r.hd≤4+3*r.num))
 | _=>True
abbrev Gs:Array Oper:=#[⟨some 3,.move (.tmp 0),125,GR,#[],none⟩,⟨some 4,.nilCheck (.tmp 3),0,GR,#[⟨0,.data⟩],none⟩,⟨some 5,.fieldAddr 122 (.tmp 4) 0,0,GR,#[⟨1,.data⟩],none⟩,⟨some 6,.load 81 (.tmp 5),81,GR,#[⟨2,.data⟩],none⟩,⟨some 7,.nilCheck (.tmp 6),0,GR,#[⟨3,.data⟩],none⟩,⟨some 8,.fieldAddr 38 (.tmp 7) 7,0,GR,#[⟨4,.data⟩],none⟩,⟨some 9,.load 4 (.tmp 8),4,GR,#[⟨5,.data⟩],none⟩,⟨some 10,.move (.tmp 9),4,GR,#[⟨6,.data⟩],none⟩,⟨some 11,.move (.tmp 0),125,GR,#[⟨7,.guard⟩],some (7,false)⟩,⟨some 12,.nilCheck (.tmp 11),0,GR,#[⟨8,.data⟩,⟨7,.guard⟩],some (7,false)⟩,⟨some 13,.fieldAddr 122 (.tmp 12) 0,0,GR,#[⟨9,.data⟩,⟨7,.guard⟩],some (7,false)⟩,⟨some 14,.load 81 (.tmp 13),81,GR,#[⟨10,.data⟩,⟨7,.guard⟩],some (7,false)⟩,⟨some 15,.nilCheck (.tmp 14),0,GR,#[⟨11,.data⟩,⟨7,.guard⟩],some (7,false)⟩,⟨some 16,.fieldAddr 38 (.tmp 15) 13,0,GR,#[⟨12,.data⟩,⟨7,.guard⟩],some (7,false)⟩,⟨some 17,.load 3 (.tmp 16),3,GR,#[⟨13,.data⟩,⟨7,.guard⟩],some (7,false)⟩,⟨some 18,.move (.tmp 0),125,GR,#[⟨7,.guard⟩],some (7,false)⟩,⟨some 19,.nilCheck (.tmp 18),0,GR,#[⟨15,.data⟩,⟨7,.guard⟩],some (7,false)⟩,⟨some 20,.fieldAddr 122 (.tmp 19) 0,0,GR,#[⟨16,.data⟩,⟨7,.guard⟩],some (7,false)⟩,⟨some 21,.load 81 (.tmp 20),81,GR,#[⟨17,.data⟩,⟨7,.guard⟩],some (7,false)⟩,⟨some 22,.nilCheck (.tmp 21),0,GR,#[⟨18,.data⟩,⟨7,.guard⟩],some (7,false)⟩,⟨some 23,.fieldAddr 38 (.tmp 22) 0,0,GR,#[⟨19,.data⟩,⟨7,.guard⟩],some (7,false)⟩,⟨some 24,.load 3 (.tmp 23),3,GR,#[⟨20,.data⟩,⟨7,.guard⟩],some (7,false)⟩,⟨some 25,.binOp .mul 3 (.const (.int .i64 3)) (.tmp 24) 3,3,GR,#[⟨21,.data⟩,⟨7,.guard⟩],some (7,false)⟩,⟨some 26,.binOp .add 3 (.const (.int .i64 4)) (.tmp 25) 3,3,GR,#[⟨22,.data⟩,⟨7,.guard⟩],some (7,false)⟩,⟨some 27,.binOp .leq 3 (.tmp 17) (.tmp 26) 3,4,GR,#[⟨14,.data⟩,⟨23,.data⟩,⟨7,.guard⟩],some (7,false)⟩,⟨some 28,.pick (.tmp 10) (.const (.bool true)) (.tmp 27),4,GR,#[⟨7,.data⟩,⟨24,.data⟩],none⟩]
set_option maxRecDepth 100000 in
theorem I8 (p1 p2 z8 z0 zu zy zt yg yi yj yh yk ym yo yr yt xo jo jm jp j7 kj ko j8 j5 j9 kg kd jw ju yp yq yv yw xx xy xc yu yx xb xd xg xk xe xh js x9 jk jj ji jl xw yz xi xm xa xf xj xl yy xn xp xq xr xu xt jt jr jq kf ke kk kq kh:Value) (w0 w1 w2 w3 w4 w5 w6 w7 w8 w9 w10 w11 w12 w13 w14 w15 w16 w17 w18 w19 w20 w21 w22 w23 w24:Value) (T B:Nat) (r:Rc) (p:RcP) (W:World) (hT:T<W.1.size) (hB:B<W.1.size) (cT0:W.cell? ⟨T,0,none⟩=some (.pointer (some ⟨B,0,none⟩))) (cB11:W.cell? ⟨B,11,none⟩=some (.bool false)) (cB17:W.cell? ⟨B,17,none⟩=some (.int .i64 r.hd)) (cB0:W.cell? ⟨B,0,none⟩=some (.int .i64 r.num)) (h0:0≤r.num) (h1:r.num≤1000) (Q:Exit→Act→World→Prop) (hQ:∀ (t:Nat→Value) (v3:Value) X,v3=.bool (decide (r.hd≤4+3*r.num))∧Below W.1.size W X→Q .normal ⟨#[.pointer (some ⟨T,0,none⟩),p1,p2,t 0,t 1,t 2,t 3,t 4,t 5,t 6,t 7,t 8,t 9,t 10,t 11,t 12,t 13,t 14,t 15,t 16,t 17,t 18,t 19,t 20,t 21,t 22,t 23,t 24,v3,z0,zu,zy,zt,yg,yi,yj,yh,yk,ym,yo,yr,yt,xo,jo,jm,jp,j7,kj,ko,j8,j5,j9,kg,kd,jw,ju,yp,yq,yv,yw,xx,xy,xc,yu,yx,xb,xd,xg,xk,xe,xh,js,x9,jk,jj,ji,jl,xw,yz,xi,xm,xa,xf,xj,xl,yy,xn,xp,xq,xr,xu,xt,jt,jr,jq,kf,ke,kk,kq,kh],[]⟩ X) :
  Code.wp Tryz.prog (Code.region 0 Gs true) Q ⟨#[.pointer (some ⟨T,0,none⟩),p1,p2,w0,w1,w2,w3,w4,w5,w6,w7,w8,w9,w10,w11,w12,w13,w14,w15,w16,w17,w18,w19,w20,w21,w22,w23,w24,z8,z0,zu,zy,zt,yg,yi,yj,yh,yk,ym,yo,yr,yt,xo,jo,jm,jp,j7,kj,ko,j8,j5,j9,kg,kd,jw,ju,yp,yq,yv,yw,xx,xy,xc,yu,yx,xb,xd,xg,xk,xe,xh,js,x9,jk,jj,ji,jl,xw,yz,xi,xm,xa,xf,xj,xl,yy,xn,xp,xq,xr,xu,xt,jt,jr,jq,kf,ke,kk,kq,kh],[]⟩ W:=by
 refine ZL (by kernel_rfl) 25 (fun t:Nat→Value=>#[.pointer (some ⟨T,0,none⟩),p1,p2,t 0,t 1,t 2,t 3,t 4,t 5,t 6,t 7,t 8,t 9,t 10,t 11,t 12,t 13,t 14,t 15,t 16,t 17,t 18,t 19,t 20,t 21,t 22,t 23,t 24,z8,z0,zu,zy,zt,yg,yi,yj,yh,yk,ym,yo,yr,yt,xo,jo,jm,jp,j7,kj,ko,j8,j5,j9,kg,kd,jw,ju,yp,yq,yv,yw,xx,xy,xc,yu,yx,xb,xd,xg,xk,xe,xh,js,x9,jk,jj,ji,jl,xw,yz,xi,xm,xa,xf,xj,xl,yy,xn,xp,xq,xr,xu,xt,jt,jr,jq,kf,ke,kk,kq,kh]) (fun i=>match i with|0=>w0|1=>w1|2=>w2|3=>w3|4=>w4|5=>w5|6=>w6|7=>w7|8=>w8|9=>w9|10=>w10|11=>w11|12=>w12|13=>w13|14=>w14|15=>w15|16=>w16|17=>w17|18=>w18|19=>w19|20=>w20|21=>w21|22=>w22|23=>w23|_=>w24) (Eg T B r p) (fun a X=>∃ (t:Nat→Value) (v3:Value),a=⟨#[.pointer (some ⟨T,0,none⟩),p1,p2,t 0,t 1,t 2,t 3,t 4,t 5,t 6,t 7,t 8,t 9,t 10,t 11,t 12,t 13,t 14,t 15,t 16,t 17,t 18,t 19,t 20,t 21,t 22,t 23,t 24,v3,z0,zu,zy,zt,yg,yi,yj,yh,yk,ym,yo,yr,yt,xo,jo,jm,jp,j7,kj,ko,j8,j5,j9,kg,kd,jw,ju,yp,yq,yv,yw,xx,xy,xc,yu,yx,xb,xd,xg,xk,xe,xh,js,x9,jk,jj,ji,jl,xw,yz,xi,xm,xa,xf,xj,xl,yy,xn,xp,xq,xr,xu,xt,jt,jr,jq,kf,ke,kk,kq,kh],[]⟩∧v3=.bool (decide (r.hd≤4+3*r.num))∧Below W.1.size W X) (by kernel_rfl) (by kernel_rfl) (by kernel_rfl) ?_ rfl ?_ ?_ ?_
 ·exact fun _ _ _ _ _ h _=>h
 ·intro i hi t X K hb hg hK
  rcases (show i=0∨i=1∨i=2∨i=3∨i=4∨i=5∨i=6∨i=7∨i=8∨i=9∨i=10∨i=11∨i=12∨i=13∨i=14∨i=15∨i=16∨i=17∨i=18∨i=19∨i=20∨i=21∨i=22∨i=23∨i=24 by omega) with rfl|rfl|rfl|rfl|rfl|rfl|rfl|rfl|rfl|rfl|rfl|rfl|rfl|rfl|rfl|rfl|rfl|rfl|rfl|rfl|rfl|rfl|rfl|rfl|rfl
  ·exact UT
  ·exact N9
  ·exact N8
  ·exact Ia
  ·exact N7
  ·exact O9
  ·have e5:t 5=.pointer (some ⟨B,11,none⟩):=hg 5 (Wt rfl)
   have f1:=(hb.cell (p:=⟨B,11,none⟩) hB).trans cB11
   exact O8
  ·have e6:t 6=.bool false:=hg 6 (Wt rfl)
   exact N4
  ·have e7:t 7=.bool false:=hg 7 ⟨_,rfl,⟨7,.guard⟩,by simp,rfl,rfl⟩
   exact PS
  ·have e8:t 8=.pointer (some ⟨T,0,none⟩):=hg 8 (Wt rfl)
   have e7:t 7=.bool false:=hg 7 ⟨_,rfl,⟨7,.guard⟩,by simp,rfl,rfl⟩
   have h:=hK _ X rfl (br _ _)
   refine Za rfl (by simp [Region.wanted,yielded,e7]) ?_
   clear hK hg
   go_simp
   simpa [updT,e8,e7] using h
  ·have e9:t 9=.pointer (some ⟨T,0,none⟩):=hg 9 (Wt rfl)
   have e7:t 7=.bool false:=hg 7 ⟨_,rfl,⟨7,.guard⟩,by simp,rfl,rfl⟩
   have h:=hK _ X rfl (br _ _)
   refine Za rfl (by simp [Region.wanted,yielded,e7]) ?_
   clear hK hg
   go_simp
   simpa [updT,e9,e7] using h
  ·have e10:t 10=.pointer (some ⟨T,0,none⟩):=hg 10 (Wt rfl)
   have f1:=(hb.cell (p:=⟨T,0,none⟩) hT).trans cT0
   have e7:t 7=.bool false:=hg 7 ⟨_,rfl,⟨7,.guard⟩,by simp,rfl,rfl⟩
   have h:=hK _ X rfl (br _ _)
   refine Za rfl (by simp [Region.wanted,yielded,e7]) ?_
   clear hK hg
   go_simp
   simpa [updT,e10,e7] using h
  ·have e11:t 11=.pointer (some ⟨B,0,none⟩):=hg 11 (Wt rfl)
   have e7:t 7=.bool false:=hg 7 ⟨_,rfl,⟨7,.guard⟩,by simp,rfl,rfl⟩
   have h:=hK _ X rfl (br _ _)
   refine Za rfl (by simp [Region.wanted,yielded,e7]) ?_
   clear hK hg
   go_simp
   simpa [updT,e11,e7] using h
  ·have e12:t 12=.pointer (some ⟨B,0,none⟩):=hg 12 (Wt rfl)
   have e7:t 7=.bool false:=hg 7 ⟨_,rfl,⟨7,.guard⟩,by simp,rfl,rfl⟩
   have h:=hK _ X rfl (br _ _)
   refine Za rfl (by simp [Region.wanted,yielded,e7]) ?_
   clear hK hg
   go_simp
   simpa [updT,e12,e7] using h
  ·have e13:t 13=.pointer (some ⟨B,17,none⟩):=hg 13 (Wt rfl)
   have f1:=(hb.cell (p:=⟨B,17,none⟩) hB).trans cB17
   have e7:t 7=.bool false:=hg 7 ⟨_,rfl,⟨7,.guard⟩,by simp,rfl,rfl⟩
   have h:=hK _ X rfl (br _ _)
   refine Za rfl (by simp [Region.wanted,yielded,e7]) ?_
   clear hK hg
   go_simp
   simpa [updT,e13,e7] using h
  ·have e7:t 7=.bool false:=hg 7 ⟨_,rfl,⟨7,.guard⟩,by simp,rfl,rfl⟩
   exact PS
  ·have e15:t 15=.pointer (some ⟨T,0,none⟩):=hg 15 (Wt rfl)
   have e7:t 7=.bool false:=hg 7 ⟨_,rfl,⟨7,.guard⟩,by simp,rfl,rfl⟩
   have h:=hK _ X rfl (br _ _)
   refine Za rfl (by simp [Region.wanted,yielded,e7]) ?_
   clear hK hg
   go_simp
   simpa [updT,e15,e7] using h
  ·have e16:t 16=.pointer (some ⟨T,0,none⟩):=hg 16 (Wt rfl)
   have e7:t 7=.bool false:=hg 7 ⟨_,rfl,⟨7,.guard⟩,by simp,rfl,rfl⟩
   have h:=hK _ X rfl (br _ _)
   refine Za rfl (by simp [Region.wanted,yielded,e7]) ?_
   clear hK hg
   go_simp
   simpa [updT,e16,e7] using h
  ·have e17:t 17=.pointer (some ⟨T,0,none⟩):=hg 17 (Wt rfl)
   have f1:=(hb.cell (p:=⟨T,0,none⟩) hT).trans cT0
   have e7:t 7=.bool false:=hg 7 ⟨_,rfl,⟨7,.guard⟩,by simp,rfl,rfl⟩
   have h:=hK _ X rfl (br _ _)
   refine Za rfl (by simp [Region.wanted,yielded,e7]) ?_
   clear hK hg
   go_simp
   simpa [updT,e17,e7] using h
  ·have e18:t 18=.pointer (some ⟨B,0,none⟩):=hg 18 (Wt rfl)
   have e7:t 7=.bool false:=hg 7 ⟨_,rfl,⟨7,.guard⟩,by simp,rfl,rfl⟩
   have h:=hK _ X rfl (br _ _)
   refine Za rfl (by simp [Region.wanted,yielded,e7]) ?_
   clear hK hg
   go_simp
   simpa [updT,e18,e7] using h
  ·have e19:t 19=.pointer (some ⟨B,0,none⟩):=hg 19 (Wt rfl)
   have e7:t 7=.bool false:=hg 7 ⟨_,rfl,⟨7,.guard⟩,by simp,rfl,rfl⟩
   have h:=hK _ X rfl (br _ _)
   refine Za rfl (by simp [Region.wanted,yielded,e7]) ?_
   clear hK hg
   go_simp
   simpa [updT,e19,e7] using h
  ·have e20:t 20=.pointer (some ⟨B,0,none⟩):=hg 20 (Wt rfl)
   have f1:=(hb.cell (p:=⟨B,0,none⟩) hB).trans cB0
   have e7:t 7=.bool false:=hg 7 ⟨_,rfl,⟨7,.guard⟩,by simp,rfl,rfl⟩
   have h:=hK _ X rfl (br _ _)
   refine Za rfl (by simp [Region.wanted,yielded,e7]) ?_
   clear hK hg
   go_simp
   simpa [updT,e20,e7] using h
  ·have e21:t 21=.int .i64 r.num:=hg 21 (Wt rfl)
   have e7:t 7=.bool false:=hg 7 ⟨_,rfl,⟨7,.guard⟩,by simp,rfl,rfl⟩
   have hw:IntKind.i64.wrap (3*r.num)=3*r.num:=by rw [IntKind.wrap_i64];omega
   have h:=hK _ X rfl (br _ _)
   refine Za rfl (by simp [Region.wanted,yielded,e7]) ?_
   clear hK hg
   go_simp
   simpa [updT,e21,e7,hw] using h
  ·have e22:t 22=.int .i64 (3*r.num):=hg 22 (Wt rfl)
   have e7:t 7=.bool false:=hg 7 ⟨_,rfl,⟨7,.guard⟩,by simp,rfl,rfl⟩
   have hw:IntKind.i64.wrap (4+3*r.num)=4+3*r.num:=by rw [IntKind.wrap_i64];omega
   have h:=hK _ X rfl (br _ _)
   refine Za rfl (by simp [Region.wanted,yielded,e7]) ?_
   clear hK hg
   go_simp
   simpa [updT,e22,e7,hw] using h
  ·have e14:t 14=.int .i64 r.hd:=hg 14 (Wt rfl)
   have e23:t 23=.int .i64 (4+3*r.num):=hg 23 (Wt rfl)
   have e7:t 7=.bool false:=hg 7 ⟨_,rfl,⟨7,.guard⟩,by simp,rfl,rfl⟩
   have h:=hK _ X rfl (br _ _)
   refine Za rfl (by simp [Region.wanted,yielded,e7]) ?_
   clear hK hg
   go_simp
   simpa [updT,e14,e23,e7] using h
 ·intro t X K hb hg hK
  have e7:t 7=.bool false:=hg 7 (by omega)
  have e24:t 24=.bool (decide (r.hd≤4+3*r.num)):=hg 24 (by omega)
  have h:=hK _ X ⟨t,.bool (decide (r.hd≤4+3*r.num)),rfl,rfl,hb⟩
  refine Zi rfl rfl ?_
  clear hK hg
  go_simp
  simpa [e7,e24] using h
 ·rintro a X ⟨t,v3,rfl,hp⟩
  exact hQ t v3 X hp
def Ef (T B:Nat) (_r:Rc) (_p:RcP) (i:Nat) (v:Value) (_X:World):Prop:=
 match i with
 | 0=>v=.pointer (some ⟨T,0,none⟩)
 | 1=>v=.pointer (some ⟨T,0,none⟩)
 | 2=>v=.pointer (some ⟨T,0,none⟩)
 | 3=>v=.pointer (some ⟨B,0,none⟩)
 | 4=>v=.pointer (some ⟨B,0,none⟩)
 | 5=>v=.pointer (some ⟨B,11,none⟩)
 | 6=>v=.bool true
 | 7=>v=.bool true
 | 8=>v=undef
 | 9=>v=undef
 | 10=>v=undef
 | 11=>v=undef
 | 12=>v=undef
 | 13=>v=undef
 | 14=>v=undef
 | 15=>v=undef
 | 16=>v=undef
 | 17=>v=undef
 | 18=>v=undef
 | 19=>v=undef
 | 20=>v=undef
 | 21=>v=undef
 | 22=>v=undef
 | 23=>v=undef
 | 24=>v=undef
 | _=>True
set_option maxRecDepth 100000 in
theorem EO (p1 p2 z8 z0 zu zy zt yg yi yj yh yk ym yo yr yt xo jo jm jp j7 kj ko j8 j5 j9 kg kd jw ju yp yq yv yw xx xy xc yu yx xb xd xg xk xe xh js x9 jk jj ji jl xw yz xi xm xa xf xj xl yy xn xp xq xr xu xt jt jr jq kf ke kk kq kh:Value) (w0 w1 w2 w3 w4 w5 w6 w7 w8 w9 w10 w11 w12 w13 w14 w15 w16 w17 w18 w19 w20 w21 w22 w23 w24:Value) (T B:Nat) (r:Rc) (p:RcP) (W:World) (hT:T<W.1.size) (hB:B<W.1.size) (cT0:W.cell? ⟨T,0,none⟩=some (.pointer (some ⟨B,0,none⟩))) (cB11:W.cell? ⟨B,11,none⟩=some (.bool true)) (_cB17:W.cell? ⟨B,17,none⟩=some (.int .i64 r.hd)) (_cB0:W.cell? ⟨B,0,none⟩=some (.int .i64 r.num)) (_h0:0≤r.num) (_h1:r.num≤1000) (Q:Exit→Act→World→Prop) (hQ:∀ (t:Nat→Value) (v3:Value) X,v3=.bool true∧Below W.1.size W X→Q .normal ⟨#[.pointer (some ⟨T,0,none⟩),p1,p2,t 0,t 1,t 2,t 3,t 4,t 5,t 6,t 7,t 8,t 9,t 10,t 11,t 12,t 13,t 14,t 15,t 16,t 17,t 18,t 19,t 20,t 21,t 22,t 23,t 24,v3,z0,zu,zy,zt,yg,yi,yj,yh,yk,ym,yo,yr,yt,xo,jo,jm,jp,j7,kj,ko,j8,j5,j9,kg,kd,jw,ju,yp,yq,yv,yw,xx,xy,xc,yu,yx,xb,xd,xg,xk,xe,xh,js,x9,jk,jj,ji,jl,xw,yz,xi,xm,xa,xf,xj,xl,yy,xn,xp,xq,xr,xu,xt,jt,jr,jq,kf,ke,kk,kq,kh],[]⟩ X) :
  Code.wp Tryz.prog (Code.region 0 Gs true) Q ⟨#[.pointer (some ⟨T,0,none⟩),p1,p2,w0,w1,w2,w3,w4,w5,w6,w7,w8,w9,w10,w11,w12,w13,w14,w15,w16,w17,w18,w19,w20,w21,w22,w23,w24,z8,z0,zu,zy,zt,yg,yi,yj,yh,yk,ym,yo,yr,yt,xo,jo,jm,jp,j7,kj,ko,j8,j5,j9,kg,kd,jw,ju,yp,yq,yv,yw,xx,xy,xc,yu,yx,xb,xd,xg,xk,xe,xh,js,x9,jk,jj,ji,jl,xw,yz,xi,xm,xa,xf,xj,xl,yy,xn,xp,xq,xr,xu,xt,jt,jr,jq,kf,ke,kk,kq,kh],[]⟩ W:=by
 refine ZL (by kernel_rfl) 25 (fun t:Nat→Value=>#[.pointer (some ⟨T,0,none⟩),p1,p2,t 0,t 1,t 2,t 3,t 4,t 5,t 6,t 7,t 8,t 9,t 10,t 11,t 12,t 13,t 14,t 15,t 16,t 17,t 18,t 19,t 20,t 21,t 22,t 23,t 24,z8,z0,zu,zy,zt,yg,yi,yj,yh,yk,ym,yo,yr,yt,xo,jo,jm,jp,j7,kj,ko,j8,j5,j9,kg,kd,jw,ju,yp,yq,yv,yw,xx,xy,xc,yu,yx,xb,xd,xg,xk,xe,xh,js,x9,jk,jj,ji,jl,xw,yz,xi,xm,xa,xf,xj,xl,yy,xn,xp,xq,xr,xu,xt,jt,jr,jq,kf,ke,kk,kq,kh]) (fun i=>match i with|0=>w0|1=>w1|2=>w2|3=>w3|4=>w4|5=>w5|6=>w6|7=>w7|8=>w8|9=>w9|10=>w10|11=>w11|12=>w12|13=>w13|14=>w14|15=>w15|16=>w16|17=>w17|18=>w18|19=>w19|20=>w20|21=>w21|22=>w22|23=>w23|_=>w24) (Ef T B r p) (fun a X=>∃ (t:Nat→Value) (v3:Value),a=⟨#[.pointer (some ⟨T,0,none⟩),p1,p2,t 0,t 1,t 2,t 3,t 4,t 5,t 6,t 7,t 8,t 9,t 10,t 11,t 12,t 13,t 14,t 15,t 16,t 17,t 18,t 19,t 20,t 21,t 22,t 23,t 24,v3,z0,zu,zy,zt,yg,yi,yj,yh,yk,ym,yo,yr,yt,xo,jo,jm,jp,j7,kj,ko,j8,j5,j9,kg,kd,jw,ju,yp,yq,yv,yw,xx,xy,xc,yu,yx,xb,xd,xg,xk,xe,xh,js,x9,jk,jj,ji,jl,xw,yz,xi,xm,xa,xf,xj,xl,yy,xn,xp,xq,xr,xu,xt,jt,jr,jq,kf,ke,kk,kq,kh],[]⟩∧v3=.bool true∧Below W.1.size W X) (by kernel_rfl) (by kernel_rfl) (by kernel_rfl) ?_ rfl ?_ ?_ ?_
 ·exact fun _ _ _ _ _ h _=>h
 ·intro i hi t X K hb hg hK
  rcases (show i=0∨i=1∨i=2∨i=3∨i=4∨i=5∨i=6∨i=7∨i=8∨i=9∨i=10∨i=11∨i=12∨i=13∨i=14∨i=15∨i=16∨i=17∨i=18∨i=19∨i=20∨i=21∨i=22∨i=23∨i=24 by omega) with rfl|rfl|rfl|rfl|rfl|rfl|rfl|rfl|rfl|rfl|rfl|rfl|rfl|rfl|rfl|rfl|rfl|rfl|rfl|rfl|rfl|rfl|rfl|rfl|rfl
  ·exact UT
  ·exact N9
  ·exact N8
  ·exact Ia
  ·exact N7
  ·exact O9
  ·have e5:t 5=.pointer (some ⟨B,11,none⟩):=hg 5 (Wt rfl)
   have f1:=(hb.cell (p:=⟨B,11,none⟩) hB).trans cB11
   exact O8
  ·have e6:t 6=.bool true:=hg 6 (Wt rfl)
   exact N4
  ·have e7:t 7=.bool true:=hg 7 ⟨_,rfl,⟨7,.guard⟩,by simp,rfl,rfl⟩
   exact PT
  ·have e8:t 8=undef:=hg 8 (Wt rfl)
   have e7:t 7=.bool true:=hg 7 ⟨_,rfl,⟨7,.guard⟩,by simp,rfl,rfl⟩
   have h:=hK undef X rfl (br _ _)
   refine Zk rfl (by simp [Region.wanted,yielded,e7]) ?_
   clear hK hg
   go_simp
   simpa [updT,e8,e7] using h
  ·have e9:t 9=undef:=hg 9 (Wt rfl)
   have e7:t 7=.bool true:=hg 7 ⟨_,rfl,⟨7,.guard⟩,by simp,rfl,rfl⟩
   have h:=hK undef X rfl (br _ _)
   refine Zk rfl (by simp [Region.wanted,yielded,e7]) ?_
   clear hK hg
   go_simp
   simpa [updT,e9,e7] using h
  ·have e10:t 10=undef:=hg 10 (Wt rfl)
   have e7:t 7=.bool true:=hg 7 ⟨_,rfl,⟨7,.guard⟩,by simp,rfl,rfl⟩
   have h:=hK undef X rfl (br _ _)
   refine Zk rfl (by simp [Region.wanted,yielded,e7]) ?_
   clear hK hg
   go_simp
   simpa [updT,e10,e7] using h
  ·have e11:t 11=undef:=hg 11 (Wt rfl)
   have e7:t 7=.bool true:=hg 7 ⟨_,rfl,⟨7,.guard⟩,by simp,rfl,rfl⟩
   have h:=hK undef X rfl (br _ _)
   refine Zk rfl (by simp [Region.wanted,yielded,e7]) ?_
   clear hK hg
   go_simp
   simpa [updT,e11,e7] using h
  ·have e12:t 12=undef:=hg 12 (Wt rfl)
   have e7:t 7=.bool true:=hg 7 ⟨_,rfl,⟨7,.guard⟩,by simp,rfl,rfl⟩
   have h:=hK undef X rfl (br _ _)
   refine Zk rfl (by simp [Region.wanted,yielded,e7]) ?_
   clear hK hg
   go_simp
   simpa [updT,e12,e7] using h
  ·have e13:t 13=undef:=hg 13 (Wt rfl)
   have e7:t 7=.bool true:=hg 7 ⟨_,rfl,⟨7,.guard⟩,by simp,rfl,rfl⟩
   have h:=hK undef X rfl (br _ _)
   refine Zk rfl (by simp [Region.wanted,yielded,e7]) ?_
   clear hK hg
   go_simp
   simpa [updT,e13,e7] using h
  ·have e7:t 7=.bool true:=hg 7 ⟨_,rfl,⟨7,.guard⟩,by simp,rfl,rfl⟩
   exact PT
  ·have e15:t 15=undef:=hg 15 (Wt rfl)
   have e7:t 7=.bool true:=hg 7 ⟨_,rfl,⟨7,.guard⟩,by simp,rfl,rfl⟩
   have h:=hK undef X rfl (br _ _)
   refine Zk rfl (by simp [Region.wanted,yielded,e7]) ?_
   clear hK hg
   go_simp
   simpa [updT,e15,e7] using h
  ·have e16:t 16=undef:=hg 16 (Wt rfl)
   have e7:t 7=.bool true:=hg 7 ⟨_,rfl,⟨7,.guard⟩,by simp,rfl,rfl⟩
   have h:=hK undef X rfl (br _ _)
   refine Zk rfl (by simp [Region.wanted,yielded,e7]) ?_
   clear hK hg
   go_simp
   simpa [updT,e16,e7] using h
  ·have e17:t 17=undef:=hg 17 (Wt rfl)
   have e7:t 7=.bool true:=hg 7 ⟨_,rfl,⟨7,.guard⟩,by simp,rfl,rfl⟩
   have h:=hK undef X rfl (br _ _)
   refine Zk rfl (by simp [Region.wanted,yielded,e7]) ?_
   clear hK hg
   go_simp
   simpa [updT,e17,e7] using h
  ·have e18:t 18=undef:=hg 18 (Wt rfl)
   have e7:t 7=.bool true:=hg 7 ⟨_,rfl,⟨7,.guard⟩,by simp,rfl,rfl⟩
   have h:=hK undef X rfl (br _ _)
   refine Zk rfl (by simp [Region.wanted,yielded,e7]) ?_
   clear hK hg
   go_simp
   simpa [updT,e18,e7] using h
  ·have e19:t 19=undef:=hg 19 (Wt rfl)
   have e7:t 7=.bool true:=hg 7 ⟨_,rfl,⟨7,.guard⟩,by simp,rfl,rfl⟩
   have h:=hK undef X rfl (br _ _)
   refine Zk rfl (by simp [Region.wanted,yielded,e7]) ?_
   clear hK hg
   go_simp
   simpa [updT,e19,e7] using h
  ·have e20:t 20=undef:=hg 20 (Wt rfl)
   have e7:t 7=.bool true:=hg 7 ⟨_,rfl,⟨7,.guard⟩,by simp,rfl,rfl⟩
   have h:=hK undef X rfl (br _ _)
   refine Zk rfl (by simp [Region.wanted,yielded,e7]) ?_
   clear hK hg
   go_simp
   simpa [updT,e20,e7] using h
  ·have e21:t 21=undef:=hg 21 (Wt rfl)
   have e7:t 7=.bool true:=hg 7 ⟨_,rfl,⟨7,.guard⟩,by simp,rfl,rfl⟩
   have h:=hK undef X rfl (br _ _)
   refine Zk rfl (by simp [Region.wanted,yielded,e7]) ?_
   clear hK hg
   go_simp
   simpa [updT,e21,e7] using h
  ·have e22:t 22=undef:=hg 22 (Wt rfl)
   have e7:t 7=.bool true:=hg 7 ⟨_,rfl,⟨7,.guard⟩,by simp,rfl,rfl⟩
   have h:=hK undef X rfl (br _ _)
   refine Zk rfl (by simp [Region.wanted,yielded,e7]) ?_
   clear hK hg
   go_simp
   simpa [updT,e22,e7] using h
  ·have e14:t 14=undef:=hg 14 (Wt rfl)
   have e23:t 23=undef:=hg 23 (Wt rfl)
   have e7:t 7=.bool true:=hg 7 ⟨_,rfl,⟨7,.guard⟩,by simp,rfl,rfl⟩
   have h:=hK undef X rfl (br _ _)
   refine Zk rfl (by simp [Region.wanted,yielded,e7]) ?_
   clear hK hg
   go_simp
   simpa [updT,e14,e23,e7] using h
 ·intro t X K hb hg hK
  have e7:t 7=.bool true:=hg 7 (by omega)
  have e24:t 24=undef:=hg 24 (by omega)
  have h:=hK _ X ⟨t,.bool true,rfl,rfl,hb⟩
  refine Zi rfl rfl ?_
  clear hK hg
  go_simp
  simpa [e7,e24] using h
 ·rintro a X ⟨t,v3,rfl,hp⟩
  exact hQ t v3 X hp
def EN (T B:Nat) (r:Rc) (_p:RcP) (i:Nat) (v:Value) (_X:World):Prop:=
 match i with
 | 0=>v=.pointer (some ⟨T,0,none⟩)
 | 1=>v=.pointer (some ⟨T,0,none⟩)
 | 2=>v=.pointer (some ⟨T,0,none⟩)
 | 3=>v=.pointer (some ⟨B,0,none⟩)
 | 4=>v=.pointer (some ⟨B,0,none⟩)
 | 5=>v=.pointer (some ⟨B,6,none⟩)
 | 6=>v=.pointer (some ⟨B,6,none⟩)
 | 7=>v=.int .i64 r.dk.pr
 | 8=>v=.pointer (some ⟨T,0,none⟩)
 | 9=>v=.pointer (some ⟨T,0,none⟩)
 | 10=>v=.pointer (some ⟨T,0,none⟩)
 | 11=>v=.pointer (some ⟨B,0,none⟩)
 | 12=>v=.pointer (some ⟨B,0,none⟩)
 | 13=>v=.pointer (some ⟨B,0,none⟩)
 | 14=>v=.int .i64 r.num
 | 15=>v=.pointer (some ⟨T,0,none⟩)
 | 16=>v=.pointer (some ⟨T,0,none⟩)
 | 17=>v=.pointer (some ⟨T,0,none⟩)
 | 18=>v=.pointer (some ⟨B,0,none⟩)
 | 19=>v=.pointer (some ⟨B,0,none⟩)
 | 20=>v=.pointer (some ⟨B,1,none⟩)
 | 21=>v=.int .i64 r.of
 | _=>True
theorem Gi {P:Prop} (h:P:=by
  have e10:t 10=.pointer (some ⟨T,0,none⟩):=hg 10 (Wt rfl)
  have f1:=(hb.cell (p:=⟨T,0,none⟩) hT).trans cT0
  have h:=hK _ X rfl (br _ _)
  refine Zi rfl rfl ?_
  clear hK hg
  go_simp
  simpa [updT,e10] using h):P:=h
set_option maxRecDepth 100000 in
theorem ttlReg3 (p1 p2 p3 p4 p5 p6 p7 p8 p9 ze zc za zd zi zj zg zh zn zm zo zp zq yb yf ye z9 yd z8 z0 zu zy zt yg yi yj yh yk ym yo xc yu yx xb xd xg xk xe xh js x9 jk jj ji jl xw yz xi xm xa xf xj xl yy xn xp xq xr xu xt jt jr jq kf ke kk kq kh:Value) (w0 w1 w2 w3 w4 w5 w6 w7 w8 w9 w10 w11 w12 w13 w14 w15 w16 w17 w18 w19 w20 w21:Value) (T B:Nat) (r:Rc) (p:RcP) (W:World) (hT:T<W.1.size) (hB:B<W.1.size) (cT0:W.cell? ⟨T,0,none⟩=some (.pointer (some ⟨B,0,none⟩))) (cB6:W.cell? ⟨B,6,none⟩=some (.int .i64 r.dk.pr)) (cB0:W.cell? ⟨B,0,none⟩=some (.int .i64 r.num)) (cB1:W.cell? ⟨B,1,none⟩=some (.int .i64 r.of)) (Q:Exit→Act→World→Prop) (hQ:∀ (t:Nat→Value) (v3:Value) X,v3=.int .i64 (nbR r.dk.pr r.num r.of)∧Below W.1.size W X→Q .normal ⟨#[.pointer (some ⟨T,0,none⟩),p1,v3,p3,p4,p5,p6,p7,p8,p9,ze,zc,za,zd,zi,zj,zg,zh,zn,zm,zo,zp,zq,yb,yf,ye,z9,yd,z8,z0,zu,zy,zt,yg,yi,yj,yh,yk,ym,yo,t 0,t 1,t 2,t 3,t 4,t 5,t 6,t 7,t 8,t 9,t 10,t 11,t 12,t 13,t 14,t 15,t 16,t 17,t 18,t 19,t 20,t 21,v3,yu,yx,xb,xd,xg,xk,xe,xh,js,x9,jk,jj,ji,jl,xw,yz,xi,xm,xa,xf,xj,xl,yy,xn,xp,xq,xr,xu,xt,jt,jr,jq,kf,ke,kk,kq,kh],[]⟩ X) :
  Code.wp Tryz.prog (Code.region 3 #[⟨some 40,.move (.tmp 0),125,GS,#[],none⟩,⟨some 41,.nilCheck (.tmp 40),0,GS,#[⟨0,.data⟩],none⟩,⟨some 42,.fieldAddr 122 (.tmp 41) 0,0,GS,#[⟨1,.data⟩],none⟩,⟨some 43,.load 81 (.tmp 42),81,GS,#[⟨2,.data⟩],none⟩,⟨some 44,.nilCheck (.tmp 43),0,GS,#[⟨3,.data⟩],none⟩,⟨some 45,.fieldAddr 38 (.tmp 44) 4,0,GS,#[⟨4,.data⟩],none⟩,⟨some 46,.fieldAddr 34 (.tmp 45) 0,0,GS,#[⟨5,.data⟩],none⟩,⟨some 47,.load 3 (.tmp 46),3,GS,#[⟨6,.data⟩],none⟩,⟨some 48,.move (.tmp 0),125,GS,#[],none⟩,⟨some 49,.nilCheck (.tmp 48),0,GS,#[⟨8,.data⟩],none⟩,⟨some 50,.fieldAddr 122 (.tmp 49) 0,0,GS,#[⟨9,.data⟩],none⟩,⟨some 51,.load 81 (.tmp 50),81,GS,#[⟨10,.data⟩],none⟩,⟨some 52,.nilCheck (.tmp 51),0,GS,#[⟨11,.data⟩],none⟩,⟨some 53,.fieldAddr 38 (.tmp 52) 0,0,GS,#[⟨12,.data⟩],none⟩,⟨some 54,.load 3 (.tmp 53),3,GS,#[⟨13,.data⟩],none⟩,⟨some 55,.move (.tmp 0),125,GS,#[],none⟩,⟨some 56,.nilCheck (.tmp 55),0,GS,#[⟨15,.data⟩],none⟩,⟨some 57,.fieldAddr 122 (.tmp 56) 0,0,GS,#[⟨16,.data⟩],none⟩,⟨some 58,.load 81 (.tmp 57),81,GS,#[⟨17,.data⟩],none⟩,⟨some 59,.nilCheck (.tmp 58),0,GS,#[⟨18,.data⟩],none⟩,⟨some 60,.fieldAddr 38 (.tmp 59) 1,0,GS,#[⟨19,.data⟩],none⟩,⟨some 61,.load 3 (.tmp 60),3,GS,#[⟨20,.data⟩],none⟩,⟨some 62,.call ⟨.value (.func 148),#[.tmp 47,.tmp 54,.tmp 61],#[3,3,3]⟩,3,GS,#[⟨7,.data⟩,⟨14,.data⟩,⟨21,.data⟩],none⟩,⟨some 2,.assign (.tmp 62),3,GS,#[⟨22,.data⟩,⟨22,.chain⟩,⟨0,.phase⟩,⟨1,.phase⟩,⟨2,.phase⟩,⟨3,.phase⟩,⟨4,.phase⟩,⟨5,.phase⟩,⟨6,.phase⟩,⟨7,.phase⟩,⟨8,.phase⟩,⟨9,.phase⟩,⟨10,.phase⟩,⟨11,.phase⟩,⟨12,.phase⟩,⟨13,.phase⟩,⟨14,.phase⟩,⟨15,.phase⟩,⟨16,.phase⟩,⟨17,.phase⟩,⟨18,.phase⟩,⟨19,.phase⟩,⟨20,.phase⟩,⟨21,.phase⟩,⟨22,.phase⟩],none⟩] true) Q ⟨#[.pointer (some ⟨T,0,none⟩),p1,p2,p3,p4,p5,p6,p7,p8,p9,ze,zc,za,zd,zi,zj,zg,zh,zn,zm,zo,zp,zq,yb,yf,ye,z9,yd,z8,z0,zu,zy,zt,yg,yi,yj,yh,yk,ym,yo,w0,w1,w2,w3,w4,w5,w6,w7,w8,w9,w10,w11,w12,w13,w14,w15,w16,w17,w18,w19,w20,w21,xc,yu,yx,xb,xd,xg,xk,xe,xh,js,x9,jk,jj,ji,jl,xw,yz,xi,xm,xa,xf,xj,xl,yy,xn,xp,xq,xr,xu,xt,jt,jr,jq,kf,ke,kk,kq,kh],[]⟩ W:=by
 refine JY (by kernel_rfl) 22 (fun t:Nat→Value=>#[.pointer (some ⟨T,0,none⟩),p1,p2,p3,p4,p5,p6,p7,p8,p9,ze,zc,za,zd,zi,zj,zg,zh,zn,zm,zo,zp,zq,yb,yf,ye,z9,yd,z8,z0,zu,zy,zt,yg,yi,yj,yh,yk,ym,yo,t 0,t 1,t 2,t 3,t 4,t 5,t 6,t 7,t 8,t 9,t 10,t 11,t 12,t 13,t 14,t 15,t 16,t 17,t 18,t 19,t 20,t 21,xc,yu,yx,xb,xd,xg,xk,xe,xh,js,x9,jk,jj,ji,jl,xw,yz,xi,xm,xa,xf,xj,xl,yy,xn,xp,xq,xr,xu,xt,jt,jr,jq,kf,ke,kk,kq,kh]) (fun i=>match i with|0=>w0|1=>w1|2=>w2|3=>w3|4=>w4|5=>w5|6=>w6|7=>w7|8=>w8|9=>w9|10=>w10|11=>w11|12=>w12|13=>w13|14=>w14|15=>w15|16=>w16|17=>w17|18=>w18|19=>w19|20=>w20|_=>w21) (EN T B r p) (fun a X=>∃ (t:Nat→Value) (v3:Value),a=⟨#[.pointer (some ⟨T,0,none⟩),p1,p2,p3,p4,p5,p6,p7,p8,p9,ze,zc,za,zd,zi,zj,zg,zh,zn,zm,zo,zp,zq,yb,yf,ye,z9,yd,z8,z0,zu,zy,zt,yg,yi,yj,yh,yk,ym,yo,t 0,t 1,t 2,t 3,t 4,t 5,t 6,t 7,t 8,t 9,t 10,t 11,t 12,t 13,t 14,t 15,t 16,t 17,t 18,t 19,t 20,t 21,v3,yu,yx,xb,xd,xg,xk,xe,xh,js,x9,jk,jj,ji,jl,xw,yz,xi,xm,xa,xf,xj,xl,yy,xn,xp,xq,xr,xu,xt,jt,jr,jq,kf,ke,kk,kq,kh],[]⟩∧v3=.int .i64 (nbR r.dk.pr r.num r.of)∧Below W.1.size W X) (fun a X=>∃ (t:Nat→Value) (v3:Value),a=⟨#[.pointer (some ⟨T,0,none⟩),p1,v3,p3,p4,p5,p6,p7,p8,p9,ze,zc,za,zd,zi,zj,zg,zh,zn,zm,zo,zp,zq,yb,yf,ye,z9,yd,z8,z0,zu,zy,zt,yg,yi,yj,yh,yk,ym,yo,t 0,t 1,t 2,t 3,t 4,t 5,t 6,t 7,t 8,t 9,t 10,t 11,t 12,t 13,t 14,t 15,t 16,t 17,t 18,t 19,t 20,t 21,v3,yu,yx,xb,xd,xg,xk,xe,xh,js,x9,jk,jj,ji,jl,xw,yz,xi,xm,xa,xf,xj,xl,yy,xn,xp,xq,xr,xu,xt,jt,jr,jq,kf,ke,kk,kq,kh],[]⟩∧v3=.int .i64 (nbR r.dk.pr r.num r.of)∧Below W.1.size W X) (by kernel_rfl) (by kernel_rfl) (by kernel_rfl) (by kernel_rfl) ?_ rfl ?_ ?_ ?_ ?_
 ·exact fun _ _ _ _ _ h _=>h
 ·intro i hi t X K hb hg hK
  rcases (show i=0∨i=1∨i=2∨i=3∨i=4∨i=5∨i=6∨i=7∨i=8∨i=9∨i=10∨i=11∨i=12∨i=13∨i=14∨i=15∨i=16∨i=17∨i=18∨i=19∨i=20∨i=21 by omega) with rfl|rfl|rfl|rfl|rfl|rfl|rfl|rfl|rfl|rfl|rfl|rfl|rfl|rfl|rfl|rfl|rfl|rfl|rfl|rfl|rfl|rfl
  ·exact UT
  ·exact N9
  ·exact N8
  ·exact Ia
  ·exact N7
  ·exact O9
  ·have e5:t 5=.pointer (some ⟨B,6,none⟩):=hg 5 (Wt rfl)
   exact O8
  ·have e6:t 6=.pointer (some ⟨B,6,none⟩):=hg 6 (Wt rfl)
   have f1:=(hb.cell (p:=⟨B,6,none⟩) hB).trans cB6
   exact N4
  ·exact UT
  ·have e8:t 8=.pointer (some ⟨T,0,none⟩):=hg 8 (Wt rfl)
   have h:=hK _ X rfl (br _ _)
   refine Zi rfl rfl ?_
   clear hK hg
   go_simp
   simpa [updT,e8] using h
  ·have e9:t 9=.pointer (some ⟨T,0,none⟩):=hg 9 (Wt rfl)
   have h:=hK _ X rfl (br _ _)
   refine Zi rfl rfl ?_
   clear hK hg
   go_simp
   simpa [updT,e9] using h
  ·exact Gi
  ·have e11:t 11=.pointer (some ⟨B,0,none⟩):=hg 11 (Wt rfl)
   have h:=hK _ X rfl (br _ _)
   refine Zi rfl rfl ?_
   clear hK hg
   go_simp
   simpa [updT,e11] using h
  ·have e12:t 12=.pointer (some ⟨B,0,none⟩):=hg 12 (Wt rfl)
   have h:=hK _ X rfl (br _ _)
   refine Zi rfl rfl ?_
   clear hK hg
   go_simp
   simpa [updT,e12] using h
  ·have e13:t 13=.pointer (some ⟨B,0,none⟩):=hg 13 (Wt rfl)
   have f1:=(hb.cell (p:=⟨B,0,none⟩) hB).trans cB0
   have h:=hK _ X rfl (br _ _)
   refine Zi rfl rfl ?_
   clear hK hg
   go_simp
   simpa [updT,e13] using h
  ·exact UT
  ·have e15:t 15=.pointer (some ⟨T,0,none⟩):=hg 15 (Wt rfl)
   have h:=hK _ X rfl (br _ _)
   refine Zi rfl rfl ?_
   clear hK hg
   go_simp
   simpa [updT,e15] using h
  ·have e16:t 16=.pointer (some ⟨T,0,none⟩):=hg 16 (Wt rfl)
   have h:=hK _ X rfl (br _ _)
   refine Zi rfl rfl ?_
   clear hK hg
   go_simp
   simpa [updT,e16] using h
  ·have e17:t 17=.pointer (some ⟨T,0,none⟩):=hg 17 (Wt rfl)
   have f1:=(hb.cell (p:=⟨T,0,none⟩) hT).trans cT0
   have h:=hK _ X rfl (br _ _)
   refine Zi rfl rfl ?_
   clear hK hg
   go_simp
   simpa [updT,e17] using h
  ·have e18:t 18=.pointer (some ⟨B,0,none⟩):=hg 18 (Wt rfl)
   have h:=hK _ X rfl (br _ _)
   refine Zi rfl rfl ?_
   clear hK hg
   go_simp
   simpa [updT,e18] using h
  ·have e19:t 19=.pointer (some ⟨B,0,none⟩):=hg 19 (Wt rfl)
   have h:=hK _ X rfl (br _ _)
   refine Zi rfl rfl ?_
   clear hK hg
   go_simp
   simpa [updT,e19] using h
  ·have e20:t 20=.pointer (some ⟨B,1,none⟩):=hg 20 (Wt rfl)
   have f1:=(hb.cell (p:=⟨B,1,none⟩) hB).trans cB1
   have h:=hK _ X rfl (br _ _)
   refine Zi rfl rfl ?_
   clear hK hg
   go_simp
   simpa [updT,e20] using h
 ·intro t X K hb hg hK
  have e7:t 7=.int .i64 r.dk.pr:=hg 7 (by omega)
  have e14:t 14=.int .i64 r.num:=hg 14 (by omega)
  have e21:t 21=.int .i64 r.of:=hg 21 (by omega)
  refine Zi rfl rfl ?_
  have HK:=hid hK
  clear hK hg hQ
  simp only [e7,e14,e21]
  go_simp
  go_at_call 148
  refine (IE r.dk.pr r.num r.of _).mono ?_
  rintro e Y ⟨rfl,rfl⟩
  have h:=HK.out _ Y ⟨t,.int .i64 (nbR r.dk.pr r.num r.of),rfl,rfl,hb⟩
  simpa [e7,e14,e21] using h
 ·rintro a X K ⟨t,v3,rfl,hp⟩ hK
  have h:=hK ⟨#[.pointer (some ⟨T,0,none⟩),p1,v3,p3,p4,p5,p6,p7,p8,p9,ze,zc,za,zd,zi,zj,zg,zh,zn,zm,zo,zp,zq,yb,yf,ye,z9,yd,z8,z0,zu,zy,zt,yg,yi,yj,yh,yk,ym,yo,t 0,t 1,t 2,t 3,t 4,t 5,t 6,t 7,t 8,t 9,t 10,t 11,t 12,t 13,t 14,t 15,t 16,t 17,t 18,t 19,t 20,t 21,v3,yu,yx,xb,xd,xg,xk,xe,xh,js,x9,jk,jj,ji,jl,xw,yz,xi,xm,xa,xf,xj,xl,yy,xn,xp,xq,xr,xu,xt,jt,jr,jq,kf,ke,kk,kq,kh],[]⟩ X ⟨t,v3,rfl,hp⟩
  refine Zi rfl rfl ?_
  clear hK
  go_simp
  first|exact h|simpa using h|simpa [hp.1] using h
 ·rintro a X ⟨t,v3,rfl,hp⟩
  exact hQ t v3 X hp
def EM (T B:Nat) (bl:Int) (r:Rc) (p:RcP) (_R:World→Prop) (W:World) (i:Nat) (v:Value) (X:World):Prop:=
 match i with
 | 0=>v=.pointer (some ⟨T,0,none⟩)
 | 1=>v=.pointer (some ⟨T,0,none⟩)
 | 2=>v=.pointer (some ⟨T,0,none⟩)
 | 3=>v=.pointer (some ⟨B,0,none⟩)
 | 4=>v=.pointer (some ⟨B,0,none⟩)
 | 5=>v=.agg (rcC r p.A)
 | 6=>v=.int .i64 bl
 | 7=>v=.agg #[.int .i64 1,.int .i64 0,.int .i64 0,.int .i64 bl,.int .i64 0,.int .i64 0,.string ⟨#[]⟩,.slice none 0 0]
 | 8=>v=.pointer (some ⟨T,0,none⟩)
 | 9=>v=.pointer (some ⟨T,0,none⟩)
 | 10=>v=.pointer (some ⟨T,0,none⟩)
 | 11=>v=.pointer (some ⟨B,0,none⟩)
 | 12=>∃ qh,v=.func (.func 150) #[] #[.pointer (some ⟨qh,0,none⟩)]∧W.1.size≤qh∧qh<X.1.size∧X.cell? ⟨qh,0,none⟩=some (.pointer (some ⟨B,0,none⟩))
 | _=>True
set_option maxRecDepth 100000 in
theorem ttlReg6 (p1 p3 p4 p5 p6 p7 p8 p9 ze zc za zd zi zj zg zh zn zm zo zp zq yb yf ye z9 yd z8 z0 zu zy zt yg yi yj yh yk ym yo yr yt xo jo jm jp j7 kj ko j8 j5 j9 kg kd jw ju yp yq yv yw xx xy xc yu yx xb xd xg xk xe xh js x9 jk jj ji jl xw yz xi xm xa xf xj xl yy kh:Value) (w0 w1 w2 w3 w4 w5 w6 w7 w8 w9 w10 w11 w12:Value) (T B:Nat) (bl:Int) (r:Rc) (p:RcP) (R:World→Prop) (W:World) (hT:T<W.1.size) (cT0:W.cell? ⟨T,0,none⟩=some (.pointer (some ⟨B,0,none⟩))) (hBx:Bx W B (rcC r p.A)) (hQc:∀ X qh,Below W.1.size W X→W.1.size≤qh→qh<X.1.size→X.cell? ⟨qh,0,none⟩=some (.pointer (some ⟨B,0,none⟩))→Calls Tryz.prog 149 #[rcV r p.A,.agg #[.int .i64 1,.int .i64 0,.int .i64 0,.int .i64 bl,.int .i64 0,.int .i64 0,.string ⟨#[]⟩,.slice none 0 0],.func (.func 150) #[] #[.pointer (some ⟨qh,0,none⟩)]] X fun e w'=>e=.returned (.tuple #[])∧R w') (Q:Exit→Act→World→Prop) (hQ:∀ (t:Nat→Value) (v3:Value) X,R X→Q .normal ⟨#[.pointer (some ⟨T,0,none⟩),p1,.int .i64 bl,p3,p4,p5,p6,p7,p8,p9,ze,zc,za,zd,zi,zj,zg,zh,zn,zm,zo,zp,zq,yb,yf,ye,z9,yd,z8,z0,zu,zy,zt,yg,yi,yj,yh,yk,ym,yo,yr,yt,xo,jo,jm,jp,j7,kj,ko,j8,j5,j9,kg,kd,jw,ju,yp,yq,yv,yw,xx,xy,xc,yu,yx,xb,xd,xg,xk,xe,xh,js,x9,jk,jj,ji,jl,xw,yz,xi,xm,xa,xf,xj,xl,yy,t 0,t 1,t 2,t 3,t 4,t 5,t 6,t 7,t 8,t 9,t 10,t 11,t 12,v3],[]⟩ X) :
  Code.wp Tryz.prog (Code.region 6 #[⟨some 86,.move (.tmp 0),125,GT,#[],none⟩,⟨some 87,.nilCheck (.tmp 86),0,GT,#[⟨0,.data⟩],none⟩,⟨some 88,.fieldAddr 122 (.tmp 87) 0,0,GT,#[⟨1,.data⟩],none⟩,⟨some 89,.load 81 (.tmp 88),81,GT,#[⟨2,.data⟩],none⟩,⟨some 90,.nilCheck (.tmp 89),0,GT,#[⟨3,.data⟩],none⟩,⟨some 91,.load 38 (.tmp 90),38,GT,#[⟨4,.data⟩],none⟩,⟨some 92,.move (.tmp 2),3,GT,#[],none⟩,⟨some 93,.build 52 #[(0,.const (.int .i64 1)),(3,.tmp 92)],52,GT,#[⟨6,.data⟩],none⟩,⟨some 94,.move (.tmp 0),125,GT,#[],none⟩,⟨some 95,.nilCheck (.tmp 94),0,GT,#[⟨8,.data⟩],none⟩,⟨some 96,.fieldAddr 122 (.tmp 95) 0,0,GT,#[⟨9,.data⟩],none⟩,⟨some 97,.load 81 (.tmp 96),81,GT,#[⟨10,.data⟩],none⟩,⟨some 98,.call ⟨.value (.func 117),#[.tmp 97],#[81]⟩,131,GT,#[⟨11,.data⟩],none⟩,⟨some 99,.call ⟨.value (.func 149),#[.tmp 91,.tmp 93,.tmp 98],#[38,52,131]⟩,0,GT,#[⟨5,.data⟩,⟨7,.data⟩,⟨12,.data⟩,⟨12,.chain⟩],none⟩] true) Q ⟨#[.pointer (some ⟨T,0,none⟩),p1,.int .i64 bl,p3,p4,p5,p6,p7,p8,p9,ze,zc,za,zd,zi,zj,zg,zh,zn,zm,zo,zp,zq,yb,yf,ye,z9,yd,z8,z0,zu,zy,zt,yg,yi,yj,yh,yk,ym,yo,yr,yt,xo,jo,jm,jp,j7,kj,ko,j8,j5,j9,kg,kd,jw,ju,yp,yq,yv,yw,xx,xy,xc,yu,yx,xb,xd,xg,xk,xe,xh,js,x9,jk,jj,ji,jl,xw,yz,xi,xm,xa,xf,xj,xl,yy,w0,w1,w2,w3,w4,w5,w6,w7,w8,w9,w10,w11,w12,kh],[]⟩ W:=by
 refine ZL (by kernel_rfl) 13 (fun t:Nat→Value=>#[.pointer (some ⟨T,0,none⟩),p1,.int .i64 bl,p3,p4,p5,p6,p7,p8,p9,ze,zc,za,zd,zi,zj,zg,zh,zn,zm,zo,zp,zq,yb,yf,ye,z9,yd,z8,z0,zu,zy,zt,yg,yi,yj,yh,yk,ym,yo,yr,yt,xo,jo,jm,jp,j7,kj,ko,j8,j5,j9,kg,kd,jw,ju,yp,yq,yv,yw,xx,xy,xc,yu,yx,xb,xd,xg,xk,xe,xh,js,x9,jk,jj,ji,jl,xw,yz,xi,xm,xa,xf,xj,xl,yy,t 0,t 1,t 2,t 3,t 4,t 5,t 6,t 7,t 8,t 9,t 10,t 11,t 12,kh]) (fun i=>match i with|0=>w0|1=>w1|2=>w2|3=>w3|4=>w4|5=>w5|6=>w6|7=>w7|8=>w8|9=>w9|10=>w10|11=>w11|_=>w12) (EM T B bl r p R W) (fun a X=>∃ (t:Nat→Value) (v3:Value),a=⟨#[.pointer (some ⟨T,0,none⟩),p1,.int .i64 bl,p3,p4,p5,p6,p7,p8,p9,ze,zc,za,zd,zi,zj,zg,zh,zn,zm,zo,zp,zq,yb,yf,ye,z9,yd,z8,z0,zu,zy,zt,yg,yi,yj,yh,yk,ym,yo,yr,yt,xo,jo,jm,jp,j7,kj,ko,j8,j5,j9,kg,kd,jw,ju,yp,yq,yv,yw,xx,xy,xc,yu,yx,xb,xd,xg,xk,xe,xh,js,x9,jk,jj,ji,jl,xw,yz,xi,xm,xa,xf,xj,xl,yy,t 0,t 1,t 2,t 3,t 4,t 5,t 6,t 7,t 8,t 9,t 10,t 11,t 12,v3],[]⟩∧R X) (by kernel_rfl) (by kernel_rfl) (by kernel_rfl) ?_ rfl ?_ ?_ ?_
 ·intro i v X Y hi h hb
  rcases (show i=0∨i=1∨i=2∨i=3∨i=4∨i=5∨i=6∨i=7∨i=8∨i=9∨i=10∨i=11∨i=12 by omega) with rfl|rfl|rfl|rfl|rfl|rfl|rfl|rfl|rfl|rfl|rfl|rfl|rfl
  ·exact h
  ·exact h
  ·exact h
  ·exact h
  ·exact h
  ·exact h
  ·exact h
  ·exact h
  ·exact h
  ·exact h
  ·exact h
  ·exact h
  ·obtain ⟨qh,e1,e2,e3,e4⟩:=h
   exact ⟨qh,e1,e2,ltl e3 hb.size,(hb.cell (p:=⟨qh,0,none⟩) e3).trans e4⟩
 ·intro i hi t X K hb hg hK
  rcases (show i=0∨i=1∨i=2∨i=3∨i=4∨i=5∨i=6∨i=7∨i=8∨i=9∨i=10∨i=11∨i=12 by omega) with rfl|rfl|rfl|rfl|rfl|rfl|rfl|rfl|rfl|rfl|rfl|rfl|rfl
  ·exact UT
  ·exact N9
  ·exact N8
  ·exact Ia
  ·exact N7
  ·have e4:t 4=.pointer (some ⟨B,0,none⟩):=hg 4 (Wt rfl)
   exact Zi rfl rfl (wp_load_mid 38 _ rfl B 0 (by simp only [Act.eval];simpa using e4) (rcC r p.A).toList _ (Holds.range (cs:=(rcC r p.A).toList) (hBx.below hb hBx.lt).cell) Tryz.underlying38 rfl Tryz.sz38 (hK (.agg (rcC r p.A)) X rfl (br _ _)))
  ·exact UT
  ·have e6:t 6=.int .i64 bl:=hg 6 (Wt rfl)
   exact N4
  ·exact UT
  ·have e8:t 8=.pointer (some ⟨T,0,none⟩):=hg 8 (Wt rfl)
   have h:=hK _ X rfl (br _ _)
   refine Zi rfl rfl ?_
   clear hK hg
   go_simp
   simpa [updT,e8] using h
  ·have e9:t 9=.pointer (some ⟨T,0,none⟩):=hg 9 (Wt rfl)
   have h:=hK _ X rfl (br _ _)
   refine Zi rfl rfl ?_
   clear hK hg
   go_simp
   simpa [updT,e9] using h
  ·exact Gi
  ·have e11:t 11=.pointer (some ⟨B,0,none⟩):=hg 11 (Wt rfl)
   refine Zi rfl rfl ?_
   have HK:=hid hK
   clear hK hg hQ hQc
   simp only [e11]
   go_simp
   go_at_call 117
   refine (Pt B _).mono ?_
   rintro e Y ⟨qh,rfl,h1,h2,h3,h4⟩
   have h:=HK.out (.func (.func 150) #[] #[.pointer (some ⟨qh,0,none⟩)]) Y ⟨qh,rfl,by have:=hb.size;omega,h2,h3⟩ h4
   simpa [updT,e11] using h
 ·intro t X K hb hg hK
  have e5:t 5=.agg (rcC r p.A):=hg 5 (by omega)
  have e7:t 7=.agg #[.int .i64 1,.int .i64 0,.int .i64 0,.int .i64 bl,.int .i64 0,.int .i64 0,.string ⟨#[]⟩,.slice none 0 0]:=hg 7 (by omega)
  obtain ⟨qh,e12,k1,k2,k3⟩:∃ qh,t 12=.func (.func 150) #[] #[.pointer (some ⟨qh,0,none⟩)]∧W.1.size≤qh∧qh<X.1.size∧X.cell? ⟨qh,0,none⟩=some (.pointer (some ⟨B,0,none⟩)):=hg 12 (by omega)
  refine Zi rfl rfl ?_
  have HK:=hid hK
  have HC:=hid (hQc X qh hb k1 k2 k3)
  clear hK hg hQc
  simp only [e5,e7,e12]
  go_simp
  go_at_call 149
  refine HC.out.mono ?_
  rintro e Y ⟨rfl,hR⟩
  have h:=HK.out _ Y ⟨t,.tuple #[],rfl,hR⟩
  simpa [e5,e7,e12] using h
 ·rintro a X ⟨t,v3,rfl,hp⟩
  exact hQ t v3 X hp
def bwG (T B:Nat) (r:Rc) (p:RcP) (x:Sl) (W:World) (i:Nat) (v:Value) (X:World):Prop:=
 match i with
 | 0=>v=.pointer (some ⟨B,6,none⟩)
 | 1=>v=.pointer (some ⟨B,6,none⟩)
 | 2=>v=.pointer (some ⟨B,6,none⟩)
 | 3=>v=.pointer (some ⟨B,8,none⟩)
 | 4=>v=.slice p.A.da r.dk.n p.A.dc
 | 5=>v=.pointer (some ⟨T,0,none⟩)
 | 6=>v=.pointer (some ⟨T,0,none⟩)
 | 7=>v=.pointer (some ⟨T,0,none⟩)
 | 8=>v=.pointer (some ⟨B,0,none⟩)
 | 9=>v=.pointer (some ⟨B,0,none⟩)
 | 10=>v=.pointer (some ⟨B,13,none⟩)
 | 11=>v=.int .i64 x.bal
 | 12=>v=.string x.text
 | 13=>v=.agg (slL x).toArray
 | 14=>∃ b2,v=.slice (some ⟨b2,0,none⟩) 1 1∧W.1.size≤b2∧b2<X.1.size∧SrcRow X b2 (b2+1) (some ⟨b2,0,none⟩) (1*2) (slD x)
 | 15=>∃ ad' cap' g',v=.slice ad' (r.dk.n+1) cap'∧RcG X (JC r x) (Xu p ad' cap' g')∧(∀ k,rbs (Xu p ad' cap' g') (JC r x) k→rbs p r k∨W.1.size≤k)
 | 16=>v=.pointer (some ⟨B,6,none⟩)
 | 17=>v=.pointer (some ⟨B,8,none⟩)
 | _=>True
theorem IQ {P:Prop} (h:P:=by
  have h:=hK _ X rfl (br _ _)
  refine Zi rfl rfl ?_
  clear hK hg1
  go_simp
  simpa [updT] using h):P:=h
set_option maxRecDepth 100000 in
theorem bwReg5 (p1 p3 p5 p6 p7 p8 p9 ze zc za zd zi zj zg zh zn zm zo zp zq yb yf ye z9 yd z8 z0 zu zy zt yg yi yj yh yk yp v0 v1 v2 v3 v4 v5 v6 v7 v8 v9 v10 v11 v12 v13 v14 v15 v16 v17:Value) (T B:Nat) (r:Rc) (p:RcP) (x:Sl) (W:World) (hbx:Bx W B (rcC r p.A)) (hT:T<W.1.size) (cT0:W.cell? ⟨T,0,none⟩=some (.pointer (some ⟨B,0,none⟩))) (hxb:x.bal=r.bal) (hg:RcG W r p) (hn:(r.dk.n:Int)≤1000) (hB:∀ k,rbs p r k→k≠B∧k≠T) (Q:Exit→Act→World→Prop)
  (hQ:∀ (t:Nat→Value) (ad':Option Addr) (cap' g':Nat) (Y:World),RcG Y (JC r x) (Xu p ad' cap' g')→(∀ k,rbs (Xu p ad' cap' g') (JC r x) k→rbs p r k∨W.1.size≤k)→FrP (fun k=>r.dk.n≠0∧k=p.g1) W Y→Q .normal ⟨#[.pointer (some ⟨T,0,none⟩),p1,.pointer (some ⟨B,6,none⟩),p3,.string x.text,p5,p6,p7,p8,p9,ze,zc,za,zd,zi,zj,zg,zh,zn,zm,zo,zp,zq,yb,yf,ye,z9,yd,z8,z0,zu,zy,zt,yg,yi,yj,yh,yk,t 0,t 1,t 2,t 3,t 4,t 5,t 6,t 7,t 8,t 9,t 10,t 11,t 12,t 13,t 14,t 15,t 16,t 17,yp],[]⟩ (Y.setCell ⟨B,8,none⟩ (.slice ad' (r.dk.n+1) cap'))) :
  Code.wp Tryz.prog (Code.region 5 #[⟨some 38,.move (.tmp 2),155,GU,#[],none⟩,⟨some 39,.move (.tmp 2),155,GU,#[],none⟩,⟨some 40,.nilCheck (.tmp 39),0,GU,#[⟨1,.data⟩],none⟩,⟨some 41,.fieldAddr 34 (.tmp 40) 2,0,GU,#[⟨2,.data⟩],none⟩,⟨some 42,.load 32 (.tmp 41),32,GU,#[⟨3,.data⟩],none⟩,⟨some 43,.move (.tmp 0),125,GU,#[],none⟩,⟨some 44,.nilCheck (.tmp 43),0,GU,#[⟨5,.data⟩],none⟩,⟨some 45,.fieldAddr 122 (.tmp 44) 0,0,GU,#[⟨6,.data⟩],none⟩,⟨some 46,.load 81 (.tmp 45),81,GU,#[⟨7,.data⟩],none⟩,⟨some 47,.nilCheck (.tmp 46),0,GU,#[⟨8,.data⟩],none⟩,⟨some 48,.fieldAddr 38 (.tmp 47) 9,0,GU,#[⟨9,.data⟩],none⟩,⟨some 49,.load 3 (.tmp 48),3,GU,#[⟨10,.data⟩],none⟩,⟨some 50,.move (.tmp 4),9,GU,#[],none⟩,⟨some 51,.build 109 #[(0,.tmp 49),(1,.tmp 50)],109,GU,#[⟨11,.data⟩,⟨12,.data⟩],none⟩,⟨some 52,.buildSlice 32 1 #[(0,.tmp 51)],32,GU,#[⟨13,.data⟩],none⟩,⟨some 53,.call ⟨.builtin .append,#[.tmp 42,.tmp 52],#[32,32]⟩,32,GU,#[⟨4,.data⟩,⟨14,.data⟩],none⟩,⟨some 54,.nilCheck (.tmp 38),0,GU,#[⟨0,.data⟩,⟨0,.phase⟩,⟨1,.phase⟩,⟨2,.phase⟩,⟨3,.phase⟩,⟨4,.phase⟩,⟨5,.phase⟩,⟨6,.phase⟩,⟨7,.phase⟩,⟨8,.phase⟩,⟨9,.phase⟩,⟨10,.phase⟩,⟨11,.phase⟩,⟨12,.phase⟩,⟨13,.phase⟩,⟨14,.phase⟩,⟨15,.phase⟩],none⟩,⟨some 55,.fieldAddr 34 (.tmp 54) 2,0,GU,#[⟨16,.data⟩,⟨0,.phase⟩,⟨1,.phase⟩,⟨2,.phase⟩,⟨3,.phase⟩,⟨4,.phase⟩,⟨5,.phase⟩,⟨6,.phase⟩,⟨7,.phase⟩,⟨8,.phase⟩,⟨9,.phase⟩,⟨10,.phase⟩,⟨11,.phase⟩,⟨12,.phase⟩,⟨13,.phase⟩,⟨14,.phase⟩,⟨15,.phase⟩],none⟩,⟨none,.store 32 (.tmp 55) (.tmp 53),0,GU,#[⟨17,.data⟩,⟨15,.data⟩,⟨15,.chain⟩,⟨0,.phase⟩,⟨1,.phase⟩,⟨2,.phase⟩,⟨3,.phase⟩,⟨4,.phase⟩,⟨5,.phase⟩,⟨6,.phase⟩,⟨7,.phase⟩,⟨8,.phase⟩,⟨9,.phase⟩,⟨10,.phase⟩,⟨11,.phase⟩,⟨12,.phase⟩,⟨13,.phase⟩,⟨14,.phase⟩,⟨15,.phase⟩],none⟩] true) Q ⟨#[.pointer (some ⟨T,0,none⟩),p1,.pointer (some ⟨B,6,none⟩),p3,.string x.text,p5,p6,p7,p8,p9,ze,zc,za,zd,zi,zj,zg,zh,zn,zm,zo,zp,zq,yb,yf,ye,z9,yd,z8,z0,zu,zy,zt,yg,yi,yj,yh,yk,v0,v1,v2,v3,v4,v5,v6,v7,v8,v9,v10,v11,v12,v13,v14,v15,v16,v17,yp],[]⟩ W:=by
 have g2in:r.dk.n≠0→rbs p r p.g1:=fun h0=>⟨1,by omega,h0,rfl⟩
 have g2lt:r.dk.n≠0→p.g1<W.1.size:=fun h0=>hg.at_.lt _ (g2in h0)
 have nB:¬(r.dk.n≠0∧B=p.g1):=fun e=>(hB _ (g2in e.1)).1 e.2.symm
 have nT:¬(r.dk.n≠0∧T=p.g1):=fun e=>(hB _ (g2in e.1)).2 e.2.symm
 have lB:=hbx.lt
 have h8:W.cell? ⟨B,8,none⟩=some (.slice p.A.da r.dk.n p.A.dc):=hbx.cell 8
 have h13:W.cell? ⟨B,13,none⟩=some (.int .i64 x.bal):=by rw [hxb];exact hbx.cell 13
 clear hxb
 refine Ip (by kernel_rfl) 18 15 (by omega) (fun X Y=>FrP (fun k=>r.dk.n≠0∧k=p.g1) X Y) (fun X Y h=>FrP.of_below h) (fun X Y Z h1 h2=>h1.trans h2) (fun t:Nat→Value=>#[.pointer (some ⟨T,0,none⟩),p1,.pointer (some ⟨B,6,none⟩),p3,.string x.text,p5,p6,p7,p8,p9,ze,zc,za,zd,zi,zj,zg,zh,zn,zm,zo,zp,zq,yb,yf,ye,z9,yd,z8,z0,zu,zy,zt,yg,yi,yj,yh,yk,t 0,t 1,t 2,t 3,t 4,t 5,t 6,t 7,t 8,t 9,t 10,t 11,t 12,t 13,t 14,t 15,t 16,t 17,yp]) (fun j=>match j with|0=>v0|1=>v1|2=>v2|3=>v3|4=>v4|5=>v5|6=>v6|7=>v7|8=>v8|9=>v9|10=>v10|11=>v11|12=>v12|13=>v13|14=>v14|15=>v15|16=>v16|_=>v17) (bwG T B r p x W) (fun a X=>∃ (t:Nat→Value) (ad':Option Addr) (cap' g':Nat) (Y:World),a=⟨#[.pointer (some ⟨T,0,none⟩),p1,.pointer (some ⟨B,6,none⟩),p3,.string x.text,p5,p6,p7,p8,p9,ze,zc,za,zd,zi,zj,zg,zh,zn,zm,zo,zp,zq,yb,yf,ye,z9,yd,z8,z0,zu,zy,zt,yg,yi,yj,yh,yk,t 0,t 1,t 2,t 3,t 4,t 5,t 6,t 7,t 8,t 9,t 10,t 11,t 12,t 13,t 14,t 15,t 16,t 17,yp],[]⟩∧X=Y.setCell ⟨B,8,none⟩ (.slice ad' (r.dk.n+1) cap')∧RcG Y (JC r x) (Xu p ad' cap' g')∧(∀ k,rbs (Xu p ad' cap' g') (JC r x) k→rbs p r k∨W.1.size≤k)∧FrP (fun k=>r.dk.n≠0∧k=p.g1) W Y) (by kernel_rfl) (by kernel_rfl) (by kernel_rfl) ?_ ?_ rfl ?_ ?_ ?_ ?_
 ·intro i v X Y hi1 h hb
  rcases (show i=0∨i=1∨i=2∨i=3∨i=4∨i=5∨i=6∨i=7∨i=8∨i=9∨i=10∨i=11∨i=12∨i=13∨i=14∨i=15∨i=16∨i=17 by omega) with rfl|rfl|rfl|rfl|rfl|rfl|rfl|rfl|rfl|rfl|rfl|rfl|rfl|rfl|rfl|rfl|rfl|rfl
  ·exact h
  ·exact h
  ·exact h
  ·exact h
  ·exact h
  ·exact h
  ·exact h
  ·exact h
  ·exact h
  ·exact h
  ·exact h
  ·exact h
  ·exact h
  ·exact h
  ·obtain ⟨b2,e1,e2,e3,e4⟩:=h
   exact ⟨b2,e1,e2,ltl e3 hb.size,e4.below hb (by omega)⟩
  ·obtain ⟨ad',cap',g',e1,e2,e3⟩:=h
   exact ⟨ad',cap',g',e1,e2.grow hb,e3⟩
  ·exact h
  ·exact h
 ·intro i v X Y hi1 hi7 h hb
  rcases (show i=0∨i=1∨i=2∨i=3∨i=4∨i=5∨i=6∨i=7∨i=8∨i=9∨i=10∨i=11∨i=12∨i=13∨i=14∨i=15∨i=16∨i=17 by omega) with rfl|rfl|rfl|rfl|rfl|rfl|rfl|rfl|rfl|rfl|rfl|rfl|rfl|rfl|rfl|rfl|rfl|rfl
  ·exact h
  ·exact h
  ·exact h
  ·exact h
  ·exact h
  ·exact h
  ·exact h
  ·exact h
  ·exact h
  ·exact h
  ·exact h
  ·exact h
  ·exact h
  ·exact h
  ·obtain ⟨b2,e1,e2,e3,e4⟩:=h
   exact ⟨b2,e1,e2,ltl e3 hb.size,⟨fun j hj=>by
    obtain ⟨b,off,c1,c2,c3,c4⟩:=e4.at_ j hj
    exact ⟨b,off,c1,c2,c3,(hb.cell (p:=⟨b,off+j,none⟩) (show b<X.1.size by omega) (fun e=>by have:=g2lt e.1;have e5:b=p.g1:=e.2;omega)).trans c4⟩,e4.one⟩⟩
  ·exact absurd rfl hi7
  ·exact h
  ·exact h
 ·intro t X K hb hg1 hK
  have e4:t 4=.slice p.A.da r.dk.n p.A.dc:=hg1 4 (Wt rfl)
  obtain ⟨b2,e6,k1,k2,k3⟩:∃ b2,t 14=.slice (some ⟨b2,0,none⟩) 1 1∧W.1.size≤b2∧b2<X.1.size∧SrcRow X b2 (b2+1) (some ⟨b2,0,none⟩) (1*2) (slD x):=hg1 14 (Wt rfl)
  obtain ⟨ad',cap',g',w4,hrun,hG4,hF4,hK4,_⟩:=KF X r p x b2 (slD x) (hg.grow hb) (by omega) k3 (In _)
  have h:=hK (.slice ad' (r.dk.n+1) cap') w4 ⟨ad',cap',g',rfl,hG4,fun k hk=>by
   rcases hK4 k hk with h|h
   ·exact Or.inl h
   ·exact Or.inr (ltr hb.size h)⟩ hF4
  exact YG rfl rfl _ _ 32 32 rfl _ _ _ _ e4 e6 hrun h
 ·intro i hi1 hi7 t X K hb hg1 hK
  rcases (show i=0∨i=1∨i=2∨i=3∨i=4∨i=5∨i=6∨i=7∨i=8∨i=9∨i=10∨i=11∨i=12∨i=13∨i=14∨i=15∨i=16∨i=17 by omega) with rfl|rfl|rfl|rfl|rfl|rfl|rfl|rfl|rfl|rfl|rfl|rfl|rfl|rfl|rfl|rfl|rfl|rfl
  ·exact IQ
  ·exact IQ
  ·have e1:t 1=.pointer (some ⟨B,6,none⟩):=hg1 1 (Wt rfl)
   have h:=hK _ X rfl (br _ _)
   refine Zi rfl rfl ?_
   clear hK hg1
   go_simp
   simpa [updT,e1] using h
  ·have e2:t 2=.pointer (some ⟨B,6,none⟩):=hg1 2 (Wt rfl)
   have h:=hK _ X rfl (br _ _)
   refine Zi rfl rfl ?_
   clear hK hg1
   go_simp
   simpa [updT,e2] using h
  ·have e3:t 3=.pointer (some ⟨B,8,none⟩):=hg1 3 (Wt rfl)
   have f1:=(hb.cell (p:=⟨B,8,none⟩) lB nB).trans h8
   have h:=hK _ X rfl (br _ _)
   refine Zi rfl rfl ?_
   clear hK hg1
   go_simp
   simpa [updT,e3] using h
  ·exact IQ
  ·have e5:t 5=.pointer (some ⟨T,0,none⟩):=hg1 5 (Wt rfl)
   have h:=hK _ X rfl (br _ _)
   refine Zi rfl rfl ?_
   clear hK hg1
   go_simp
   simpa [updT,e5] using h
  ·have e6:t 6=.pointer (some ⟨T,0,none⟩):=hg1 6 (Wt rfl)
   have h:=hK _ X rfl (br _ _)
   refine Zi rfl rfl ?_
   clear hK hg1
   go_simp
   simpa [updT,e6] using h
  ·have e7:t 7=.pointer (some ⟨T,0,none⟩):=hg1 7 (Wt rfl)
   have f1:=(hb.cell (p:=⟨T,0,none⟩) hT nT).trans cT0
   have h:=hK _ X rfl (br _ _)
   refine Zi rfl rfl ?_
   clear hK hg1
   go_simp
   simpa [updT,e7] using h
  ·have e8:t 8=.pointer (some ⟨B,0,none⟩):=hg1 8 (Wt rfl)
   have h:=hK _ X rfl (br _ _)
   refine Zi rfl rfl ?_
   clear hK hg1
   go_simp
   simpa [updT,e8] using h
  ·have e9:t 9=.pointer (some ⟨B,0,none⟩):=hg1 9 (Wt rfl)
   have h:=hK _ X rfl (br _ _)
   refine Zi rfl rfl ?_
   clear hK hg1
   go_simp
   simpa [updT,e9] using h
  ·have e10:t 10=.pointer (some ⟨B,13,none⟩):=hg1 10 (Wt rfl)
   have f1:=(hb.cell (p:=⟨B,13,none⟩) lB nB).trans h13
   have h:=hK _ X rfl (br _ _)
   refine Zi rfl rfl ?_
   clear hK hg1
   go_simp
   simpa [updT,e10] using h
  ·exact IQ
  ·have e11:t 11=.int .i64 x.bal:=hg1 11 (Wt rfl)
   have e12:t 12=.string x.text:=hg1 12 (Wt rfl)
   have h:=hK _ X rfl (br _ _)
   refine Zi rfl rfl ?_
   clear hK hg1
   go_simp
   simpa [updT,e11,e12] using h
  ·have e13:t 13=.agg (slL x).toArray:=hg1 13 (Wt rfl)
   have zb:W.1.size≤X.1.size:=hb.size
   have h:=hK (.slice (some ⟨X.1.size,0,none⟩) 1 1) (X.alloc (.cells (slL x).toArray 109)) ⟨X.1.size,rfl,zb,by simp,Pg X x⟩ (Zb _ _)
   refine Zi rfl rfl ?_
   clear hK hg1
   go_simp
   simpa [updT,e13] using h
  ·exact absurd rfl hi7
  ·have e0:t 0=.pointer (some ⟨B,6,none⟩):=hg1 0 (Wt rfl)
   have h:=hK _ X rfl (br _ _)
   refine Zi rfl rfl ?_
   clear hK hg1
   go_simp
   simpa [updT,e0] using h
  ·have e16:t 16=.pointer (some ⟨B,6,none⟩):=hg1 16 (Wt rfl)
   have h:=hK _ X rfl (br _ _)
   refine Zi rfl rfl ?_
   clear hK hg1
   go_simp
   simpa [updT,e16] using h
 ·intro t X K hb hg1 hK
  have e17:t 17=.pointer (some ⟨B,8,none⟩):=hg1 17 (by omega)
  obtain ⟨ad',cap',g',e15,k1,k2⟩:∃ ad' cap' g',t 15=.slice ad' (r.dk.n+1) cap'∧RcG X (JC r x) (Xu p ad' cap' g')∧(∀ k,rbs (Xu p ad' cap' g') (JC r x) k→rbs p r k∨W.1.size≤k):=hg1 15 (by omega)
  have f1:=(hb.cell (p:=⟨B,8,none⟩) lB nB).trans h8
  have f2:=(hb.frozen (p:=⟨B,8,none⟩) lB nB).trans (hbx.free 8)
  have h:=hK ⟨#[.pointer (some ⟨T,0,none⟩),p1,.pointer (some ⟨B,6,none⟩),p3,.string x.text,p5,p6,p7,p8,p9,ze,zc,za,zd,zi,zj,zg,zh,zn,zm,zo,zp,zq,yb,yf,ye,z9,yd,z8,z0,zu,zy,zt,yg,yi,yj,yh,yk,t 0,t 1,t 2,t 3,t 4,t 5,t 6,t 7,t 8,t 9,t 10,t 11,t 12,t 13,t 14,t 15,t 16,t 17,yp],[]⟩ (X.setCell ⟨B,8,none⟩ (.slice ad' (r.dk.n+1) cap')) ⟨t,ad',cap',g',X,rfl,rfl,k1,k2,hb⟩
  refine Zi rfl rfl ?_
  clear hK hg1
  go_simp
  simpa [e17,e15] using h
 ·rintro a X ⟨t,ad',cap',g',Y,rfl,rfl,k1,k2,k3⟩
  exact hQ t ad' cap' g' Y k1 k2 k3
end Go.Proofs.YtokkbdlofbdljaaGreat
