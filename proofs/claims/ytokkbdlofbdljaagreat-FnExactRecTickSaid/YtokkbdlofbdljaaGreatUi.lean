import Derived.Test.YtokkbdlofbdljaaGreatUd
namespace Go.Proofs.YtokkbdlofbdljaaGreat
open Go.RowKit
set_option maxHeartbeats 4000000
def FN (T B:Nat) (r:Rc) (_p:RcP) (_R:World→Prop) (_W:World) (i:Nat) (v:Value) (_X:World):Prop:=
 match i with
 | 0=>v=.pointer (some ⟨T,0,none⟩)
 | 1=>v=.pointer (some ⟨T,0,none⟩)
 | 2=>v=.pointer (some ⟨T,0,none⟩)
 | 3=>v=.pointer (some ⟨T,0,none⟩)
 | 4=>v=.pointer (some ⟨B,0,none⟩)
 | 5=>v=.pointer (some ⟨B,0,none⟩)
 | 6=>v=.pointer (some ⟨B,13,none⟩)
 | 7=>v=.int .i64 r.bal
 | 8=>v=.pointer (some ⟨T,0,none⟩)
 | 9=>v=.pointer (some ⟨T,0,none⟩)
 | 10=>v=.pointer (some ⟨T,0,none⟩)
 | 11=>v=.pointer (some ⟨B,0,none⟩)
 | 12=>v=.pointer (some ⟨B,0,none⟩)
 | 13=>v=.pointer (some ⟨B,6,none⟩)
 | 14=>v=.pointer (some ⟨B,7,none⟩)
 | 15=>v=.int .i64 r.dk.kn
 | 16=>v=.agg #[.int .i64 5,.int .i64 0,.int .i64 0,.int .i64 r.bal,.int .i64 0,.int .i64 r.dk.kn,.string ⟨#[]⟩,.slice none 0 0]
 | _=>True
theorem Jy {P:Prop} (h:P:=by
  have h:=hK _ X rfl (br _ _)
  refine Zi rfl rfl ?_
  clear hK hg
  go_simp
  simpa [updT] using h):P:=h
theorem Ib {P:Prop} (h:P:=by
  have e1:t 1=.pointer (some ⟨T,0,none⟩):=hg 1 (Wt rfl)
  have h:=hK _ X rfl (br _ _)
  refine Zi rfl rfl ?_
  clear hK hg
  go_simp
  simpa [updT,e1] using h):P:=h
theorem Pa {P:Prop} (h:P:=by
  have h:=hK _ X rfl (br _ _)
  refine Zi rfl rfl ?_
  clear hK hg
  go_simp
  simpa [updT,e9] using h):P:=h
theorem IW {P:Prop} (h:P:=by
  have h:=hK _ X rfl (br _ _)
  refine Zi rfl rfl ?_
  clear hK hg
  go_simp
  simpa [updT,e11] using h):P:=h
theorem IU {P:Prop} (h:P:=by
  have h:=hK _ X rfl (br _ _)
  refine Zi rfl rfl ?_
  clear hK hg
  go_simp
  simpa [updT,e12] using h):P:=h
theorem IT {P:Prop} (h:P:=by
  have h:=hK _ X rfl (br _ _)
  refine Zi rfl rfl ?_
  clear hK hg
  go_simp
  simpa [updT,e13] using h):P:=h
theorem IR {P:Prop} (h:P:=by
  have h:=hK _ X rfl (br _ _)
  refine Zi rfl rfl ?_
  clear hK hg
  go_simp
  simpa [updT,e3] using h):P:=h
theorem Gj {P:Prop} (h:P:=by
  have e6:t 6=.pointer (some ⟨B,13,none⟩):=hg 6 (Wt rfl)
  have f1:=(hb.cell (p:=⟨B,13,none⟩) hB).trans cB13
  have h:=hK _ X rfl (br _ _)
  refine Zi rfl rfl ?_
  clear hK hg
  go_simp
  simpa [updT,e6] using h):P:=h
set_option maxRecDepth 100000 in
theorem beaReg0 (p1 zm:Value) (w0 w1 w2 w3 w4 w5 w6 w7 w8 w9 w10 w11 w12 w13 w14 w15 w16:Value) (T B:Nat) (r:Rc) (p:RcP) (R:World→Prop) (W:World) (hT:T<W.1.size) (hB:B<W.1.size) (cB7:W.cell? ⟨B,7,none⟩=some (.int .i64 r.dk.kn)) (cB13:W.cell? ⟨B,13,none⟩=some (.int .i64 r.bal)) (cT0:W.cell? ⟨T,0,none⟩=some (.pointer (some ⟨B,0,none⟩))) (hQc:∀ X,Below W.1.size W X→Calls Tryz.prog 166 #[.pointer (some ⟨T,0,none⟩),.agg #[.int .i64 5,.int .i64 0,.int .i64 0,.int .i64 r.bal,.int .i64 0,.int .i64 r.dk.kn,.string ⟨#[]⟩,.slice none 0 0]] X fun e w'=>e=.returned (.tuple #[])∧R w') (Q:Exit→Act→World→Prop) (hQ:∀ (t:Nat→Value) (v3:Value) X,R X→Q .normal ⟨#[.pointer (some ⟨T,0,none⟩),p1,t 0,t 1,t 2,t 3,t 4,t 5,t 6,t 7,t 8,t 9,t 10,t 11,t 12,t 13,t 14,t 15,t 16,v3],[]⟩ X) :
  Code.wp Tryz.prog (Code.region 0 #[⟨some 2,.move (.tmp 0),125,GI,#[],none⟩,⟨some 3,.move (.tmp 0),125,GI,#[],none⟩,⟨some 4,.nilCheck (.tmp 3),0,GI,#[⟨1,.data⟩],none⟩,⟨some 5,.fieldAddr 122 (.tmp 4) 0,0,GI,#[⟨2,.data⟩],none⟩,⟨some 6,.load 81 (.tmp 5),81,GI,#[⟨3,.data⟩],none⟩,⟨some 7,.nilCheck (.tmp 6),0,GI,#[⟨4,.data⟩],none⟩,⟨some 8,.fieldAddr 38 (.tmp 7) 9,0,GI,#[⟨5,.data⟩],none⟩,⟨some 9,.load 3 (.tmp 8),3,GI,#[⟨6,.data⟩],none⟩,⟨some 10,.move (.tmp 0),125,GI,#[],none⟩,⟨some 11,.nilCheck (.tmp 10),0,GI,#[⟨8,.data⟩],none⟩,⟨some 12,.fieldAddr 122 (.tmp 11) 0,0,GI,#[⟨9,.data⟩],none⟩,⟨some 13,.load 81 (.tmp 12),81,GI,#[⟨10,.data⟩],none⟩,⟨some 14,.nilCheck (.tmp 13),0,GI,#[⟨11,.data⟩],none⟩,⟨some 15,.fieldAddr 38 (.tmp 14) 4,0,GI,#[⟨12,.data⟩],none⟩,⟨some 16,.fieldAddr 34 (.tmp 15) 1,0,GI,#[⟨13,.data⟩],none⟩,⟨some 17,.load 3 (.tmp 16),3,GI,#[⟨14,.data⟩],none⟩,⟨some 18,.build 52 #[(0,.const (.int .i64 5)),(3,.tmp 9),(5,.tmp 17)],52,GI,#[⟨7,.data⟩,⟨15,.data⟩],none⟩,⟨some 19,.call ⟨.value (.func 166),#[.tmp 2,.tmp 18],#[125,52]⟩,0,GI,#[⟨0,.data⟩,⟨16,.data⟩],none⟩] true) Q ⟨#[.pointer (some ⟨T,0,none⟩),p1,w0,w1,w2,w3,w4,w5,w6,w7,w8,w9,w10,w11,w12,w13,w14,w15,w16,zm],[]⟩ W:=by
 refine ZL (by kernel_rfl) 17 (fun t:Nat→Value=>#[.pointer (some ⟨T,0,none⟩),p1,t 0,t 1,t 2,t 3,t 4,t 5,t 6,t 7,t 8,t 9,t 10,t 11,t 12,t 13,t 14,t 15,t 16,zm]) (fun i=>match i with|0=>w0|1=>w1|2=>w2|3=>w3|4=>w4|5=>w5|6=>w6|7=>w7|8=>w8|9=>w9|10=>w10|11=>w11|12=>w12|13=>w13|14=>w14|15=>w15|_=>w16) (FN T B r p R W) (fun a X=>∃ (t:Nat→Value) (v3:Value),a=⟨#[.pointer (some ⟨T,0,none⟩),p1,t 0,t 1,t 2,t 3,t 4,t 5,t 6,t 7,t 8,t 9,t 10,t 11,t 12,t 13,t 14,t 15,t 16,v3],[]⟩∧R X) (by kernel_rfl) (by kernel_rfl) (by kernel_rfl) ?_ rfl ?_ ?_ ?_
 ·exact fun _ _ _ _ _ h _=>h
 ·intro i hi t X K hb hg hK
  rcases (show i=0∨i=1∨i=2∨i=3∨i=4∨i=5∨i=6∨i=7∨i=8∨i=9∨i=10∨i=11∨i=12∨i=13∨i=14∨i=15∨i=16 by omega) with rfl|rfl|rfl|rfl|rfl|rfl|rfl|rfl|rfl|rfl|rfl|rfl|rfl|rfl|rfl|rfl|rfl
  ·exact Jy
  ·exact Jy
  ·exact Ib
  ·have e2:t 2=.pointer (some ⟨T,0,none⟩):=hg 2 (Wt rfl)
   have h:=hK _ X rfl (br _ _)
   refine Zi rfl rfl ?_
   clear hK hg
   go_simp
   simpa [updT,e2] using h
  ·have e3:t 3=.pointer (some ⟨T,0,none⟩):=hg 3 (Wt rfl)
   have f1:=(hb.cell (p:=⟨T,0,none⟩) hT).trans cT0
   exact IR
  ·have e4:t 4=.pointer (some ⟨B,0,none⟩):=hg 4 (Wt rfl)
   have h:=hK _ X rfl (br _ _)
   refine Zi rfl rfl ?_
   clear hK hg
   go_simp
   simpa [updT,e4] using h
  ·have e5:t 5=.pointer (some ⟨B,0,none⟩):=hg 5 (Wt rfl)
   have h:=hK _ X rfl (br _ _)
   refine Zi rfl rfl ?_
   clear hK hg
   go_simp
   simpa [updT,e5] using h
  ·exact Gj
  ·exact Jy
  ·have e8:t 8=.pointer (some ⟨T,0,none⟩):=hg 8 (Wt rfl)
   have h:=hK _ X rfl (br _ _)
   refine Zi rfl rfl ?_
   clear hK hg
   go_simp
   simpa [updT,e8] using h
  ·have e9:t 9=.pointer (some ⟨T,0,none⟩):=hg 9 (Wt rfl)
   exact Pa
  ·have e10:t 10=.pointer (some ⟨T,0,none⟩):=hg 10 (Wt rfl)
   have f1:=(hb.cell (p:=⟨T,0,none⟩) hT).trans cT0
   have h:=hK _ X rfl (br _ _)
   refine Zi rfl rfl ?_
   clear hK hg
   go_simp
   simpa [updT,e10] using h
  ·have e11:t 11=.pointer (some ⟨B,0,none⟩):=hg 11 (Wt rfl)
   exact IW
  ·have e12:t 12=.pointer (some ⟨B,0,none⟩):=hg 12 (Wt rfl)
   exact IU
  ·have e13:t 13=.pointer (some ⟨B,6,none⟩):=hg 13 (Wt rfl)
   exact IT
  ·have e14:t 14=.pointer (some ⟨B,7,none⟩):=hg 14 (Wt rfl)
   have f1:=(hb.cell (p:=⟨B,7,none⟩) hB).trans cB7
   have h:=hK _ X rfl (br _ _)
   refine Zi rfl rfl ?_
   clear hK hg
   go_simp
   simpa [updT,e14] using h
  ·have e7:t 7=.int .i64 r.bal:=hg 7 (Wt rfl)
   have e15:t 15=.int .i64 r.dk.kn:=hg 15 (Wt rfl)
   have h:=hK _ X rfl (br _ _)
   refine Zi rfl rfl ?_
   clear hK hg
   go_simp
   simpa [updT,e7,e15] using h
 ·intro t X K hb hg hK
  have e0:t 0=.pointer (some ⟨T,0,none⟩):=hg 0 (by omega)
  have e16:t 16=.agg #[.int .i64 5,.int .i64 0,.int .i64 0,.int .i64 r.bal,.int .i64 0,.int .i64 r.dk.kn,.string ⟨#[]⟩,.slice none 0 0]:=hg 16 (by omega)
  refine Zi rfl rfl ?_
  have HK:=hid hK
  have HC:=hid (hQc X hb)
  clear hK hg hQc
  simp only [e0,e16]
  go_simp
  go_at_call 166
  refine HC.out.mono ?_
  rintro e Y ⟨rfl,hR⟩
  have h:=HK.out _ Y ⟨t,.tuple #[],rfl,hR⟩
  simpa [e0,e16] using h
 ·rintro a X ⟨t,v3,rfl,hp⟩
  exact hQ t v3 X hp
def Fg (T B:Nat) (r:Rc) (p:RcP) (_R:World→Prop) (_W:World) (i:Nat) (v:Value) (_X:World):Prop:=
 match i with
 | 0=>v=.pointer (some ⟨T,0,none⟩)
 | 1=>v=.pointer (some ⟨T,0,none⟩)
 | 2=>v=.pointer (some ⟨T,0,none⟩)
 | 3=>v=.pointer (some ⟨B,0,none⟩)
 | 4=>v=.pointer (some ⟨T,0,none⟩)
 | 5=>v=.pointer (some ⟨T,0,none⟩)
 | 6=>v=.pointer (some ⟨T,0,none⟩)
 | 7=>v=.pointer (some ⟨B,0,none⟩)
 | 8=>v=.pointer (some ⟨B,0,none⟩)
 | 9=>v=.pointer (some ⟨B,0,none⟩)
 | 10=>v=.int .i64 r.num
 | 11=>v=.pointer (some ⟨T,0,none⟩)
 | 12=>v=.pointer (some ⟨T,0,none⟩)
 | 13=>v=.pointer (some ⟨T,0,none⟩)
 | 14=>v=.pointer (some ⟨B,0,none⟩)
 | 15=>v=.pointer (some ⟨B,0,none⟩)
 | 16=>v=.pointer (some ⟨B,6,none⟩)
 | 17=>v=.pointer (some ⟨B,8,none⟩)
 | 18=>v=.slice p.A.da r.dk.n p.A.dc
 | _=>True
theorem P9 {P:Prop} (h:P:=by
  have e2:t 2=.pointer (some ⟨T,0,none⟩):=hg 2 (Wt rfl)
  have f1:=(hb.cell (p:=⟨T,0,none⟩) hT).trans cT0
  have h:=hK _ X rfl (br _ _)
  refine Zi rfl rfl ?_
  clear hK hg
  go_simp
  simpa [updT,e2] using h):P:=h
theorem P8 {P:Prop} (h:P:=by
  have e6:t 6=.pointer (some ⟨T,0,none⟩):=hg 6 (Wt rfl)
  have f1:=(hb.cell (p:=⟨T,0,none⟩) hT).trans cT0
  have h:=hK _ X rfl (br _ _)
  refine Zi rfl rfl ?_
  clear hK hg
  go_simp
  simpa [updT,e6] using h):P:=h
theorem PZ {P:Prop} (h:P:=by
  have e0:t 0=.pointer (some ⟨T,0,none⟩):=hg 0 (Wt rfl)
  have h:=hK _ X rfl (br _ _)
  refine Zi rfl rfl ?_
  clear hK hg
  go_simp
  simpa [updT,e0] using h):P:=h
theorem PY {P:Prop} (h:P:=by
  have e4:t 4=.pointer (some ⟨T,0,none⟩):=hg 4 (Wt rfl)
  have h:=hK _ X rfl (br _ _)
  refine Zi rfl rfl ?_
  clear hK hg
  go_simp
  simpa [updT,e4] using h):P:=h
theorem PX {P:Prop} (h:P:=by
  have e5:t 5=.pointer (some ⟨T,0,none⟩):=hg 5 (Wt rfl)
  have h:=hK _ X rfl (br _ _)
  refine Zi rfl rfl ?_
  clear hK hg
  go_simp
  simpa [updT,e5] using h):P:=h
theorem PW {P:Prop} (h:P:=by
  have e7:t 7=.pointer (some ⟨B,0,none⟩):=hg 7 (Wt rfl)
  have h:=hK _ X rfl (br _ _)
  refine Zi rfl rfl ?_
  clear hK hg
  go_simp
  simpa [updT,e7] using h):P:=h
theorem PU {P:Prop} (h:P:=by
  have e8:t 8=.pointer (some ⟨B,0,none⟩):=hg 8 (Wt rfl)
  have h:=hK _ X rfl (br _ _)
  refine Zi rfl rfl ?_
  clear hK hg
  go_simp
  simpa [updT,e8] using h):P:=h
set_option maxRecDepth 100000 in
theorem pitReg1 (p1 p2 p3 p4 p5 p6 p7 p8 p9 ze zc za zd zi zj zg zh zn zm zo zp zq yb yf ye z9 j7:Value) (w0 w1 w2 w3 w4 w5 w6 w7 w8 w9 w10 w11 w12 w13 w14 w15 w16 w17 w18:Value) (T B:Nat) (r:Rc) (p:RcP) (R:World→Prop) (W:World) (hT:T<W.1.size) (hB:B<W.1.size) (cB0:W.cell? ⟨B,0,none⟩=some (.int .i64 r.num)) (cB8:W.cell? ⟨B,8,none⟩=some (.slice p.A.da r.dk.n p.A.dc)) (cT0:W.cell? ⟨T,0,none⟩=some (.pointer (some ⟨B,0,none⟩))) (hQc:∀ X,Below W.1.size W X→Calls Tryz.prog 142 #[.pointer (some ⟨B,0,none⟩),.int .i64 r.num,.slice p.A.da r.dk.n p.A.dc] X fun e w'=>e=.returned (.tuple #[])∧R w') (Q:Exit→Act→World→Prop) (hQ:∀ (t:Nat→Value) (v3:Value) X,R X→Q .normal ⟨#[.pointer (some ⟨T,0,none⟩),p1,p2,p3,p4,p5,p6,p7,p8,p9,ze,zc,za,zd,zi,zj,zg,zh,zn,zm,zo,zp,zq,yb,yf,ye,z9,t 0,t 1,t 2,t 3,t 4,t 5,t 6,t 7,t 8,t 9,t 10,t 11,t 12,t 13,t 14,t 15,t 16,t 17,t 18,v3],[]⟩ X) :
  Code.wp Tryz.prog (Code.region 1 #[⟨some 27,.move (.tmp 0),125,GK,#[],none⟩,⟨some 28,.nilCheck (.tmp 27),0,GK,#[⟨0,.data⟩],none⟩,⟨some 29,.fieldAddr 122 (.tmp 28) 0,0,GK,#[⟨1,.data⟩],none⟩,⟨some 30,.load 81 (.tmp 29),81,GK,#[⟨2,.data⟩],none⟩,⟨some 31,.move (.tmp 0),125,GK,#[],none⟩,⟨some 32,.nilCheck (.tmp 31),0,GK,#[⟨4,.data⟩],none⟩,⟨some 33,.fieldAddr 122 (.tmp 32) 0,0,GK,#[⟨5,.data⟩],none⟩,⟨some 34,.load 81 (.tmp 33),81,GK,#[⟨6,.data⟩],none⟩,⟨some 35,.nilCheck (.tmp 34),0,GK,#[⟨7,.data⟩],none⟩,⟨some 36,.fieldAddr 38 (.tmp 35) 0,0,GK,#[⟨8,.data⟩],none⟩,⟨some 37,.load 3 (.tmp 36),3,GK,#[⟨9,.data⟩],none⟩,⟨some 38,.move (.tmp 0),125,GK,#[],none⟩,⟨some 39,.nilCheck (.tmp 38),0,GK,#[⟨11,.data⟩],none⟩,⟨some 40,.fieldAddr 122 (.tmp 39) 0,0,GK,#[⟨12,.data⟩],none⟩,⟨some 41,.load 81 (.tmp 40),81,GK,#[⟨13,.data⟩],none⟩,⟨some 42,.nilCheck (.tmp 41),0,GK,#[⟨14,.data⟩],none⟩,⟨some 43,.fieldAddr 38 (.tmp 42) 4,0,GK,#[⟨15,.data⟩],none⟩,⟨some 44,.fieldAddr 34 (.tmp 43) 2,0,GK,#[⟨16,.data⟩],none⟩,⟨some 45,.load 32 (.tmp 44),32,GK,#[⟨17,.data⟩],none⟩,⟨some 46,.call ⟨.value (.func 142),#[.tmp 30,.tmp 37,.tmp 45],#[81,3,32]⟩,0,GK,#[⟨3,.data⟩,⟨10,.data⟩,⟨18,.data⟩],none⟩] true) Q ⟨#[.pointer (some ⟨T,0,none⟩),p1,p2,p3,p4,p5,p6,p7,p8,p9,ze,zc,za,zd,zi,zj,zg,zh,zn,zm,zo,zp,zq,yb,yf,ye,z9,w0,w1,w2,w3,w4,w5,w6,w7,w8,w9,w10,w11,w12,w13,w14,w15,w16,w17,w18,j7],[]⟩ W:=by
 refine ZL (by kernel_rfl) 19 (fun t:Nat→Value=>#[.pointer (some ⟨T,0,none⟩),p1,p2,p3,p4,p5,p6,p7,p8,p9,ze,zc,za,zd,zi,zj,zg,zh,zn,zm,zo,zp,zq,yb,yf,ye,z9,t 0,t 1,t 2,t 3,t 4,t 5,t 6,t 7,t 8,t 9,t 10,t 11,t 12,t 13,t 14,t 15,t 16,t 17,t 18,j7]) (fun i=>match i with|0=>w0|1=>w1|2=>w2|3=>w3|4=>w4|5=>w5|6=>w6|7=>w7|8=>w8|9=>w9|10=>w10|11=>w11|12=>w12|13=>w13|14=>w14|15=>w15|16=>w16|17=>w17|_=>w18) (Fg T B r p R W) (fun a X=>∃ (t:Nat→Value) (v3:Value),a=⟨#[.pointer (some ⟨T,0,none⟩),p1,p2,p3,p4,p5,p6,p7,p8,p9,ze,zc,za,zd,zi,zj,zg,zh,zn,zm,zo,zp,zq,yb,yf,ye,z9,t 0,t 1,t 2,t 3,t 4,t 5,t 6,t 7,t 8,t 9,t 10,t 11,t 12,t 13,t 14,t 15,t 16,t 17,t 18,v3],[]⟩∧R X) (by kernel_rfl) (by kernel_rfl) (by kernel_rfl) ?_ rfl ?_ ?_ ?_
 ·exact fun _ _ _ _ _ h _=>h
 ·intro i hi t X K hb hg hK
  rcases (show i=0∨i=1∨i=2∨i=3∨i=4∨i=5∨i=6∨i=7∨i=8∨i=9∨i=10∨i=11∨i=12∨i=13∨i=14∨i=15∨i=16∨i=17∨i=18 by omega) with rfl|rfl|rfl|rfl|rfl|rfl|rfl|rfl|rfl|rfl|rfl|rfl|rfl|rfl|rfl|rfl|rfl|rfl|rfl
  ·exact Jy
  ·exact PZ
  ·exact Ib
  ·exact P9
  ·exact Jy
  ·exact PY
  ·exact PX
  ·exact P8
  ·exact PW
  ·exact PU
  ·have e9:t 9=.pointer (some ⟨B,0,none⟩):=hg 9 (Wt rfl)
   have f1:=(hb.cell (p:=⟨B,0,none⟩) hB).trans cB0
   exact Pa
  ·exact Jy
  ·have e11:t 11=.pointer (some ⟨T,0,none⟩):=hg 11 (Wt rfl)
   exact IW
  ·have e12:t 12=.pointer (some ⟨T,0,none⟩):=hg 12 (Wt rfl)
   exact IU
  ·have e13:t 13=.pointer (some ⟨T,0,none⟩):=hg 13 (Wt rfl)
   have f1:=(hb.cell (p:=⟨T,0,none⟩) hT).trans cT0
   exact IT
  ·have e14:t 14=.pointer (some ⟨B,0,none⟩):=hg 14 (Wt rfl)
   have h:=hK _ X rfl (br _ _)
   refine Zi rfl rfl ?_
   clear hK hg
   go_simp
   simpa [updT,e14] using h
  ·have e15:t 15=.pointer (some ⟨B,0,none⟩):=hg 15 (Wt rfl)
   have h:=hK _ X rfl (br _ _)
   refine Zi rfl rfl ?_
   clear hK hg
   go_simp
   simpa [updT,e15] using h
  ·have e16:t 16=.pointer (some ⟨B,6,none⟩):=hg 16 (Wt rfl)
   have h:=hK _ X rfl (br _ _)
   refine Zi rfl rfl ?_
   clear hK hg
   go_simp
   simpa [updT,e16] using h
  ·have e17:t 17=.pointer (some ⟨B,8,none⟩):=hg 17 (Wt rfl)
   have f1:=(hb.cell (p:=⟨B,8,none⟩) hB).trans cB8
   have h:=hK _ X rfl (br _ _)
   refine Zi rfl rfl ?_
   clear hK hg
   go_simp
   simpa [updT,e17] using h
 ·intro t X K hb hg hK
  have e3:t 3=.pointer (some ⟨B,0,none⟩):=hg 3 (by omega)
  have e10:t 10=.int .i64 r.num:=hg 10 (by omega)
  have e18:t 18=.slice p.A.da r.dk.n p.A.dc:=hg 18 (by omega)
  refine Zi rfl rfl ?_
  have HK:=hid hK
  have HC:=hid (hQc X hb)
  clear hK hg hQc
  simp only [e3,e10,e18]
  go_simp
  go_at_call 142
  refine HC.out.mono ?_
  rintro e Y ⟨rfl,hR⟩
  have h:=HK.out _ Y ⟨t,.tuple #[],rfl,hR⟩
  simpa [e3,e10,e18] using h
 ·rintro a X ⟨t,v3,rfl,hp⟩
  exact hQ t v3 X hp
def EL (T B k:Nat) (r:Rc) (_p:RcP) (_R:World→Prop) (_W:World) (i:Nat) (v:Value) (_X:World):Prop:=
 match i with
 | 0=>v=.pointer (some ⟨T,0,none⟩)
 | 1=>v=.pointer (some ⟨T,0,none⟩)
 | 2=>v=.pointer (some ⟨T,0,none⟩)
 | 3=>v=.pointer (some ⟨B,0,none⟩)
 | 4=>v=.pointer (some ⟨T,0,none⟩)
 | 5=>v=.pointer (some ⟨T,0,none⟩)
 | 6=>v=.pointer (some ⟨T,0,none⟩)
 | 7=>v=.pointer (some ⟨B,0,none⟩)
 | 8=>v=.pointer (some ⟨B,0,none⟩)
 | 9=>v=.pointer (some ⟨B,0,none⟩)
 | 10=>v=.int .i64 r.num
 | 11=>v=.int .i64 (k:Int)
 | 12=>v=.int .i64 ((k:Int)+1)
 | _=>True
set_option maxRecDepth 100000 in
theorem twsReg4 (p1 p3 p4 p5 p6 p7 p8 p9 ze zc za zd zi zj zg zh zn zm zo zp zq yb yf ye z9 yd yt xo:Value) (w0 w1 w2 w3 w4 w5 w6 w7 w8 w9 w10 w11 w12:Value) (T B k:Nat) (r:Rc) (p:RcP) (R:World→Prop) (W:World) (hT:T<W.1.size) (hB:B<W.1.size) (cB0:W.cell? ⟨B,0,none⟩=some (.int .i64 r.num)) (cT0:W.cell? ⟨T,0,none⟩=some (.pointer (some ⟨B,0,none⟩))) (hk:k≤1000) (hQc:∀ X,Below W.1.size W X→Calls Tryz.prog 155 #[.pointer (some ⟨B,0,none⟩),.int .i64 r.num,.int .i64 ((k:Int)+1)] X fun e w'=>e=.returned (.tuple #[])∧R w') (Q:Exit→Act→World→Prop) (hQ:∀ (t:Nat→Value) (v3:Value) X,R X→Q .normal ⟨#[.pointer (some ⟨T,0,none⟩),p1,.int .i64 (k:Int),p3,p4,p5,p6,p7,p8,p9,ze,zc,za,zd,zi,zj,zg,zh,zn,zm,zo,zp,zq,yb,yf,ye,z9,yd,t 0,t 1,t 2,t 3,t 4,t 5,t 6,t 7,t 8,t 9,t 10,t 11,t 12,v3,xo],[]⟩ X) :
  Code.wp Tryz.prog (Code.region 4 #[⟨some 28,.move (.tmp 0),125,GL,#[],none⟩,⟨some 29,.nilCheck (.tmp 28),0,GL,#[⟨0,.data⟩],none⟩,⟨some 30,.fieldAddr 122 (.tmp 29) 0,0,GL,#[⟨1,.data⟩],none⟩,⟨some 31,.load 81 (.tmp 30),81,GL,#[⟨2,.data⟩],none⟩,⟨some 32,.move (.tmp 0),125,GL,#[],none⟩,⟨some 33,.nilCheck (.tmp 32),0,GL,#[⟨4,.data⟩],none⟩,⟨some 34,.fieldAddr 122 (.tmp 33) 0,0,GL,#[⟨5,.data⟩],none⟩,⟨some 35,.load 81 (.tmp 34),81,GL,#[⟨6,.data⟩],none⟩,⟨some 36,.nilCheck (.tmp 35),0,GL,#[⟨7,.data⟩],none⟩,⟨some 37,.fieldAddr 38 (.tmp 36) 0,0,GL,#[⟨8,.data⟩],none⟩,⟨some 38,.load 3 (.tmp 37),3,GL,#[⟨9,.data⟩],none⟩,⟨some 39,.move (.tmp 2),3,GL,#[],none⟩,⟨some 40,.binOp .add 3 (.tmp 39) (.const (.int .i64 1)) 3,3,GL,#[⟨11,.data⟩],none⟩,⟨some 41,.call ⟨.value (.func 155),#[.tmp 31,.tmp 38,.tmp 40],#[81,3,3]⟩,0,GL,#[⟨3,.data⟩,⟨10,.data⟩,⟨12,.data⟩],none⟩] true) Q ⟨#[.pointer (some ⟨T,0,none⟩),p1,.int .i64 (k:Int),p3,p4,p5,p6,p7,p8,p9,ze,zc,za,zd,zi,zj,zg,zh,zn,zm,zo,zp,zq,yb,yf,ye,z9,yd,w0,w1,w2,w3,w4,w5,w6,w7,w8,w9,w10,w11,w12,yt,xo],[]⟩ W:=by
 refine ZL (by kernel_rfl) 13 (fun t:Nat→Value=>#[.pointer (some ⟨T,0,none⟩),p1,.int .i64 (k:Int),p3,p4,p5,p6,p7,p8,p9,ze,zc,za,zd,zi,zj,zg,zh,zn,zm,zo,zp,zq,yb,yf,ye,z9,yd,t 0,t 1,t 2,t 3,t 4,t 5,t 6,t 7,t 8,t 9,t 10,t 11,t 12,yt,xo]) (fun i=>match i with|0=>w0|1=>w1|2=>w2|3=>w3|4=>w4|5=>w5|6=>w6|7=>w7|8=>w8|9=>w9|10=>w10|11=>w11|_=>w12) (EL T B k r p R W) (fun a X=>∃ (t:Nat→Value) (v3:Value),a=⟨#[.pointer (some ⟨T,0,none⟩),p1,.int .i64 (k:Int),p3,p4,p5,p6,p7,p8,p9,ze,zc,za,zd,zi,zj,zg,zh,zn,zm,zo,zp,zq,yb,yf,ye,z9,yd,t 0,t 1,t 2,t 3,t 4,t 5,t 6,t 7,t 8,t 9,t 10,t 11,t 12,v3,xo],[]⟩∧R X) (by kernel_rfl) (by kernel_rfl) (by kernel_rfl) ?_ rfl ?_ ?_ ?_
 ·exact fun _ _ _ _ _ h _=>h
 ·intro i hi t X K hb hg hK
  rcases (show i=0∨i=1∨i=2∨i=3∨i=4∨i=5∨i=6∨i=7∨i=8∨i=9∨i=10∨i=11∨i=12 by omega) with rfl|rfl|rfl|rfl|rfl|rfl|rfl|rfl|rfl|rfl|rfl|rfl|rfl
  ·exact Jy
  ·exact PZ
  ·exact Ib
  ·exact P9
  ·exact Jy
  ·exact PY
  ·exact PX
  ·exact P8
  ·exact PW
  ·exact PU
  ·have e9:t 9=.pointer (some ⟨B,0,none⟩):=hg 9 (Wt rfl)
   have f1:=(hb.cell (p:=⟨B,0,none⟩) hB).trans cB0
   exact Pa
  ·exact Jy
  ·have e11:t 11=.int .i64 (k:Int):=hg 11 (Wt rfl)
   have h:=hK _ X rfl (br _ _)
   refine Zi rfl rfl ?_
   clear hK hg
   have hw:IntKind.i64.wrap ((k:Int)+1)=(k:Int)+1:=by rw [IntKind.wrap_i64];omega
   go_simp
   simpa [updT,e11,hw] using h
 ·intro t X K hb hg hK
  have e3:t 3=.pointer (some ⟨B,0,none⟩):=hg 3 (by omega)
  have e10:t 10=.int .i64 r.num:=hg 10 (by omega)
  have e12:t 12=.int .i64 ((k:Int)+1):=hg 12 (by omega)
  refine Zi rfl rfl ?_
  have HK:=hid hK
  have HC:=hid (hQc X hb)
  clear hK hg hQc
  simp only [e3,e10,e12]
  go_simp
  go_at_call 155
  refine HC.out.mono ?_
  rintro e Y ⟨rfl,hR⟩
  have h:=HK.out _ Y ⟨t,.tuple #[],rfl,hR⟩
  simpa [e3,e10,e12] using h
 ·rintro a X ⟨t,v3,rfl,hp⟩
  exact hQ t v3 X hp
def saReg3G (T B g k:Nat) (r:Rc) (p:RcP) (_R:World→Prop) (_W:World) (i:Nat) (v:Value) (_X:World):Prop:=
 match i with
 | 0=>v=.pointer (some ⟨T,0,none⟩)
 | 1=>v=.pointer (some ⟨T,0,none⟩)
 | 2=>v=.pointer (some ⟨T,0,none⟩)
 | 3=>v=.pointer (some ⟨T,0,none⟩)
 | 4=>v=.pointer (some ⟨B,0,none⟩)
 | 5=>v=.pointer (some ⟨B,0,none⟩)
 | 6=>v=.pointer (some ⟨B,13,none⟩)
 | 7=>v=.int .i64 r.bal
 | 8=>v=.int .i64 (k:Int)
 | 9=>v=.int .i64 ((k:Int)+1)
 | 10=>v=.pointer (some ⟨T,0,none⟩)
 | 11=>v=.pointer (some ⟨T,0,none⟩)
 | 12=>v=.pointer (some ⟨T,0,none⟩)
 | 13=>v=.pointer (some ⟨B,0,none⟩)
 | 14=>v=.pointer (some ⟨B,0,none⟩)
 | 15=>v=.pointer (some ⟨B,6,none⟩)
 | 16=>v=.pointer (some ⟨B,8,none⟩)
 | 17=>v=.slice (some ⟨g,0,none⟩) r.dk.n p.A.dc
 | 18=>v=.int .i64 (k:Int)
 | 19=>v=.pointer (some ⟨g,k*2,none⟩)
 | 20=>v=.pointer (some ⟨g,k*2+1,none⟩)
 | 21=>v=.string (r.dk.s k).text
 | 22=>v=.agg #[.int .i64 3,.int .i64 0,.int .i64 0,.int .i64 r.bal,.int .i64 ((k:Int)+1),.int .i64 0,.string (r.dk.s k).text,.slice none 0 0]
 | _=>True
set_option maxRecDepth 100000 in
theorem saReg3 (p1 p3 p4 p5 p6 p7 p8 p9 ze zc za zd zi zj zg zh zn zm zo zp zq yb kj:Value) (w0 w1 w2 w3 w4 w5 w6 w7 w8 w9 w10 w11 w12 w13 w14 w15 w16 w17 w18 w19 w20 w21 w22:Value) (T B g k:Nat) (r:Rc) (p:RcP) (R:World→Prop) (W:World) (hT:T<W.1.size) (hB:B<W.1.size) (cB8:W.cell? ⟨B,8,none⟩=some (.slice (some ⟨g,0,none⟩) r.dk.n p.A.dc)) (cB13:W.cell? ⟨B,13,none⟩=some (.int .i64 r.bal)) (cT0:W.cell? ⟨T,0,none⟩=some (.pointer (some ⟨B,0,none⟩))) (hk:k<r.dk.n) (hn:r.dk.n≤1000) (hgl:g<W.1.size) (cg:W.cell? ⟨g,k*2+1,none⟩=some (.string (r.dk.s k).text)) (hQc:∀ X,Below W.1.size W X→Calls Tryz.prog 166 #[.pointer (some ⟨T,0,none⟩),.agg #[.int .i64 3,.int .i64 0,.int .i64 0,.int .i64 r.bal,.int .i64 ((k:Int)+1),.int .i64 0,.string (r.dk.s k).text,.slice none 0 0]] X fun e w'=>e=.returned (.tuple #[])∧R w') (Q:Exit→Act→World→Prop) (hQ:∀ (t:Nat→Value) (v3:Value) X,R X→Q .normal ⟨#[.pointer (some ⟨T,0,none⟩),p1,.int .i64 (k:Int),p3,p4,p5,p6,p7,p8,p9,ze,zc,za,zd,zi,zj,zg,zh,zn,zm,zo,zp,zq,yb,t 0,t 1,t 2,t 3,t 4,t 5,t 6,t 7,t 8,t 9,t 10,t 11,t 12,t 13,t 14,t 15,t 16,t 17,t 18,t 19,t 20,t 21,t 22,v3],[]⟩ X) :
  Code.wp Tryz.prog (Code.region 3 #[⟨some 24,.move (.tmp 0),125,GM,#[],none⟩,⟨some 25,.move (.tmp 0),125,GM,#[],none⟩,⟨some 26,.nilCheck (.tmp 25),0,GM,#[⟨1,.data⟩],none⟩,⟨some 27,.fieldAddr 122 (.tmp 26) 0,0,GM,#[⟨2,.data⟩],none⟩,⟨some 28,.load 81 (.tmp 27),81,GM,#[⟨3,.data⟩],none⟩,⟨some 29,.nilCheck (.tmp 28),0,GM,#[⟨4,.data⟩],none⟩,⟨some 30,.fieldAddr 38 (.tmp 29) 9,0,GM,#[⟨5,.data⟩],none⟩,⟨some 31,.load 3 (.tmp 30),3,GM,#[⟨6,.data⟩],none⟩,⟨some 32,.move (.tmp 2),3,GM,#[],none⟩,⟨some 33,.binOp .add 3 (.tmp 32) (.const (.int .i64 1)) 3,3,GM,#[⟨8,.data⟩],none⟩,⟨some 34,.move (.tmp 0),125,GM,#[],none⟩,⟨some 35,.nilCheck (.tmp 34),0,GM,#[⟨10,.data⟩],none⟩,⟨some 36,.fieldAddr 122 (.tmp 35) 0,0,GM,#[⟨11,.data⟩],none⟩,⟨some 37,.load 81 (.tmp 36),81,GM,#[⟨12,.data⟩],none⟩,⟨some 38,.nilCheck (.tmp 37),0,GM,#[⟨13,.data⟩],none⟩,⟨some 39,.fieldAddr 38 (.tmp 38) 4,0,GM,#[⟨14,.data⟩],none⟩,⟨some 40,.fieldAddr 34 (.tmp 39) 2,0,GM,#[⟨15,.data⟩],none⟩,⟨some 41,.load 32 (.tmp 40),32,GM,#[⟨16,.data⟩],none⟩,⟨some 42,.move (.tmp 2),3,GM,#[],none⟩,⟨some 43,.indexAddr 32 (.tmp 41) (.tmp 42),0,GM,#[⟨17,.data⟩,⟨18,.data⟩],none⟩,⟨some 44,.fieldAddr 109 (.tmp 43) 1,0,GM,#[⟨19,.data⟩],none⟩,⟨some 45,.load 9 (.tmp 44),9,GM,#[⟨20,.data⟩],none⟩,⟨some 46,.build 52 #[(0,.const (.int .i64 3)),(3,.tmp 31),(4,.tmp 33),(6,.tmp 45)],52,GM,#[⟨7,.data⟩,⟨9,.data⟩,⟨21,.data⟩],none⟩,⟨some 47,.call ⟨.value (.func 166),#[.tmp 24,.tmp 46],#[125,52]⟩,0,GM,#[⟨0,.data⟩,⟨22,.data⟩],none⟩] true) Q ⟨#[.pointer (some ⟨T,0,none⟩),p1,.int .i64 (k:Int),p3,p4,p5,p6,p7,p8,p9,ze,zc,za,zd,zi,zj,zg,zh,zn,zm,zo,zp,zq,yb,w0,w1,w2,w3,w4,w5,w6,w7,w8,w9,w10,w11,w12,w13,w14,w15,w16,w17,w18,w19,w20,w21,w22,kj],[]⟩ W:=by
 refine ZL (by kernel_rfl) 23 (fun t:Nat→Value=>#[.pointer (some ⟨T,0,none⟩),p1,.int .i64 (k:Int),p3,p4,p5,p6,p7,p8,p9,ze,zc,za,zd,zi,zj,zg,zh,zn,zm,zo,zp,zq,yb,t 0,t 1,t 2,t 3,t 4,t 5,t 6,t 7,t 8,t 9,t 10,t 11,t 12,t 13,t 14,t 15,t 16,t 17,t 18,t 19,t 20,t 21,t 22,kj]) (fun i=>match i with|0=>w0|1=>w1|2=>w2|3=>w3|4=>w4|5=>w5|6=>w6|7=>w7|8=>w8|9=>w9|10=>w10|11=>w11|12=>w12|13=>w13|14=>w14|15=>w15|16=>w16|17=>w17|18=>w18|19=>w19|20=>w20|21=>w21|_=>w22) (saReg3G T B g k r p R W) (fun a X=>∃ (t:Nat→Value) (v3:Value),a=⟨#[.pointer (some ⟨T,0,none⟩),p1,.int .i64 (k:Int),p3,p4,p5,p6,p7,p8,p9,ze,zc,za,zd,zi,zj,zg,zh,zn,zm,zo,zp,zq,yb,t 0,t 1,t 2,t 3,t 4,t 5,t 6,t 7,t 8,t 9,t 10,t 11,t 12,t 13,t 14,t 15,t 16,t 17,t 18,t 19,t 20,t 21,t 22,v3],[]⟩∧R X) (by kernel_rfl) (by kernel_rfl) (by kernel_rfl) ?_ rfl ?_ ?_ ?_
 ·exact fun _ _ _ _ _ h _=>h
 ·intro i hi t X K hb hg hK
  rcases (show i=0∨i=1∨i=2∨i=3∨i=4∨i=5∨i=6∨i=7∨i=8∨i=9∨i=10∨i=11∨i=12∨i=13∨i=14∨i=15∨i=16∨i=17∨i=18∨i=19∨i=20∨i=21∨i=22 by omega) with rfl|rfl|rfl|rfl|rfl|rfl|rfl|rfl|rfl|rfl|rfl|rfl|rfl|rfl|rfl|rfl|rfl|rfl|rfl|rfl|rfl|rfl|rfl
  ·exact Jy
  ·exact Jy
  ·exact Ib
  ·have e2:t 2=.pointer (some ⟨T,0,none⟩):=hg 2 (Wt rfl)
   have h:=hK _ X rfl (br _ _)
   refine Zi rfl rfl ?_
   clear hK hg
   go_simp
   simpa [updT,e2] using h
  ·have e3:t 3=.pointer (some ⟨T,0,none⟩):=hg 3 (Wt rfl)
   have f1:=(hb.cell (p:=⟨T,0,none⟩) hT).trans cT0
   exact IR
  ·have e4:t 4=.pointer (some ⟨B,0,none⟩):=hg 4 (Wt rfl)
   have h:=hK _ X rfl (br _ _)
   refine Zi rfl rfl ?_
   clear hK hg
   go_simp
   simpa [updT,e4] using h
  ·have e5:t 5=.pointer (some ⟨B,0,none⟩):=hg 5 (Wt rfl)
   have h:=hK _ X rfl (br _ _)
   refine Zi rfl rfl ?_
   clear hK hg
   go_simp
   simpa [updT,e5] using h
  ·exact Gj
  ·exact Jy
  ·have e8:t 8=.int .i64 (k:Int):=hg 8 (Wt rfl)
   have h:=hK _ X rfl (br _ _)
   refine Zi rfl rfl ?_
   clear hK hg
   have hw:IntKind.i64.wrap ((k:Int)+1)=(k:Int)+1:=by rw [IntKind.wrap_i64];omega
   go_simp
   simpa [updT,e8,hw] using h
  ·exact Jy
  ·have e10:t 10=.pointer (some ⟨T,0,none⟩):=hg 10 (Wt rfl)
   have h:=hK _ X rfl (br _ _)
   refine Zi rfl rfl ?_
   clear hK hg
   go_simp
   simpa [updT,e10] using h
  ·have e11:t 11=.pointer (some ⟨T,0,none⟩):=hg 11 (Wt rfl)
   exact IW
  ·have e12:t 12=.pointer (some ⟨T,0,none⟩):=hg 12 (Wt rfl)
   have f1:=(hb.cell (p:=⟨T,0,none⟩) hT).trans cT0
   exact IU
  ·have e13:t 13=.pointer (some ⟨B,0,none⟩):=hg 13 (Wt rfl)
   exact IT
  ·have e14:t 14=.pointer (some ⟨B,0,none⟩):=hg 14 (Wt rfl)
   have h:=hK _ X rfl (br _ _)
   refine Zi rfl rfl ?_
   clear hK hg
   go_simp
   simpa [updT,e14] using h
  ·have e15:t 15=.pointer (some ⟨B,6,none⟩):=hg 15 (Wt rfl)
   have h:=hK _ X rfl (br _ _)
   refine Zi rfl rfl ?_
   clear hK hg
   go_simp
   simpa [updT,e15] using h
  ·have e16:t 16=.pointer (some ⟨B,8,none⟩):=hg 16 (Wt rfl)
   have f1:=(hb.cell (p:=⟨B,8,none⟩) hB).trans cB8
   have h:=hK _ X rfl (br _ _)
   refine Zi rfl rfl ?_
   clear hK hg
   go_simp
   simpa [updT,e16] using h
  ·exact Jy
  ·have e17:t 17=.slice (some ⟨g,0,none⟩) r.dk.n p.A.dc:=hg 17 (Wt rfl)
   have e18:t 18=.int .i64 (k:Int):=hg 18 (Wt rfl)
   have hi2:=hk
   have h:=hK _ X rfl (br _ _)
   refine Zi rfl rfl ?_
   clear hK hg
   go_simp
   simpa [updT,e17,e18] using h
  ·have e19:t 19=.pointer (some ⟨g,k*2,none⟩):=hg 19 (Wt rfl)
   have h:=hK _ X rfl (br _ _)
   refine Zi rfl rfl ?_
   clear hK hg
   go_simp
   simpa [updT,e19] using h
  ·have e20:t 20=.pointer (some ⟨g,k*2+1,none⟩):=hg 20 (Wt rfl)
   have f1:=(hb.cell (p:=⟨g,k*2+1,none⟩) hgl).trans cg
   have h:=hK _ X rfl (br _ _)
   refine Zi rfl rfl ?_
   clear hK hg
   go_simp
   simpa [updT,e20] using h
  ·have e7:t 7=.int .i64 r.bal:=hg 7 (Wt rfl)
   have e9:t 9=.int .i64 ((k:Int)+1):=hg 9 (Wt rfl)
   have e21:t 21=.string (r.dk.s k).text:=hg 21 (Wt rfl)
   have h:=hK _ X rfl (br _ _)
   refine Zi rfl rfl ?_
   clear hK hg
   go_simp
   simpa [updT,e7,e9,e21] using h
 ·intro t X K hb hg hK
  have e0:t 0=.pointer (some ⟨T,0,none⟩):=hg 0 (by omega)
  have e22:t 22=.agg #[.int .i64 3,.int .i64 0,.int .i64 0,.int .i64 r.bal,.int .i64 ((k:Int)+1),.int .i64 0,.string (r.dk.s k).text,.slice none 0 0]:=hg 22 (by omega)
  refine Zi rfl rfl ?_
  have HK:=hid hK
  have HC:=hid (hQc X hb)
  clear hK hg hQc
  simp only [e0,e22]
  go_simp
  go_at_call 166
  refine HC.out.mono ?_
  rintro e Y ⟨rfl,hR⟩
  have h:=HK.out _ Y ⟨t,.tuple #[],rfl,hR⟩
  simpa [e0,e22] using h
 ·rintro a X ⟨t,v3,rfl,hp⟩
  exact hQ t v3 X hp
structure TkAt (W:World) (T B:Nat) (r:Rc) (p:RcP) (s:Rc) (ps:RcP):Prop where
 tx:Bx W T #[.pointer (some ⟨B,0,none⟩),.slice ps.A.ha s.hn ps.A.hc]
 bx:Bx W B (rcC r p.A)
 g:RcG W r p
 sg:RcG W s ps
 ap:∀ k,rbs p r k→k≠T∧k≠B∧¬rbs ps s k
 sp:∀ k,rbs ps s k→k≠T∧k≠B
 ne:T≠B
 nm:s.num=r.num
theorem TkAt.grow {W W':World} {T B:Nat} {r s:Rc} {p ps:RcP} (h:TkAt W T B r p s ps) (hb:Below W.1.size W W'):TkAt W' T B r p s ps:=
 ⟨h.tx.below hb h.tx.lt,h.bx.below hb h.bx.lt,h.g.grow hb,h.sg.grow hb,h.ap,h.sp,h.ne,h.nm⟩
def SnR (T B:Nat) (r:Rc) (p:RcP) (s:Rc) (ps:RcP) (s':Rc) (w:World) (e:Ending) (w':World):Prop:=
 e=.returned (.tuple #[])∧∃ ps',TkAt w' T B r p s' ps'∧FrP (fun q=>q=T∨rbs ps s q) w w'∧(∀ q,rbs ps' s' q→rbs ps s q∨w.1.size≤q)
theorem PB (m:Ms) (hmn:m.n=0) (T B:Nat) (r:Rc) (p:RcP) (s:Rc) (ps:RcP) (w:World) (h:TkAt w T B r p s ps) (ho0:0≤r.of) (ho1:r.of≤1000) (hsn:s.hn≤100000) :
  Calls Tryz.prog 166 #[.pointer (some ⟨T,0,none⟩),.agg #[.int .i64 m.kind,.int .i64 m.from_,.int .i64 m.to,.int .i64 m.bal,.int .i64 m.ix,.int .i64 m.kn,.string m.text,.slice none 0 0]] w (SnR T B r p s ps (XB r.num m r.of.toNat s) w):=by
 refine (NN r p s ps m hmn T B w ho0 ho1 hsn h.nm h.tx h.bx h.sg (fun k hk=>(h.sp k hk).1)).mono ?_
 rintro e w' ⟨rfl,ps',y1,y2,y3,y4⟩
 have nr:∀ q,rbs p r q→¬(q=T∨rbs ps s q):=fun q hq e=>by
  rcases e with e|e
  ·exact (h.ap q hq).1 e
  ·exact (h.ap q hq).2.2 e
 have nB:¬(B=T∨rbs ps s B):=fun e=>by
  rcases e with e|e
  ·exact h.ne e.symm
  ·exact (h.sp B e).2 rfl
 have lt:=h.g.at_.lt
 have lT:=h.tx.lt
 have lB:=h.bx.lt
 refine ⟨rfl,ps',⟨y1,h.bx.frP y3 nB,h.g.fr y3 nr,y2,fun q hq=>⟨(h.ap q hq).1,(h.ap q hq).2.1,fun hk=>?_⟩,fun q hq=>?_,h.ne,(Uo _ _ _ _).trans h.nm⟩,y3,y4⟩
 ·rcases y4 q hk with e|e
  ·exact (h.ap q hq).2.2 e
  ·have:=lt q hq
   omega
 ·rcases y4 q hq with e|e
  ·exact h.sp q e
  ·exact ⟨by omega,by omega⟩
theorem SnR.pre {T B:Nat} {r s s':Rc} {p ps:RcP} {w X w':World} {e:Ending} (h:SnR T B r p s ps s' X e w') (hb:Below w.1.size w X):SnR T B r p s ps s' w e w':=by
 obtain ⟨rfl,ps',h1,h2,h3⟩:=h
 refine ⟨rfl,ps',h1,(FrP.of_below hb).trans h2,fun q hq=>?_⟩
 have:=hb.size
 rcases h3 q hq with e|e
 ·exact Or.inl e
 ·exact Or.inr (by omega)
def beM (r:Rc):Ms:=⟨5,0,0,r.bal,0,r.dk.kn,⟨#[]⟩,0,fun _=>⟨0,⟨#[]⟩⟩⟩
def acM (r:Rc) (k:Nat):Ms:=⟨3,0,0,r.bal,(k:Int)+1,0,(r.dk.s k).text,0,fun _=>⟨0,⟨#[]⟩⟩⟩
set_option maxRecDepth 100000 in
theorem Io (T B:Nat) (r:Rc) (p:RcP) (s:Rc) (ps:RcP) (w:World) (h:TkAt w T B r p s ps) (ho0:0≤r.of) (ho1:r.of≤1000) (hsn:s.hn≤100000) :
  Calls Tryz.prog 145 #[.pointer (some ⟨T,0,none⟩)] w (SnR T B r p s ps (XB r.num (beM r) r.of.toNat s) w):=by
 have H:=hid h
 clear h
 go_enter Tryz.func145,Tryz.ntmps145
 refine beaReg0 _ _ _ _ _ _ _ _ _ _ _ _ _ _ _ _ _ _ _ T B r p (fun w'=>SnR T B r p s ps (XB r.num (beM r) r.of.toNat s) w (.returned (.tuple #[])) w') w H.out.tx.lt H.out.bx.lt (H.out.bx.cell 7) (H.out.bx.cell 13) (H.out.tx.cell 0) (fun X hb=>(PB (beM r) rfl T B r p s ps X (H.out.grow hb) ho0 ho1 hsn).mono fun e w' hr=>?_) _ ?_
 ·have h2:=hr.pre hb
  obtain ⟨rfl,h3⟩:=h2
  exact ⟨rfl,rfl,h3⟩
 ·rintro t v3 X hR
  exact bodyPost_end (results_none rfl _ _ _) rfl hR
def UN (r:Rc) (a:Nat):Nat→Rc→Rc
 | 0,s=>s
 | j+1,s=>XB r.num (acM r (a+j)) r.of.toNat (UN r a j s)
theorem Ed (r:Rc) (a:Nat) (s:Rc) (h:r.of.toNat≤1000):∀ j,(UN r a j s).hn≤s.hn+j*1000
 | 0=>by simp [UN]
 | j+1=>by
  have h1:=Ed r a s h j
  have h2:=Np r.num (acM r (a+j)) (UN r a j s) r.of.toNat
  rw [UN]
  omega
theorem SnR.link {T B:Nat} {r s s' s2:Rc} {p ps ps':RcP} {w X w':World} {e:Ending} (h:SnR T B r p s' ps' s2 X e w') (hf:FrP (fun q=>q=T∨rbs ps s q) w X) (hk:∀ q,rbs ps' s' q→rbs ps s q∨w.1.size≤q):SnR T B r p s ps s2 w e w':=by
 obtain ⟨rfl,p2,h1,h2,h3⟩:=h
 refine ⟨rfl,p2,h1,hf.trans2 h2 (fun q hq e=>?_),fun q hq=>?_⟩
 ·rcases e with e|e
  ·exact Or.inl e
  ·rcases hk q e with e|e
   ·exact Or.inr e
   ·omega
 ·have:=hf.size
  rcases h3 q hq with e|e
  ·exact hk q e
  ·exact Or.inr (by omega)
set_option maxRecDepth 100000 in
theorem Nu (T B:Nat) (r:Rc) (p:RcP) (s:Rc) (ps:RcP) (a:Nat) (w:World) (h:TkAt w T B r p s ps) (ho0:0≤r.of) (ho1:r.of≤1000) (hsn:s.hn≤10000) (hka:r.dk.kn=(a:Int)) (han:a≤r.dk.n) (hdn:r.dk.n≤60) :
  Calls Tryz.prog 146 #[.pointer (some ⟨T,0,none⟩)] w (SnR T B r p s ps (UN r a (r.dk.n-a) s) w):=by
 have H:=hid h
 have HKA:=hid hka
 have q0:w.cell? ⟨T,0,none⟩=some (.pointer (some ⟨B,0,none⟩)):=h.tx.cell 0
 have q1:w.cell? ⟨B,7,none⟩=some (.int .i64 r.dk.kn):=h.bx.cell 7
 rw [hka] at q1
 have hofn:r.of.toNat≤1000:=by omega
 have HOF:=hid hofn
 clear h hka hofn
 go_enter Tryz.func146,Tryz.ntmps146
 go_wp2
 clear q0 q1
 go_loopw [2] (fun i wr=>∃ (j:Nat) (ps':RcP),i=.int .i64 ((a+j:Nat):Int)∧a+j≤r.dk.n∧Hid (TkAt wr T B r p (UN r a j s) ps')∧Hid (FrP (fun q=>q=T∨rbs ps s q) w wr)∧Hid (∀ q,rbs ps' (UN r a j s) q→rbs ps s q∨w.1.size≤q)) (fun i _=>r.dk.n-(intOf i).toNat)
 case atStart=>exact ⟨0,ps,rfl,han,H,hid (FrP.refl _ _),hid (fun q hq=>Or.inl hq)⟩
 case round=>
  obtain ⟨j,ps',rfl,hj,TK,FR,NB⟩:=hrel
  have q0:wr.cell? ⟨T,0,none⟩=some (.pointer (some ⟨B,0,none⟩)):=TK.out.tx.cell 0
  by_cases hjn:a+j<r.dk.n
  ·have hdp:0<r.dk.n:=by omega
   have had:=TK.out.g.at_.o1.addr hdp
   obtain ⟨c,rr,hat⟩:=TK.out.g.at_.o1.row hdp
   have hat1:=(hat (a+j) hjn).2
   have hgl:=rr.lt
   have cg:=hid ((rr.cell ((a+j)*2+1) (by omega)).trans (congrArg some hat1))
   have HJN:=hid hjn
   have c8:wr.cell? ⟨B,8,none⟩=some (.slice (some ⟨p.g1,0,none⟩) r.dk.n p.A.dc):=by rw [←had];exact TK.out.bx.cell 8
   have C8:=hid c8
   have HAD:=hid had
   clear hat hat1 rr had
   go_wp2
   have hle:=Ed r a s HOF.out j
   refine saReg3 _ _ _ _ _ _ _ _ _ _ _ _ _ _ _ _ _ _ _ _ _ _ _ _ _ _ _ _ _ _ _ _ _ _ _ _ _ _ _ _ _ _ _ _ _ _ T B p.g1 (a+j) r p (fun w'=>SnR T B r p (UN r a j s) ps' (UN r a (j+1) s) wr (.returned (.tuple #[])) w') wr TK.out.tx.lt TK.out.bx.lt C8.out (TK.out.bx.cell 13) (TK.out.tx.cell 0) HJN.out (by omega) hgl cg.out (fun X hb=>(PB (acM r (a+j)) rfl T B r p (UN r a j s) ps' X (TK.out.grow hb) ho0 ho1 (by omega)).mono fun e w' hr=>?_) _ ?_
   ·have h2:=hr.pre hb
    obtain ⟨rfl,h3⟩:=h2
    exact ⟨rfl,rfl,h3⟩
   ·rintro t v3 X hR
    have hR2:=hR.link FR.out NB.out
    obtain ⟨_,p2,k1,k2,k3⟩:=hR2
    have K1:=hid k1
    have K2:=hid k2
    have K3:=hid k3
    clear hR k1 k2 k3
    go_wp2
    go_roundw
    case rel=>exact ⟨j+1,p2,by go_num,by have:=HJN.out;omega,K1,K2,K3⟩
    case measure=>have:=HJN.out;simp [intOf];omega
  ·have c8:wr.cell? ⟨B,8,none⟩=some (.slice p.A.da r.dk.n p.A.dc):=TK.out.bx.cell 8
   have hje:j=r.dk.n-a:=by omega
   subst hje
   have HE:Hid (a+(r.dk.n-a)=r.dk.n):=hid (by omega)
   go_wp2
   exact bodyPost_end (results_none rfl _ _ _) rfl ⟨rfl,ps',TK.out,FR.out,NB.out⟩
abbrev noH (r:Rc):Rc:={ r with hn:=0 }
abbrev UM (p:RcP):RcP:={ p with A:={ p.A with ha:=none,hc:=0 } }
abbrev onH (r:Rc):Rc:={ r with sf:={ r.sf with n:=0 },dk:={ r.dk with n:=0 },wn:=0,yn:=0,bn:=0,an:=0 }
abbrev Nw (p:RcP):RcP:={ p with A:={ p.A with dc:=0 } }
theorem Ne {p:RcP} {r:Rc} {j k:Nat} (hj:j<7) (h:rb (UM p) (noH r) j k):j≠2∧rb p r j k:=by
 rcases (show j=0∨j=1∨j=2∨j=3∨j=4∨j=5∨j=6 by omega) with rfl|rfl|rfl|rfl|rfl|rfl|rfl
 ·exact ⟨by omega,h⟩
 ·exact ⟨by omega,h⟩
 ·rcases h with ⟨h,_⟩|⟨i,hi,_⟩
  ·exact absurd h (Nat.lt_irrefl _)
  ·exact absurd hi (nlz _)
 ·exact ⟨by omega,h⟩
 ·exact ⟨by omega,h⟩
 ·exact ⟨by omega,h⟩
 ·exact ⟨by omega,h⟩
theorem Nd {p:RcP} {r:Rc} {j k:Nat} (hj:j<7) (h:rb (Nw p) (onH r) j k):j=2∧rb p r 2 k:=by
 rcases (show j=0∨j=1∨j=2∨j=3∨j=4∨j=5∨j=6 by omega) with rfl|rfl|rfl|rfl|rfl|rfl|rfl
 ·exact absurd rfl h.1
 ·exact absurd rfl h.1
 ·exact ⟨rfl,h⟩
 ·exact absurd rfl h.1
 ·exact absurd rfl h.1
 ·exact absurd rfl h.1
 ·rcases h with ⟨h,_⟩|⟨i,hi,_⟩
  ·exact absurd h (Nat.lt_irrefl _)
  ·exact absurd hi (nlz _)
theorem Na (w:World) (ad:Option Addr) (g:Nat) (x:Nat→Sl):SlsAt w ad g 0 x:=⟨fun h=>absurd h (Nat.lt_irrefl _),fun h=>absurd h (Nat.lt_irrefl _)⟩
theorem RcG.noH {w:World} {r:Rc} {p:RcP} (h:RcG w r p):RcG w (noH r) (UM p):=
 ⟨⟨h.at_.o0,h.at_.o1,⟨fun h=>absurd h (Nat.lt_irrefl _),fun h=>absurd h (Nat.lt_irrefl _),fun _i hi=>absurd hi (nlz _),fun _i hi=>absurd hi (nlz _),⟨fun _i hi=>absurd hi (nlz _),fun _i _j hi=>absurd hi (nlz _)⟩⟩,h.at_.o3,h.at_.o4,h.at_.o5,h.at_.o6,
  fun k ⟨j,hj,hk⟩=>h.at_.lt k ⟨j,hj,(Ne hj hk).2⟩,fun i j k hi hj h1 h2=>h.at_.ap i j k hi hj (Ne hi h1).2 (Ne hj h2).2⟩,
  ⟨h.rm.dl,h.rm.d0,h.rm.dr,lrf _,fun _=>rfl,fun h=>absurd rfl h⟩⟩
theorem RcG.onH {w:World} {r:Rc} {p:RcP} (h:RcG w r p):RcG w (onH r) (Nw p):=
 ⟨⟨Na _ _ _ _,Na _ _ _ _,h.at_.o2,fun i hi=>absurd hi (nlz _),fun i hi=>absurd hi (nlz _),Na _ _ _ _,⟨fun h=>absurd h (Nat.lt_irrefl _),fun h=>absurd h (Nat.lt_irrefl _),fun i hi=>absurd hi (nlz _),fun i hi=>absurd hi (nlz _),⟨fun i hi=>absurd hi (nlz _),fun i j hi=>absurd hi (nlz _)⟩⟩,
  fun k ⟨j,hj,hk⟩=>h.at_.lt k ⟨2,by omega,(Nd hj hk).2⟩,fun i j k hi hj h1 h2=>(Nd hi h1).1.trans (Nd hj h2).1.symm⟩,
  ⟨lrf _,fun _=>rfl,fun h=>absurd rfl h,h.rm.hl,h.rm.h0,h.rm.hr⟩⟩
set_option maxRecDepth 100000 in
theorem Oi (T B:Nat) (r:Rc) (p:RcP) (sv:Value) (w:World) (tx:Bx w T #[.pointer (some ⟨B,0,none⟩),sv]) (bx:Bx w B (rcC r p.A)) (hg:RcG w r p) (hap:∀ k,rbs p r k→k≠T∧k≠B) (hne:T≠B) :
  Calls Tryz.prog 107 #[.pointer (some ⟨T,0,none⟩)] w fun e w'=>e=.returned (.tuple #[])∧TkAt w' T B (noH r) (UM p) (onH r) (Nw p)∧FrP (fun q=>q=T∨q=B) w w':=by
 have q0:w.cell? ⟨T,0,none⟩=some (.pointer (some ⟨B,0,none⟩)):=tx.cell 0
 have q1:w.cell? ⟨T,1,none⟩=some sv:=tx.cell 1
 have q9:w.cell? ⟨B,9,none⟩=some (.slice p.A.ha r.hn p.A.hc):=bx.cell 9
 have f1:=tx.free 1
 have f9:=bx.free 9
 have R1:=hid ((tx.to (tx.cell.set (i:=1) (by simp) (.slice p.A.ha r.hn p.A.hc))))
 have F1:=hid ((FrP.refl (fun q=>q=T) w).setCell (p:=⟨T,1,none⟩) rfl (.slice p.A.ha r.hn p.A.hc))
 have B1:=hid (bx.frP F1.out (fun e=>hne e.symm))
 have R2:=hid (B1.out.to (hset9 B1.out.cell (.slice none 0 0)))
 have F2:=hid ((FrP.refl (fun q=>q=B) (w.setCell ⟨T,1,none⟩ (.slice p.A.ha r.hn p.A.hc))).setCell (p:=⟨B,9,none⟩) rfl (.slice none 0 0))
 have T2:=hid (R1.out.frP F2.out hne)
 have FF:=hid ((F1.out.mono (fun q hq=>(Or.inl hq:q=T∨q=B))).trans (F2.out.mono (fun q hq=>Or.inr hq)))
 have NE:Hid (¬B=T):=hid (fun e=>hne e.symm)
 have G2:=hid (hg.fr FF.out (fun k hk e=>by rcases e with e|e;exact (hap k hk).1 e;exact (hap k hk).2 e))
 have HAP:=hid hap
 have HG:=hid hg
 have HNE:=hid hne
 clear hg hap tx bx
 go_enter Tryz.func107,Tryz.ntmps107
 go_wp2
 refine bodyPost_end (results_none rfl _ _ _) rfl ⟨rfl,⟨T2.out,R2.out,G2.out.noH,G2.out.onH,fun k hk=>?_,fun k hk=>?_,HNE.out,rfl⟩,FF.out⟩
 ·obtain ⟨j,hj,hk⟩:=hk
  have h1:=Ne hj hk
  refine ⟨(HAP.out k ⟨j,hj,h1.2⟩).1,(HAP.out k ⟨j,hj,h1.2⟩).2,fun ⟨i,hi,he⟩=>?_⟩
  exact h1.1 (HG.out.at_.ap j 2 k hj (by omega) h1.2 (Nd hi he).2)
 ·obtain ⟨j,hj,hk⟩:=hk
  exact HAP.out k ⟨2,by omega,(Nd hj hk).2⟩
def hnReg0G (T B:Nat) (r:Rc) (_p:RcP) (_W:World) (i:Nat) (v:Value) (_X:World):Prop:=
 match i with
 | 0=>v=.pointer (some ⟨T,0,none⟩)
 | 1=>v=.pointer (some ⟨T,0,none⟩)
 | 2=>v=.pointer (some ⟨T,0,none⟩)
 | 3=>v=.pointer (some ⟨B,0,none⟩)
 | 4=>v=.pointer (some ⟨T,0,none⟩)
 | 5=>v=.pointer (some ⟨T,0,none⟩)
 | 6=>v=.pointer (some ⟨T,0,none⟩)
 | 7=>v=.pointer (some ⟨B,0,none⟩)
 | 8=>v=.pointer (some ⟨B,0,none⟩)
 | 9=>v=.pointer (some ⟨B,17,none⟩)
 | 10=>v=.int .i64 r.hd
 | 11=>v=.int .i64 (r.hd+1)
 | 12=>v=.int .i64 (if 1000000<r.hd+1 then 1000000 else r.hd+1)
 | 13=>v=.pointer (some ⟨B,0,none⟩)
 | 14=>v=.pointer (some ⟨B,17,none⟩)
 | _=>True
set_option maxRecDepth 100000 in
theorem hnReg0 (p1:Value) (w0 w1 w2 w3 w4 w5 w6 w7 w8 w9 w10 w11 w12 w13 w14:Value) (T B:Nat) (r:Rc) (p:RcP) (W:World) (hT:T<W.1.size) (hB:B<W.1.size) (cT0:W.cell? ⟨T,0,none⟩=some (.pointer (some ⟨B,0,none⟩))) (cB17:W.cell? ⟨B,17,none⟩=some (.int .i64 r.hd)) (fB17:W.frozen? ⟨B,17,none⟩=false) (h0:0≤r.hd) (h1:r.hd≤1000000) (Q:Exit→Act→World→Prop) (hQ:∀ (t:Nat→Value) (_v3:Value) X,(∃ Y,Below W.1.size W Y∧X=Y.setCell ⟨B,17,none⟩ (.int .i64 (if 1000000<r.hd+1 then 1000000 else r.hd+1)))→Q .normal ⟨#[.pointer (some ⟨T,0,none⟩),p1,t 0,t 1,t 2,t 3,t 4,t 5,t 6,t 7,t 8,t 9,t 10,t 11,t 12,t 13,t 14],[]⟩ X) :
  Code.wp Tryz.prog (Code.region 0 #[⟨some 2,.move (.tmp 0),125,GN,#[],none⟩,⟨some 3,.nilCheck (.tmp 2),0,GN,#[⟨0,.data⟩],none⟩,⟨some 4,.fieldAddr 122 (.tmp 3) 0,0,GN,#[⟨1,.data⟩],none⟩,⟨some 5,.load 81 (.tmp 4),81,GN,#[⟨2,.data⟩],none⟩,⟨some 6,.move (.tmp 0),125,GN,#[],none⟩,⟨some 7,.nilCheck (.tmp 6),0,GN,#[⟨4,.data⟩],none⟩,⟨some 8,.fieldAddr 122 (.tmp 7) 0,0,GN,#[⟨5,.data⟩],none⟩,⟨some 9,.load 81 (.tmp 8),81,GN,#[⟨6,.data⟩],none⟩,⟨some 10,.nilCheck (.tmp 9),0,GN,#[⟨7,.data⟩],none⟩,⟨some 11,.fieldAddr 38 (.tmp 10) 13,0,GN,#[⟨8,.data⟩],none⟩,⟨some 12,.load 3 (.tmp 11),3,GN,#[⟨9,.data⟩],none⟩,⟨some 13,.binOp .add 3 (.tmp 12) (.const (.int .i64 1)) 3,3,GN,#[⟨10,.data⟩],none⟩,⟨some 14,.call ⟨.builtin .min,#[.tmp 13,.const (.int .i64 1000000)],#[3,3]⟩,3,GN,#[⟨11,.data⟩],none⟩,⟨some 15,.nilCheck (.tmp 5),0,GN,#[⟨3,.data⟩,⟨0,.phase⟩,⟨1,.phase⟩,⟨2,.phase⟩,⟨3,.phase⟩,⟨4,.phase⟩,⟨5,.phase⟩,⟨6,.phase⟩,⟨7,.phase⟩,⟨8,.phase⟩,⟨9,.phase⟩,⟨10,.phase⟩,⟨11,.phase⟩,⟨12,.phase⟩],none⟩,⟨some 16,.fieldAddr 38 (.tmp 15) 13,0,GN,#[⟨13,.data⟩,⟨0,.phase⟩,⟨1,.phase⟩,⟨2,.phase⟩,⟨3,.phase⟩,⟨4,.phase⟩,⟨5,.phase⟩,⟨6,.phase⟩,⟨7,.phase⟩,⟨8,.phase⟩,⟨9,.phase⟩,⟨10,.phase⟩,⟨11,.phase⟩,⟨12,.phase⟩],none⟩,⟨none,.store 3 (.tmp 16) (.tmp 14),0,GN,#[⟨14,.data⟩,⟨12,.data⟩,⟨0,.phase⟩,⟨1,.phase⟩,⟨2,.phase⟩,⟨3,.phase⟩,⟨4,.phase⟩,⟨5,.phase⟩,⟨6,.phase⟩,⟨7,.phase⟩,⟨8,.phase⟩,⟨9,.phase⟩,⟨10,.phase⟩,⟨11,.phase⟩,⟨12,.phase⟩],none⟩] true) Q ⟨#[.pointer (some ⟨T,0,none⟩),p1,w0,w1,w2,w3,w4,w5,w6,w7,w8,w9,w10,w11,w12,w13,w14],[]⟩ W:=by
 refine ZL (by kernel_rfl) 15 (fun t:Nat→Value=>#[.pointer (some ⟨T,0,none⟩),p1,t 0,t 1,t 2,t 3,t 4,t 5,t 6,t 7,t 8,t 9,t 10,t 11,t 12,t 13,t 14]) (fun i=>match i with|0=>w0|1=>w1|2=>w2|3=>w3|4=>w4|5=>w5|6=>w6|7=>w7|8=>w8|9=>w9|10=>w10|11=>w11|12=>w12|13=>w13|_=>w14) (hnReg0G T B r p W) (fun a X=>∃ (t:Nat→Value) (v3:Value),a=⟨#[.pointer (some ⟨T,0,none⟩),p1,t 0,t 1,t 2,t 3,t 4,t 5,t 6,t 7,t 8,t 9,t 10,t 11,t 12,t 13,t 14],[]⟩∧(∃ Y,Below W.1.size W Y∧X=Y.setCell ⟨B,17,none⟩ (.int .i64 (if 1000000<r.hd+1 then 1000000 else r.hd+1)))) (by kernel_rfl) (by kernel_rfl) (by kernel_rfl) ?_ rfl ?_ ?_ ?_
 ·exact fun _ _ _ _ _ h _=>h
 ·intro i hi t X K hb hg hK
  rcases (show i=0∨i=1∨i=2∨i=3∨i=4∨i=5∨i=6∨i=7∨i=8∨i=9∨i=10∨i=11∨i=12∨i=13∨i=14 by omega) with rfl|rfl|rfl|rfl|rfl|rfl|rfl|rfl|rfl|rfl|rfl|rfl|rfl|rfl|rfl
  ·exact Jy
  ·exact PZ
  ·exact Ib
  ·exact P9
  ·exact Jy
  ·exact PY
  ·exact PX
  ·exact P8
  ·exact PW
  ·exact PU
  ·have e9:t 9=.pointer (some ⟨B,17,none⟩):=hg 9 (Wt rfl)
   have f1:=(hb.cell (p:=⟨B,17,none⟩) hB).trans cB17
   exact Pa
  ·have e10:t 10=.int .i64 r.hd:=hg 10 (Wt rfl)
   have h:=hK _ X rfl (br _ _)
   refine Zi rfl rfl ?_
   clear hK hg
   have hw:IntKind.i64.wrap (r.hd+1)=r.hd+1:=by rw [IntKind.wrap_i64];omega
   go_simp
   simpa [updT,e10,hw] using h
  ·have e11:t 11=.int .i64 (r.hd+1):=hg 11 (Wt rfl)
   exact IW
  ·have e3:t 3=.pointer (some ⟨B,0,none⟩):=hg 3 (Wt rfl)
   exact IR
  ·have e13:t 13=.pointer (some ⟨B,0,none⟩):=hg 13 (Wt rfl)
   exact IT
 ·intro t X K hb hg hK
  have e12:t 12=.int .i64 (if 1000000<r.hd+1 then 1000000 else r.hd+1):=hg 12 (by omega)
  have e14:t 14=.pointer (some ⟨B,17,none⟩):=hg 14 (by omega)
  have f1:=(hb.cell (p:=⟨B,17,none⟩) hB).trans cB17
  have f2:=(hb.frozen (p:=⟨B,17,none⟩) hB).trans fB17
  have h:=hK _ (X.setCell ⟨B,17,none⟩ (.int .i64 (if 1000000<r.hd+1 then 1000000 else r.hd+1))) ⟨t,.tuple #[],rfl,X,hb,rfl⟩
  refine Zi rfl rfl ?_
  clear hK hg
  go_simp
  simpa [e12,e14] using h
 ·rintro a X ⟨t,v3,rfl,hp⟩
  exact hQ t v3 X hp
abbrev FG (r:Rc):Rc:={ r with hd:=if 1000000<r.hd+1 then 1000000 else r.hd+1 }
theorem RcG.hear {w:World} {r:Rc} {p:RcP} (h:RcG w r p):RcG w (FG r) p:=⟨⟨h.at_.o0,h.at_.o1,h.at_.o2,h.at_.o3,h.at_.o4,h.at_.o5,h.at_.o6,h.at_.lt,h.at_.ap⟩,⟨h.rm.dl,h.rm.d0,h.rm.dr,h.rm.hl,h.rm.h0,h.rm.hr⟩⟩
set_option maxRecDepth 100000 in
theorem ND (T B:Nat) (r:Rc) (p:RcP) (s:Rc) (ps:RcP) (w:World) (h:TkAt w T B r p s ps) (h0:0≤r.hd) (h1:r.hd≤1000000) :
  Calls Tryz.prog 109 #[.pointer (some ⟨T,0,none⟩)] w fun e w'=>e=.returned (.tuple #[])∧TkAt w' T B (FG r) p s ps∧FrP (fun q=>q=B) w w':=by
 have H:=hid h
 clear h
 go_enter Tryz.func109,Tryz.ntmps109
 refine hnReg0 _ _ _ _ _ _ _ _ _ _ _ _ _ _ _ _ T B r p w H.out.tx.lt H.out.bx.lt (H.out.tx.cell 0) (H.out.bx.cell 17) (H.out.bx.free 17) h0 h1 _ ?_
 rintro t v3 X ⟨Y,hb,rfl⟩
 have K:=H.out.grow hb
 have F:=(FrP.refl (fun q=>q=B) Y).setCell (p:=⟨B,17,none⟩) rfl (.int .i64 (if 1000000<r.hd+1 then 1000000 else r.hd+1))
 exact bodyPost_end (results_none rfl _ _ _) rfl ⟨rfl,⟨K.tx.frP F K.ne,K.bx.to (K.bx.cell.set (i:=17) (by simp) _),(K.g.fr F (fun k hk=>(K.ap k hk).2.1)).hear,K.sg.fr F (fun k hk=>(K.sp k hk).2),K.ap,K.sp,K.ne,K.nm⟩,(FrP.of_below hb).trans F⟩
def msReg0G (T B:Nat) (r:Rc) (p:RcP) (W:World) (i:Nat) (v:Value) (X:World):Prop:=
 match i with
 | 0=>v=.pointer (some ⟨T,0,none⟩)
 | 1=>v=.pointer (some ⟨T,0,none⟩)
 | 2=>v=.pointer (some ⟨T,0,none⟩)
 | 3=>v=.pointer (some ⟨B,0,none⟩)
 | 4=>v=.pointer (some ⟨T,0,none⟩)
 | 5=>v=.pointer (some ⟨T,0,none⟩)
 | 6=>v=.pointer (some ⟨T,0,none⟩)
 | 7=>v=.pointer (some ⟨B,0,none⟩)
 | 8=>v=.pointer (some ⟨B,0,none⟩)
 | 9=>v=.pointer (some ⟨B,6,none⟩)
 | 10=>v=dkV r.dk p.A.da p.A.dc
 | 11=>∃ ad' b',v=dkV r.dk ad' r.dk.n∧SlsAt X ad' b' r.dk.n r.dk.s∧(r.dk.n≠0→W.1.size≤b'∧b'<X.1.size)∧(r.dk.n=0→ad'=none)
 | 12=>v=.pointer (some ⟨B,0,none⟩)
 | 13=>v=.pointer (some ⟨B,3,none⟩)
 | _=>True
set_option maxRecDepth 100000 in
theorem msReg0 (p1:Value) (w0 w1 w2 w3 w4 w5 w6 w7 w8 w9 w10 w11 w12 w13:Value) (T B:Nat) (r:Rc) (p:RcP) (W:World) (hT:T<W.1.size) (hB:Bx W B (rcC r p.A)) (cT0:W.cell? ⟨T,0,none⟩=some (.pointer (some ⟨B,0,none⟩))) (hn:(r.dk.n:Int)≤1099511627776) (hin:∀ X,Below W.1.size W X→SlsIn X 0 X.1.size p.A.da r.dk.n r.dk.s) (Q:Exit→Act→World→Prop) (hQ:∀ (t:Nat→Value) (_v3:Value) X,(∃ ad' b' Y,SlsAt Y ad' b' r.dk.n r.dk.s∧(r.dk.n≠0→W.1.size≤b'∧b'<Y.1.size)∧(r.dk.n=0→ad'=none)∧Below W.1.size W Y∧X=((Y.setCell ⟨B,3,none⟩ (.int .i64 r.dk.pr)).setCell ⟨B,4,none⟩ (.int .i64 r.dk.kn)).setCell ⟨B,5,none⟩ (.slice ad' r.dk.n r.dk.n))→Q .normal ⟨#[.pointer (some ⟨T,0,none⟩),p1,t 0,t 1,t 2,t 3,t 4,t 5,t 6,t 7,t 8,t 9,t 10,t 11,t 12,t 13],[]⟩ X) :
  Code.wp Tryz.prog (Code.region 0 #[⟨some 2,.move (.tmp 0),125,GO,#[],none⟩,⟨some 3,.nilCheck (.tmp 2),0,GO,#[⟨0,.data⟩],none⟩,⟨some 4,.fieldAddr 122 (.tmp 3) 0,0,GO,#[⟨1,.data⟩],none⟩,⟨some 5,.load 81 (.tmp 4),81,GO,#[⟨2,.data⟩],none⟩,⟨some 6,.move (.tmp 0),125,GO,#[],none⟩,⟨some 7,.nilCheck (.tmp 6),0,GO,#[⟨4,.data⟩],none⟩,⟨some 8,.fieldAddr 122 (.tmp 7) 0,0,GO,#[⟨5,.data⟩],none⟩,⟨some 9,.load 81 (.tmp 8),81,GO,#[⟨6,.data⟩],none⟩,⟨some 10,.nilCheck (.tmp 9),0,GO,#[⟨7,.data⟩],none⟩,⟨some 11,.fieldAddr 38 (.tmp 10) 4,0,GO,#[⟨8,.data⟩],none⟩,⟨some 12,.load 34 (.tmp 11),34,GO,#[⟨9,.data⟩],none⟩,⟨some 13,.call ⟨.value (.func 99),#[.tmp 12],#[34]⟩,34,GO,#[⟨10,.data⟩],none⟩,⟨some 14,.nilCheck (.tmp 5),0,GO,#[⟨3,.data⟩,⟨0,.phase⟩,⟨1,.phase⟩,⟨2,.phase⟩,⟨3,.phase⟩,⟨4,.phase⟩,⟨5,.phase⟩,⟨6,.phase⟩,⟨7,.phase⟩,⟨8,.phase⟩,⟨9,.phase⟩,⟨10,.phase⟩,⟨11,.phase⟩],none⟩,⟨some 15,.fieldAddr 38 (.tmp 14) 3,0,GO,#[⟨12,.data⟩,⟨0,.phase⟩,⟨1,.phase⟩,⟨2,.phase⟩,⟨3,.phase⟩,⟨4,.phase⟩,⟨5,.phase⟩,⟨6,.phase⟩,⟨7,.phase⟩,⟨8,.phase⟩,⟨9,.phase⟩,⟨10,.phase⟩,⟨11,.phase⟩],none⟩,⟨none,.store 34 (.tmp 15) (.tmp 13),0,GO,#[⟨13,.data⟩,⟨11,.data⟩,⟨11,.chain⟩,⟨0,.phase⟩,⟨1,.phase⟩,⟨2,.phase⟩,⟨3,.phase⟩,⟨4,.phase⟩,⟨5,.phase⟩,⟨6,.phase⟩,⟨7,.phase⟩,⟨8,.phase⟩,⟨9,.phase⟩,⟨10,.phase⟩,⟨11,.phase⟩],none⟩] true) Q ⟨#[.pointer (some ⟨T,0,none⟩),p1,w0,w1,w2,w3,w4,w5,w6,w7,w8,w9,w10,w11,w12,w13],[]⟩ W:=by
 refine ZL (by kernel_rfl) 14 (fun t:Nat→Value=>#[.pointer (some ⟨T,0,none⟩),p1,t 0,t 1,t 2,t 3,t 4,t 5,t 6,t 7,t 8,t 9,t 10,t 11,t 12,t 13]) (fun i=>match i with|0=>w0|1=>w1|2=>w2|3=>w3|4=>w4|5=>w5|6=>w6|7=>w7|8=>w8|9=>w9|10=>w10|11=>w11|12=>w12|_=>w13) (msReg0G T B r p W) (fun a X=>∃ (t:Nat→Value) (v3:Value),a=⟨#[.pointer (some ⟨T,0,none⟩),p1,t 0,t 1,t 2,t 3,t 4,t 5,t 6,t 7,t 8,t 9,t 10,t 11,t 12,t 13],[]⟩∧(∃ ad' b' Y,SlsAt Y ad' b' r.dk.n r.dk.s∧(r.dk.n≠0→W.1.size≤b'∧b'<Y.1.size)∧(r.dk.n=0→ad'=none)∧Below W.1.size W Y∧X=((Y.setCell ⟨B,3,none⟩ (.int .i64 r.dk.pr)).setCell ⟨B,4,none⟩ (.int .i64 r.dk.kn)).setCell ⟨B,5,none⟩ (.slice ad' r.dk.n r.dk.n))) (by kernel_rfl) (by kernel_rfl) (by kernel_rfl) ?_ rfl ?_ ?_ ?_
 ·intro i v X Y hi h hb
  rcases (show i=0∨i=1∨i=2∨i=3∨i=4∨i=5∨i=6∨i=7∨i=8∨i=9∨i=10∨i=11∨i=12∨i=13 by omega) with rfl|rfl|rfl|rfl|rfl|rfl|rfl|rfl|rfl|rfl|rfl|rfl|rfl|rfl
  ·exact h
  ·exact h
  ·exact h
  ·exact h
  ·exact h
  ·exact h
  ·exact h
  ·exact h
  ·exact h
  ·exact h
  ·exact h
  ·obtain ⟨ad',b',e1,e2,e3,e4⟩:=h
   exact ⟨ad',b',e1,e2.grow hb,fun h0=>⟨(e3 h0).1,ltl (e3 h0).2 hb.size⟩,e4⟩
  ·exact h
  ·exact h
 ·intro i hi t X K hb hg hK
  rcases (show i=0∨i=1∨i=2∨i=3∨i=4∨i=5∨i=6∨i=7∨i=8∨i=9∨i=10∨i=11∨i=12∨i=13 by omega) with rfl|rfl|rfl|rfl|rfl|rfl|rfl|rfl|rfl|rfl|rfl|rfl|rfl|rfl
  ·exact Jy
  ·exact PZ
  ·exact Ib
  ·exact P9
  ·exact Jy
  ·exact PY
  ·exact PX
  ·exact P8
  ·exact PW
  ·exact PU
  ·have e9:t 9=.pointer (some ⟨B,6,none⟩):=hg 9 (Wt rfl)
   have g6:=(hb.cell (p:=⟨B,6,none⟩) hB.lt).trans (hB.cell 6)
   have g7:=(hb.cell (p:=⟨B,7,none⟩) hB.lt).trans (hB.cell 7)
   have g8:=(hb.cell (p:=⟨B,8,none⟩) hB.lt).trans (hB.cell 8)
   exact Pa
  ·have e10:t 10=dkV r.dk p.A.da p.A.dc:=hg 10 (Wt rfl)
   refine Zi rfl rfl ?_
   have HK:=hid hK
   have HC:=hid (Kj r.dk p.A.da p.A.dc X 0 X.1.size (lrf _) hn (hin X hb))
   clear hK hg hQ
   simp only [e10]
   go_simp
   go_at_call 99
   refine HC.out.mono ?_
   rintro e Y ⟨ad',b',rfl,h1,h2,h3,h4⟩
   have h:=HK.out (dkV r.dk ad' r.dk.n) Y ⟨ad',b',rfl,h1,fun h0=>⟨ltr hb.size (h2 h0).1,(h2 h0).2⟩,h4⟩ h3
   simpa [updT,e10] using h
  ·have e3:t 3=.pointer (some ⟨B,0,none⟩):=hg 3 (Wt rfl)
   exact IR
  ·have e12:t 12=.pointer (some ⟨B,0,none⟩):=hg 12 (Wt rfl)
   exact IU
 ·intro t X K hb hg hK
  obtain ⟨ad',b',e11,k1,k2,k3⟩:∃ ad' b',t 11=dkV r.dk ad' r.dk.n∧SlsAt X ad' b' r.dk.n r.dk.s∧(r.dk.n≠0→W.1.size≤b'∧b'<X.1.size)∧(r.dk.n=0→ad'=none):=hg 11 (by omega)
  have e13:t 13=.pointer (some ⟨B,3,none⟩):=hg 13 (by omega)
  have g3:=(hb.cell (p:=⟨B,3,none⟩) hB.lt).trans (hB.cell 3)
  have g4:=(hb.cell (p:=⟨B,4,none⟩) hB.lt).trans (hB.cell 4)
  have g5:=(hb.cell (p:=⟨B,5,none⟩) hB.lt).trans (hB.cell 5)
  have z3:=(hb.frozen (p:=⟨B,3,none⟩) hB.lt).trans (hB.free 3)
  have z4:=(hb.frozen (p:=⟨B,4,none⟩) hB.lt).trans (hB.free 4)
  have z5:=(hb.frozen (p:=⟨B,5,none⟩) hB.lt).trans (hB.free 5)
  have h:=hK _ (((X.setCell ⟨B,3,none⟩ (.int .i64 r.dk.pr)).setCell ⟨B,4,none⟩ (.int .i64 r.dk.kn)).setCell ⟨B,5,none⟩ (.slice ad' r.dk.n r.dk.n)) ⟨t,.tuple #[],rfl,ad',b',X,k1,k2,k3,hb,rfl⟩
  refine Zi rfl rfl ?_
  clear hK hg
  go_simp
  simpa [e11,e13] using h
 ·rintro a X ⟨t,v3,rfl,hp⟩
  exact hQ t v3 X hp
abbrev Kl (r:Rc):Rc:={ r with sf:=r.dk }
abbrev Yg (p:RcP) (ad:Option Addr) (n b:Nat):RcP:={ p with A:={ p.A with sa:=ad,sc:=n },g0:=b }
theorem U5 {p:RcP} {r:Rc} {ad:Option Addr} {n b j k:Nat} (hj:j<7) (h:rb (Yg p ad n b) (Kl r) j k):(j=0∧r.dk.n≠0∧k=b)∨(j≠0∧rb p r j k):=by
 rcases (show j=0∨j=1∨j=2∨j=3∨j=4∨j=5∨j=6 by omega) with rfl|rfl|rfl|rfl|rfl|rfl|rfl
 ·exact Or.inl ⟨rfl,h⟩
 all_goals exact Or.inr ⟨by omega,h⟩
theorem RcG.safe {w:World} {r:Rc} {p:RcP} {ad:Option Addr} {b L:Nat} (h:RcG w r p) (hL:∀ k,rbs p r k→k<L) (o:SlsAt w ad b r.dk.n r.dk.s) (hb:r.dk.n≠0→L≤b∧b<w.1.size):RcG w (Kl r) (Yg p ad r.dk.n b):=by
 refine ⟨⟨o,h.at_.o1,h.at_.o2,h.at_.o3,h.at_.o4,h.at_.o5,h.at_.o6,fun k ⟨j,hj,hk⟩=>?_,fun i j k hi hj h1 h2=>?_⟩,⟨h.rm.dl,h.rm.d0,h.rm.dr,h.rm.hl,h.rm.h0,h.rm.hr⟩⟩
 ·rcases U5 hj hk with ⟨_,h0,rfl⟩|⟨_,h1⟩
  ·exact (hb h0).2
  ·exact h.at_.lt k ⟨j,hj,h1⟩
 ·rcases U5 hi h1 with ⟨e1,h0,rfl⟩|⟨e1,h5⟩<;>rcases U5 hj h2 with ⟨e2,h3,e4⟩|⟨e2,h6⟩
  ·omega
  ·have:=hL _ ⟨j,hj,h6⟩
   have:=(hb h0).1
   omega
  ·subst e4
   have:=hL _ ⟨i,hi,h5⟩
   have:=(hb h3).1
   omega
  ·exact h.at_.ap i j k hi hj h5 h6
set_option maxRecDepth 100000 in
theorem OD (T B:Nat) (r:Rc) (p:RcP) (sv:Value) (w:World) (tx:Bx w T #[.pointer (some ⟨B,0,none⟩),sv]) (bx:Bx w B (rcC r p.A)) (hg:RcG w r p) (hap:∀ k,rbs p r k→k≠T∧k≠B) (hne:T≠B) (hn:(r.dk.n:Int)≤1000000) :
  Calls Tryz.prog 106 #[.pointer (some ⟨T,0,none⟩)] w fun e w'=>e=.returned (.tuple #[])∧∃ ad b,Bx w' T #[.pointer (some ⟨B,0,none⟩),sv]∧Bx w' B (rcC (Kl r) (Yg p ad r.dk.n b).A)∧RcG w' (Kl r) (Yg p ad r.dk.n b)∧FrP (fun q=>q=B) w w'∧(r.dk.n≠0→w.1.size≤b)∧(r.dk.n=0→ad=none):=by
 have TX:=hid tx
 have BX:=hid bx
 have HG:=hid hg
 have HAP:=hid hap
 have HNE:=hid hne
 clear tx bx hg hap hne
 go_enter Tryz.func106,Tryz.ntmps106
 refine msReg0 _ _ _ _ _ _ _ _ _ _ _ _ _ _ _ T B r p w TX.out.lt BX.out (TX.out.cell 0) (by omega) (fun X hb=>((HG.out.grow hb).at_.o1.isIn (fun h0=>⟨zle _,(HG.out.grow hb).at_.lt _ ⟨1,by omega,h0,rfl⟩⟩))) _ ?_
 rintro t v3 X ⟨ad',b',Y,k1,k2,k3,hb,rfl⟩
 have lB:=BX.out.lt
 have hbs:=hb.size
 have F:=(((FrP.refl (fun q=>q=B) Y).setCell (p:=⟨B,3,none⟩) rfl (.int .i64 r.dk.pr)).setCell (p:=⟨B,4,none⟩) rfl (.int .i64 r.dk.kn)).setCell (p:=⟨B,5,none⟩) rfl (.slice ad' r.dk.n r.dk.n)
 have Z:=BX.out.below hb lB
 have Z1:=Z.to (Z.cell.set (i:=3) (by simp) (.int .i64 r.dk.pr))
 have Z2:=Z1.to (Z1.cell.set (i:=4) (by simp) (.int .i64 r.dk.kn))
 have Z3:=Z2.to (Z2.cell.set (i:=5) (by simp) (.slice ad' r.dk.n r.dk.n))
 have lt0:=HG.out.at_.lt
 have G1:=((HG.out.grow hb).fr F (fun k hk e=>(HAP.out k hk).2 e)).safe (L:=w.1.size) lt0 (k1.frP F (fun h0=>⟨by have:=(k2 h0).1;omega,(k2 h0).2⟩)) (fun h0=>⟨(k2 h0).1,by have:=(k2 h0).2;simp only [World.size_setCell];exact this⟩)
 exact bodyPost_end (results_none rfl _ _ _) rfl ⟨rfl,ad',b',(TX.out.below hb TX.out.lt).frP F HNE.out,Z3,G1,(FrP.of_below hb).trans F,fun h0=>(k2 h0).1,k3⟩
end Go.Proofs.YtokkbdlofbdljaaGreat
