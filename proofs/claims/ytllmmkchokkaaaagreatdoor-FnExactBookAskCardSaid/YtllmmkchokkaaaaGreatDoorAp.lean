import Derived.Test.YtllmmkchokkaaaaGreatDoorRows
import Derived.WalkKit
import Derived.WalkSpells
import Derived.WalkLawsBesides
import Derived.Laws.IdiomStrings
import Derived.Deep.RegionWith
import Derived.Deep.QuietTactic
import Derived.BigQuiet
namespace Go
abbrev Value.i (a:Int):Value:=.int .i64 a
abbrev Value.s (b:ByteArray):Value:=.string b
abbrev Value.l (a:Option Addr)(n c:Nat):Value:=.slice a n c
abbrev Value.p (b o:Nat):Value:=.pointer (some ⟨b,o,none⟩)
abbrev Lit.i (a:Int):Lit:=.int .i64 a
abbrev Lit.s (b:List UInt8):Lit:=.string b
end Go
namespace Go.Proofs.YtllmmkchokkaaaaGreatDoor
open Go.RowKit Go.Proofs.Tryz
abbrev OA:=Option Addr
abbrev Aa:=@Nat.lt_of_lt_of_le
abbrev Ab:=@List.getElem?_cons_zero
abbrev Ad:=@List.getElem?_cons_succ
abbrev Af:=@List.getD_cons_zero
abbrev Ag:=@List.getD_cons_succ
abbrev Ah:=@List.getElem?_toArray
abbrev Ak:=@Below.refl
abbrev Al:=@Nat.not_lt_zero
abbrev Ap:=@Nat.zero_le
abbrev Ar:=@World.cell?_alloc_past
abbrev As:=@Nat.lt_or_ge
abbrev At:=@World.cell?_alloc_new
abbrev Aw:=@Nat.le_refl
abbrev Ax:=@Or.inr
abbrev AA:=@Nat.le_trans
abbrev AD:=@Or.inl
abbrev AE:=@World.size_alloc
abbrev AG:=@Bool.and_eq_true
abbrev AJ:=@Below.setCell
abbrev AR:=@Option.some.injEq
abbrev AW:=@Nat.eq_zero_or_pos
abbrev Ba:=@Below.alloc
abbrev Bb:=@Below.drew
abbrev Bc:=@Nat.zero_add
abbrev Bf:=@Nat.add_assoc
abbrev Bn:=@Array.all_eq_true_iff_forall_mem
abbrev Bp:=@Nat.lt_succ_self
abbrev Bq:=@Oper.upon_value
abbrev Br:=@Nat.le_of_lt
abbrev Bt:=@Nat.lt_irrefl
abbrev BK:=@List.getElem?_eq_getElem
abbrev BO:=@List.all_eq_true
abbrev BV:=@IntWalk.i64_in
abbrev Cj:=@Array.getElem?_eq_some_iff
abbrev Cq:=@World.cell?_setCell_other
abbrev Cs:=@Array.getElem?_eq_none
abbrev Ct:=@World.cell?_setCell_same
abbrev CE:=@World.ownsRow_made
abbrev CJ:=@List.mem_append
abbrev CL:=@List.getElem?_eq_none
abbrev CO:=@World.cell?_setCells_in
abbrev CQ:=@Nat.mul_le_mul_right
abbrev C6:=@World.cell?_setCells_out
abbrev Db:=@List.length_take
abbrev Dn:=@List.map_cons
abbrev Dq:=@List.mem_range
abbrev DB:=@Bool.false_eq_true
abbrev DF:=@Nat.zero_mul
abbrev DQ:=@Nat.lt_trichotomy
abbrev DR:=@DataW.trod_struct
abbrev D7:=@List.map_nil
abbrev Ea:=@List.cons_append
abbrev Ey:=@List.mem_map
abbrev EI:=@List.mem_cons
abbrev FG:=@List.take_of_length_le
abbrev FP:=@List.append_nil
abbrev Gf:=@ByteArray.data_append
abbrev GD:=@World.cell?_alloc_at
abbrev GE:=@List.mem_append_left
abbrev GF:=@List.mem_of_mem_drop
abbrev GG:=@List.getElem?_append_right
abbrev G2:=@Nat.sub_self
abbrev G3:=@List.pairwise_iff_getElem
abbrev G4:=@List.getElem?_append_left
abbrev Hf:=@Calls.quiet_of_same
abbrev Hw:=@Option.some.inj
abbrev Ip:=@List.getElem?_drop
abbrev It:=@List.length_eq_zero_iff
abbrev I7:=@World.frozen?_alloc_at
abbrev I8:=@Array.size_append
abbrev Ju:=@World.frozen?_setCell
abbrev Jv:=@Bool.and_eq_false_iff
abbrev Jw:=@List.mem_append_right
abbrev Jx:=@List.take_append_drop
abbrev JO:=@List.length_cons
abbrev Ka:=@World.cell?_alloc_lt
abbrev Kb:=@List.mem_of_mem_take
abbrev KJ:=@List.mem_filter
abbrev KL:=@List.nil_append
abbrev KM:=@List.cons.injEq
abbrev KZ:=@ByteArray.toList_eq
abbrev K4:=@Sem.run_bind
abbrev Lh:=@And.intro
abbrev LY:=@World.ownsMap_made
abbrev LZ:=@List.pairwise_cons
abbrev L0:=@Nat.not_lt
abbrev MZ:=@Array.getElem?_eq_getElem
abbrev M5:=@Nat.mul_one
abbrev Ou:=@Classical.skolem
abbrev Ov:=@WalkArith.wf_i64
abbrev Ow:=@Nat.add_sub_cancel_left
abbrev Ox:=@Array.size_range
theorem Za{P:Prop}(h:P:=by omega):P:=h
theorem Zb{P:Prop}(h:P:=by decide):P:=h
theorem Zc{P:Prop}(h:P:=by kernel_rfl):P:=h
theorem Zd{P:Prop}(h:P:=by simp;omega):P:=h
theorem Ze{P:Prop}(h:P:=by simp):P:=h
theorem Zf{P:Prop}(h:P:=by first|decide|simp):P:=h
theorem Zg{P:Prop}(h:P:=by show w.1.size<_;omega):P:=h
theorem Zh{P:Prop}(h:P:=by repeat(first|with_reducible exact AP.refl _ _|with_reducible refine Io ?_ (by(show _<=_\/_<_);simp only[Az,AE];omega) _|with_reducible refine AP.trans ?_ (Aq (Ae _ _)))):P:=h
theorem Zi{P:Prop}(h:P:=by first|exact hf.k|exact hf.n|exact hf.h):P:=h
theorem Zj{P:Prop}(h:P:=by show b<_;omega):P:=h
theorem Zk{P:Prop}(h:P:=by first|omega|(simp;omega)):P:=h
theorem Zl{P:Prop}(h:P:=by show wr.1.size<_;omega):P:=h
theorem Zm{P:Prop}(h:P:=by rw[At];rfl):P:=h
theorem Zn{P:Prop}(h:P:=by unfold maxLen;omega):P:=h
theorem Zo{P:Prop}(h:P:=by simp;try omega):P:=h
theorem Zp{P:Prop}(h:P:=by show w.1.size+1<_;omega):P:=h
theorem Zq{P:Prop}(h:P:=by intro j u hj;obtain⟨h1,rfl⟩:=Gd hj;obtain⟨b',off',e',_,e3,e4⟩:=HC.at_ j h1;cases e';rw[show((⟨b,off,none⟩:Addr).add j)=⟨b,off+j,none⟩by simp[Addr.add],hb1.cell (p:=⟨b,off+j,none⟩) Zj];exact e4):P:=h
theorem Zr{P:Prop}(h:P:=by rw[kp 11 Zb];exact f11):P:=h
theorem Zs{P:Prop}(h:P:=by rw[kp 12 Zb];exact f12):P:=h
theorem Zt{P:Prop}(h:P:=by show w.1.size+1+1<_;omega):P:=h
theorem Zu{P:Prop}(h:P:=by simp[results,results75,go_sem,r0,r1,r2,r3,r4,r5,r6,r7,r8,z1,(show w.1.size+1+1<w1.1.size+1 by omega),Ka]):P:=h
theorem Zv{P:Prop}(h:P:=by rw[kp 1 Zb];exact f1):P:=h
theorem Zw{P:Prop}(h:P:=by rw[kp 2 Zb];exact f2):P:=h
theorem Zx{P:Prop}(h:P:=by rw[kp 3 Zb];exact f3):P:=h
theorem Zy{P:Prop}(h:P:=by rw[kp 4 Zb];exact f4):P:=h
theorem Zz{P:Prop}(h:P:=by rw[kp 5 Zb];exact f5):P:=h
theorem M1{P:Prop}(h:P:=by rw[kp 7 Zb];exact f7):P:=h
theorem M2{P:Prop}(h:P:=by rw[kp 8 Zb];exact f8):P:=h
theorem M3{P:Prop}(h:P:=by rw[kp 0 Zb];exact f0):P:=h
theorem WM{P:Prop}(h:P:=by rw[Ar _ _ _ Ze];simp):P:=h
theorem YQ{P:Prop}(h:P:=by rw[kp 14 Zb,kp 6 Zb,kp 9 Zb,kp 13 Zb];exact f17):P:=h
theorem Pg{P:Prop}(h:P:=by rw[kp 6 Zb];exact f6):P:=h
theorem Pd{P:Prop}(h:P:=by rw[kp 9 Zb];exact f9):P:=h
theorem gP{P:Prop}(h:P:=by rw[kp 10 Zb,kp 13 Zb,kp 6 Zb,kp 9 Zb];exact f10):P:=h
theorem tT{P:Prop}(h:P:=by first|(exact congrArg (Value.int .i64) (by first|rfl|(simp only[Va];omega)))|(exact congrArg Value.bool (TX Za).symm)):P:=h
theorem Uy{P:Prop}(h:P:=by rw[kp 15 Zb,kp 14 Zb];exact f18):P:=h
theorem L6{P:Prop}(h:P:=by simpa using hb):P:=h
theorem lA{P:Prop}(h:P:=by simp only[Az];exact Aw _):P:=h
theorem YO{P:Prop}(h:P:=by simp[Lib.byteCells,Value.oneCell']):P:=h
theorem Ur{P:Prop}(h:P:=by have:=HB.size;simp;omega):P:=h
theorem M0{P:Prop}(h:P:=by assumption):P:=h
theorem xS{P:Prop}(h:P:=by simp[results,results75,go_sem,r0,r1,r2,r3,r4,r5,r6,r7,r8,z1,(show w.1.size+1+1<w1.1.size+1 by omega),(show w.1.size+1+1<w1.1.size+1+1 by omega),Ka]):P:=h
theorem rW{P:Prop}(h:P:=by obtain⟨q,hq⟩:=h.2;rw[hq];exact By _ _):P:=h
theorem Yg{P:Prop}(h:P:=by simp;have:=hb.size;omega):P:=h
theorem Sy{P:Prop}(h:P:=by show b'<_;omega):P:=h
theorem uL{P:Prop}(h:P:=by intro j hj;rw[Bl]at hj;obtain⟨u,hu⟩:=hr1.has j hj;rw[Bc,hu];rfl):P:=h
theorem YN{P:Prop}(h:P:=by rw[kp 10 Zb];exact f10):P:=h
theorem YL{P:Prop}(h:P:=by rw[kp 10 Zb];exact f13):P:=h
theorem YM{P:Prop}(h:P:=by rw[kp 14 Zb];exact f14):P:=h
theorem Sx{P:Prop}(h:P:=by rw[hz2];omega):P:=h
theorem uF{P:Prop}(h:P:=by intro v hv;obtain⟨i,hi,rfl⟩:=Ey.1 hv;exact HC.one i (by simpa using hi)):P:=h
theorem xM{P:Prop}(h:P:=by repeat(first|with_reducible exact AP.refl _ _|with_reducible refine Io ?_ (by(show _<=_\/_<_);dsimp only;omega) _)):P:=h
theorem tP{P:Prop}(h:P:=by first|exact r0.lt|(simp only[Az];exact r0.lt)):P:=h
theorem tN{P:Prop}(h:P:=by first|exact r1.lt|(simp only[Az];exact r1.lt)):P:=h
theorem Yv{P:Prop}(h:P:=by have:=WZ.out;omega):P:=h
theorem aB{P:Prop}(h:P:=by rw[kp 13 Zb];exact f13):P:=h
theorem bM{P:Prop}(h:P:=by rw[kp 15 Zb];exact f15):P:=h
theorem fR{P:Prop}(h:P:=by rw[kp 15 Zb];exact f16):P:=h
theorem xJ{P:Prop}(h:P:=by first|(exact congrArg (Value.int .i64) (by first|rfl|(simp only[Vy];omega)))|(exact congrArg Value.bool (TX Za).symm)):P:=h
theorem xL{P:Prop}(h:P:=by first|(exact congrArg (Value.int .i64) (by first|rfl|(simp only[Xh];omega)))|(exact congrArg Value.bool (TX Za).symm)):P:=h
theorem uJ{P:Prop}(h:P:=by rw[kp 14 Zb];intro h;exact absurd (f17 h).2.2 (by rw[hui];decide)):P:=h
theorem Xs{P:Prop}(h:P:=by simpa using hB1):P:=h
theorem sK{P:Prop}(h:P:=by simp only[Az];omega):P:=h
theorem Qc{P:Prop}(h:P:=by cases h):P:=h
theorem mW{P:Prop}(h:P:=by simp[Value.oneCell']):P:=h
theorem nX{P:Prop}(h:P:=by have:=hb.size;simp;omega):P:=h
theorem uK{P:Prop}(h:P:=by rw[fN];show((k+1+(n-k):Nat):Int)<=1099511627776;omega):P:=h
theorem uI{P:Prop}(h:P:=by simp[results,results75,go_sem,r0,r1,r2,r3,r4,r5,r6,r7,r8]):P:=h
theorem sM{P:Prop}(h:P:=by show w.1.size<=w.1.size+1+1;omega):P:=h
theorem nU{P:Prop}(h:P:=by rw[STEP.out];exact O2):P:=h
theorem sL{P:Prop}(h:P:=by show(x.hn:Int)<=_;omega):P:=h
theorem uH{P:Prop}(h:P:=by have:=HB.out.size;first|omega|(simp;omega)):P:=h
theorem sJ{P:Prop}(h:P:=by have:=GV M0;omega):P:=h
theorem xO{P:Prop}(h:P:=by first|exact r2.lt|(simp only[Az];exact r2.lt)):P:=h
theorem nH{P:Prop}(h:P:=by rw[hc];decide):P:=h
theorem rD{P:Prop}(h:P:=by have:=hb.size;omega):P:=h
theorem xN{P:Prop}(h:P:=by simp[results,results75,go_sem,r0,r1,r2,r3,r4,r5,r6,r7,r8,z1]):P:=h
theorem xX{P:Prop}(h:P:=by rw[lX];show((k+(n-(k+1)):Nat):Int)<=1099511627776;omega):P:=h
theorem uG{P:Prop}(h:P:=by exact AA hh1 (GW.prop _).size):P:=h
theorem Bj{n:Nat}:n<=n:=Aw n
theorem FU{w:World}{o:Obj}:Below w.heap.size w (w.alloc o):=(Ak _ _).alloc (Aw _) o
theorem BF{B w}:Below B w w:=Ak B w
theorem Ny{n:Nat}:0<=n:=Ap n
def jY (k:Nat):Code->Code
 |.region n o b=>cond (Nat.beq n k) (.region n o b) .skip
 |.seq a c=>match jY k a with|.region n o b=>.region n o b|_=>jY k c
 |.cond _ a c=>match jY k a with|.region n o b=>.region n o b|_=>jY k c
 |.block _ a=>jY k a
 |.loop a=>jY k a
 |.scope a=>jY k a
 |.rangeFunc _ _ a c=>match jY k a with|.region n o b=>.region n o b|_=>jY k c
 |_=>.skip
def rg (f:Func)(k:Nat):Code:=match f.body with|some c=>jY k c|none=>.skip
end Go.Proofs.YtllmmkchokkaaaaGreatDoor
