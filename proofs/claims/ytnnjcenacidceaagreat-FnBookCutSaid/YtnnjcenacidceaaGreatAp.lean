import Derived.Test.YtnnjcenacidceaaGreatRows
import Derived.WalkKit
import Derived.WalkSpells
import Derived.WalkLawsBesides
import Derived.Laws.IdiomStrings
import Derived.Deep.RegionWith
import Derived.Deep.QuietTactic
import Derived.BigQuiet
import Derived.Deep.Light
namespace Go
abbrev Value.i (a:Int):Value:=.int .i64 a
abbrev Value.s (b:ByteArray):Value:=.string b
abbrev Value.l (a:Option Addr)(n c:Nat):Value:=.slice a n c
abbrev Value.p (b o:Nat):Value:=.pointer (some ⟨b,o,none⟩)
abbrev Lit.i (a:Int):Lit:=.int .i64 a
abbrev Lit.s (b:List UInt8):Lit:=.string b
end Go
namespace Go.Proofs.YtnnjcenacidceaaGreat
open Go.RowKit Go.Proofs.Tryz
abbrev OA:=Option Addr
abbrev Aa:=@List.getD_cons_zero
abbrev Ab:=@List.getD_cons_succ
abbrev Ad:=@Nat.lt_of_lt_of_le
abbrev Ae:=@List.getElem?_cons_zero
abbrev Af:=@List.getElem?_cons_succ
abbrev Ag:=@List.getElem?_toArray
abbrev Ai:=@Nat.not_lt_zero
abbrev Al:=@World.cell?_alloc_new
abbrev Am:=@Bool.and_eq_true
abbrev Aq:=@Below.refl
abbrev As:=@World.cell?_alloc_past
abbrev At:=@Nat.zero_le
abbrev Av:=@World.size_alloc
abbrev Aw:=@Nat.lt_or_ge
abbrev AB:=@Or.inl
abbrev AE:=@Or.inr
abbrev AG:=@Nat.le_refl
abbrev AK:=@IntWalk.i64_in
abbrev AM:=@Oper.upon_value
abbrev AP:=@World.cell?_setCell_other
abbrev AR:=@Array.getElem?_eq_some_iff
abbrev AS:=@Nat.le_trans
abbrev AU:=@Option.some.injEq
abbrev AY:=@Nat.lt_irrefl
abbrev Bc:=@Array.all_eq_true_iff_forall_mem
abbrev Bd:=@Nat.zero_add
abbrev Be:=@List.all_eq_true
abbrev Bf:=@Nat.add_assoc
abbrev Bi:=@Nat.eq_zero_or_pos
abbrev Bs:=@Nat.add_zero
abbrev Bt:=@Array.getElem?_eq_none
abbrev By:=@Below.setCell
abbrev BC:=@List.mem_range
abbrev BE:=@Nat.lt_succ_self
abbrev B9:=@Below.alloc
abbrev Ce:=@World.cell?_setCell_same
abbrev Cf:=@List.getElem?_eq_getElem
abbrev Cg:=@Below.drew
abbrev CD:=@Met.intro
abbrev CJ:=@World.cell?_alloc_at
abbrev CV:=@List.cons_append
abbrev C8:=@List.size_toArray
abbrev Dj:=@List.mem_filter
abbrev DK:=@List.length_cons
abbrev Em:=@List.nil_append
abbrev EQ:=@Array.replicate_succ
abbrev ER:=@Array.replicate_zero
abbrev EY:=@Array.any_eq_true
abbrev EZ:=@Array.getElem_mem
abbrev E0:=@World.cell?_setCells_in
abbrev Fp:=@List.append_toArray
abbrev Fy:=@List.mem_cons
abbrev G7:=@Bool.false_eq_true
abbrev G8:=@World.ownsRow_made
abbrev G9:=@List.getD_eq_getElem?_getD
abbrev Ha:=@ByteArray.size_append
abbrev KH:=@Array.getElem?_eq_getElem
abbrev KO:=@List.push_toArray
abbrev K2:=@World.cell?_setCells_out
abbrev Ld:=@Calls.quiet_of_same
abbrev Lj:=@Nat.add_sub_cancel_left
abbrev Ls:=@Int.le_refl
abbrev Ly:=@World.frozen?_setCells
abbrev Lz:=@World.frozen?_alloc_at
abbrev LG:=@List.length_nil
abbrev LL:=@ByteArray.data_append
abbrev LN:=@Nat.lt_trichotomy
abbrev LZ:=@Nat.mod_lt
abbrev L0:=@List.count_le_length
abbrev L1:=@List.mem_cons_of_mem
abbrev Ms:=@Bool.or_eq_true
abbrev MJ:=@List.mem_cons_self
abbrev MK:=@Int.eq_ofNat_of_zero_le
abbrev ML:=@Nat.mul_one
abbrev Na:=@Nat.zero_mul
abbrev Nz:=@List.getElem_mem
abbrev NG:=@World.cell?_alloc_lt
abbrev N7:=@List.range_succ
abbrev Ot:=@Nat.mul_le_mul_left
abbrev Ov:=@List.mem_map
abbrev O3:=@World.ownsMap_made
abbrev O4:=@Nat.add_sub_cancel
abbrev PL:=@Result.andThen_ok
abbrev QP:=@List.map_toArray
abbrev QQ:=@WalkArith.wf_i64
theorem Za{P:Prop}(h:P:=by omega):P:=h
theorem Zb{P:Prop}(h:P:=by decide):P:=h
theorem Zc{P:Prop}(h:P:=by simp):P:=h
theorem Zd{P:Prop}(h:P:=by simp;omega):P:=h
theorem Ze{P:Prop}(h:P:=by kernel_rfl):P:=h
theorem Zf{P:Prop}(h:P:=by repeat(first|with_reducible exact Ay.refl _ _|with_reducible refine LY ?_ (by(show _<=_\/_<_);simp only[Bv,Av];omega) _|with_reducible refine Ay.trans ?_ (Ar (Ap _ _)))):P:=h
theorem Zg{P:Prop}(h:P:=by show w.1.size<_;omega):P:=h
theorem Zh{P:Prop}(h:P:=by first|exact hf.k|exact hf.n|exact hf.h):P:=h
theorem Zi{P:Prop}(h:P:=by first|omega|(simp;omega)):P:=h
theorem Zj{P:Prop}(h:P:=by show wr.1.size<_;omega):P:=h
theorem Zk{P:Prop}(h:P:=by show b<_;omega):P:=h
theorem Zl{P:Prop}(h:P:=by unfold maxLen;omega):P:=h
theorem Zm{P:Prop}(h:P:=by intro j u hj;obtain⟨h1,rfl⟩:=Nx hj;obtain⟨b',off',e',_,e3,e4⟩:=HC.at_ j h1;cases e';rw[show((⟨b,off,none⟩:Addr).add j)=⟨b,off+j,none⟩by simp[Addr.add],hb1.cell (p:=⟨b,off+j,none⟩) Zk];exact e4):P:=h
theorem Zn{P:Prop}(h:P:=by simp[results,results91,go_sem,r0,r1,r2,r3,r4,r5,r6,r7,r8,z1,(show w.1.size+1+1<w1.1.size+1 by omega),NG]):P:=h
theorem Zo{P:Prop}(h:P:=by show w.1.size+1<_;omega):P:=h
theorem Zr{P:Prop}(h:P:=by simpa using hb):P:=h
theorem Zs{P:Prop}(h:P:=by have:=HB.size;simp;omega):P:=h
theorem Zt{P:Prop}(h:P:=by simp[Lib.byteCells,Value.oneCell']):P:=h
theorem Zu{P:Prop}(h:P:=by simp[results,results91,go_sem,r0,r1,r2,r3,r4,r5,r6,r7,r8,z1,(show w.1.size+1+1<w1.1.size+1 by omega),(show w.1.size+1+1<w1.1.size+1+1 by omega),NG]):P:=h
theorem Zv{P:Prop}(h:P:=by obtain⟨q,hq⟩:=h.2;rw[hq];exact BK _ _):P:=h
theorem Zw{P:Prop}(h:P:=by show w.1.size+1+1<_;omega):P:=h
theorem Zx{P:Prop}(h:P:=by show w.1.size+1+1+1<_;omega):P:=h
theorem Zy{P:Prop}(h:P:=by simp;have:=hb.size;omega):P:=h
theorem Zz{P:Prop}(h:P:=by show b'<_;omega):P:=h
theorem uM{P:Prop}(h:P:=by intro j hj;rw[A6]at hj;obtain⟨u,hu⟩:=hr1.has j hj;rw[Bd,hu];rfl):P:=h
theorem ZR{P:Prop}(h:P:=by rw[kp 10 Zb];exact f10):P:=h
theorem ZM{P:Prop}(h:P:=by rw[kp 11 Zb];exact f11):P:=h
theorem ZL{P:Prop}(h:P:=by rw[kp 12 Zb];exact f12):P:=h
theorem ZS{P:Prop}(h:P:=by rw[kp 10 Zb];exact f13):P:=h
theorem uK{P:Prop}(h:P:=by intro v hv;obtain⟨i,hi,rfl⟩:=Ov.1 hv;exact HC.one i (by simpa using hi)):P:=h
theorem sF{P:Prop}(h:P:=by simp only[Bv];exact AG _):P:=h
theorem oS{P:Prop}(h:P:=by rw[As _ _ _ Zc];simp):P:=h
theorem wY{P:Prop}(h:P:=by repeat(first|with_reducible exact Ay.refl _ _|with_reducible refine LY ?_ (by(show _<=_\/_<_);dsimp only;omega) _)):P:=h
theorem nB{P:Prop}(h:P:=by rw[Al];rfl):P:=h
theorem ZI{P:Prop}(h:P:=by rw[kp 1 Zb];exact f1):P:=h
theorem ZO{P:Prop}(h:P:=by rw[kp 2 Zb];exact f2):P:=h
theorem ZV{P:Prop}(h:P:=by rw[kp 3 Zb];exact f3):P:=h
theorem ZQ{P:Prop}(h:P:=by rw[kp 4 Zb];exact f4):P:=h
theorem ZJ{P:Prop}(h:P:=by rw[kp 5 Zb];exact f5):P:=h
theorem ZP{P:Prop}(h:P:=by rw[kp 6 Zb];exact f6):P:=h
theorem ZT{P:Prop}(h:P:=by rw[kp 7 Zb];exact f7):P:=h
theorem ZH{P:Prop}(h:P:=by rw[kp 8 Zb];exact f8):P:=h
theorem ZW{P:Prop}(h:P:=by rw[kp 9 Zb];exact f9):P:=h
theorem ZU{P:Prop}(h:P:=by rw[kp 0 Zb];exact f0):P:=h
theorem Py{P:Prop}(h:P:=by cases h):P:=h
theorem ZE{P:Prop}(h:P:=by have:=Wd.out;omega):P:=h
theorem V8{P:Prop}(h:P:=by simp;try omega):P:=h
theorem jW{P:Prop}(h:P:=by simp[Value.oneCell']):P:=h
theorem YO{P:Prop}(h:P:=by simpa using hB1):P:=h
theorem Nm{P:Prop}(h:P:=by rfl):P:=h
theorem sB{P:Prop}(h:P:=by simp only[Bv];omega):P:=h
theorem uW{P:Prop}(h:P:=by simp[results,results91,go_sem,r0,r1,r2,r3,r4,r5,r6,r7,r8]):P:=h
theorem nX{P:Prop}(h:P:=by rw[STEP.out];exact O2):P:=h
theorem sI{P:Prop}(h:P:=by rw[kp 4 Zb,kp 3 Zb];exact i43):P:=h
theorem rW{P:Prop}(h:P:=by rw[kp 5 Zb,kp 4 Zb];exact i54):P:=h
theorem sC{P:Prop}(h:P:=by rw[kp 5 Zb,kp 1 Zb];exact i51):P:=h
theorem sJ{P:Prop}(h:P:=by rw[kp 3 Zb,kp 2 Zb];exact i32):P:=h
theorem wT{P:Prop}(h:P:=by simp[results,results91,go_sem,r0,r1,r2,r3,r4,r5,r6,r7,r8,z1]):P:=h
theorem sG{P:Prop}(h:P:=by have:i<x.hn-k:=hi;omega):P:=h
theorem uQ{P:Prop}(h:P:=by exact AS hh1 (GW.prop _).size):P:=h
theorem AQ{n:Nat}:n<=n:=AG n
theorem ET{w:World}{o:Obj}:Below w.heap.size w (w.alloc o):=(Aq _ _).alloc (AG _) o
theorem Ci{B w}:Below B w w:=Aq B w
theorem To{n:Nat}:0<=n:=At n
def jY (k:Nat):Code->Code
 |.region n o b=>cond (Nat.beq n k) (.region n o b) .skip
 |.seq a c=>match jY k a with|.region n o b=>.region n o b|_=>jY k c
 |.cond _ a c=>match jY k a with|.region n o b=>.region n o b|_=>jY k c
 |.block _ a=>jY k a
 |.loop a=>jY k a
 |.scope a=>jY k a
 |.rangeFunc _ _ a c=>match jY k a with|.region n o b=>.region n o b|_=>jY k c
 |_=>.skip
def rg (f:Func)(k:Nat):Code:=match f.body with|some c=>jY k c|none=>.skip
end Go.Proofs.YtnnjcenacidceaaGreat
