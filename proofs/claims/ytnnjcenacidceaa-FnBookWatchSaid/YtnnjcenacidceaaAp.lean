import Derived.Test.YtnnjcenacidceaaRows
import Derived.WalkKit
import Derived.WalkSpells
import Derived.WalkLawsBesides
import Derived.Laws.IdiomStrings
import Derived.Deep.RegionWith
import Derived.Deep.QuietTactic
import Derived.BigQuiet
import Derived.Deep.Light
namespace Go
abbrev Value.i (a:Int):Value:=.int .i64 a
abbrev Value.s (b:ByteArray):Value:=.string b
abbrev Value.l (a:Option Addr)(n c:Nat):Value:=.slice a n c
abbrev Value.p (b o:Nat):Value:=.pointer (some ⟨b,o,none⟩)
abbrev Lit.i (a:Int):Lit:=.int .i64 a
abbrev Lit.s (b:List UInt8):Lit:=.string b
end Go
namespace Go.Proofs.Ytnnjcenacidceaa
open Go.RowKit Go.Proofs.Try
abbrev OA:=Option Addr
abbrev Aa:=@List.getD_cons_zero
abbrev Ab:=@List.getD_cons_succ
abbrev Ac:=@Nat.lt_of_lt_of_le
abbrev Ad:=@List.getElem?_cons_zero
abbrev Ae:=@List.getElem?_cons_succ
abbrev Af:=@List.getElem?_toArray
abbrev Aj:=@Nat.not_lt_zero
abbrev Ak:=@World.cell?_alloc_new
abbrev Al:=@Bool.and_eq_true
abbrev Ao:=@Below.refl
abbrev Ap:=@World.cell?_alloc_past
abbrev As:=@World.cell?_setCell_other
abbrev At:=@Nat.zero_le
abbrev Au:=@Nat.lt_or_ge
abbrev Aw:=@World.size_alloc
abbrev AA:=@Or.inl
abbrev AC:=@Or.inr
abbrev AD:=@Nat.le_refl
abbrev AI:=@Oper.upon_value
abbrev AJ:=@IntWalk.i64_in
abbrev AK:=@Array.getElem?_eq_some_iff
abbrev AO:=@Option.some.injEq
abbrev AT:=@Nat.le_trans
abbrev AU:=@Array.all_eq_true_iff_forall_mem
abbrev AY:=@Nat.lt_irrefl
abbrev AZ:=@List.all_eq_true
abbrev A6:=@Nat.zero_add
abbrev A9:=@Array.getElem?_eq_none
abbrev Bd:=@List.mem_range
abbrev Be:=@List.getD_eq_getElem?_getD
abbrev Bh:=@List.getElem?_eq_getElem
abbrev Bi:=@Nat.add_zero
abbrev Bm:=@Nat.eq_zero_or_pos
abbrev Bq:=@Nat.add_assoc
abbrev Bs:=@Below.setCell
abbrev By:=@Nat.lt_succ_self
abbrev B7:=@Below.alloc
abbrev Cc:=@World.cell?_setCell_same
abbrev Cd:=@Below.drew
abbrev Cl:=@Nat.add_sub_cancel_left
abbrev CC:=@Met.intro
abbrev CK:=@World.cell?_alloc_at
abbrev Dv:=@List.mem_filter
abbrev DE:=@List.filter_append
abbrev Eb:=@List.mem_cons
abbrev Eg:=@List.nil_append
abbrev ED:=@List.cons_append
abbrev EY:=@Array.any_eq_true
abbrev EZ:=@Array.getElem_mem
abbrev E1:=@World.cell?_setCells_in
abbrev E3:=@List.size_toArray
abbrev Fv:=@World.frozen?_alloc_at
abbrev Fw:=@List.take_of_length_le
abbrev Gg:=@List.getElem_mem
abbrev GP:=@Bool.false_eq_true
abbrev GQ:=@World.ownsRow_made
abbrev GX:=@ByteArray.size_append
abbrev GY:=@List.length_filter_le
abbrev Kz:=@Array.getElem?_eq_getElem
abbrev KB:=@List.range_succ
abbrev KP:=@World.cell?_setCells_out
abbrev KV:=@Calls.quiet_of_same
abbrev KZ:=@List.length_cons
abbrev K7:=@Int.le_refl
abbrev La:=@World.frozen?_setCells
abbrev Lj:=@List.length_map
abbrev Lp:=@ByteArray.data_append
abbrev Lr:=@Nat.lt_trichotomy
abbrev LD:=@Nat.mod_lt
abbrev LF:=@List.count_le_length
abbrev LG:=@List.mem_cons_of_mem
abbrev LH:=@Array.replicate_succ
abbrev LI:=@Array.replicate_zero
abbrev LY:=@List.append_toArray
abbrev L9:=@Bool.or_eq_true
abbrev Mu:=@List.length_append
abbrev Mw:=@List.mem_cons_self
abbrev Mx:=@Int.eq_ofNat_of_zero_le
abbrev My:=@Nat.mul_one
abbrev MQ:=@List.getElem?_map
abbrev MR:=@List.mem_map
abbrev MS:=@List.length_range
abbrev MT:=@List.push_toArray
abbrev Nj:=@List.not_mem_nil
abbrev Ns:=@World.cell?_alloc_lt
abbrev NO:=@List.length_nil
abbrev N6:=@Nat.mul_le_mul_left
abbrev N9:=@Nat.zero_mul
abbrev Oz:=@World.ownsMap_made
abbrev OB:=@Nat.add_sub_cancel
abbrev O9:=@Result.andThen_ok
abbrev PN:=@World.frozen?_alloc_past
abbrev Qu:=@List.map_toArray
abbrev Qv:=@WalkArith.wf_i64
theorem Za{P:Prop}(h:P:=by omega):P:=h
theorem Zb{P:Prop}(h:P:=by decide):P:=h
theorem Zc{P:Prop}(h:P:=by simp):P:=h
theorem Zd{P:Prop}(h:P:=by simp;omega):P:=h
theorem Ze{P:Prop}(h:P:=by kernel_rfl):P:=h
theorem Zf{P:Prop}(h:P:=by repeat(first|with_reducible exact Az.refl _ _|with_reducible refine Mt ?_ (by(show _<=_\/_<_);simp only[Bj,Aw];omega) _|with_reducible refine Az.trans ?_ (Aq (An _ _)))):P:=h
theorem Zg{P:Prop}(h:P:=by show w.1.size<_;omega):P:=h
theorem Zh{P:Prop}(h:P:=by first|exact hf.k|exact hf.n|exact hf.h):P:=h
theorem Zi{P:Prop}(h:P:=by first|omega|(simp;omega)):P:=h
theorem Zj{P:Prop}(h:P:=by show wr.1.size<_;omega):P:=h
theorem Zk{P:Prop}(h:P:=by show b<_;omega):P:=h
theorem Zl{P:Prop}(h:P:=by show w.1.size+1+1<_;omega):P:=h
theorem Zm{P:Prop}(h:P:=by unfold maxLen;omega):P:=h
theorem Zn{P:Prop}(h:P:=by simp[results,results84,go_sem,r0,r1,r2,r3,r4,r5,r6,r7,r8,z1,(show w.1.size+1+1<w1.1.size+1 by omega),Ns]):P:=h
theorem Zo{P:Prop}(h:P:=by show w.1.size+1<_;omega):P:=h
theorem Zp{P:Prop}(h:P:=by have:=HB.size;simp;omega):P:=h
theorem Zq{P:Prop}(h:P:=by simpa using hb):P:=h
theorem Zr{P:Prop}(h:P:=by simp[Lib.byteCells,Value.oneCell']):P:=h
theorem Zs{P:Prop}(h:P:=by show w.1.size+1+1+1<_;omega):P:=h
theorem Zt{P:Prop}(h:P:=by simp[results,results84,go_sem,r0,r1,r2,r3,r4,r5,r6,r7,r8,z1,(show w.1.size+1+1<w1.1.size+1 by omega),(show w.1.size+1+1<w1.1.size+1+1 by omega),Ns]):P:=h
theorem Zu{P:Prop}(h:P:=by obtain⟨q,hq⟩:=h.2;rw[hq];exact BH _ _):P:=h
theorem Zv{P:Prop}(h:P:=by simp;have:=hb.size;omega):P:=h
theorem Zw{P:Prop}(h:P:=by show b'<_;omega):P:=h
theorem Zx{P:Prop}(h:P:=by rw[kp 10 Zb];exact f10):P:=h
theorem Zy{P:Prop}(h:P:=by rw[kp 11 Zb];exact f11):P:=h
theorem Zz{P:Prop}(h:P:=by rw[kp 12 Zb];exact f12):P:=h
theorem ZA{P:Prop}(h:P:=by rw[kp 10 Zb];exact f13):P:=h
theorem rL{P:Prop}(h:P:=by simp only[Bj];exact AD _):P:=h
theorem pH{P:Prop}(h:P:=by rw[Ap _ _ _ Zc];simp):P:=h
theorem wI{P:Prop}(h:P:=by repeat(first|with_reducible exact Az.refl _ _|with_reducible refine Mt ?_ (by(show _<=_\/_<_);dsimp only;omega) _)):P:=h
theorem kQ{P:Prop}(h:P:=by rw[Ak];rfl):P:=h
theorem Y8{P:Prop}(h:P:=by rw[kp 1 Zb];exact f1):P:=h
theorem Y4{P:Prop}(h:P:=by rw[kp 2 Zb];exact f2):P:=h
theorem YU{P:Prop}(h:P:=by rw[kp 3 Zb];exact f3):P:=h
theorem YW{P:Prop}(h:P:=by rw[kp 4 Zb];exact f4):P:=h
theorem YX{P:Prop}(h:P:=by rw[kp 5 Zb];exact f5):P:=h
theorem Y3{P:Prop}(h:P:=by rw[kp 6 Zb];exact f6):P:=h
theorem YV{P:Prop}(h:P:=by rw[kp 7 Zb];exact f7):P:=h
theorem Y7{P:Prop}(h:P:=by rw[kp 8 Zb];exact f8):P:=h
theorem YZ{P:Prop}(h:P:=by rw[kp 9 Zb];exact f9):P:=h
theorem YY{P:Prop}(h:P:=by rw[kp 0 Zb];exact f0):P:=h
theorem O7{P:Prop}(h:P:=by cases h):P:=h
theorem XT{P:Prop}(h:P:=by have:=VH.out;omega):P:=h
theorem VG{P:Prop}(h:P:=by simp;try omega):P:=h
theorem jD{P:Prop}(h:P:=by simp[Value.oneCell']):P:=h
theorem Yz{P:Prop}(h:P:=by simpa using hB1):P:=h
theorem rI{P:Prop}(h:P:=by simp only[Bj];omega):P:=h
theorem uL{P:Prop}(h:P:=by simp[results,results84,go_sem,r0,r1,r2,r3,r4,r5,r6,r7,r8]):P:=h
theorem nD{P:Prop}(h:P:=by rw[STEP.out];exact O2):P:=h
theorem tT{P:Prop}(h:P:=by rw[kp 4 Zb,kp 3 Zb];exact i43):P:=h
theorem rN{P:Prop}(h:P:=by rw[kp 5 Zb,kp 4 Zb];exact i54):P:=h
theorem rH{P:Prop}(h:P:=by rw[kp 5 Zb,kp 1 Zb];exact i51):P:=h
theorem rG{P:Prop}(h:P:=by rw[kp 3 Zb,kp 2 Zb];exact i32):P:=h
theorem rK{P:Prop}(h:P:=by rfl):P:=h
theorem OC{P:Prop}(h:P:=by have:=hb1.size;simp at this;omega):P:=h
theorem sO{P:Prop}(h:P:=by simp[results,results84,go_sem,r0,r1,r2,r3,r4,r5,r6,r7,r8,z1]):P:=h
theorem wN{P:Prop}(h:P:=by exact AT hh1 (GW.prop _).size):P:=h
theorem uK{n:Nat}:n<=n:=AD n
theorem AG{w:World}{o:Obj}:Below w.heap.size w (w.alloc o):=(Ao _ _).alloc (AD _) o
theorem EF{B w}:Below B w w:=Ao B w
theorem Cf{n:Nat}:0<=n:=At n
def jH (k:Nat):Code->Code
 |.region n o b=>cond (Nat.beq n k) (.region n o b) .skip
 |.seq a c=>match jH k a with|.region n o b=>.region n o b|_=>jH k c
 |.cond _ a c=>match jH k a with|.region n o b=>.region n o b|_=>jH k c
 |.block _ a=>jH k a
 |.loop a=>jH k a
 |.scope a=>jH k a
 |.rangeFunc _ _ a c=>match jH k a with|.region n o b=>.region n o b|_=>jH k c
 |_=>.skip
def rg (f:Func)(k:Nat):Code:=match f.body with|some c=>jH k c|none=>.skip
end Go.Proofs.Ytnnjcenacidceaa
