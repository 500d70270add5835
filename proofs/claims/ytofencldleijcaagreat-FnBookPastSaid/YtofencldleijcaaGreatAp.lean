import Derived.Test.YtofencldleijcaaGreatRows
import Derived.WalkKit
import Derived.WalkSpells
import Derived.WalkLawsBesides
import Derived.Laws.IdiomStrings
import Derived.Deep.RegionWith
import Derived.Deep.QuietTactic
import Derived.BigQuiet
import Derived.Deep.Light
namespace Go
abbrev Value.i (a:Int):Value:=.int .i64 a
abbrev Value.s (b:ByteArray):Value:=.string b
abbrev Value.l (a:Option Addr)(n c:Nat):Value:=.slice a n c
abbrev Value.p (b o:Nat):Value:=.pointer (some ⟨b,o,none⟩)
abbrev Lit.i (a:Int):Lit:=.int .i64 a
abbrev Lit.s (b:List UInt8):Lit:=.string b
end Go
namespace Go.Proofs.YtofencldleijcaaGreat
open Go.RowKit Go.Proofs.Tryz
abbrev OA:=Option Addr
abbrev Aa:=@List.getElem?_cons_zero
abbrev Ab:=@List.getElem?_cons_succ
abbrev Ac:=@List.getElem?_toArray
abbrev Ad:=@Nat.lt_of_lt_of_le
abbrev Ae:=@List.getD_cons_zero
abbrev Af:=@List.getD_cons_succ
abbrev Ai:=@Nat.not_lt_zero
abbrev Aj:=@Option.some.injEq
abbrev Ak:=@Bool.and_eq_true
abbrev Al:=@Below.refl
abbrev Ao:=@World.cell?_alloc_new
abbrev Aq:=@World.cell?_alloc_past
abbrev At:=@Nat.lt_or_ge
abbrev Au:=@World.size_alloc
abbrev Aw:=@Nat.zero_le
abbrev Az:=@Nat.le_refl
abbrev AD:=@Or.inr
abbrev AE:=@IntWalk.i64_in
abbrev AG:=@Nat.le_trans
abbrev AJ:=@Nat.lt_irrefl
abbrev AO:=@Or.inl
abbrev AP:=@Array.getElem?_eq_none
abbrev AS:=@Array.getElem?_eq_some_iff
abbrev AY:=@Nat.add_assoc
abbrev AZ:=@Oper.upon_value
abbrev A6:=@List.getD_eq_getElem?_getD
abbrev A9:=@Array.all_eq_true_iff_forall_mem
abbrev Bc:=@List.mem_range
abbrev Bj:=@Nat.lt_succ_self
abbrev Bn:=@World.cell?_setCell_other
abbrev Bq:=@Nat.zero_add
abbrev Bt:=@List.all_eq_true
abbrev BC:=@Below.setCell
abbrev BF:=@Nat.eq_zero_or_pos
abbrev BL:=@List.mem_filter
abbrev BN:=@List.getElem?_eq_getElem
abbrev BU:=@List.size_toArray
abbrev B4:=@List.cons_append
abbrev Cg:=@Below.alloc
abbrev Ci:=@Below.drew
abbrev Cj:=@List.length_cons
abbrev Cn:=@Array.replicate_succ
abbrev Co:=@Array.replicate_zero
abbrev Cs:=@List.mem_cons_self
abbrev Cu:=@List.nil_append
abbrev Cv:=@Oper.semAt_some
abbrev Cw:=@List.append_toArray
abbrev CD:=@List.mem_cons
abbrev CI:=@List.mem_map
abbrev CL:=@List.push_toArray
abbrev CP:=@List.length_append
abbrev CZ:=@List.mem_cons_of_mem
abbrev Ds:=@List.length_range
abbrev Dz:=@List.length_nil
abbrev DF:=@Array.getElem?_eq_getElem
abbrev DX:=@World.cell?_setCells_in
abbrev DY:=@Nat.add_sub_cancel_left
abbrev Es:=@Bool.false_eq_true
abbrev Et:=@World.ownsRow_made
abbrev Eu:=@Nat.add_sub_cancel
abbrev EH:=@Nat.lt_trichotomy
abbrev ET:=@World.cell?_setCells_out
abbrev E0:=@Calls.quiet_of_same
abbrev Fc:=@Int.le_refl
abbrev Fq:=@World.frozen?_setCells
abbrev Fy:=@List.range_succ
abbrev FP:=@ByteArray.size_append
abbrev FQ:=@ByteArray.data_append
abbrev FY:=@Bool.not_eq_true'
abbrev F2:=@Array.getElem_mem
abbrev Gk:=@World.cell?_alloc_at
abbrev Gl:=@Nat.mod_lt
abbrev Gm:=@Array.getElem?_append_left
abbrev GC:=@List.getElem_mem
abbrev GD:=@List.getElem?_append_left
abbrev Ha:=@World.cell?_setCell_same
abbrev Hb:=@Option.isSome_iff_exists
abbrev Hi:=@Bool.or_eq_true
abbrev H8:=@World.ownsMap_made
abbrev H9:=@List.pairwise_cons
abbrev Ia:=@Int.eq_ofNat_of_zero_le
abbrev IV:=@Sem.run_pure
abbrev IW:=@Array.any_eq_true
abbrev IX:=@World.frozen?_alloc_at
abbrev IY:=@Nat.zero_mul
abbrev IZ:=@List.pairwise_map
abbrev Jd:=@Bool.and_eq_false_iff
abbrev JI:=@World.cell?_alloc_lt
abbrev J5:=@List.length_map
abbrev Ki:=@List.map_congr_left
abbrev Ks:=@Nat.add_zero
abbrev KT:=@List.getElem?_append_right
abbrev Lv:=@List.pairwise_iff_getElem
abbrev Lw:=@Result.andThen_ok
abbrev LZ:=@World.frozen?_alloc_mark
abbrev ME:=@List.map_toArray
abbrev MF:=@Classical.skolem
abbrev MG:=@WalkArith.wf_i64
abbrev MH:=@List.ext_getElem
theorem Za{P:Prop}(h:P:=by decide):P:=h
theorem Zb{P:Prop}(h:P:=by omega):P:=h
theorem Zc{P:Prop}(h:P:=by simp):P:=h
theorem Zd{P:Prop}(h:P:=by simp;omega):P:=h
theorem Ze{P:Prop}(h:P:=by kernel_rfl):P:=h
theorem Zf{P:Prop}(h:P:=by repeat(first|with_reducible exact AB.refl _ _|with_reducible refine H7 ?_ (by(show _<=_\/_<_);simp only[Bi,Au];omega) _|with_reducible refine AB.trans ?_ (Ap (An _ _)))):P:=h
theorem Zg{P:Prop}(h:P:=by show w.1.size<_;omega):P:=h
theorem Zh{P:Prop}(h:P:=by first|exact hf.k|exact hf.n|exact hf.h):P:=h
theorem Zi{P:Prop}(h:P:=by first|omega|(simp;omega)):P:=h
theorem Zj{P:Prop}(h:P:=by show wr.1.size<_;omega):P:=h
theorem Zk{P:Prop}(h:P:=by rw[kp 1 Za];exact f1):P:=h
theorem Zl{P:Prop}(h:P:=by rw[kp 0 Za];exact f0):P:=h
theorem Zm{P:Prop}(h:P:=by intro f hf;first|(simp[Oper.about]at hf;done)|(simp[Oper.about,resolve,Target.leads,IV,Act.eval,Deferred.ofValue,go_sem]at hf;subst hf;exact h31)):P:=h
theorem Zn{P:Prop}(h:P:=by rw[kp 2 Za];exact f2):P:=h
theorem Zo{P:Prop}(h:P:=by rw[kp 3 Za];exact f3):P:=h
theorem Zp{P:Prop}(h:P:=by rw[kp 4 Za];exact f4):P:=h
theorem Zq{P:Prop}(h:P:=by show b<_;omega):P:=h
theorem Zr{P:Prop}(h:P:=by rw[kp 5 Za];exact f5):P:=h
theorem Zs{P:Prop}(h:P:=by unfold maxLen;omega):P:=h
theorem Zt{P:Prop}(h:P:=by simp[results,results41,go_sem,r0,r1,r2,r3,r4,r5,r6,r7,r8,z1,(show w.1.size+1+1<w1.1.size+1 by omega),JI]):P:=h
theorem Zu{P:Prop}(h:P:=by rw[kp 10 Za];exact f10):P:=h
theorem Zv{P:Prop}(h:P:=by rw[kp 11 Za];exact f11):P:=h
theorem Zw{P:Prop}(h:P:=by rw[kp 12 Za];exact f12):P:=h
theorem Zx{P:Prop}(h:P:=by rw[kp 10 Za];exact f13):P:=h
theorem Zy{P:Prop}(h:P:=by rw[kp 2 Za,kp 1 Za];exact n21):P:=h
theorem Zz{P:Prop}(h:P:=by rw[kp 3 Za,kp 2 Za];exact n32):P:=h
theorem Qc{P:Prop}(h:P:=by rw[kp 5 Za,kp 4 Za];exact n54):P:=h
theorem MX{P:Prop}(h:P:=by rw[kp 6 Za];exact f6):P:=h
theorem MQ{P:Prop}(h:P:=by rw[kp 7 Za];exact f7):P:=h
theorem MI{P:Prop}(h:P:=by rw[kp 8 Za];exact f8):P:=h
theorem MO{P:Prop}(h:P:=by rw[kp 9 Za];exact f9):P:=h
theorem R9{P:Prop}(h:P:=by simp[Region.wanted,yielded,e3]):P:=h
theorem Mj{P:Prop}(h:P:=by simpa using hb):P:=h
theorem RZ{P:Prop}(h:P:=by have:=HB.size;simp;omega):P:=h
theorem Vj{P:Prop}(h:P:=by rw[kp 4 Za,kp 3 Za];exact n43):P:=h
theorem WD{P:Prop}(h:P:=by simp[Lib.byteCells,Value.oneCell']):P:=h
theorem Ss{P:Prop}(h:P:=by show w.1.size+1<_;omega):P:=h
theorem n7{P:Prop}(h:P:=by simp[results,results41,go_sem,r0,r1,r2,r3,r4,r5,r6,r7,r8,z1,(show w.1.size+1+1<w1.1.size+1 by omega),(show w.1.size+1+1<w1.1.size+1+1 by omega),JI]):P:=h
theorem gJ{P:Prop}(h:P:=by obtain⟨q,hq⟩:=h.2;rw[hq];exact BJ _ _):P:=h
theorem Vr{P:Prop}(h:P:=by simp;have:=hb.size;omega):P:=h
theorem Qb{P:Prop}(h:P:=by show b'<_;omega):P:=h
theorem ZG{P:Prop}(h:P:=by rw[kp 6 Za,kp 5 Za];exact n65):P:=h
theorem KW{P:Prop}(h:P:=by cases h):P:=h
theorem i5{P:Prop}(h:P:=by simp only[Bi];exact Az _):P:=h
theorem fR{P:Prop}(h:P:=by rw[Aq _ _ _ Zc];simp):P:=h
theorem nS{P:Prop}(h:P:=by repeat(first|with_reducible exact AB.refl _ _|with_reducible refine H7 ?_ (by(show _<=_\/_<_);dsimp only;omega) _)):P:=h
theorem aK{P:Prop}(h:P:=by rw[Ao];rfl):P:=h
theorem Vv{P:Prop}(h:P:=by have:=Se.out;omega):P:=h
theorem Xf{P:Prop}(h:P:=by simp[Value.oneCell']):P:=h
theorem dP{P:Prop}(h:P:=by rw[kp 4 Za,kp 0 Za];exact n40):P:=h
theorem Z9{P:Prop}(h:P:=by show w.1.size+1+1<_;omega):P:=h
theorem Vq{P:Prop}(h:P:=by simpa using hB1):P:=h
theorem TX{P:Prop}(h:P:=by simpa using h):P:=h
theorem iW{P:Prop}(h:P:=by simp only[Bi];omega):P:=h
theorem mC{P:Prop}(h:P:=by simp[results,results41,go_sem,r0,r1,r2,r3,r4,r5,r6,r7,r8]):P:=h
theorem dQ{P:Prop}(h:P:=by rw[STEP.out];exact O2):P:=h
theorem mE{P:Prop}(h:P:=by rw[kp 2 Za];exact λ_=>⟨rfl,j1,j2,j3,j4⟩):P:=h
theorem lA{P:Prop}(h:P:=by have:=hb1.size;simp at this;omega):P:=h
theorem kU{P:Prop}(h:P:=by rw[kp 6 Za,kp 3 Za];exact n63):P:=h
theorem lT{P:Prop}(h:P:=by rw[kp 6 Za,kp 0 Za];exact n60):P:=h
theorem kW{P:Prop}(h:P:=by rw[kp 5 Za,kp 0 Za];exact n50):P:=h
theorem oD{P:Prop}(h:P:=by simp[results,results41,go_sem,r0,r1,r2,r3,r4,r5,r6,r7,r8,z1]):P:=h
theorem mG{P:Prop}(h:P:=by exact AG hh1 (GW.prop _).size):P:=h
theorem Bg{n:Nat}:n<=n:=Az n
theorem EC{w:World}{o:Obj}:Below w.heap.size w (w.alloc o):=(Al _ _).alloc (Az _) o
theorem Ck{B w}:Below B w w:=Al B w
theorem OM{n:Nat}:0<=n:=Aw n
def ZK (k:Nat):Code->Code
 |.region n o b=>cond (Nat.beq n k) (.region n o b) .skip
 |.seq a c=>match ZK k a with|.region n o b=>.region n o b|_=>ZK k c
 |.cond _ a c=>match ZK k a with|.region n o b=>.region n o b|_=>ZK k c
 |.block _ a=>ZK k a
 |.loop a=>ZK k a
 |.scope a=>ZK k a
 |.rangeFunc _ _ a c=>match ZK k a with|.region n o b=>.region n o b|_=>ZK k c
 |_=>.skip
def rg (f:Func)(k:Nat):Code:=match f.body with|some c=>ZK k c|none=>.skip
end Go.Proofs.YtofencldleijcaaGreat
