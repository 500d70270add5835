import Derived.Test.YtkcgfjnmkbbnoaaGb
import Derived.Test.YtkcgfjnmkbbnoaaRg
namespace Go.Proofs.Ytkcgfjnmkbbnoaa
open Go.RowKit
theorem wpOp_load_at {P : Program} {ops : Array Oper} {Q : Exit → Act → World → Prop} {i : Nat} {K : Act → World → Prop} {a : Act} {w : World} {o : Oper} (ho : ops[i]? = some o) (hg : o.guard = none) (ty : TypeId) (x : Operand) (hop : o.op = .load ty x)
    (b off : Nat) (hx : a.eval x = .pointer (some ⟨b, off, none⟩)) (cs : List Value) (d : TypeDesc) (hc : w.rangeAt b off cs)
    (hu : P.underlying ty = some d) (hd : d.isRow = true) (hi : (P.info? ty).map (·.size) = some cs.length)
    (h : K (a.put o.dst (.agg cs.toArray)) w) : wpOp P ops Q i K a w :=
  wpOp_of ho hg (wp_load_mid ty x hop b off hx cs d hc hu hd hi h)
def rcsReg6G (y : Rc) (a : RcA) (a2 : RcA) (b : Nat) (off : Nat) (b2 : Nat) (off2 : Nat) (k : Nat) (n : Nat) (cap : Nat) (cap2 : Nat) (i : Nat) (v : Value) (_X : World) : Prop :=
  match i with
  | 0 => v = .slice (some ⟨b, off, none⟩) n cap
  | 1 => v = .int .i64 k
  | 2 => v = .pointer (some ⟨b, off + k * 18, none⟩)
  | 3 => v = rcV y a
  | 4 => v = .slice (some ⟨b2, off2, none⟩) n cap2
  | 5 => v = .int .i64 k
  | 6 => v = .pointer (some ⟨b2, off2 + k * 18, none⟩)
  | 7 => v = rcV y a2
  | 8 => v = .bool true
  | _ => True
set_option maxRecDepth 100000 in
set_option maxHeartbeats 4000000 in
theorem rcsReg6 (p2 p3 p4 p6 p7 p8 p9 p10 p11 p12 p13 p14 p15 p16 p26 : Value) (v0 v1 v2 v3 v4 v5 v6 v7 v8 : Value) (y : Rc) (a : RcA) (a2 : RcA) (b : Nat) (off : Nat) (b2 : Nat) (off2 : Nat) (k : Nat) (n : Nat) (cap : Nat) (cap2 : Nat) (W : World) (hkn : k < n) (_hl : (n : Int) ≤ 140737488355328) (hr : W.rangeAt b (off + k * 18) (rcCs y a)) (hr2 : W.rangeAt b2 (off2 + k * 18) (rcCs y a2)) (lt : b < W.heap.size) (lt2 : b2 < W.heap.size) (l1 g1 l2 g2 : Nat) (hhi : g1 ≤ W.heap.size) (hhi2 : g2 ≤ W.heap.size) (hf : RcFit y) (hc : RcIn W l1 g1 y a) (hc2 : RcIn W l2 g2 y a2) (Q : Exit → Act → World → Prop) (hQ : ∀ (t : Nat → Value) (v3 : Value) X, v3 = .bool false ∧ Below W.heap.size W X → Q .normal ⟨#[(.slice (some ⟨b, off, none⟩) n cap), (.slice (some ⟨b2, off2, none⟩) n cap2), p2, p3, p4, (.int .i64 k), p6, p7, p8, p9, p10, p11, p12, p13, p14, p15, p16, t 0, t 1, t 2, t 3, t 4, t 5, t 6, t 7, t 8, v3], []⟩ X) :
    Code.wp Try.prog (Code.region 6 #[{ dst := some 17, op := Op.move (Operand.tmp 0), type := 22, pos := "exact.go:1730", after := #[], guard := none }, { dst := some 18, op := Op.move (Operand.tmp 5), type := 3, pos := "exact.go:1730", after := #[], guard := none }, { dst := some 19, op := Op.indexAddr 22 (Operand.tmp 17) (Operand.tmp 18), type := 0, pos := "exact.go:1730", after := #[{ on := 0, ground := Ground.data }, { on := 1, ground := Ground.data }], guard := none }, { dst := some 20, op := Op.load 47 (Operand.tmp 19), type := 47, pos := "exact.go:1730", after := #[{ on := 2, ground := Ground.data }], guard := none }, { dst := some 21, op := Op.move (Operand.tmp 1), type := 22, pos := "exact.go:1730", after := #[], guard := none }, { dst := some 22, op := Op.move (Operand.tmp 5), type := 3, pos := "exact.go:1730", after := #[], guard := none }, { dst := some 23, op := Op.indexAddr 22 (Operand.tmp 21) (Operand.tmp 22), type := 0, pos := "exact.go:1730", after := #[{ on := 4, ground := Ground.data }, { on := 5, ground := Ground.data }], guard := none }, { dst := some 24, op := Op.load 47 (Operand.tmp 23), type := 47, pos := "exact.go:1730", after := #[{ on := 6, ground := Ground.data }], guard := none }, { dst := some 25, op := Op.call { callee := Callee.value (Operand.func 37), args := #[Operand.tmp 20, Operand.tmp 24], argTypes := #[47, 47] }, type := 4, pos := "exact.go:1730", after := #[{ on := 3, ground := Ground.data }, { on := 7, ground := Ground.data }], guard := none }, { dst := some 26, op := Op.unOp UnOp.not 4 (Operand.tmp 25), type := 4, pos := "exact.go:1730", after := #[{ on := 8, ground := Ground.data }], guard := none }] true) Q ⟨#[(.slice (some ⟨b, off, none⟩) n cap), (.slice (some ⟨b2, off2, none⟩) n cap2), p2, p3, p4, (.int .i64 k), p6, p7, p8, p9, p10, p11, p12, p13, p14, p15, p16, v0, v1, v2, v3, v4, v5, v6, v7, v8, p26], []⟩ W := by
  refine regionJ (by kernel_rfl) 9 (fun t : Nat → Value => #[(.slice (some ⟨b, off, none⟩) n cap), (.slice (some ⟨b2, off2, none⟩) n cap2), p2, p3, p4, (.int .i64 k), p6, p7, p8, p9, p10, p11, p12, p13, p14, p15, p16, t 0, t 1, t 2, t 3, t 4, t 5, t 6, t 7, t 8, p26]) (fun i => match i with | 0 => v0 | 1 => v1 | 2 => v2 | 3 => v3 | 4 => v4 | 5 => v5 | 6 => v6 | 7 => v7 | _ => v8) (rcsReg6G y a a2 b off b2 off2 k n cap cap2) (fun a X => ∃ (t : Nat → Value) (v3 : Value), a = ⟨#[(.slice (some ⟨b, off, none⟩) n cap), (.slice (some ⟨b2, off2, none⟩) n cap2), p2, p3, p4, (.int .i64 k), p6, p7, p8, p9, p10, p11, p12, p13, p14, p15, p16, t 0, t 1, t 2, t 3, t 4, t 5, t 6, t 7, t 8, v3], []⟩ ∧ v3 = .bool false ∧ Below W.heap.size W X) (by kernel_rfl) (by kernel_rfl) (by kernel_rfl) ?_ rfl ?_ ?_ ?_
  · intro i v X Y hi h hb
    rcases (show i = 0 ∨ i = 1 ∨ i = 2 ∨ i = 3 ∨ i = 4 ∨ i = 5 ∨ i = 6 ∨ i = 7 ∨ i = 8 by omega) with rfl | rfl | rfl | rfl | rfl | rfl | rfl | rfl | rfl
    · exact h
    · exact h
    · exact h
    · exact h
    · exact h
    · exact h
    · exact h
    · exact h
    · exact h
  · intro i hi t X K hb hg hK
    rcases (show i = 0 ∨ i = 1 ∨ i = 2 ∨ i = 3 ∨ i = 4 ∨ i = 5 ∨ i = 6 ∨ i = 7 ∨ i = 8 by omega) with rfl | rfl | rfl | rfl | rfl | rfl | rfl | rfl | rfl
    · have h := hK (.slice (some ⟨b, off, none⟩) n cap) X rfl (Below.refl _ _)
      refine wpOp_of rfl rfl ?_
      clear hK hg
      go_simp
      simpa [updT] using h
    · have h := hK (.int .i64 k) X rfl (Below.refl _ _)
      refine wpOp_of rfl rfl ?_
      clear hK hg
      go_simp
      simpa [updT] using h
    · have e0 : t 0 = .slice (some ⟨b, off, none⟩) n cap := hg 0 ⟨_, rfl, ⟨0, .data⟩, by simp, rfl, rfl⟩
      have e1 : t 1 = .int .i64 k := hg 1 ⟨_, rfl, ⟨1, .data⟩, by simp, rfl, rfl⟩
      have h := hK (.pointer (some ⟨b, off + k * 18, none⟩)) X rfl (Below.refl _ _)
      refine wpOp_of rfl rfl ?_
      clear hK hg
      go_simp
      simpa [updT, e0, e1] using h
    · have e2 : t 2 = .pointer (some ⟨b, off + k * 18, none⟩) := hg 2 ⟨_, rfl, ⟨2, .data⟩, by simp, rfl, rfl⟩
      refine wpOp_load_at rfl rfl 47 _ rfl b (off + k * 18) (by exact e2) (rcCs y a) _ (rangeAt_same hr (fun j => hb.cell (p := ⟨b, j, none⟩) lt)) Try.underlying47 rfl rcs_sz58 ?_
      have h := hK (rcV y a) X rfl (Below.refl _ _)
      exact h
    · have h := hK (.slice (some ⟨b2, off2, none⟩) n cap2) X rfl (Below.refl _ _)
      refine wpOp_of rfl rfl ?_
      clear hK hg
      go_simp
      simpa [updT] using h
    · have h := hK (.int .i64 k) X rfl (Below.refl _ _)
      refine wpOp_of rfl rfl ?_
      clear hK hg
      go_simp
      simpa [updT] using h
    · have e4 : t 4 = .slice (some ⟨b2, off2, none⟩) n cap2 := hg 4 ⟨_, rfl, ⟨4, .data⟩, by simp, rfl, rfl⟩
      have e5 : t 5 = .int .i64 k := hg 5 ⟨_, rfl, ⟨5, .data⟩, by simp, rfl, rfl⟩
      have h := hK (.pointer (some ⟨b2, off2 + k * 18, none⟩)) X rfl (Below.refl _ _)
      refine wpOp_of rfl rfl ?_
      clear hK hg
      go_simp
      simpa [updT, e4, e5] using h
    · have e6 : t 6 = .pointer (some ⟨b2, off2 + k * 18, none⟩) := hg 6 ⟨_, rfl, ⟨6, .data⟩, by simp, rfl, rfl⟩
      refine wpOp_load_at rfl rfl 47 _ rfl b2 (off2 + k * 18) (by exact e6) (rcCs y a2) _ (rangeAt_same hr2 (fun j => hb.cell (p := ⟨b2, j, none⟩) lt2)) Try.underlying47 rfl rcs_sz58 ?_
      have h := hK (rcV y a2) X rfl (Below.refl _ _)
      exact h
    · have e3 : t 3 = rcV y a := hg 3 ⟨_, rfl, ⟨3, .data⟩, by simp, rfl, rfl⟩
      have e7 : t 7 = rcV y a2 := hg 7 ⟨_, rfl, ⟨7, .data⟩, by simp, rfl, rfl⟩
      refine wpOp_of rfl rfl ?_
      have HK := hid hK
      clear hK hg
      go_simp
      go_at_call 37
      refine (eqRc_any y a a2 X l1 g1 l2 g2 (Nat.le_trans hhi hb.size) (Nat.le_trans hhi2 hb.size) hf (hc.below hb hhi) (hc2.below hb hhi2)).mono ?_
      rintro r Y ⟨rfl, hbY⟩
      have h := HK.out (.bool true) Y rfl hbY
      simpa [updT, e3, e7] using h
  · intro t X K hb hg hK
    have e8 : t 8 = .bool true := hg 8 (by omega)
    refine wpOp_of rfl rfl ?_
    have HK := hid hK
    clear hK hg
    go_simp
    have h := HK.out _ X ⟨t, .bool false, rfl, rfl, hb⟩
    simpa [e8] using h
  · rintro a X ⟨t, v3, rfl, hp⟩
    exact hQ t v3 X hp
set_option maxRecDepth 100000 in
set_option maxHeartbeats 1000000 in
theorem eqRcs_any (n : Nat) (x : Nat → Rc) (A A2 : Nat → RcA) (ad ad2 : Option Addr) (cap cap2 : Nat) (w : World) (lo hi lo2 hi2 : Nat) (hh : hi ≤ w.heap.size) (hh2 : hi2 ≤ w.heap.size) (hl : (n : Int) ≤ 140737488355328) (hf : ∀ i, i < n → RcFit (x i))
    (hc : RcsIn w lo hi ad n x A) (hc2 : RcsIn w lo2 hi2 ad2 n x A2) :
    Calls Try.prog 21 #[.slice ad n cap, .slice ad2 n cap2] w fun e w' => e = .returned (.bool true) ∧ Below w.heap.size w w' := by
  go_enter Try.func21, Try.ntmps21
  go_wp2
  go_loopw [5] (fun i wr => ∃ k : Nat, k ≤ n ∧ i = .int .i64 k ∧ Below w.heap.size w wr) (fun i _ => n - (intOf i).toNat)
  case atStart => exact ⟨0, Nat.zero_le _, rfl, Below.refl _ _⟩
  case round =>
    obtain ⟨k, hk, rfl, hb⟩ := hrel
    by_cases hkn : k < n
    · obtain ⟨b, off, rfl, hlo, hbh, hrx, hix⟩ := hc k hkn
      obtain ⟨b2, off2, rfl, hlo2, hbh2, hrx2, hix2⟩ := hc2 k hkn
      have HFK := hid (hf k hkn)
      have HR := hid (rangeAt_same hrx (fun j => hb.cell (p := ⟨b, j, none⟩) (by show b < _; omega)))
      have HR2 := hid (rangeAt_same hrx2 (fun j => hb.cell (p := ⟨b2, j, none⟩) (by show b2 < _; omega)))
      have HI := hid (hix.below hb hh)
      have HI2 := hid (hix2.below hb hh2)
      have hw1 := Nat.le_trans hh hb.size
      have hw2 := Nat.le_trans hh2 hb.size
      clear hc hc2 hf hrx hrx2 hix hix2
      go_wp2
      refine rcsReg6 _ _ _ _ _ _ _ _ _ _ _ _ _ _ _ _ _ _ _ _ _ _ _ _ (x k) (A k) (A2 k) b off b2 off2 k n cap cap2 wr hkn hl HR.out HR2.out (by omega) (by omega) lo hi lo2 hi2 hw1 hw2 HFK.out HI.out HI2.out _ ?_
      rintro t v3 X ⟨rfl, hbX⟩
      clear HR HR2 HI HI2 HFK
      go_wp2
      go_roundw
      case rel => exact ⟨k + 1, by omega, by go_num, hb.trans (hbX.mono hb.size)⟩
      case measure => simp [intOf]; omega
    · have : k = n := by omega
      subst this
      clear hc hc2 hf
      go_wp2
      go_ret
      exact ⟨rfl, hb⟩
end Go.Proofs.Ytkcgfjnmkbbnoaa
