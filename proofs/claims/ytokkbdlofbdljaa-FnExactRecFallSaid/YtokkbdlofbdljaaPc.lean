import Derived.Test.YtokkbdlofbdljaaPb
import Derived.Test.YtokkbdlofbdljaaSd
import Derived.Test.YtokkbdlofbdljaaYsz
namespace Go.Proofs.Ytokkbdlofbdljaa
open Go.RowKit
def fallG (s : Nat) (r : Rc) (A : RcA) (W : World) (i : Nat) (v : Value) (X : World) : Prop :=
  match i with
  | 0 => v = .pointer (some ⟨s, 0, none⟩)
  | 1 => v = .int .i64 r.num
  | 2 => v = .pointer (some ⟨s, 1, none⟩)
  | 3 => v = .int .i64 r.of
  | 4 => v = .pointer (some ⟨s, 3, none⟩)
  | 5 => v = dkV r.sf A.sa A.sc
  | 6 => ∃ ad cap, v = dkV r.sf ad cap ∧ SlsIn X W.heap.size X.heap.size ad r.sf.n r.sf.s
  | 7 => v = .pointer (some ⟨s, 3, none⟩)
  | 8 => v = dkV r.sf A.sa A.sc
  | 9 => ∃ ad cap, v = dkV r.sf ad cap ∧ SlsIn X W.heap.size X.heap.size ad r.sf.n r.sf.s
  | 10 => ∃ a1 c1 a2 c2, v = .agg (rcC (fallR r) (fallA a1 a2 c1 c2)) ∧ SlsIn X W.heap.size X.heap.size a1 r.sf.n r.sf.s ∧ SlsIn X W.heap.size X.heap.size a2 r.sf.n r.sf.s
  | _ => True
theorem SlsIn.growTo {w w' : World} {lo : Nat} {ad : Option Addr} {n : Nat} {x : Nat → Sl} (h : SlsIn w lo w.heap.size ad n x) (hb : Below w.heap.size w w') : SlsIn w' lo w'.heap.size ad n x := (h.below hb (Nat.le_refl _)).mono (Nat.le_refl _) hb.size
set_option maxRecDepth 100000 in
set_option maxHeartbeats 8000000 in
theorem fallReg3 (p0 p3 p4 p5 p6 v0 v1 v2 v3 v4 v5 v6 v7 v8 v9 v10 : Value) (s z : Nat) (r : Rc) (A : RcA) (W : World) (lo hi : Nat) (hhi : hi ≤ W.heap.size) (hbx : Bx W s (rcC r A)) (hz : Bx W z (rcL 0 0 false).toArray) (hl : (r.sf.n : Int) ≤ 1099511627776) (hin : SlsIn W lo hi A.sa r.sf.n r.sf.s) (Q : Exit → Act → World → Prop)
    (hQ : ∀ (t : Nat → Value) (a1 : Option Addr) (c1 : Nat) (a2 : Option Addr) (c2 : Nat) (Y : World), SlsIn Y W.heap.size Y.heap.size a1 r.sf.n r.sf.s → SlsIn Y W.heap.size Y.heap.size a2 r.sf.n r.sf.s → Below W.heap.size W Y → Q .normal ⟨#[p0, .pointer (some ⟨s, 0, none⟩), .pointer (some ⟨z, 0, none⟩), p3, p4, p5, p6, t 0, t 1, t 2, t 3, t 4, t 5, t 6, t 7, t 8, t 9, t 10], []⟩ (Y.setCells z 0 (rcC (fallR r) (fallA a1 a2 c1 c2)).toList)) :
    Code.wp Try.prog (Code.region 3 #[{ dst := some 7, op := Op.fieldAddr 40 (Operand.tmp 1) 0, type := 0, pos := "l16_rec_fall.go:10", after := #[], guard := none }, { dst := some 8, op := Op.load 3 (Operand.tmp 7), type := 3, pos := "l16_rec_fall.go:10", after := #[{ on := 0, ground := Ground.data }], guard := none }, { dst := some 9, op := Op.fieldAddr 40 (Operand.tmp 1) 1, type := 0, pos := "l16_rec_fall.go:10", after := #[], guard := none }, { dst := some 10, op := Op.load 3 (Operand.tmp 9), type := 3, pos := "l16_rec_fall.go:10", after := #[{ on := 2, ground := Ground.data }], guard := none }, { dst := some 11, op := Op.fieldAddr 40 (Operand.tmp 1) 3, type := 0, pos := "l16_rec_fall.go:10", after := #[], guard := none }, { dst := some 12, op := Op.load 36 (Operand.tmp 11), type := 36, pos := "l16_rec_fall.go:10", after := #[{ on := 4, ground := Ground.data }], guard := none }, { dst := some 13, op := Op.call { callee := Callee.value (Operand.func 27), args := #[Operand.tmp 12], argTypes := #[36] }, type := 36, pos := "l16_rec_fall.go:10", after := #[{ on := 5, ground := Ground.data }], guard := none }, { dst := some 14, op := Op.fieldAddr 40 (Operand.tmp 1) 3, type := 0, pos := "l16_rec_fall.go:10", after := #[], guard := none }, { dst := some 15, op := Op.load 36 (Operand.tmp 14), type := 36, pos := "l16_rec_fall.go:10", after := #[{ on := 7, ground := Ground.data }], guard := none }, { dst := some 16, op := Op.call { callee := Callee.value (Operand.func 27), args := #[Operand.tmp 15], argTypes := #[36] }, type := 36, pos := "l16_rec_fall.go:10", after := #[{ on := 8, ground := Ground.data }, { on := 6, ground := Ground.chain }], guard := none }, { dst := some 17, op := Op.build 40 #[(0, Operand.tmp 8), (1, Operand.tmp 10), (3, Operand.tmp 13), (4, Operand.tmp 16)], type := 40, pos := "l16_rec_fall.go:10", after := #[{ on := 1, ground := Ground.data }, { on := 3, ground := Ground.data }, { on := 6, ground := Ground.data }, { on := 9, ground := Ground.data }], guard := none }, { dst := none, op := Op.store 40 (Operand.tmp 2) (Operand.tmp 17), type := 0, pos := "l16_rec_fall.go:10", after := #[{ on := 10, ground := Ground.data }, { on := 9, ground := Ground.chain }, { on := 0, ground := Ground.phase }, { on := 1, ground := Ground.phase }, { on := 2, ground := Ground.phase }, { on := 3, ground := Ground.phase }, { on := 4, ground := Ground.phase }, { on := 5, ground := Ground.phase }, { on := 6, ground := Ground.phase }, { on := 7, ground := Ground.phase }, { on := 8, ground := Ground.phase }, { on := 9, ground := Ground.phase }, { on := 10, ground := Ground.phase }], guard := none }] true) Q ⟨#[p0, .pointer (some ⟨s, 0, none⟩), .pointer (some ⟨z, 0, none⟩), p3, p4, p5, p6, v0, v1, v2, v3, v4, v5, v6, v7, v8, v9, v10], []⟩ W := by
  have h1 : W.cell? ⟨s, 0, none⟩ = some (.int .i64 r.num) := hbx.cell 0
  have h2 : W.cell? ⟨s, 1, none⟩ = some (.int .i64 r.of) := hbx.cell 1
  have hs := hbx.lt
  refine regionJ (by kernel_rfl) 11 (fun t : Nat → Value => #[p0, .pointer (some ⟨s, 0, none⟩), .pointer (some ⟨z, 0, none⟩), p3, p4, p5, p6, t 0, t 1, t 2, t 3, t 4, t 5, t 6, t 7, t 8, t 9, t 10]) (fun j => match j with | 0 => v0 | 1 => v1 | 2 => v2 | 3 => v3 | 4 => v4 | 5 => v5 | 6 => v6 | 7 => v7 | 8 => v8 | 9 => v9 | _ => v10) (fallG s r A W) (fun a X => ∃ (t : Nat → Value) (a1 : Option Addr) (c1 : Nat) (a2 : Option Addr) (c2 : Nat) (Y : World), a = ⟨#[p0, .pointer (some ⟨s, 0, none⟩), .pointer (some ⟨z, 0, none⟩), p3, p4, p5, p6, t 0, t 1, t 2, t 3, t 4, t 5, t 6, t 7, t 8, t 9, t 10], []⟩ ∧ X = Y.setCells z 0 (rcC (fallR r) (fallA a1 a2 c1 c2)).toList ∧ SlsIn Y W.heap.size Y.heap.size a1 r.sf.n r.sf.s ∧ SlsIn Y W.heap.size Y.heap.size a2 r.sf.n r.sf.s ∧ Below W.heap.size W Y) (by kernel_rfl) (by kernel_rfl) (by kernel_rfl) ?_ rfl ?_ ?_ ?_
  · intro i v X Y hi1 h hb
    rcases (show i = 0 ∨ i = 1 ∨ i = 2 ∨ i = 3 ∨ i = 4 ∨ i = 5 ∨ i = 6 ∨ i = 7 ∨ i = 8 ∨ i = 9 ∨ i = 10 by omega) with rfl | rfl | rfl | rfl | rfl | rfl | rfl | rfl | rfl | rfl | rfl
    · exact h
    · exact h
    · exact h
    · exact h
    · exact h
    · exact h
    · obtain ⟨ad, cap, e1, e2⟩ := h
      exact ⟨ad, cap, e1, e2.growTo hb⟩
    · exact h
    · exact h
    · obtain ⟨ad, cap, e1, e2⟩ := h
      exact ⟨ad, cap, e1, e2.growTo hb⟩
    · obtain ⟨a1, c1, a2, c2, e1, e2, e3⟩ := h
      exact ⟨a1, c1, a2, c2, e1, e2.growTo hb, e3.growTo hb⟩
  · intro i hi1 t X K hb hg1 hK
    rcases (show i = 0 ∨ i = 1 ∨ i = 2 ∨ i = 3 ∨ i = 4 ∨ i = 5 ∨ i = 6 ∨ i = 7 ∨ i = 8 ∨ i = 9 ∨ i = 10 by omega) with rfl | rfl | rfl | rfl | rfl | rfl | rfl | rfl | rfl | rfl | rfl
    · have h := hK (.pointer (some ⟨s, 0, none⟩)) X rfl (Below.refl _ _)
      refine wpOp_of rfl rfl ?_
      clear hK hg1
      go_simp
      simpa [updT] using h
    · have e0 : t 0 = .pointer (some ⟨s, 0, none⟩) := hg1 0 ⟨_, rfl, ⟨0, .data⟩, by simp, rfl, rfl⟩
      have f1 := (hb.cell (p := ⟨s, 0, none⟩) hs).trans h1
      have h := hK (.int .i64 r.num) X rfl (Below.refl _ _)
      refine wpOp_of rfl rfl ?_
      clear hK hg1
      go_simp
      simpa [updT, e0] using h
    · have h := hK (.pointer (some ⟨s, 1, none⟩)) X rfl (Below.refl _ _)
      refine wpOp_of rfl rfl ?_
      clear hK hg1
      go_simp
      simpa [updT] using h
    · have e2 : t 2 = .pointer (some ⟨s, 1, none⟩) := hg1 2 ⟨_, rfl, ⟨2, .data⟩, by simp, rfl, rfl⟩
      have f1 := (hb.cell (p := ⟨s, 1, none⟩) hs).trans h2
      have h := hK (.int .i64 r.of) X rfl (Below.refl _ _)
      refine wpOp_of rfl rfl ?_
      clear hK hg1
      go_simp
      simpa [updT, e2] using h
    · have h := hK (.pointer (some ⟨s, 3, none⟩)) X rfl (Below.refl _ _)
      refine wpOp_of rfl rfl ?_
      clear hK hg1
      go_simp
      simpa [updT] using h
    · have e4 : t 4 = .pointer (some ⟨s, 3, none⟩) := hg1 4 ⟨_, rfl, ⟨4, .data⟩, by simp, rfl, rfl⟩
      have x0 : X.cell? ⟨s, 3, none⟩ = some (.int .i64 r.sf.pr) := (hb.cell (p := ⟨s, 3, none⟩) hs).trans (hbx.cell 3)
      have x1 : X.cell? ⟨s, 4, none⟩ = some (.int .i64 r.sf.kn) := (hb.cell (p := ⟨s, 4, none⟩) hs).trans (hbx.cell 4)
      have x2 : X.cell? ⟨s, 5, none⟩ = some (.slice A.sa r.sf.n A.sc) := (hb.cell (p := ⟨s, 5, none⟩) hs).trans (hbx.cell 5)
      have h := hK (dkV r.sf A.sa A.sc) X rfl (Below.refl _ _)
      refine wpOp_of rfl rfl ?_
      clear hK hg1
      go_simp
      simpa [updT, e4] using h
    · have e5 : t 5 = dkV r.sf A.sa A.sc := hg1 5 ⟨_, rfl, ⟨5, .data⟩, by simp, rfl, rfl⟩
      refine wpOp_of rfl rfl ?_
      have HK := hid hK
      have HI := hid (hin.below hb hhi)
      clear hK hg1 hin hbx hz
      go_simp
      go_at_call 27
      refine (disk_copy r.sf A.sa A.sc X lo hi (Nat.le_trans hhi hb.size) hl HI.out).mono ?_
      rintro e Y ⟨ad', cap', b', rfl, ho, hge, hlt, hb2, _⟩
      have h := HK.out (dkV r.sf ad' cap') Y ⟨ad', cap', rfl, ho.isIn (fun h0 => ⟨Nat.le_trans hb.size hge, hlt h0⟩)⟩ hb2
      simpa [updT, e5] using h
    · have h := hK (.pointer (some ⟨s, 3, none⟩)) X rfl (Below.refl _ _)
      refine wpOp_of rfl rfl ?_
      clear hK hg1
      go_simp
      simpa [updT] using h
    · have e7 : t 7 = .pointer (some ⟨s, 3, none⟩) := hg1 7 ⟨_, rfl, ⟨7, .data⟩, by simp, rfl, rfl⟩
      have x0 : X.cell? ⟨s, 3, none⟩ = some (.int .i64 r.sf.pr) := (hb.cell (p := ⟨s, 3, none⟩) hs).trans (hbx.cell 3)
      have x1 : X.cell? ⟨s, 4, none⟩ = some (.int .i64 r.sf.kn) := (hb.cell (p := ⟨s, 4, none⟩) hs).trans (hbx.cell 4)
      have x2 : X.cell? ⟨s, 5, none⟩ = some (.slice A.sa r.sf.n A.sc) := (hb.cell (p := ⟨s, 5, none⟩) hs).trans (hbx.cell 5)
      have h := hK (dkV r.sf A.sa A.sc) X rfl (Below.refl _ _)
      refine wpOp_of rfl rfl ?_
      clear hK hg1
      go_simp
      simpa [updT, e7] using h
    · have e8 : t 8 = dkV r.sf A.sa A.sc := hg1 8 ⟨_, rfl, ⟨8, .data⟩, by simp, rfl, rfl⟩
      refine wpOp_of rfl rfl ?_
      have HK := hid hK
      have HI := hid (hin.below hb hhi)
      clear hK hg1 hin hbx hz
      go_simp
      go_at_call 27
      refine (disk_copy r.sf A.sa A.sc X lo hi (Nat.le_trans hhi hb.size) hl HI.out).mono ?_
      rintro e Y ⟨ad', cap', b', rfl, ho, hge, hlt, hb2, _⟩
      have h := HK.out (dkV r.sf ad' cap') Y ⟨ad', cap', rfl, ho.isIn (fun h0 => ⟨Nat.le_trans hb.size hge, hlt h0⟩)⟩ hb2
      simpa [updT, e8] using h
    · have e1 : t 1 = .int .i64 r.num := hg1 1 ⟨_, rfl, ⟨1, .data⟩, by simp, rfl, rfl⟩
      have e3 : t 3 = .int .i64 r.of := hg1 3 ⟨_, rfl, ⟨3, .data⟩, by simp, rfl, rfl⟩
      obtain ⟨b6, d6, e6, f6⟩ : ∃ ad cap, t 6 = dkV r.sf ad cap ∧ SlsIn X W.heap.size X.heap.size ad r.sf.n r.sf.s := hg1 6 ⟨_, rfl, ⟨6, .data⟩, by simp, rfl, rfl⟩
      obtain ⟨b9, d9, e9, f9⟩ : ∃ ad cap, t 9 = dkV r.sf ad cap ∧ SlsIn X W.heap.size X.heap.size ad r.sf.n r.sf.s := hg1 9 ⟨_, rfl, ⟨9, .data⟩, by simp, rfl, rfl⟩
      have h := hK (.agg (rcC (fallR r) (fallA b6 b9 d6 d9))) X ⟨b6, d6, b9, d9, rfl, f6, f9⟩ (Below.refl _ _)
      refine wpOp_of rfl rfl ?_
      clear hK hg1
      go_simp
      simpa [updT, e1, e3, e6, e9] using h
  · intro t X K hb hg1 hK
    obtain ⟨a1, c1, a2, c2, e10, k1, k2⟩ : ∃ a1 c1 a2 c2, t 10 = .agg (rcC (fallR r) (fallA a1 a2 c1 c2)) ∧ SlsIn X W.heap.size X.heap.size a1 r.sf.n r.sf.s ∧ SlsIn X W.heap.size X.heap.size a2 r.sf.n r.sf.s := hg1 10 (by omega)
    have h := hK ⟨#[p0, .pointer (some ⟨s, 0, none⟩), .pointer (some ⟨z, 0, none⟩), p3, p4, p5, p6, t 0, t 1, t 2, t 3, t 4, t 5, t 6, t 7, t 8, t 9, t 10], []⟩ (X.setCells z 0 (rcC (fallR r) (fallA a1 a2 c1 c2)).toList) ⟨t, a1, c1, a2, c2, X, rfl, rfl, k1, k2, hb⟩
    have ht : X.there z 0 18 := (hz.below hb hz.lt).there
    exact wpOp_of rfl rfl (wp_store_mid 40 _ _ rfl z 0 (rcC (fallR r) (fallA a1 a2 c1 c2)) rfl e10 ht Try.sz40 (all_oneCell_toArray (cs := (rcC (fallR r) (fallA a1 a2 c1 c2)).toList) (by simp [Value.oneCell'])) h)
  · rintro a X ⟨t, a1, c1, a2, c2, Y, rfl, rfl, k1, k2, k3⟩
    exact hQ t a1 c1 a2 c2 Y k1 k2 k3
theorem hset2 {W : World} {B : Nat} {v0 v1 v2 v3 v4 v5 v6 v7 v8 v9 v10 v11 v12 v13 v14 v15 v16 v17 : Value} (h : Holds W B #[v0, v1, v2, v3, v4, v5, v6, v7, v8, v9, v10, v11, v12, v13, v14, v15, v16, v17]) (v : Value) : Holds (W.setCell ⟨B, 2, none⟩ v) B #[v0, v1, v, v3, v4, v5, v6, v7, v8, v9, v10, v11, v12, v13, v14, v15, v16, v17] := h.set (i := 2) (by simp) v
theorem SlsIn.frIn {w w' : World} {lo hi : Nat} {ad : Option Addr} {n : Nat} {x : Nat → Sl} {P : Nat → Prop} (h : SlsIn w lo hi ad n x) (hf : FrP P w w') (hp : ∀ k, lo ≤ k → k < hi → ¬ P k) (hh : hi ≤ w.heap.size := by omega) : SlsIn w' lo hi ad n x := fun i hi' => by
  obtain ⟨b, off, e1, e2, e3, e4⟩ := h i hi'
  exact ⟨b, off, e1, e2, e3, ⟨(hf.cell (p := ⟨b, off + i * 2, none⟩) (Nat.lt_of_lt_of_le e3 hh) (hp _ e2 e3)).trans e4.c0, (hf.cell (p := ⟨b, off + i * 2 + 1, none⟩) (Nat.lt_of_lt_of_le e3 hh) (hp _ e2 e3)).trans e4.c1⟩⟩
set_option maxRecDepth 100000 in
set_option maxHeartbeats 8000000 in
theorem fallSpec_any (r : Rc) (A : RcA) (w : World) (lo hi : Nat) (hhi : hi ≤ w.heap.size) (hm : RcSmall r) (hf : RcFit r) (hc : RcIn w lo hi r A) :
    Calls Try.prog 9 #[rcV r A] w fun e w' => ∃ A', e = .returned (rcV (outF r) A') ∧ RcIn w' w.heap.size w'.heap.size (outF r) A' ∧ Below w.heap.size w w' := by
  have HM := hid hm
  have HF := hid hf
  have HC := hid hc
  have hV := hid (specValid_any r A)
  clear hm hf hc
  have mark : Nat := 0
  obtain ⟨bv, hbv⟩ : ∃ b, rcB r = b := ⟨_, rfl⟩
  rw [hbv] at hV
  have HBV0 := hid hbv
  clear hbv
  cases bv
  · have OUT := hid (show outF r = rc0 0 0 false by simp [outF, HBV0.out])
    generalize outF r = O at *
    go_enter Try.func9, Try.ntmps9
    go_wp2_with (first | ((with_reducible show wpList _ _ _ (⟨some 3, _, _, _, _, _⟩ :: _) _ _); clear mark; have Q0 := hid (Bx.new2 w (rcC r A) (rcL 0 0 false).toArray 40 40).1; have Z0 := hid (Bx.new2 w (rcC r A) (rcL 0 0 false).toArray 40 40).2; have hB0 : Below w.heap.size w ((w.alloc (.cells (rcC r A) 40)).alloc (.cells (rcL 0 0 false).toArray 40)) := (below_alloc _ _).alloc (by simp) _; (generalize (w.alloc (.cells (rcC r A) 40)).alloc (.cells (rcL 0 0 false).toArray 40) = W at *)) | ((with_reducible show wpList _ _ _ (⟨some 3, Op.load 40 _, _, _, _, _⟩ :: _) _ _); refine wpList_load_mid rfl 40 _ rfl w.heap.size 0 rfl (rcC r A).toList _ (Holds.range (cs := (rcC r A).toList) Q0.out.cell) Try.underlying40 rfl Try.sz40 ?_) | (go_at_call 26; refine (hV.out W lo hi (Nat.le_trans hhi hB0.size) HF.out (HC.out.below hB0 hhi)).mono ?_; rintro e w1 ⟨rfl, hb1⟩; have hB1 : Below w.heap.size w w1 := hB0.trans (hb1.mono hB0.size); have Z1 := hid (Z0.out.below hb1 Z0.out.lt); have Q1 := hid (Q0.out.below hb1 Q0.out.lt); clear hb1 Q0 Z0 hB0) | ((with_reducible show wpList _ _ _ (⟨none, Op.store 40 _ _, _, _, _, _⟩ :: _) _ _); refine wpList_store_box rfl 40 _ _ rfl (w.heap.size + 1) (rcL 0 0 false) rfl rfl Z1.out rfl Try.sz40 (by simp [Value.oneCell']) ?_; intro V hr hfr hsv; have HBV := hid hr; have HFV := hid hfr; have HSV := hid hsv; clear hr hfr hsv))
    have hBV : Below w.heap.size w V := hB1.trans (HFV.out.below (B := w.heap.size) (Nat.le_succ _) hB1.size)
    refine bodyPost_ret (v := rcZ 0 0 false) (results_cell_mid rfl _ _ (w.heap.size + 1) (rcL 0 0 false) _ rfl (Holds.range (cs := (rcL 0 0 false)) HBV.out.cell) Try.underlying40 rfl Try.sz40) rfl ?_
    rw [OUT.out]
    exact ⟨rcA0, rfl, (RcAt.none V 0 0 false).isIn (fun k ⟨j, _, hk⟩ => absurd hk (rb_none 0 0 false j k)), hBV⟩
  have OUT := hid (show outF r = fallR r by simp [outF, HBV0.out])
  generalize outF r = O at *
  have mark2 : Nat := 0
  have mark3 : Nat := 0
  go_enter Try.func9, Try.ntmps9
  go_wp2_with (first | ((with_reducible show wpList _ _ _ (⟨some 3, _, _, _, _, _⟩ :: _) _ _); clear mark; have Q0 := hid (Bx.new2 w (rcC r A) (rcL 0 0 false).toArray 40 40).1; have Z0 := hid (Bx.new2 w (rcC r A) (rcL 0 0 false).toArray 40 40).2; have hB0 : Below w.heap.size w ((w.alloc (.cells (rcC r A) 40)).alloc (.cells (rcL 0 0 false).toArray 40)) := (below_alloc _ _).alloc (by simp) _; (generalize (w.alloc (.cells (rcC r A) 40)).alloc (.cells (rcL 0 0 false).toArray 40) = W at *)) | ((with_reducible show wpList _ _ _ (⟨some 3, Op.load 40 _, _, _, _, _⟩ :: _) _ _); refine wpList_load_mid rfl 40 _ rfl w.heap.size 0 rfl (rcC r A).toList _ (Holds.range (cs := (rcC r A).toList) Q0.out.cell) Try.underlying40 rfl Try.sz40 ?_) | (go_at_call 26; refine (hV.out W lo hi (Nat.le_trans hhi hB0.size) HF.out (HC.out.below hB0 hhi)).mono ?_; rintro e w1 ⟨rfl, hb1⟩; have hB1 : Below w.heap.size w w1 := hB0.trans (hb1.mono hB0.size); have Z1 := hid (Z0.out.below hb1 Z0.out.lt); have Q1 := hid (Q0.out.below hb1 Q0.out.lt); clear hb1 Q0 Z0 hB0))
  refine fallReg3 _ _ _ _ _ _ _ _ _ _ _ _ _ _ _ _ w.heap.size (w.heap.size + 1) r A w1 lo hi (Nat.le_trans hhi hB1.size) Q1.out Z1.out (by have := HM.out.sf; omega) (HC.out.below hB1 hhi).sf _ ?_
  intro t a1 c1 a2 c2 Y k1 k2 k3
  have hBY : Below w.heap.size w Y := hB1.trans (k3.mono hB1.size)
  have Z2 := hid (Z1.out.below k3 Z1.out.lt)
  have hsz := hB1.size
  have hzz : w.heap.size + 1 < w1.heap.size := Z1.out.lt
  have HB2 : Hid (Bx (Y.setCells (w.heap.size + 1) 0 (rcC (fallR r) (fallA a1 a2 c1 c2)).toList) (w.heap.size + 1) (rcC (fallR r) (fallA a1 a2 c1 c2))) := Z2.out.mid 0 (rcC (fallR r) (fallA a1 a2 c1 c2)).toList (by simp) (fun i hi => by simp) (fun i hi => by
    have hi2 : 18 ≤ i := by rcases hi with hi | hi; exact absurd hi (Nat.not_lt_zero _); simpa using hi
    rw [Array.getElem?_eq_none (by simpa using hi2), Array.getElem?_eq_none (by simpa using hi2)])
  have fv : FrP (fun q => q = w.heap.size + 1) Y (Y.setCells (w.heap.size + 1) 0 (rcC (fallR r) (fallA a1 a2 c1 c2)).toList) := frP_setCells _ _ _
  have K1 := hid (k1.mono (lo2 := w.heap.size + 2) (hi2 := Y.heap.size) (by omega) (Nat.le_refl _))
  have K2 := hid (k2.mono (lo2 := w.heap.size + 2) (hi2 := Y.heap.size) (by omega) (Nat.le_refl _))
  clear k1 k2 k3 Z1 Q1 Z2 hB1
  generalize Y.setCells (w.heap.size + 1) 0 (rcC (fallR r) (fallA a1 a2 c1 c2)).toList = V at *
  have hBV : Below w.heap.size w V := hBY.trans (fv.below (B := w.heap.size) (fun k hk e => by omega) hBY.size)
  go_wp2
  refine bodyPost_ret (v := .agg (rcC (fallR r) (fallA a1 a2 c1 c2))) (results_cell_mid rfl _ _ (w.heap.size + 1) (rcC (fallR r) (fallA a1 a2 c1 c2)).toList _ rfl (Holds.range (cs := (rcC (fallR r) (fallA a1 a2 c1 c2)).toList) HB2.out.cell) Try.underlying40 rfl Try.sz40) rfl ?_
  rw [OUT.out]
  have zz : RcIn V w.heap.size V.heap.size (rc0 0 0 false) rcA0 := (RcAt.none V 0 0 false).isIn (fun k ⟨j, _, hk⟩ => absurd hk (rb_none 0 0 false j k))
  exact ⟨fallA a1 a2 c1 c2, rfl, ⟨(K1.out.frIn fv (fun k h1 h2 e => by omega)).mono (by omega) fv.size, (K2.out.frIn fv (fun k h1 h2 e => by omega)).mono (by omega) fv.size, zz.hs, zz.ws, zz.ys, zz.bs, zz.as_⟩, hBV⟩
set_option maxRecDepth 100000 in
set_option maxHeartbeats 8000000 in
theorem riseSpec_any (r : Rc) (A : RcA) (w : World) (lo hi : Nat) (hhi : hi ≤ w.heap.size) (hm : RcSmall r) (hf : RcFit r) (hc : RcIn w lo hi r A) :
    Calls Try.prog 15 #[rcV r A] w fun e w' => ∃ A', e = .returned (rcV (outU r) A') ∧ RcIn w' w.heap.size w'.heap.size (outU r) A' ∧ Below w.heap.size w w' := by
  have HM := hid hm
  have HF := hid hf
  have HC := hid hc
  have hV := hid (specValid_any r A)
  clear hm hf hc
  have mark : Nat := 0
  obtain ⟨bv, hbv⟩ : ∃ b, rcB r = b := ⟨_, rfl⟩
  rw [hbv] at hV
  have HBV0 := hid hbv
  clear hbv
  cases bv
  · have OUT := hid (show outU r = rc0 0 0 false by simp [outU, HBV0.out])
    generalize outU r = O at *
    go_enter Try.func15, Try.ntmps15
    go_wp2_with (first | ((with_reducible show wpList _ _ _ (⟨some 4, _, _, _, _, _⟩ :: _) _ _); clear mark; have Q0 := hid (Bx.new2 w (rcC r A) (rcL 0 0 false).toArray 40 40).1; have Z0 := hid (Bx.new2 w (rcC r A) (rcL 0 0 false).toArray 40 40).2; have hB0 : Below w.heap.size w ((w.alloc (.cells (rcC r A) 40)).alloc (.cells (rcL 0 0 false).toArray 40)) := (below_alloc _ _).alloc (by simp) _; (generalize (w.alloc (.cells (rcC r A) 40)).alloc (.cells (rcL 0 0 false).toArray 40) = W at *)) | ((with_reducible show wpList _ _ _ (⟨some 4, Op.load 40 _, _, _, _, _⟩ :: _) _ _); refine wpList_load_mid rfl 40 _ rfl w.heap.size 0 rfl (rcC r A).toList _ (Holds.range (cs := (rcC r A).toList) Q0.out.cell) Try.underlying40 rfl Try.sz40 ?_) | (go_at_call 26; refine (hV.out W lo hi (Nat.le_trans hhi hB0.size) HF.out (HC.out.below hB0 hhi)).mono ?_; rintro e w1 ⟨rfl, hb1⟩; have hB1 : Below w.heap.size w w1 := hB0.trans (hb1.mono hB0.size); have Z1 := hid (Z0.out.below hb1 Z0.out.lt); have Q1 := hid (Q0.out.below hb1 Q0.out.lt); clear hb1 Q0 Z0 hB0) | ((with_reducible show wpList _ _ _ (⟨none, Op.store 40 _ _, _, _, _, _⟩ :: _) _ _); refine wpList_store_box rfl 40 _ _ rfl (w.heap.size + 1) (rcL 0 0 false) rfl rfl Z1.out rfl Try.sz40 (by simp [Value.oneCell']) ?_; intro V hr hfr hsv; have HBV := hid hr; have HFV := hid hfr; have HSV := hid hsv; clear hr hfr hsv))
    have hBV : Below w.heap.size w V := hB1.trans (HFV.out.below (B := w.heap.size) (Nat.le_succ _) hB1.size)
    refine bodyPost_ret (v := rcZ 0 0 false) (results_cell_mid rfl _ _ (w.heap.size + 1) (rcL 0 0 false) _ rfl (Holds.range (cs := (rcL 0 0 false)) HBV.out.cell) Try.underlying40 rfl Try.sz40) rfl ?_
    rw [OUT.out]
    exact ⟨rcA0, rfl, (RcAt.none V 0 0 false).isIn (fun k ⟨j, _, hk⟩ => absurd hk (rb_none 0 0 false j k)), hBV⟩
  have OUT := hid (show outU r = riseR r by simp [outU, HBV0.out])
  generalize outU r = O at *
  have mark2 : Nat := 0
  have mark3 : Nat := 0
  go_enter Try.func15, Try.ntmps15
  go_wp2_with (first | ((with_reducible show wpList _ _ _ (⟨some 4, _, _, _, _, _⟩ :: _) _ _); clear mark; have Q0 := hid (Bx.new2 w (rcC r A) (rcL 0 0 false).toArray 40 40).1; have Z0 := hid (Bx.new2 w (rcC r A) (rcL 0 0 false).toArray 40 40).2; have hB0 : Below w.heap.size w ((w.alloc (.cells (rcC r A) 40)).alloc (.cells (rcL 0 0 false).toArray 40)) := (below_alloc _ _).alloc (by simp) _; (generalize (w.alloc (.cells (rcC r A) 40)).alloc (.cells (rcL 0 0 false).toArray 40) = W at *)) | ((with_reducible show wpList _ _ _ (⟨some 4, Op.load 40 _, _, _, _, _⟩ :: _) _ _); refine wpList_load_mid rfl 40 _ rfl w.heap.size 0 rfl (rcC r A).toList _ (Holds.range (cs := (rcC r A).toList) Q0.out.cell) Try.underlying40 rfl Try.sz40 ?_) | (go_at_call 26; refine (hV.out W lo hi (Nat.le_trans hhi hB0.size) HF.out (HC.out.below hB0 hhi)).mono ?_; rintro e w1 ⟨rfl, hb1⟩; have hB1 : Below w.heap.size w w1 := hB0.trans (hb1.mono hB0.size); have Z1 := hid (Z0.out.below hb1 Z0.out.lt); have Q1 := hid (Q0.out.below hb1 Q0.out.lt); clear hb1 Q0 Z0 hB0) | ((with_reducible show wpList _ _ _ (⟨some 8, Op.load 40 _, _, _, _, _⟩ :: _) _ _); refine wpList_load_mid rfl 40 _ rfl w.heap.size 0 rfl (rcC r A).toList _ (Holds.range (cs := (rcC r A).toList) Q1.out.cell) Try.underlying40 rfl Try.sz40 ?_) | (go_at_call 57; refine (specCopy_any r A w1 lo hi (Nat.le_trans hhi hB1.size) HM.out (HC.out.below hB1 hhi)).mono ?_; rintro e w2 ⟨p, rfl, hat, _, hge, hb2⟩; have hB2 : Below w.heap.size w w2 := hB1.trans (hb2.mono hB1.size); have Z2 := hid (Z1.out.below hb2 Z1.out.lt); have HAT := hid hat; have hsz1 := hB1.size; have hsz12 := hb2.size; have HGE := hid hge; have hz1x : w.heap.size + 1 + 1 ≤ w1.heap.size := Z1.out.lt; clear hb2 Q1 Z1 hat hge hB1) | ((with_reducible show wpList _ _ _ (⟨none, Op.store 40 _ _, _, _, _, _⟩ :: _) _ _); refine wpList_store_box rfl 40 _ _ rfl w2.heap.size (rcC r p.A).toList rfl rfl (Bx.new w2 (rcL 0 0 false).toArray 40) rfl Try.sz40 (by simp [Value.oneCell']) ?_; intro V hr hfr hsv; have B5 := hid hr; have hb4 : Below w2.heap.size w2 V := (below_alloc w2 _).trans (hfr.below (B := w2.heap.size) (Nat.le_refl _) (by simp)); have hB4 : Below w.heap.size w V := hB2.trans (hb4.mono hB2.size); have Z4 := hid (Z2.out.below hb4 Z2.out.lt); have A4 := hid (HAT.out.grow hb4); have HLT := hid HAT.out.lt; have hsz34 := hb4.size; have hs3 := hB2.size; clear hr hfr hsv hb4 Z2 HAT hB2) | ((with_reducible show wpList _ _ _ (⟨some 10, _, _, _, _, _⟩ :: _) _ _); clear mark2; obtain ⟨q0, q1, q2, q3, q4, q5, q6, q7, q8, q9, q10, q11, q12, q13, q14, q15, q16, q17⟩ := holds18 B5.out.cell; have qf := B5.out.free) | ((with_reducible show wpList _ _ _ (⟨some 11, Op.load 40 _, _, _, _, _⟩ :: _) _ _); clear mark3; have B6 : Hid (Bx (V.setCell ⟨w2.heap.size, 2, none⟩ (.bool true)) w2.heap.size (rcC (riseR r) p.A)) := B5.out.to (hset2 B5.out.cell (.bool true)); have FF := hid ((FrP.refl (fun q => q = w2.heap.size) V).setCell (p := ⟨w2.heap.size, 2, none⟩) rfl (.bool true)); (generalize V.setCell ⟨w2.heap.size, 2, none⟩ (.bool true) = w4 at *); have Z5 := hid (Z4.out.frP FF.out (by omega)); have A5 := hid (A4.out.fr FF.out (fun k hk e => by have := HLT.out k hk; omega)); have hB5 : Below w.heap.size w w4 := hB4.trans (FF.out.below (B := w.heap.size) (fun k hk e => by omega) (by omega)); have hszf := FF.out.size; clear q0 q1 q2 q3 q4 q5 q6 q7 q8 q9 q10 q11 q12 q13 q14 q15 q16 q17 qf Z4 A4 B5 hB4) | ((with_reducible show wpList _ _ _ (⟨some 11, Op.load 40 _, _, _, _, _⟩ :: _) _ _); refine wpList_load_mid rfl 40 _ rfl w2.heap.size 0 rfl (rcC (riseR r) p.A).toList _ (Holds.range (cs := (rcC (riseR r) p.A).toList) B6.out.cell) Try.underlying40 rfl Try.sz40 ?_) | ((with_reducible show wpList _ _ _ (⟨none, Op.store 40 _ _, _, _, _, _⟩ :: _) _ _); refine wpList_store_box rfl 40 _ _ rfl (w.heap.size + 1) (rcC (riseR r) p.A).toList rfl rfl Z5.out rfl Try.sz40 (by simp [Value.oneCell']) ?_; intro V2 hr hfr hsv; have HBV2 := hid hr; have HFV2 := hid hfr; have HSV2 := hid hsv; clear hr hfr hsv))
  have fv : FrP (fun q => q = w.heap.size + 1) w4 V2 := FrP.of_fr HFV2.out (fun k h1 h2 => by omega)
  have hBV : Below w.heap.size w V2 := hB5.trans (fv.below (B := w.heap.size) (fun k hk e => by omega) (by have := hB5.size; omega))
  refine bodyPost_ret (v := .agg (rcC (riseR r) p.A)) (results_cell_mid rfl _ _ (w.heap.size + 1) (rcC (riseR r) p.A).toList _ rfl (Holds.range (cs := (rcC (riseR r) p.A).toList) HBV2.out.cell) Try.underlying40 rfl Try.sz40) rfl ?_
  rw [OUT.out]
  exact ⟨p.A, rfl, (A5.out.fr fv (fun k hk e => by have := HGE.out k hk; omega)).rise.isIn (fun k hk => ⟨by have := HGE.out k hk; omega, by have := HLT.out k hk; have := HSV2.out; omega⟩), hBV⟩
end Go.Proofs.Ytokkbdlofbdljaa
