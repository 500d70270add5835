import Derived.Test.YtokkbdlofbdljaaGreatSb
namespace Go.Proofs.YtokkbdlofbdljaaGreat
open Go.RowKit
theorem wpOp_append_run {P : Program} {ops : Array Oper} {Q : Exit → Act → World → Prop} {i : Nat} {K : Act → World → Prop} {a : Act} {w : World} {o : Oper} (ho : ops[i]? = some o) (hg : o.guard = none) (s x : Operand) (t tx : TypeId)
    (hop : o.op = .call { callee := .builtin .append, args := #[s, x], argTypes := #[t, tx] }) (v xv v2 : Value) (w2 : World) (hs : a.eval s = v) (hx : a.eval x = xv) (hr : (Builtin.append_ #[t, tx] o.type #[v, xv]).run P w = .ok v2 w2)
    (h : K (a.put o.dst v2) w2) : wpOp P ops Q i K a w := by
  refine wpOp_of ho hg ?_
  unfold Oper.wp execOp
  simp only [hop, resolve, invoke, builtin, Sem.run_bind, Sem.run_pure, Result.andThen_ok, List.map_toArray, List.map_cons, List.map_nil, hs, hx, hr]
  exact h
/-- an ack's numbers, in memory of their own -/
def AkOk (W X : World) (y : Ak) (ad' : Option Addr) (b' : Nat) : Prop := W.heap.size ≤ b' ∧ (y.n ≠ 0 → b' < X.heap.size) ∧ IntsOwn X b' (b' + 1) ad' y.n y.s
theorem AkOk.grow {W X Y : World} {y : Ak} {ad' : Option Addr} {b' : Nat} (h : AkOk W X y ad' b') (hb : Below X.heap.size X Y) : AkOk W Y y ad' b' :=
  ⟨h.1, fun h0 => Nat.lt_of_lt_of_le (h.2.1 h0) hb.size, h.2.2.frP (FrP.of_below (P := fun _ => False) hb) (fun h0 => ⟨fun h => h, h.2.1 h0⟩)⟩
def ackRegG (s b off n cap k : Nat) (o : Value) (a : Option Addr) (c : Nat) (y : Ak) (W : World) (i : Nat) (v : Value) (X : World) : Prop :=
  match i with
  | 0 => v = o
  | 1 => v = .pointer (some ⟨s, 16, none⟩)
  | 2 => v = .slice (some ⟨b, off, none⟩) n cap
  | 3 => v = .int .i64 k
  | 4 => v = .pointer (some ⟨b, off + k * 2, none⟩)
  | 5 => v = .pointer (some ⟨b, off + k * 2, none⟩)
  | 6 => v = .int .i64 y.ix
  | 7 => ∃ q, v = .slice (some ⟨q, 0, none⟩) 0 0
  | 8 => v = .pointer (some ⟨s, 16, none⟩)
  | 9 => v = .slice (some ⟨b, off, none⟩) n cap
  | 10 => v = .int .i64 k
  | 11 => v = .pointer (some ⟨b, off + k * 2, none⟩)
  | 12 => v = .pointer (some ⟨b, off + k * 2 + 1, none⟩)
  | 13 => v = .slice a y.n c
  | 14 => ∃ ad' cap' b', v = .slice ad' y.n cap' ∧ AkOk W X y ad' b'
  | 15 => ∃ ad' cap' b', v = .agg #[.int .i64 y.ix, .slice ad' y.n cap'] ∧ AkOk W X y ad' b'
  | 16 => ∃ ad' cap' b' q, v = .slice (some ⟨q, 0, none⟩) 1 1 ∧ X.cell? ⟨q, 0, none⟩ = some (.int .i64 y.ix) ∧ X.cell? ⟨q, 1, none⟩ = some (.slice ad' y.n cap') ∧ q < X.heap.size ∧ AkOk W X y ad' b'
  | _ => True
set_option maxRecDepth 100000 in
set_option maxHeartbeats 8000000 in
theorem ackReg (p0 p2 p5 p6 p7 p8 p9 p10 p11 p12 p13 p14 p15 p16 p17 p18 p19 p20 p21 p22 p23 p24 p25 p26 p27 p28 p29 p30 p31 p32 p33 p34 p35 p36 p37 p38 p56 p57 p58 p59 v0 v1 v2 v3 v4 v5 v6 v7 v8 v9 v10 v11 v12 v13 v14 v15 v16 : Value) (s b off n cap k : Nat) (o : Value) (a : Option Addr) (c : Nat) (y : Ak) (W : World) (lo hi base : Nat) (x : Nat → Ak) (A : Nat → Option Addr) (C hb : Nat → Nat) (hy : x k = y) (h1 : W.cell? ⟨s, 16, none⟩ = some (.slice (some ⟨b, off, none⟩) n cap)) (h2 : W.cell? ⟨b, off + k * 2, none⟩ = some (.int .i64 y.ix)) (h3 : W.cell? ⟨b, off + k * 2 + 1, none⟩ = some (.slice a y.n c)) (hs : s < W.heap.size) (hbw : b < W.heap.size) (hhi : hi ≤ W.heap.size) (hl : (y.n : Int) ≤ 1048576) (hl2 : (n : Int) ≤ 1048576) (hin : IntsIn W lo hi a y.n y.s) (hk : k < n) (hbase : base ≤ W.heap.size) (hbd : BdAk W base o k x A C hb) (Q : Exit → Act → World → Prop)
    (hQ : ∀ (t : Nat → Value) (u9 : Value) (ad' : Option Addr) (cap' b' : Nat) (X : World), BdAk X base u9 (k + 1) x (updF A k ad') (updF C k cap') (updF hb k b') → FrP (fun q => o.ownBlock = some q) W X → Q .normal ⟨#[p0, .pointer (some ⟨s, 0, none⟩), p2, u9, .int .i64 k, p5, p6, p7, p8, p9, p10, p11, p12, p13, p14, p15, p16, p17, p18, p19, p20, p21, p22, p23, p24, p25, p26, p27, p28, p29, p30, p31, p32, p33, p34, p35, p36, p37, p38, t 0, t 1, t 2, t 3, t 4, t 5, t 6, t 7, t 8, t 9, t 10, t 11, t 12, t 13, t 14, t 15, t 16, u9, p57, p58, p59], []⟩ X) :
    Code.wp Tryz.prog (Code.region 11 #[{ dst := some 39, op := Op.move (Operand.tmp 3), type := 36, pos := "l13_rec_recorder.go:103", after := #[], guard := none }, { dst := some 40, op := Op.fieldAddr 38 (Operand.tmp 1) 12, type := 0, pos := "l13_rec_recorder.go:103", after := #[], guard := none }, { dst := some 41, op := Op.load 36 (Operand.tmp 40), type := 36, pos := "l13_rec_recorder.go:103", after := #[{ on := 1, ground := Ground.data }], guard := none }, { dst := some 42, op := Op.move (Operand.tmp 4), type := 3, pos := "l13_rec_recorder.go:103", after := #[], guard := none }, { dst := some 43, op := Op.indexAddr 36 (Operand.tmp 41) (Operand.tmp 42), type := 0, pos := "l13_rec_recorder.go:103", after := #[{ on := 2, ground := Ground.data }, { on := 3, ground := Ground.data }], guard := none }, { dst := some 44, op := Op.fieldAddr 108 (Operand.tmp 43) 0, type := 0, pos := "l13_rec_recorder.go:103", after := #[{ on := 4, ground := Ground.data }], guard := none }, { dst := some 45, op := Op.load 3 (Operand.tmp 44), type := 3, pos := "l13_rec_recorder.go:103", after := #[{ on := 5, ground := Ground.data }], guard := none }, { dst := some 46, op := Op.buildSlice 27 0 #[], type := 27, pos := "l13_rec_recorder.go:103", after := #[], guard := none }, { dst := some 47, op := Op.fieldAddr 38 (Operand.tmp 1) 12, type := 0, pos := "l13_rec_recorder.go:103", after := #[], guard := none }, { dst := some 48, op := Op.load 36 (Operand.tmp 47), type := 36, pos := "l13_rec_recorder.go:103", after := #[{ on := 8, ground := Ground.data }], guard := none }, { dst := some 49, op := Op.move (Operand.tmp 4), type := 3, pos := "l13_rec_recorder.go:103", after := #[], guard := none }, { dst := some 50, op := Op.indexAddr 36 (Operand.tmp 48) (Operand.tmp 49), type := 0, pos := "l13_rec_recorder.go:103", after := #[{ on := 9, ground := Ground.data }, { on := 10, ground := Ground.data }], guard := none }, { dst := some 51, op := Op.fieldAddr 108 (Operand.tmp 50) 1, type := 0, pos := "l13_rec_recorder.go:103", after := #[{ on := 11, ground := Ground.data }], guard := none }, { dst := some 52, op := Op.load 27 (Operand.tmp 51), type := 27, pos := "l13_rec_recorder.go:103", after := #[{ on := 12, ground := Ground.data }], guard := none }, { dst := some 53, op := Op.call { callee := Callee.builtin Builtin.append, args := #[Operand.tmp 46, Operand.tmp 52], argTypes := #[27, 27] }, type := 27, pos := "l13_rec_recorder.go:103", after := #[{ on := 7, ground := Ground.data }, { on := 13, ground := Ground.data }], guard := none }, { dst := some 54, op := Op.build 108 #[(0, Operand.tmp 45), (1, Operand.tmp 53)], type := 108, pos := "l13_rec_recorder.go:103", after := #[{ on := 6, ground := Ground.data }, { on := 14, ground := Ground.data }], guard := none }, { dst := some 55, op := Op.buildSlice 36 1 #[(0, Operand.tmp 54)], type := 36, pos := "l13_rec_recorder.go:103", after := #[{ on := 15, ground := Ground.data }], guard := none }, { dst := some 56, op := Op.call { callee := Callee.builtin Builtin.append, args := #[Operand.tmp 39, Operand.tmp 55], argTypes := #[36, 36] }, type := 36, pos := "l13_rec_recorder.go:103", after := #[{ on := 0, ground := Ground.data }, { on := 16, ground := Ground.data }, { on := 14, ground := Ground.chain }], guard := none }, { dst := some 3, op := Op.assign (Operand.tmp 56), type := 36, pos := "l13_rec_recorder.go:103", after := #[{ on := 17, ground := Ground.data }, { on := 17, ground := Ground.chain }, { on := 0, ground := Ground.phase }, { on := 1, ground := Ground.phase }, { on := 2, ground := Ground.phase }, { on := 3, ground := Ground.phase }, { on := 4, ground := Ground.phase }, { on := 5, ground := Ground.phase }, { on := 6, ground := Ground.phase }, { on := 7, ground := Ground.phase }, { on := 8, ground := Ground.phase }, { on := 9, ground := Ground.phase }, { on := 10, ground := Ground.phase }, { on := 11, ground := Ground.phase }, { on := 12, ground := Ground.phase }, { on := 13, ground := Ground.phase }, { on := 14, ground := Ground.phase }, { on := 15, ground := Ground.phase }, { on := 16, ground := Ground.phase }, { on := 17, ground := Ground.phase }], guard := none }] true) Q ⟨#[p0, .pointer (some ⟨s, 0, none⟩), p2, o, .int .i64 k, p5, p6, p7, p8, p9, p10, p11, p12, p13, p14, p15, p16, p17, p18, p19, p20, p21, p22, p23, p24, p25, p26, p27, p28, p29, p30, p31, p32, p33, p34, p35, p36, p37, p38, v0, v1, v2, v3, v4, v5, v6, v7, v8, v9, v10, v11, v12, v13, v14, v15, v16, p56, p57, p58, p59], []⟩ W := by
  obtain ⟨i0, hi0, hz0, hz1, hz2⟩ := info_parts Tryz.info108
  have HIN := hid hin
  have HBD := hid hbd
  clear hin hbd
  refine regionK (by kernel_rfl) 17 (fun t : Nat → Value => #[p0, .pointer (some ⟨s, 0, none⟩), p2, o, .int .i64 k, p5, p6, p7, p8, p9, p10, p11, p12, p13, p14, p15, p16, p17, p18, p19, p20, p21, p22, p23, p24, p25, p26, p27, p28, p29, p30, p31, p32, p33, p34, p35, p36, p37, p38, t 0, t 1, t 2, t 3, t 4, t 5, t 6, t 7, t 8, t 9, t 10, t 11, t 12, t 13, t 14, t 15, t 16, p56, p57, p58, p59]) (fun j => match j with | 0 => v0 | 1 => v1 | 2 => v2 | 3 => v3 | 4 => v4 | 5 => v5 | 6 => v6 | 7 => v7 | 8 => v8 | 9 => v9 | 10 => v10 | 11 => v11 | 12 => v12 | 13 => v13 | 14 => v14 | 15 => v15 | _ => v16) (ackRegG s b off n cap k o a c y W) (fun a1 X => ∃ (t : Nat → Value) (u9 : Value) (ad' : Option Addr) (cap' b' : Nat), a1 = ⟨#[p0, .pointer (some ⟨s, 0, none⟩), p2, o, .int .i64 k, p5, p6, p7, p8, p9, p10, p11, p12, p13, p14, p15, p16, p17, p18, p19, p20, p21, p22, p23, p24, p25, p26, p27, p28, p29, p30, p31, p32, p33, p34, p35, p36, p37, p38, t 0, t 1, t 2, t 3, t 4, t 5, t 6, t 7, t 8, t 9, t 10, t 11, t 12, t 13, t 14, t 15, t 16, u9, p57, p58, p59], []⟩ ∧ BdAk X base u9 (k + 1) x (updF A k ad') (updF C k cap') (updF hb k b') ∧ FrP (fun q => o.ownBlock = some q) W X) (fun a1 X => ∃ (t : Nat → Value) (u9 : Value) (ad' : Option Addr) (cap' b' : Nat), a1 = ⟨#[p0, .pointer (some ⟨s, 0, none⟩), p2, u9, .int .i64 k, p5, p6, p7, p8, p9, p10, p11, p12, p13, p14, p15, p16, p17, p18, p19, p20, p21, p22, p23, p24, p25, p26, p27, p28, p29, p30, p31, p32, p33, p34, p35, p36, p37, p38, t 0, t 1, t 2, t 3, t 4, t 5, t 6, t 7, t 8, t 9, t 10, t 11, t 12, t 13, t 14, t 15, t 16, u9, p57, p58, p59], []⟩ ∧ BdAk X base u9 (k + 1) x (updF A k ad') (updF C k cap') (updF hb k b') ∧ FrP (fun q => o.ownBlock = some q) W X) (by kernel_rfl) (by kernel_rfl) (by kernel_rfl) (by kernel_rfl) ?_ rfl ?_ ?_ ?_ ?_
  · intro i v X Y hi1 h hb1
    rcases (show i = 0 ∨ i = 1 ∨ i = 2 ∨ i = 3 ∨ i = 4 ∨ i = 5 ∨ i = 6 ∨ i = 7 ∨ i = 8 ∨ i = 9 ∨ i = 10 ∨ i = 11 ∨ i = 12 ∨ i = 13 ∨ i = 14 ∨ i = 15 ∨ i = 16 by omega) with rfl | rfl | rfl | rfl | rfl | rfl | rfl | rfl | rfl | rfl | rfl | rfl | rfl | rfl | rfl | rfl | rfl
    · exact h
    · exact h
    · exact h
    · exact h
    · exact h
    · exact h
    · exact h
    · exact h
    · exact h
    · exact h
    · exact h
    · exact h
    · exact h
    · exact h
    · obtain ⟨ad', cap', b', e1, e2⟩ := h
      exact ⟨ad', cap', b', e1, e2.grow hb1⟩
    · obtain ⟨ad', cap', b', e1, e2⟩ := h
      exact ⟨ad', cap', b', e1, e2.grow hb1⟩
    · obtain ⟨ad', cap', b', q, e1, e2, e3, e4, e5⟩ := h
      exact ⟨ad', cap', b', q, e1, (hb1.cell (p := ⟨q, 0, none⟩) e4).trans e2, (hb1.cell (p := ⟨q, 1, none⟩) e4).trans e3, Nat.lt_of_lt_of_le e4 hb1.size, e5.grow hb1⟩
  · intro i hi1 t X K hb1 hg1 hK
    rcases (show i = 0 ∨ i = 1 ∨ i = 2 ∨ i = 3 ∨ i = 4 ∨ i = 5 ∨ i = 6 ∨ i = 7 ∨ i = 8 ∨ i = 9 ∨ i = 10 ∨ i = 11 ∨ i = 12 ∨ i = 13 ∨ i = 14 ∨ i = 15 ∨ i = 16 by omega) with rfl | rfl | rfl | rfl | rfl | rfl | rfl | rfl | rfl | rfl | rfl | rfl | rfl | rfl | rfl | rfl | rfl
    · have h := hK (o) X rfl (Below.refl _ _)
      refine wpOp_of rfl rfl ?_
      clear hK hg1
      go_simp
      simpa [updT] using h
    · have h := hK (.pointer (some ⟨s, 16, none⟩)) X rfl (Below.refl _ _)
      refine wpOp_of rfl rfl ?_
      clear hK hg1
      go_simp
      simpa [updT] using h
    · have e1 : t 1 = .pointer (some ⟨s, 16, none⟩) := hg1 1 ⟨_, rfl, ⟨1, .data⟩, by simp, rfl, rfl⟩
      have f1 := (hb1.cell (p := ⟨s, 16, none⟩) hs).trans h1
      have h := hK (.slice (some ⟨b, off, none⟩) n cap) X rfl (Below.refl _ _)
      refine wpOp_of rfl rfl ?_
      clear hK hg1
      go_simp
      simpa [updT, e1] using h
    · have h := hK (.int .i64 k) X rfl (Below.refl _ _)
      refine wpOp_of rfl rfl ?_
      clear hK hg1
      go_simp
      simpa [updT] using h
    · have e2 : t 2 = .slice (some ⟨b, off, none⟩) n cap := hg1 2 ⟨_, rfl, ⟨2, .data⟩, by simp, rfl, rfl⟩
      have e3 : t 3 = .int .i64 k := hg1 3 ⟨_, rfl, ⟨3, .data⟩, by simp, rfl, rfl⟩
      have h := hK (.pointer (some ⟨b, off + k * 2, none⟩)) X rfl (Below.refl _ _)
      refine wpOp_of rfl rfl ?_
      clear hK hg1
      go_simp
      simpa [updT, e2, e3] using h
    · have e4 : t 4 = .pointer (some ⟨b, off + k * 2, none⟩) := hg1 4 ⟨_, rfl, ⟨4, .data⟩, by simp, rfl, rfl⟩
      have h := hK (.pointer (some ⟨b, off + k * 2, none⟩)) X rfl (Below.refl _ _)
      refine wpOp_of rfl rfl ?_
      clear hK hg1
      go_simp
      simpa [updT, e4] using h
    · have e5 : t 5 = .pointer (some ⟨b, off + k * 2, none⟩) := hg1 5 ⟨_, rfl, ⟨5, .data⟩, by simp, rfl, rfl⟩
      have f1 := (hb1.cell (p := ⟨b, off + k * 2, none⟩) hbw).trans h2
      have h := hK (.int .i64 y.ix) X rfl (Below.refl _ _)
      refine wpOp_of rfl rfl ?_
      clear hK hg1
      go_simp
      simpa [updT, e5] using h
    · have h := hK (.slice (some ⟨X.heap.size, 0, none⟩) 0 0) (X.alloc (.cells #[] 3)) ⟨_, rfl⟩ (below_alloc _ _)
      refine wpOp_of rfl rfl ?_
      clear hK hg1
      go_simp
      simpa [updT] using h
    · have h := hK (.pointer (some ⟨s, 16, none⟩)) X rfl (Below.refl _ _)
      refine wpOp_of rfl rfl ?_
      clear hK hg1
      go_simp
      simpa [updT] using h
    · have e8 : t 8 = .pointer (some ⟨s, 16, none⟩) := hg1 8 ⟨_, rfl, ⟨8, .data⟩, by simp, rfl, rfl⟩
      have f1 := (hb1.cell (p := ⟨s, 16, none⟩) hs).trans h1
      have h := hK (.slice (some ⟨b, off, none⟩) n cap) X rfl (Below.refl _ _)
      refine wpOp_of rfl rfl ?_
      clear hK hg1
      go_simp
      simpa [updT, e8] using h
    · have h := hK (.int .i64 k) X rfl (Below.refl _ _)
      refine wpOp_of rfl rfl ?_
      clear hK hg1
      go_simp
      simpa [updT] using h
    · have e9 : t 9 = .slice (some ⟨b, off, none⟩) n cap := hg1 9 ⟨_, rfl, ⟨9, .data⟩, by simp, rfl, rfl⟩
      have e10 : t 10 = .int .i64 k := hg1 10 ⟨_, rfl, ⟨10, .data⟩, by simp, rfl, rfl⟩
      have h := hK (.pointer (some ⟨b, off + k * 2, none⟩)) X rfl (Below.refl _ _)
      refine wpOp_of rfl rfl ?_
      clear hK hg1
      go_simp
      simpa [updT, e9, e10] using h
    · have e11 : t 11 = .pointer (some ⟨b, off + k * 2, none⟩) := hg1 11 ⟨_, rfl, ⟨11, .data⟩, by simp, rfl, rfl⟩
      have h := hK (.pointer (some ⟨b, off + k * 2 + 1, none⟩)) X rfl (Below.refl _ _)
      refine wpOp_of rfl rfl ?_
      clear hK hg1
      go_simp
      simpa [updT, e11] using h
    · have e12 : t 12 = .pointer (some ⟨b, off + k * 2 + 1, none⟩) := hg1 12 ⟨_, rfl, ⟨12, .data⟩, by simp, rfl, rfl⟩
      have f1 := (hb1.cell (p := ⟨b, off + k * 2 + 1, none⟩) hbw).trans h3
      have h := hK (.slice a y.n c) X rfl (Below.refl _ _)
      refine wpOp_of rfl rfl ?_
      clear hK hg1
      go_simp
      simpa [updT, e12] using h
    · obtain ⟨q7, e7⟩ : ∃ q, t 7 = .slice (some ⟨q, 0, none⟩) 0 0 := hg1 7 ⟨_, rfl, ⟨7, .data⟩, by simp, rfl, rfl⟩
      have e13 : t 13 = .slice a y.n c := hg1 13 ⟨_, rfl, ⟨13, .data⟩, by simp, rfl, rfl⟩
      obtain ⟨ad', cap', w', hrun, hrow, hb', _⟩ := append_empty (P := Tryz.prog) X 27 27 3 1 8 (.int .i64 0) Tryz.underlying27 Tryz.info3 (by omega) lo hi q7 a y.n c _ ((HIN.out.below hb1 hhi).src) (by omega) (by omega)
      have h := hK (.slice ad' y.n cap') w' ⟨ad', cap', X.heap.size, rfl, hb1.size, fun h0 => (hrow (by omega)).2.lt, fun i hi => by obtain ⟨r1, r2⟩ := hrow (by omega); subst r1; exact r2.ints i hi⟩ hb'
      exact wpOp_append_run rfl rfl _ _ 27 27 rfl _ _ _ _ e7 e13 hrun h
    · have e6 : t 6 = .int .i64 y.ix := hg1 6 ⟨_, rfl, ⟨6, .data⟩, by simp, rfl, rfl⟩
      obtain ⟨ad', cap', b', e14, k14⟩ : ∃ ad' cap' b', t 14 = .slice ad' y.n cap' ∧ AkOk W X y ad' b' := hg1 14 ⟨_, rfl, ⟨14, .data⟩, by simp, rfl, rfl⟩
      have h := hK (.agg #[.int .i64 y.ix, .slice ad' y.n cap']) X ⟨ad', cap', b', rfl, k14⟩ (Below.refl _ _)
      refine wpOp_of rfl rfl ?_
      clear hK hg1
      go_simp
      simpa [updT, e6, e14] using h
    · obtain ⟨ad', cap', b', e15, k15⟩ : ∃ ad' cap' b', t 15 = .agg #[.int .i64 y.ix, .slice ad' y.n cap'] ∧ AkOk W X y ad' b' := hg1 15 ⟨_, rfl, ⟨15, .data⟩, by simp, rfl, rfl⟩
      have h := hK (.slice (some ⟨X.heap.size, 0, none⟩) 1 1) (X.alloc (.cells #[.int .i64 y.ix, .slice ad' y.n cap'] 108)) ⟨ad', cap', b', X.heap.size, rfl, holds_new X _ 108 0, holds_new X _ 108 1, by simp, k15.grow (below_alloc _ _)⟩ (below_alloc _ _)
      refine wpOp_of rfl rfl ?_
      clear hK hg1
      go_simp
      simpa [updT, e15] using h
  · intro t X K hb1 hg1 hK
    have e0 : t 0 = o := hg1 0 (by omega)
    obtain ⟨ad', cap', b', q, e16, c0, c1, hq, k16⟩ : ∃ ad' cap' b' q, t 16 = .slice (some ⟨q, 0, none⟩) 1 1 ∧ X.cell? ⟨q, 0, none⟩ = some (.int .i64 y.ix) ∧ X.cell? ⟨q, 1, none⟩ = some (.slice ad' y.n cap') ∧ q < X.heap.size ∧ AkOk W X y ad' b' := hg1 16 (by omega)
    have BD1 := HBD.out.grow (hb1.mono (Nat.le_refl _))
    obtain ⟨c9, hown, hat⟩ := BD1.row
    have hzX := hb1.size
    obtain ⟨v', w', hr, hown2, hgrow2, hnil2, hat2⟩ := run_append_own_at (P := Tryz.prog) X base 36 36 108 i0 _ 2 32 Tryz.underlying36 hi0 hz0 hz1 hz2 rfl (by decide) o k (rowCells (k * 2) c9) hown ⟨q, 0, none⟩ 1 1 [.int .i64 y.ix, .slice ad' y.n cap'] rfl (fun j u hu => by
      rw [show ((⟨q, 0, none⟩ : Addr).add j) = ⟨q, j, none⟩ by unfold Addr.add; split <;> simp_all]
      match j, hu with
      | 0, hu => cases hu; exact c0
      | 1, hu => cases hu; exact c1
      | j + 2, hu => simp at hu) (by simp [Value.oneCell']) (by unfold maxLen; omega) (by omega) (by omega)
    subst hy
    have BD2 := BD1.app (cap' := cap') (b' := b') hat hown2 hgrow2 hat2 k16.2.2 (fun h0 => ⟨by have := k16.1; omega, k16.2.1 h0⟩)
      (fun h0 e => by
        obtain ⟨c0', r0, _⟩ := HBD.out.row
        have h1 := (r0.lt _ e).2
        have h2 := k16.1
        omega)
      (fun i hi h0 h1 e => by
        have h2 := (HBD.out.hlt i hi h0).2
        have h3 := k16.1
        omega)
    have h := hK _ w' ⟨t, v', ad', cap', b', rfl, BD2, (FrP.of_below (hb1.mono (Nat.le_refl _))).trans (FrP.of_grown hgrow2)⟩
    exact wpOp_append_run rfl rfl _ _ 36 36 rfl _ _ _ _ e0 e16 hr h
  · rintro a1 X K ⟨t, u9, ad', cap', b', rfl, hp⟩ hK
    have h := hK ⟨#[p0, .pointer (some ⟨s, 0, none⟩), p2, u9, .int .i64 k, p5, p6, p7, p8, p9, p10, p11, p12, p13, p14, p15, p16, p17, p18, p19, p20, p21, p22, p23, p24, p25, p26, p27, p28, p29, p30, p31, p32, p33, p34, p35, p36, p37, p38, t 0, t 1, t 2, t 3, t 4, t 5, t 6, t 7, t 8, t 9, t 10, t 11, t 12, t 13, t 14, t 15, t 16, u9, p57, p58, p59], []⟩ X ⟨t, u9, ad', cap', b', rfl, hp⟩
    refine wpOp_of rfl rfl ?_
    clear hK
    go_simp
    exact h
  · rintro a1 X ⟨t, u9, ad', cap', b', rfl, hp⟩
    exact hQ t u9 ad' cap' b' X hp.1 hp.2
end Go.Proofs.YtokkbdlofbdljaaGreat
namespace Go.Proofs.YtokkbdlofbdljaaGreat
open Go.RowKit
theorem FrP.of_below2 {P : Nat → Prop} {w w' : World} {n : Nat} (h : Below n w w') (hn : w.heap.size ≤ n) : FrP P w w' := FrP.of_below (h.mono hn)
/-- the wishes' row, with what room is behind it -/
structure WsOk (w : World) (r : Rc) (p : RcP) : Prop where
  le : r.wn ≤ p.A.wc
  zero : r.wn = 0 → p.A.wc = 0
  at_ : r.wn ≠ 0 → p.A.wa = some ⟨p.g3, 0, none⟩ ∧ Room w p.g3 p.A.wc
  da : ∃ g, p.A.da = some ⟨g, 0, none⟩
  dc : r.dk.n ≤ p.A.dc
theorem roomFr {w w' : World} {g m : Nat} {P : Nat → Prop} (h : Room w g m) (hf : FrP P w w') (hg : ¬ P g) : Room w' g m :=
  ⟨fun j hj => by rw [hf.cell (p := ⟨g, j, none⟩) h.lt hg]; exact h.has j hj, fun j => by rw [hf.frozen (p := ⟨g, j, none⟩) h.lt hg]; exact h.free j, Nat.lt_of_lt_of_le h.lt hf.size⟩
set_option maxRecDepth 100000 in
set_option maxHeartbeats 8000000 in
theorem specCopy_any (r : Rc) (A : RcA) (w : World) (lo hi : Nat) (hhi : hi ≤ w.heap.size) (hm : RcSmall r) (hc : RcIn w lo hi r A) :
    Calls Tryz.prog 31 #[rcV r A] w fun e w' => ∃ p : RcP, e = .returned (rcV r p.A) ∧ RcAt w' r p ∧ WsOk w' r p ∧ (∀ k, rbs p r k → w.heap.size ≤ k) ∧ Below w.heap.size w w' := by
  have HM := hid hm
  have HI := hid hc
  clear hm hc
  go_enter Tryz.func31, Tryz.ntmps31
  go_wp2_with fail
  refine (disk_copy r.sf A.sa A.sc _ lo hi (by simp; omega) (by have := HM.out.sf; omega) (HI.out.below (B := w.heap.size) (((Below.refl _ _).alloc (Nat.le_refl _) _).alloc (by simp) _) hhi).sf).mono ?_
  rintro e w1 ⟨a0, c0, g0, rfl, o0, ge0, lt0, hb0, _⟩
  simp only [World.size_alloc] at ge0
  have l0 : r.sf.n ≠ 0 → w.heap.size + 1 + 1 ≤ g0 ∧ g0 < w1.heap.size := fun h0 => ⟨ge0, lt0 h0⟩
  have hB0 : Below w.heap.size w w1 := (((Below.refl _ _).alloc (Nat.le_refl _) _).alloc (by simp) _).trans (hb0.mono (by simp; omega))
  obtain ⟨P1, R1, F1, F2⟩ := two_cell hb0
  have hz1 : w.heap.size + 1 + 1 ≤ w1.heap.size := by have := hb0.size; simp at this; omega
  have Q0 : Hid (Bx w1 w.heap.size #[.int .i64 r.num, .int .i64 r.of, .bool r.up, .int .i64 r.sf.pr, .int .i64 r.sf.kn, .slice A.sa r.sf.n A.sc, .int .i64 r.dk.pr, .int .i64 r.dk.kn, .slice A.da r.dk.n A.dc, .slice A.ha r.hn A.hc, .slice A.wa r.wn A.wc, .bool r.ld, .bool r.tr, .int .i64 r.bal, .slice A.ya r.yn A.yc, .slice A.ba r.bn A.bc, .slice A.aa r.an A.ac, .int .i64 r.hd]) := ⟨P1, F1, by omega⟩
  have Z0 : Hid (Bx w1 (w.heap.size + 1) #[.int .i64 0, .int .i64 0, .bool false, .int .i64 0, .int .i64 0, .slice none 0 0, .int .i64 0, .int .i64 0, .slice none 0 0, .slice none 0 0, .slice none 0 0, .bool false, .bool false, .int .i64 0, .slice none 0 0, .slice none 0 0, .slice none 0 0, .int .i64 0]) := ⟨R1, F2, by omega⟩
  clear hb0 P1 R1 F1 F2 ge0 lt0
  have O0_0 := hid o0
  have L0 := hid l0
  clear o0 l0
  obtain ⟨p0, p1, p2, p3, p4, p5, p6, p7, p8, p9, p10, p11, p12, p13, p14, p15, p16, p17⟩ := holds18 Q0.out.cell
  have qf := Q0.out.free
  have qlt := Q0.out.lt
  go_wp2_with fail
  refine (disk_copy r.dk A.da A.dc _ lo hi (by simp only [World.size_setCell]; omega) (by have := HM.out.dk; omega) (HI.out.below (B := w.heap.size) ((((hB0.setCell (p := ⟨w.heap.size, 3, none⟩) (Nat.le_refl _) (.int .i64 r.sf.pr)).setCell (p := ⟨w.heap.size, 4, none⟩) (Nat.le_refl _) (.int .i64 r.sf.kn)).setCell (p := ⟨w.heap.size, 5, none⟩) (Nat.le_refl _) (.slice a0 r.sf.n c0))) hhi).dk).mono ?_
  clear p0 p1 p2 p3 p4 p5 p6 p7 p8 p9 p10 p11 p12 p13 p14 p15 p16 p17 qf qlt
  rintro e w2 ⟨a1, c1, g1, rfl, o1, ge1, lt1, hb1, sm1, cl1⟩
  have SM1 := hid sm1
  have CL1 := hid cl1
  clear sm1 cl1
  simp only [World.size_setCell] at ge1
  have l1 : r.dk.n ≠ 0 → w1.heap.size ≤ g1 ∧ g1 < w2.heap.size := fun h0 => ⟨ge1, lt1 h0⟩
  clear ge1 lt1
  have hx1 : Below w1.heap.size (((w1.setCell ⟨w.heap.size, 3, none⟩ (.int .i64 r.sf.pr)).setCell ⟨w.heap.size, 4, none⟩ (.int .i64 r.sf.kn)).setCell ⟨w.heap.size, 5, none⟩ (.slice a0 r.sf.n c0)) w2 := hb1.mono (by simp only [World.size_setCell]; exact Nat.le_refl _)
  have fr1 : FrP (fun q => q = w.heap.size) w1 w2 := ((((FrP.refl (fun q => q = w.heap.size) w1).setCell (p := ⟨w.heap.size, 3, none⟩) rfl (.int .i64 r.sf.pr)).setCell (p := ⟨w.heap.size, 4, none⟩) rfl (.int .i64 r.sf.kn)).setCell (p := ⟨w.heap.size, 5, none⟩) rfl (.slice a0 r.sf.n c0)).trans (FrP.of_below2 hx1 (by simp only [World.size_setCell]; exact Nat.le_refl _))
  have hB1 : Below w.heap.size w w2 := ((((hB0.setCell (p := ⟨w.heap.size, 3, none⟩) (Nat.le_refl _) (.int .i64 r.sf.pr)).setCell (p := ⟨w.heap.size, 4, none⟩) (Nat.le_refl _) (.int .i64 r.sf.kn)).setCell (p := ⟨w.heap.size, 5, none⟩) (Nat.le_refl _) (.slice a0 r.sf.n c0))).trans (hx1.mono (by omega))
  have hz2 : w1.heap.size ≤ w2.heap.size := fr1.size
  have Q1 := hid ((((((((Q0.out).to (hset3 (Q0.out).cell (.int .i64 r.sf.pr)))).to (hset4 (((Q0.out).to (hset3 (Q0.out).cell (.int .i64 r.sf.pr)))).cell (.int .i64 r.sf.kn)))).to (hset5 (((((Q0.out).to (hset3 (Q0.out).cell (.int .i64 r.sf.pr)))).to (hset4 (((Q0.out).to (hset3 (Q0.out).cell (.int .i64 r.sf.pr)))).cell (.int .i64 r.sf.kn)))).cell (.slice a0 r.sf.n c0)))).below hx1 (by omega))
  have Z1 := hid (Z0.out.frP fr1 (by omega))
  have O0_1 := hid (O0_0.out.frP fr1 (fun h0 => ⟨by have := L0.out h0; omega, by have := L0.out h0; omega⟩))
  clear hx1 fr1 Q0 Z0 hB0 hb1 O0_0
  have O1_1 := hid o1
  have L1 := hid l1
  clear o1 l1
  obtain ⟨p0, p1, p2, p3, p4, p5, p6, p7, p8, p9, p10, p11, p12, p13, p14, p15, p16, p17⟩ := holds18 Q1.out.cell
  have qf := Q1.out.free
  have qlt := Q1.out.lt
  go_wp2_with fail
  refine (specMss_any r.hn r.hs A.ha A.hc _ lo hi (by simp only [World.size_setCell]; omega) HM.out.hn HM.out.hs (HI.out.below (B := w.heap.size) ((((hB1.setCell (p := ⟨w.heap.size, 6, none⟩) (Nat.le_refl _) (.int .i64 r.dk.pr)).setCell (p := ⟨w.heap.size, 7, none⟩) (Nat.le_refl _) (.int .i64 r.dk.kn)).setCell (p := ⟨w.heap.size, 8, none⟩) (Nat.le_refl _) (.slice a1 r.dk.n c1))) hhi).hs).mono ?_
  clear p0 p1 p2 p3 p4 p5 p6 p7 p8 p9 p10 p11 p12 p13 p14 p15 p16 p17 qf qlt
  rintro e w3 ⟨a2, c2, g2, A2, C2, h2, rfl, o2, l2, hb2⟩
  simp only [World.size_setCell] at l2
  have hx2 : Below w2.heap.size (((w2.setCell ⟨w.heap.size, 6, none⟩ (.int .i64 r.dk.pr)).setCell ⟨w.heap.size, 7, none⟩ (.int .i64 r.dk.kn)).setCell ⟨w.heap.size, 8, none⟩ (.slice a1 r.dk.n c1)) w3 := hb2.mono (by simp only [World.size_setCell]; exact Nat.le_refl _)
  have fr2 : FrP (fun q => q = w.heap.size) w2 w3 := ((((FrP.refl (fun q => q = w.heap.size) w2).setCell (p := ⟨w.heap.size, 6, none⟩) rfl (.int .i64 r.dk.pr)).setCell (p := ⟨w.heap.size, 7, none⟩) rfl (.int .i64 r.dk.kn)).setCell (p := ⟨w.heap.size, 8, none⟩) rfl (.slice a1 r.dk.n c1)).trans (FrP.of_below2 hx2 (by simp only [World.size_setCell]; exact Nat.le_refl _))
  have hB2 : Below w.heap.size w w3 := ((((hB1.setCell (p := ⟨w.heap.size, 6, none⟩) (Nat.le_refl _) (.int .i64 r.dk.pr)).setCell (p := ⟨w.heap.size, 7, none⟩) (Nat.le_refl _) (.int .i64 r.dk.kn)).setCell (p := ⟨w.heap.size, 8, none⟩) (Nat.le_refl _) (.slice a1 r.dk.n c1))).trans (hx2.mono (by omega))
  have hz3 : w2.heap.size ≤ w3.heap.size := fr2.size
  have Q2 := hid ((((((((Q1.out).to (hset6 (Q1.out).cell (.int .i64 r.dk.pr)))).to (hset7 (((Q1.out).to (hset6 (Q1.out).cell (.int .i64 r.dk.pr)))).cell (.int .i64 r.dk.kn)))).to (hset8 (((((Q1.out).to (hset6 (Q1.out).cell (.int .i64 r.dk.pr)))).to (hset7 (((Q1.out).to (hset6 (Q1.out).cell (.int .i64 r.dk.pr)))).cell (.int .i64 r.dk.kn)))).cell (.slice a1 r.dk.n c1)))).below hx2 (by omega))
  have Z2 := hid (Z1.out.frP fr2 (by omega))
  have O0_2 := hid (O0_1.out.frP fr2 (fun h0 => ⟨by have := L0.out h0; omega, by have := L0.out h0; omega⟩))
  have O1_2 := hid (O1_1.out.frP fr2 (fun h0 => ⟨by have := L1.out h0; omega, by have := L1.out h0; omega⟩))
  clear hx2 fr2 Q1 Z1 hB1 hb2 O0_1 O1_1
  have O2_2 := hid o2
  have L2 := hid l2
  clear o2 l2
  obtain ⟨p0, p1, p2, p3, p4, p5, p6, p7, p8, p9, p10, p11, p12, p13, p14, p15, p16, p17⟩ := holds18 Q2.out.cell
  have qf := Q2.out.free
  have qlt := Q2.out.lt
  go_wp2_with (first | ((with_reducible show wpList _ _ _ (⟨some 20, _, _, _, _, _⟩ :: _) _ _); obtain ⟨a3, c3, w4, hrun, hrow, hb3, hcl, hcz, hrm, _⟩ := append_empty (P := Tryz.prog) ((w3.setCell ⟨w.heap.size, 9, none⟩ (.slice a2 r.hn c2)).alloc (.cells #[] 9)) 26 26 9 1 16 (.string ByteArray.empty) Tryz.underlying26 Tryz.info9 (by omega) lo hi w3.heap.size A.wa r.wn A.wc _ ((HI.out.below (B := w.heap.size) (((hB2.setCell (p := ⟨w.heap.size, 9, none⟩) (Nat.le_refl _) (.slice a2 r.hn c2))).alloc (by simp only [World.size_setCell]; omega) _) hhi).ws.src) (by have := HM.out.wn; omega) (by have := HM.out.wn; omega); (simp only [World.size_alloc, World.size_setCell] at hrun hrow hb3 hrm); refine wpList_append_run rfl _ _ 26 26 rfl _ _ _ _ rfl rfl hrun ?_; have l3 : r.wn ≠ 0 → w3.heap.size ≤ w3.heap.size + 1 ∧ w3.heap.size + 1 < w4.heap.size := fun h0 => ⟨Nat.le_succ _, (hrow (by omega)).2.lt⟩; have o3 : StrsOwn w4 (w3.heap.size + 1) (w3.heap.size + 1 + 1) a3 r.wn r.ws := fun i hi => (by obtain ⟨r1, r2⟩ := hrow (by omega); subst r1; exact r2.strs i hi); have WL := hid hcl; have WZ := hid hcz; have WA := hid (fun h0 : r.wn ≠ 0 => (hrow (by omega)).1); have RM_3 := hid (fun h0 : r.wn ≠ 0 => (Nat.mul_one c3 ▸ hrm (by omega) rfl : Room w4 (w3.heap.size + 1) c3)); clear hrun hrow hcl hcz hrm; (clear p0 p1 p2 p3 p4 p5 p6 p7 p8 p9 p10 p11 p12 p13 p14 p15 p16 p17 qf qlt); have hx3 : Below w3.heap.size (w3.setCell ⟨w.heap.size, 9, none⟩ (.slice a2 r.hn c2)) w4 := ((below_alloc (w3.setCell ⟨w.heap.size, 9, none⟩ (.slice a2 r.hn c2)) (.cells #[] 9)).mono (by simp only [World.size_setCell]; exact Nat.le_refl _)).trans (hb3.mono (Nat.le_succ _)); have fr3 : FrP (fun q => q = w.heap.size) w3 w4 := ((FrP.refl (fun q => q = w.heap.size) w3).setCell (p := ⟨w.heap.size, 9, none⟩) rfl (.slice a2 r.hn c2)).trans (FrP.of_below2 hx3 (by simp only [World.size_setCell]; exact Nat.le_refl _)); have hB3 : Below w.heap.size w w4 := ((hB2.setCell (p := ⟨w.heap.size, 9, none⟩) (Nat.le_refl _) (.slice a2 r.hn c2))).trans (hx3.mono (by omega)); have hz4 : w3.heap.size ≤ w4.heap.size := fr3.size; have Q3 := hid ((((Q2.out).to (hset9 (Q2.out).cell (.slice a2 r.hn c2)))).below hx3 (by omega)); have Z3 := hid (Z2.out.frP fr3 (by omega)); have O0_3 := hid (O0_2.out.frP fr3 (fun h0 => ⟨by have := L0.out h0; omega, by have := L0.out h0; omega⟩)); have O1_3 := hid (O1_2.out.frP fr3 (fun h0 => ⟨by have := L1.out h0; omega, by have := L1.out h0; omega⟩)); have O2_3 := hid (O2_2.out.fr fr3 (fun k hk e => by have := L2.out k hk; omega)); clear hx3 fr3 Q2 Z2 hB2 hb3 O0_2 O1_2 O2_2; have O3_3 := hid o3; have L3 := hid l3; clear o3 l3; obtain ⟨p0, p1, p2, p3, p4, p5, p6, p7, p8, p9, p10, p11, p12, p13, p14, p15, p16, p17⟩ := holds18 Q3.out.cell; have qf := Q3.out.free; have qlt := Q3.out.lt) | ((with_reducible show wpList _ _ _ (⟨some 25, _, _, _, _, _⟩ :: _) _ _); obtain ⟨a4, c4, w5, hrun, hrow, hb4, hcl, hcz, hrm, _⟩ := append_empty (P := Tryz.prog) ((w4.setCell ⟨w.heap.size, 10, none⟩ (.slice a3 r.wn c3)).alloc (.cells #[] 3)) 27 27 3 1 8 (.int .i64 0) Tryz.underlying27 Tryz.info3 (by omega) lo hi w4.heap.size A.ya r.yn A.yc _ ((HI.out.below (B := w.heap.size) (((hB3.setCell (p := ⟨w.heap.size, 10, none⟩) (Nat.le_refl _) (.slice a3 r.wn c3))).alloc (by simp only [World.size_setCell]; omega) _) hhi).ys.src) (by have := HM.out.yn; omega) (by have := HM.out.yn; omega); (simp only [World.size_alloc, World.size_setCell] at hrun hrow hb4 hrm); refine wpList_append_run rfl _ _ 27 27 rfl _ _ _ _ rfl rfl hrun ?_; have l4 : r.yn ≠ 0 → w4.heap.size ≤ w4.heap.size + 1 ∧ w4.heap.size + 1 < w5.heap.size := fun h0 => ⟨Nat.le_succ _, (hrow (by omega)).2.lt⟩; have o4 : IntsOwn w5 (w4.heap.size + 1) (w4.heap.size + 1 + 1) a4 r.yn r.ys := fun i hi => (by obtain ⟨r1, r2⟩ := hrow (by omega); subst r1; exact r2.ints i hi); clear hrun hrow hcl hcz hrm; (clear p0 p1 p2 p3 p4 p5 p6 p7 p8 p9 p10 p11 p12 p13 p14 p15 p16 p17 qf qlt); have hx4 : Below w4.heap.size (w4.setCell ⟨w.heap.size, 10, none⟩ (.slice a3 r.wn c3)) w5 := ((below_alloc (w4.setCell ⟨w.heap.size, 10, none⟩ (.slice a3 r.wn c3)) (.cells #[] 3)).mono (by simp only [World.size_setCell]; exact Nat.le_refl _)).trans (hb4.mono (Nat.le_succ _)); have fr4 : FrP (fun q => q = w.heap.size) w4 w5 := ((FrP.refl (fun q => q = w.heap.size) w4).setCell (p := ⟨w.heap.size, 10, none⟩) rfl (.slice a3 r.wn c3)).trans (FrP.of_below2 hx4 (by simp only [World.size_setCell]; exact Nat.le_refl _)); have hB4 : Below w.heap.size w w5 := ((hB3.setCell (p := ⟨w.heap.size, 10, none⟩) (Nat.le_refl _) (.slice a3 r.wn c3))).trans (hx4.mono (by omega)); have hz5 : w4.heap.size ≤ w5.heap.size := fr4.size; have Q4 := hid ((((Q3.out).to (hset10 (Q3.out).cell (.slice a3 r.wn c3)))).below hx4 (by omega)); have Z4 := hid (Z3.out.frP fr4 (by omega)); have O0_4 := hid (O0_3.out.frP fr4 (fun h0 => ⟨by have := L0.out h0; omega, by have := L0.out h0; omega⟩)); have O1_4 := hid (O1_3.out.frP fr4 (fun h0 => ⟨by have := L1.out h0; omega, by have := L1.out h0; omega⟩)); have O2_4 := hid (O2_3.out.fr fr4 (fun k hk e => by have := L2.out k hk; omega)); have O3_4 := hid (O3_3.out.frP fr4 (fun h0 => ⟨by have := L3.out h0; omega, by have := L3.out h0; omega⟩)); have RM_4 := hid (fun h0 : r.wn ≠ 0 => roomFr (RM_3.out h0) fr4 (by have := L3.out h0; omega)); clear hx4 fr4 Q3 Z3 hB3 hb4 O0_3 O1_3 O2_3 O3_3 RM_3; have O4_4 := hid o4; have L4 := hid l4; clear o4 l4; obtain ⟨p0, p1, p2, p3, p4, p5, p6, p7, p8, p9, p10, p11, p12, p13, p14, p15, p16, p17⟩ := holds18 Q4.out.cell; have qf := Q4.out.free; have qlt := Q4.out.lt))
  refine (slots_any r.bn r.bs A.ba A.bc _ lo hi (by simp only [World.size_setCell]; omega) (by have := HM.out.bn; omega) (HI.out.below (B := w.heap.size) ((hB4.setCell (p := ⟨w.heap.size, 14, none⟩) (Nat.le_refl _) (.slice a4 r.yn c4))) hhi).bs).mono ?_
  clear p0 p1 p2 p3 p4 p5 p6 p7 p8 p9 p10 p11 p12 p13 p14 p15 p16 p17 qf qlt
  rintro e w6 ⟨a5, c5, g5, rfl, o5, ge5, lt5, hb5, _⟩
  simp only [World.size_setCell] at ge5
  have l5 : r.bn ≠ 0 → w5.heap.size ≤ g5 ∧ g5 < w6.heap.size := fun h0 => ⟨ge5, lt5 h0⟩
  clear ge5 lt5
  have hx5 : Below w5.heap.size (w5.setCell ⟨w.heap.size, 14, none⟩ (.slice a4 r.yn c4)) w6 := hb5.mono (by simp only [World.size_setCell]; exact Nat.le_refl _)
  have fr5 : FrP (fun q => q = w.heap.size) w5 w6 := ((FrP.refl (fun q => q = w.heap.size) w5).setCell (p := ⟨w.heap.size, 14, none⟩) rfl (.slice a4 r.yn c4)).trans (FrP.of_below2 hx5 (by simp only [World.size_setCell]; exact Nat.le_refl _))
  have hB5 : Below w.heap.size w w6 := ((hB4.setCell (p := ⟨w.heap.size, 14, none⟩) (Nat.le_refl _) (.slice a4 r.yn c4))).trans (hx5.mono (by omega))
  have hz6 : w5.heap.size ≤ w6.heap.size := fr5.size
  have Q5 := hid ((((Q4.out).to (hset14 (Q4.out).cell (.slice a4 r.yn c4)))).below hx5 (by omega))
  have Z5 := hid (Z4.out.frP fr5 (by omega))
  have O0_5 := hid (O0_4.out.frP fr5 (fun h0 => ⟨by have := L0.out h0; omega, by have := L0.out h0; omega⟩))
  have O1_5 := hid (O1_4.out.frP fr5 (fun h0 => ⟨by have := L1.out h0; omega, by have := L1.out h0; omega⟩))
  have O2_5 := hid (O2_4.out.fr fr5 (fun k hk e => by have := L2.out k hk; omega))
  have O3_5 := hid (O3_4.out.frP fr5 (fun h0 => ⟨by have := L3.out h0; omega, by have := L3.out h0; omega⟩))
  have O4_5 := hid (O4_4.out.frP fr5 (fun h0 => ⟨by have := L4.out h0; omega, by have := L4.out h0; omega⟩))
  have RM_5 := hid (fun h0 : r.wn ≠ 0 => roomFr (RM_4.out h0) fr5 (by have := L3.out h0; omega))
  clear hx5 fr5 Q4 Z4 hB4 hb5 O0_4 O1_4 O2_4 O3_4 O4_4 RM_4
  have O5_5 := hid o5
  have L5 := hid l5
  clear o5 l5
  obtain ⟨p0, p1, p2, p3, p4, p5, p6, p7, p8, p9, p10, p11, p12, p13, p14, p15, p16, p17⟩ := holds18 Q5.out.cell
  have qf := Q5.out.free
  have qlt := Q5.out.lt
  have hx6 : Below w6.heap.size (w6.setCell ⟨w.heap.size, 15, none⟩ (.slice a5 r.bn c5)) ((w6.setCell ⟨w.heap.size, 15, none⟩ (.slice a5 r.bn c5)).alloc (.cells #[] 108)) := (below_alloc (w6.setCell ⟨w.heap.size, 15, none⟩ (.slice a5 r.bn c5)) (.cells #[] 108)).mono (by simp only [World.size_setCell]; exact Nat.le_refl _)
  have fr6 := hid (((FrP.refl (fun q => q = w.heap.size) w6).setCell (p := ⟨w.heap.size, 15, none⟩) rfl (.slice a5 r.bn c5)).trans (FrP.of_below2 (P := fun q => q = w.heap.size) hx6 (by simp only [World.size_setCell]; exact Nat.le_refl _)))
  have hB6 : Below w.heap.size w ((w6.setCell ⟨w.heap.size, 15, none⟩ (.slice a5 r.bn c5)).alloc (.cells #[] 108)) := ((hB5.setCell (p := ⟨w.heap.size, 15, none⟩) (Nat.le_refl _) (.slice a5 r.bn c5))).trans (hx6.mono (by omega))
  have Q6 := hid ((((Q5.out).to (hset15 (Q5.out).cell (.slice a5 r.bn c5)))).below hx6 (by omega))
  have bd0 : Hid (BdAk ((w6.setCell ⟨w.heap.size, 15, none⟩ (.slice a5 r.bn c5)).alloc (.cells #[] 108)) w6.heap.size (.slice (some ⟨w6.heap.size, 0, none⟩) 0 0) 0 r.as_ (fun _ => none) (fun _ => 0) (fun _ => 0)) :=
    ⟨⟨fun _ => .int .i64 0, by simpa [rowCells, World.size_setCell] using World.ownsRow_made (base := w6.heap.size) (e := 108) (size := 2) (w6.setCell ⟨w.heap.size, 15, none⟩ (.slice a5 r.bn c5)) #[] 0 (by simp only [World.size_setCell]; exact Nat.le_refl _) (Nat.zero_le _) rfl, fun i hi => absurd hi (Nat.not_lt_zero _)⟩, fun i hi => absurd hi (Nat.not_lt_zero _), fun i hi => absurd hi (Nat.not_lt_zero _), fun i hi => absurd hi (Nat.not_lt_zero _), fun i j hi => absurd hi (Nat.not_lt_zero _)⟩
  have hz7 : w6.heap.size < ((w6.setCell ⟨w.heap.size, 15, none⟩ (.slice a5 r.bn c5)).alloc (.cells #[] 108)).heap.size := by simp
  clear hx6
  go_wp2
  clear p0 p1 p2 p3 p4 p5 p6 p7 p8 p9 p10 p11 p12 p13 p14 p15 p16 p17 qf qlt
  go_loopw [3, 4] (fun o i wr => ∃ (o9 : Value) (k : Nat) (A' : Nat → Option Addr) (C' hb : Nat → Nat), o9 = o ∧ k ≤ r.an ∧ i = .int .i64 k ∧ Below w.heap.size w wr ∧ FrP (fun q => q = w.heap.size ∨ w6.heap.size ≤ q) w6 wr ∧ Bx wr w.heap.size #[.int .i64 r.num, .int .i64 r.of, .bool r.up, .int .i64 r.sf.pr, .int .i64 r.sf.kn, .slice a0 r.sf.n c0, .int .i64 r.dk.pr, .int .i64 r.dk.kn, .slice a1 r.dk.n c1, .slice a2 r.hn c2, .slice a3 r.wn c3, .bool r.ld, .bool r.tr, .int .i64 r.bal, .slice a4 r.yn c4, .slice a5 r.bn c5, .slice A.aa r.an A.ac, .int .i64 r.hd] ∧ BdAk wr w6.heap.size o9 k r.as_ A' C' hb) (fun _ i _ => r.an - (intOf i).toNat)
  case atStart => exact ⟨_, 0, _, _, _, rfl, Nat.zero_le _, rfl, hB6, fr6.out.mono (fun q hq => Or.inl hq), Q6.out, bd0.out⟩
  case round =>
    obtain ⟨o9, k, A', C', hb, rfl, hk, rfl, b0, fx, bx, bd⟩ := hrel
    clear bd0
    by_cases hkn : k < r.an
    · obtain ⟨b, off, ah, ch, hA, hlo, hbh, hcx, hsx⟩ := HI.out.as_ k hkn
      obtain ⟨e0, e1⟩ := hcx.below b0 (by omega)
      have HSX := hid (hsx.below b0 hhi)
      have hfk : Hid (((r.as_ k).n : Int) ≤ 1048576) := HM.out.as_ k hkn
      have hnn : Hid ((r.an : Int) ≤ 1048576) := HM.out.an
      have BD := hid bd
      have BX := hid bx
      have FX := hid fx
      have hsz := bx.lt
      have hb6 := fx.size
      have zr := b0.size
      obtain ⟨p0, p1, p2, p3, p4, p5, p6, p7, p8, p9, p10, p11, p12, p13, p14, p15, p16, p17⟩ := holds18 bx.cell
      rw [hA] at p16
      clear hcx hsx bd bx fx
      go_wp2
      refine ackReg _ _ _ _ _ _ _ _ _ _ _ _ _ _ _ _ _ _ _ _ _ _ _ _ _ _ _ _ _ _ _ _ _ _ _ _ _ _ _ _ _ _ _ _ _ _ _ _ _ _ _ _ _ _ _ _ _ w.heap.size b off r.an A.ac k o9 ah ch (r.as_ k) wr lo hi w6.heap.size r.as_ A' C' hb rfl p16 e0 e1 hsz (by omega) (by omega) hfk.out hnn.out HSX.out hkn hb6 BD.out _ ?hQ
      case hQ =>
        intro t u9 ad' cap' b' X hbd hfx
        have hown : ∀ q, o9.ownBlock = some q → w6.heap.size ≤ q := fun q e => by
          obtain ⟨c0', r0, _⟩ := BD.out.row
          exact (r0.lt q e).1
        have HBD := hid hbd
        have HBB := hid (b0.trans (hfx.below (B := w.heap.size) (fun q hq e => by have := hown q e; omega) zr))
        have HFX := hid (FX.out.trans (hfx.mono (fun q hq => (Or.inr (hown q hq) : q = w.heap.size ∨ w6.heap.size ≤ q))))
        have HBX := hid (BX.out.frP hfx (fun e => by have := hown _ e; omega))
        have hn9 := hnn.out
        clear p0 p1 p2 p3 p4 p5 p6 p7 p8 p9 p10 p11 p12 p13 p14 p15 p16 p17 e0 e1 hbd hfx BD BX FX HSX hown
        go_wp2
        go_roundw
        case rel => exact ⟨_, k + 1, _, _, _, rfl, by omega, by go_num, HBB.out, HFX.out, HBX.out, HBD.out⟩
        case measure => simp [intOf]; omega
    · have hke : k = r.an := by omega
      obtain ⟨a6, c6, g6, e6, at6, hq6⟩ := bd.done
      subst hke
      subst e6
      have bt := hid (fun q (h : blkH g6 r.an (fun i => (r.as_ i).n) hb q) => (⟨hq6 q h, at6.blt h⟩ : w6.heap.size ≤ q ∧ q < wr.heap.size))
      have AT6 := hid at6
      have FX := hid fx
      have hzz := fx.size
      have hsz := bx.lt
      have Q7 := hid (bx.to (hset16 bx.cell (.slice a6 r.an c6)))
      have z6 : w.heap.size + 1 < w6.heap.size := Z5.out.lt
      have Z7 := hid ((Z5.out.frP fx (by omega)).frP (P := fun q => q = w.heap.size) ((FrP.refl (fun q => q = w.heap.size) wr).setCell (p := ⟨w.heap.size, 16, none⟩) rfl (.slice a6 r.an c6)) (by omega))
      have hBV := b0.setCell (p := ⟨w.heap.size, 16, none⟩) (Nat.le_refl _) (.slice a6 r.an c6)
      obtain ⟨p0, p1, p2, p3, p4, p5, p6, p7, p8, p9, p10, p11, p12, p13, p14, p15, p16, p17⟩ := holds18 bx.cell
      have qf := bx.free
      clear bx bd fx at6 hq6
      go_wp2_with (first | ((with_reducible show wpList _ _ _ (⟨some 59, Op.load 38 _, _, _, _, _⟩ :: _) _ _); (clear p0 p1 p2 p3 p4 p5 p6 p7 p8 p9 p10 p11 p12 p13 p14 p15 p16 p17 qf); refine wpList_load_mid rfl 38 _ rfl w.heap.size 0 rfl [.int .i64 r.num, .int .i64 r.of, .bool r.up, .int .i64 r.sf.pr, .int .i64 r.sf.kn, .slice a0 r.sf.n c0, .int .i64 r.dk.pr, .int .i64 r.dk.kn, .slice a1 r.dk.n c1, .slice a2 r.hn c2, .slice a3 r.wn c3, .bool r.ld, .bool r.tr, .int .i64 r.bal, .slice a4 r.yn c4, .slice a5 r.bn c5, .slice a6 r.an c6, .int .i64 r.hd] _ (Holds.range (cs := [.int .i64 r.num, .int .i64 r.of, .bool r.up, .int .i64 r.sf.pr, .int .i64 r.sf.kn, .slice a0 r.sf.n c0, .int .i64 r.dk.pr, .int .i64 r.dk.kn, .slice a1 r.dk.n c1, .slice a2 r.hn c2, .slice a3 r.wn c3, .bool r.ld, .bool r.tr, .int .i64 r.bal, .slice a4 r.yn c4, .slice a5 r.bn c5, .slice a6 r.an c6, .int .i64 r.hd]) Q7.out.cell) Tryz.underlying38 rfl Tryz.sz38 ?_) | ((with_reducible show wpList _ _ _ (⟨none, Op.store 38 _ _, _, _, _, _⟩ :: _) _ _); refine wpList_store_box rfl 38 _ _ rfl (w.heap.size + 1) [.int .i64 r.num, .int .i64 r.of, .bool r.up, .int .i64 r.sf.pr, .int .i64 r.sf.kn, .slice a0 r.sf.n c0, .int .i64 r.dk.pr, .int .i64 r.dk.kn, .slice a1 r.dk.n c1, .slice a2 r.hn c2, .slice a3 r.wn c3, .bool r.ld, .bool r.tr, .int .i64 r.bal, .slice a4 r.yn c4, .slice a5 r.bn c5, .slice a6 r.an c6, .int .i64 r.hd] rfl rfl Z7.out rfl Tryz.sz38 (by simp [Value.oneCell']) ?_; intro V hr hfv hsv; have HRV := hid hr; have HFV := hid hfv; have HSV := hid hsv; clear hr hfv hsv))
      have hVs : V.heap.size = wr.heap.size := by rw [HSV.out, World.size_setCell]
      have fv : FrP (fun q => q = w.heap.size ∨ q = w.heap.size + 1) wr V := ((FrP.refl (fun q => q = w.heap.size ∨ q = w.heap.size + 1) wr).setCell (p := ⟨w.heap.size, 16, none⟩) (Or.inl rfl) (.slice a6 r.an c6)).trans (FrP.of_fr HFV.out (fun k h1 h2 => Or.inr (by omega)))
      have F8 : FrP (fun q => q = w.heap.size ∨ (q = w.heap.size + 1 ∨ w6.heap.size ≤ q)) w6 V := (FX.out.mono (fun q hq => by rcases hq with h | h <;> simp [h])).trans (fv.mono (fun q hq => by rcases hq with h | h <;> simp [h]))
      refine bodyPost_ret (v := .agg #[.int .i64 r.num, .int .i64 r.of, .bool r.up, .int .i64 r.sf.pr, .int .i64 r.sf.kn, .slice a0 r.sf.n c0, .int .i64 r.dk.pr, .int .i64 r.dk.kn, .slice a1 r.dk.n c1, .slice a2 r.hn c2, .slice a3 r.wn c3, .bool r.ld, .bool r.tr, .int .i64 r.bal, .slice a4 r.yn c4, .slice a5 r.bn c5, .slice a6 r.an c6, .int .i64 r.hd]) (results_cell_mid rfl _ _ (w.heap.size + 1) [.int .i64 r.num, .int .i64 r.of, .bool r.up, .int .i64 r.sf.pr, .int .i64 r.sf.kn, .slice a0 r.sf.n c0, .int .i64 r.dk.pr, .int .i64 r.dk.kn, .slice a1 r.dk.n c1, .slice a2 r.hn c2, .slice a3 r.wn c3, .bool r.ld, .bool r.tr, .int .i64 r.bal, .slice a4 r.yn c4, .slice a5 r.bn c5, .slice a6 r.an c6, .int .i64 r.hd] _ rfl (Holds.range (cs := [.int .i64 r.num, .int .i64 r.of, .bool r.up, .int .i64 r.sf.pr, .int .i64 r.sf.kn, .slice a0 r.sf.n c0, .int .i64 r.dk.pr, .int .i64 r.dk.kn, .slice a1 r.dk.n c1, .slice a2 r.hn c2, .slice a3 r.wn c3, .bool r.ld, .bool r.tr, .int .i64 r.bal, .slice a4 r.yn c4, .slice a5 r.bn c5, .slice a6 r.an c6, .int .i64 r.hd]) HRV.out.cell) Tryz.underlying38 rfl Tryz.sz38) rfl ⟨⟨⟨a0, a1, a2, a3, a4, a5, a6, c0, c1, c2, c3, c4, c5, c6⟩, g0, g1, g2, w3.heap.size + 1, w4.heap.size + 1, g5, g6, A2, C2, h2, A', C', hb⟩, rfl, ?_, ?_, ?_, ?_⟩
      · refine RcAt.ofRows (fun j => match j with | 0 => w.heap.size + 1 + 1 | 1 => w1.heap.size | 2 => w2.heap.size | 3 => w3.heap.size | 4 => w4.heap.size | 5 => w5.heap.size | 6 => w6.heap.size | _ => wr.heap.size) ?_ ?_ ?_ ?_ ?_ ?_ ?_ ?_ ?_ ?_
        · exact O0_5.out.frP F8 (fun h0 => ⟨by have := L0.out h0; omega, by have := L0.out h0; omega⟩)
        · exact O1_5.out.frP F8 (fun h0 => ⟨by have := L1.out h0; omega, by have := L1.out h0; omega⟩)
        · exact O2_5.out.fr F8 (fun k hk e => by have := L2.out k hk; omega)
        · exact O3_5.out.frP F8 (fun h0 => ⟨by have := L3.out h0; omega, by have := L3.out h0; omega⟩)
        · exact O4_5.out.frP F8 (fun h0 => ⟨by have := L4.out h0; omega, by have := L4.out h0; omega⟩)
        · exact O5_5.out.frP F8 (fun h0 => ⟨by have := L5.out h0; omega, by have := L5.out h0; omega⟩)
        · exact AT6.out.fr fv (fun k hk e => by have := bt.out k hk; omega)
        · intro j hj
          rcases (show j = 0 ∨ j = 1 ∨ j = 2 ∨ j = 3 ∨ j = 4 ∨ j = 5 ∨ j = 6 by omega) with rfl | rfl | rfl | rfl | rfl | rfl | rfl
          · exact hz1
          · exact hz2
          · exact hz3
          · exact hz4
          · exact hz5
          · exact hz6
          · exact hzz
        · show wr.heap.size ≤ V.heap.size
          omega
        · intro j k hj hk
          rcases (show j = 0 ∨ j = 1 ∨ j = 2 ∨ j = 3 ∨ j = 4 ∨ j = 5 ∨ j = 6 by omega) with rfl | rfl | rfl | rfl | rfl | rfl | rfl
          · obtain ⟨h0, rfl⟩ := hk; exact L0.out h0
          · obtain ⟨h0, rfl⟩ := hk; exact L1.out h0
          · exact L2.out k hk
          · obtain ⟨h0, rfl⟩ := hk; exact L3.out h0
          · obtain ⟨h0, rfl⟩ := hk; exact L4.out h0
          · obtain ⟨h0, rfl⟩ := hk; exact L5.out h0
          · exact bt.out k hk
      · exact ⟨WL.out, WZ.out, fun h0 => ⟨WA.out h0, roomFr (RM_5.out h0) F8 (fun e => by have h9 : w3.heap.size + 1 = w.heap.size ∨ (w3.heap.size + 1 = w.heap.size + 1 ∨ w6.heap.size ≤ w3.heap.size + 1) := e; have := L3.out h0; omega)⟩, SM1.out, CL1.out⟩
      · rintro k ⟨j, hj, hk⟩
        rcases (show j = 0 ∨ j = 1 ∨ j = 2 ∨ j = 3 ∨ j = 4 ∨ j = 5 ∨ j = 6 by omega) with rfl | rfl | rfl | rfl | rfl | rfl | rfl
        · have h9 : k = g0 := hk.2; have := L0.out hk.1; omega
        · have h9 : k = g1 := hk.2; have := L1.out hk.1; omega
        · have := L2.out k hk; omega
        · have h9 : k = w3.heap.size + 1 := hk.2; omega
        · have h9 : k = w4.heap.size + 1 := hk.2; omega
        · have h9 : k = g5 := hk.2; have := L5.out hk.1; omega
        · have := bt.out k hk; omega
      · exact b0.trans (fv.below (B := w.heap.size) (fun k hk e => by omega) (by omega))
end Go.Proofs.YtokkbdlofbdljaaGreat
