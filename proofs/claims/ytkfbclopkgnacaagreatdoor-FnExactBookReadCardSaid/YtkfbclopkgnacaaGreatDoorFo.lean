import Derived.Test.YtkfbclopkgnacaaGreatDoorFb
import Derived.Laws.BitsLemmas
import Derived.Test.YtkfbclopkgnacaaGreatDoorFl
import Derived.Test.YtkfbclopkgnacaaGreatDoorPa
import Derived.Test.YtkfbclopkgnacaaGreatDoorFp
namespace Go.Proofs.YtkfbclopkgnacaaGreatDoor
open Go.RowKit
theorem plain_cases {x : Nat} (h : (decide (32 ≤ (x : Int)) && decide ((x : Int) ≤ 126) && !decide ((x : Int) = 34) && !decide ((x : Int) = 92)) = false) :
    (x : Int) < 32 ∨ (32 ≤ (x : Int) ∧ (126 < (x : Int) ∨ ((x : Int) ≤ 126 ∧ (((x : Int) != 34) = false ∨ (((x : Int) != 34) = true ∧ ((x : Int) != 92) = false))))) := by
  simp only [Bool.and_eq_false_iff, decide_eq_false_iff_not, Bool.not_eq_false', decide_eq_true_eq] at h
  by_cases h1 : (x : Int) < 32
  · exact Or.inl h1
  · refine Or.inr ⟨by omega, ?_⟩
    by_cases h2 : 126 < (x : Int)
    · exact Or.inl h2
    · refine Or.inr ⟨by omega, ?_⟩
      by_cases h3 : (x : Int) = 34
      · exact Or.inl (by simp [h3])
      · refine Or.inr ⟨by simpa using h3, ?_⟩
        have : (x : Int) = 92 := by omega
        simp [this]
set_option maxRecDepth 100000 in
set_option maxHeartbeats 1000000 in
theorem isPlain_any (b : UInt8) (w : World) : Calls Tryz.prog 73 #[.int .u8 (b.toNat : Int)] w fun e w' => e = .returned (.bool (plainB b)) ∧ w' = w := by
  obtain ⟨x, hx⟩ : ∃ x : Nat, b.toNat = x := ⟨_, rfl⟩
  cases hp : plainB b with
  | true =>
    have hp2 := hp
    simp only [plainB, Bool.and_eq_true, decide_eq_true_eq, Bool.not_eq_true', decide_eq_false_iff_not] at hp2
    obtain ⟨⟨⟨p1, p2⟩, p3⟩, p4⟩ := hp2
    rw [hx] at p1 p2 p3 p4 ⊢
    have q3 : ((x : Int) != 34) = true := by simpa using p3
    have q4 : ((x : Int) != 92) = true := by simpa using p4
    clear hp hx p3 p4
    go_enter Tryz.func73, Tryz.ntmps73
    go_wp2
    go_ret
    exact ⟨rfl, rfl⟩
  | false =>
    unfold plainB at hp
    rw [hx] at hp ⊢
    have hc := plain_cases hp
    clear hp hx
    rcases hc with h1 | ⟨h1, h2 | ⟨h2, h3 | ⟨h3, h4⟩⟩⟩
    all_goals
      go_enter Tryz.func73, Tryz.ntmps73
      go_wp2
      go_ret
      exact ⟨rfl, rfl⟩
set_option maxRecDepth 100000 in
set_option maxHeartbeats 2000000 in
theorem implQuote_any (s : ByteArray) (w : World) (hs : (s.size : Int) ≤ 1099511627776) :
    Calls Tryz.prog 42 #[.string s] w fun e w' => e = .returned (.string ⟨(quL s).toArray⟩) ∧ Below w.heap.size w w' := by
  obtain ⟨i0, hi0, hz0, hz1, hz2⟩ := info_parts Tryz.info5
  go_enter Tryz.func42, Tryz.ntmps42
  go_wp2
  go_loopw [3, 9] (fun v i wr => ∃ k : Nat, k ≤ s.size ∧ i = .int .i64 k ∧ OwnB wr w.heap.size v (qTo s k) ∧ Below w.heap.size w wr) (fun _ i _ => s.size - (intOf i).toNat)
  case atStart => exact ⟨0, Nat.zero_le _, rfl, World.ownsRow_lit w #[.int .u8 34] 1 (Nat.le_refl _) (by unfold maxLen; omega) rfl, (Below.refl _ _).alloc (Nat.le_refl _) _⟩
  case round =>
    obtain ⟨k, hk, rfl, hown, hb⟩ := hrel
    by_cases hkn : k < s.size
    · have HB := hid (byteAt_eq s k hkn)
      have hl := qTo_len s k
      obtain ⟨L, hL⟩ : ∃ L, qTo s k = L := ⟨_, rfl⟩
      cases hp : plainB (byteAt s k) with
      | true =>
        have STEP := hid (show qTo s (k + 1) = qTo s k ++ [s[k]] by rw [qTo, qB_yes hp, HB.out])
        rw [hL] at hown hl STEP
        have HP := hid (HB.out ▸ hp)
        have HO := hid (hown.alloc (.cells #[.int .u8 (s[k].toNat : Int)] 5))
        clear hown hL hp HB
        go_wp2_with (first
          | (go_at_call 73; refine (isPlain_any s[k] _).mono ?_; rintro e w1 ⟨rfl, rfl⟩; rw [HP.out])
          | (at_builtin; go_must (refine wpList_append_own _ rfl _ _ 54 rfl w.heap.size 5 i0 (.int .u8 0) 1 1 Tryz.underlying54 hi0 hz0 hz1 hz2 rfl (by decide) _ _ _ rfl HO.out ⟨w1.heap.size, 0, none⟩ 1 1 (Lib.byteCells [s[k]]) rfl rfl (news_alloc w1 _ 5) (by simp [Lib.byteCells, Value.oneCell']) (by unfold maxLen; omega) (by omega) (by have := hb.size; simp; omega) ?_; intro v2 w2 hown2 hgrow2 _)))
        have B2 := below_app (hb.alloc hb.size _) (Nat.le_refl _) (by have := hb.size; simp; omega) HO.out hgrow2
        have O2 : OwnB w2 w.heap.size v2 (L ++ [s[k]]) := OwnB.app hown2
        exact ⟨⟨k + 1, by omega, by go_num, by rw [STEP.out]; exact O2, B2⟩, by simp [intOf]; omega⟩
      | false =>
        have STEP := hid (show qTo s (k + 1) = qTo s k ++ [92, byteAt digs (s[k].toNat / 16), byteAt digs (s[k].toNat % 16)] by rw [qTo, qB_no hp, HB.out])
        rw [hL] at hown hl STEP
        have hx := s[k].toNat_lt
        have HP := hid (HB.out ▸ hp)
        obtain ⟨d1, hd1⟩ : ∃ d, byteAt digs (s[k].toNat / 16) = d := ⟨_, rfl⟩
        obtain ⟨d2, hd2⟩ : ∃ d, byteAt digs (s[k].toNat % 16) = d := ⟨_, rfl⟩
        rw [hd1, hd2] at STEP
        have HO := hid (hown.alloc (.cells #[.int .u8 92, .int .u8 (d1.toNat : Int), .int .u8 (d2.toNat : Int)] 5)).drew
        clear hown hL hp HB
        go_wp2_with (go_at_call 73; refine (isPlain_any s[k] _).mono ?_; rintro e w1 ⟨rfl, rfl⟩; rw [HP.out])
        obtain ⟨x, hxe⟩ : ∃ x : Nat, s[k].toNat = x := ⟨_, rfl⟩
        obtain ⟨q, hq⟩ : ∃ q : Nat, q = x / 16 := ⟨_, rfl⟩
        obtain ⟨r, hr⟩ : ∃ r : Nat, r = x % 16 := ⟨_, rfl⟩
        have hq16 : q < 16 := by omega
        have hr16 : r < 16 := by omega
        have g1 := digs_at q hq16
        have g2 := digs_at r hr16
        rw [hq, ← hxe, hd1, hxe, ← hq] at g1
        rw [hr, ← hxe, hd2, hxe, ← hr] at g2
        have k1 : (x : Int) / 16 = (q : Int) := by omega
        have k2 : (x : Int) / 2 ^ 4 = (q : Int) := by omega
        have k3 : bits BinOp.and IntKind.u8 (x : Int) 15 = (r : Int) := (u8_and15 (x := (x : Int)) (by omega) (by omega)).trans (by omega)
        clear hq hr hd1 hd2
        go_region_law (refine stepB rfl (.tmp 21) (.tmp 28) rfl w.heap.size _ L [92, d1, d2] w1.heap.size rfl rfl HO.out (news_alloc w1 (Lib.byteCells [92, d1, d2]) 5) (by simp; omega) (by have := hb.size; simp; omega) ?_; intro v2 w2 O2 b2)
        all_goals
          have B2 : Below w.heap.size w w2 := ((hb.alloc hb.size _).drew).trans b2
          go_wp2
          exact ⟨⟨k + 1, by omega, by go_num, by rw [STEP.out]; exact O2, B2⟩, by simp [intOf]; omega⟩
    · have hks : k = s.size := by omega
      subst hks
      have hl := qTo_len s s.size
      have STEP := hid (show quL s = qTo s s.size ++ [34] from rfl)
      obtain ⟨L, hL⟩ : ∃ L, qTo s s.size = L := ⟨_, rfl⟩
      rw [hL] at hown hl STEP
      have HO := hid (hown.alloc (.cells #[.int .u8 34] 5))
      clear hown hL
      go_wp2_with (at_builtin; go_must (refine wpList_append_own _ rfl _ _ 54 rfl w.heap.size 5 i0 (.int .u8 0) 1 1 Tryz.underlying54 hi0 hz0 hz1 hz2 rfl (by decide) _ _ _ rfl HO.out ⟨wr.heap.size, 0, none⟩ 1 1 (Lib.byteCells [34]) rfl rfl (news_alloc wr _ 5) (by simp [Lib.byteCells, Value.oneCell']) (by unfold maxLen; omega) (by omega) (by have := hb.size; simp; omega) ?_; intro v2 w2 hown2 hgrow2 _))
      have B2 := below_app (hb.alloc hb.size _) (Nat.le_refl _) (by have := hb.size; simp; omega) HO.out hgrow2
      have O2 : OwnB w2 w.heap.size v2 (L ++ [34]) := OwnB.app hown2
      have hcv := OwnB.conv O2 (by simp)
      rw [← STEP.out] at hcv
      clear hown2 hgrow2 O2 HO STEP
      rw [hcv]
      simp only [Result.andThen]
      rw [Oper.upon_value]
      go_wp2
      go_ret
      exact ⟨rfl, B2⟩
end Go.Proofs.YtkfbclopkgnacaaGreatDoor
namespace Go.Proofs.YtkfbclopkgnacaaGreatDoor
open Go.RowKit
theorem SL.mono {w : World} {base base' : Nat} {v : Value} {xs : List ByteArray} (h : SL w base v xs) (hb : base' ≤ base) : SL w base' v xs := by
  obtain ⟨g, cap, e1, e2, e⟩ := h
  exact ⟨g, cap, e1, Nat.le_trans hb e2, e⟩
theorem itoaS_any (n : Nat) (hn : (n : Int) ≤ 4611686018427387904) (w : World) (ht : Tab w) : Calls Tryz.prog 39 #[.int .i64 n] w fun e w' => e = .returned (.string (dS n)) ∧ Below w.heap.size w w' := itoa_any n hn w ht
theorem implQuoteS_any (s : ByteArray) (w : World) (hs : (s.size : Int) ≤ 1099511627776) : Calls Tryz.prog 42 #[.string s] w fun e w' => e = .returned (.string (quS s)) ∧ Below w.heap.size w w' := implQuote_any s w hs
def objImplRegG (o : Ob) (B : Nat) (vv : Nat) (bb : Nat) (vF : Value) (W : World) (i : Nat) (v : Value) (X : World) : Prop :=
  match i with
  | 0 => v = vF
  | 1 => v = .pointer (some ⟨B, 0, none⟩)
  | 2 => v = .string o.kind
  | 3 => v = .pointer (some ⟨B, 1, none⟩)
  | 4 => v = .string o.name
  | 5 => v = .pointer (some ⟨B, 2, none⟩)
  | 6 => v = .int .i64 vv
  | 7 => v = .string (dS vv)
  | 8 => v = .pointer (some ⟨B, 3, none⟩)
  | 9 => v = .int .i64 bb
  | 10 => v = .string (dS bb)
  | 11 => v = .pointer (some ⟨B, 5, none⟩)
  | 12 => v = .bool o.ending
  | 13 => v = .string (wrdS o.ending ⟨#[101, 110, 100, 105, 110, 103]⟩)
  | 14 => v = .pointer (some ⟨B, 4, none⟩)
  | 15 => v = .string o.text
  | 16 => v = .string (quS o.text)
  | 17 => SL X W.heap.size v [o.kind, o.name, dS vv, dS bb, wrdS o.ending ⟨#[101, 110, 100, 105, 110, 103]⟩, quS o.text]
  | _ => True
set_option maxRecDepth 100000 in
set_option maxHeartbeats 4000000 in
theorem objImplReg (p0 p1 p3 p5 p6 p25 p26 p27 p28 p29 p30 p31 : Value) (t0 : Nat → Value) (o : Ob) (B : Nat) (vv : Nat) (bb : Nat) (vF : Value) (W : World) (hB : B < W.heap.size) (hc0 : W.cell? ⟨B, 0, none⟩ = some (.string o.kind)) (hc1 : W.cell? ⟨B, 1, none⟩ = some (.string o.name)) (hc2 : W.cell? ⟨B, 2, none⟩ = some (.int .i64 vv)) (hc3 : W.cell? ⟨B, 3, none⟩ = some (.int .i64 bb)) (hc4 : W.cell? ⟨B, 4, none⟩ = some (.string o.text)) (hc5 : W.cell? ⟨B, 5, none⟩ = some (.bool o.ending)) (hv : (vv : Int) ≤ 1000000) (hbo : (bb : Int) ≤ 1000000) (zt : (o.text.size : Int) ≤ 1000000) (hT : Tab W) (F : Nat) (fs : List ByteArray) (hF : F ≤ W.heap.size) (hS : SL W F vF fs) (zf : (fs.length : Int) ≤ 1000) (Q : Exit → Act → World → Prop) (hQ : ∀ (t : Nat → Value) (v3 : Value) X, (SL X F v3 (fs ++ [o.kind, o.name, dS vv, dS bb, wrdS o.ending ⟨#[101, 110, 100, 105, 110, 103]⟩, quS o.text]) ∧ Below F W X ∧ ∀ k, k < W.heap.size → vF.ownBlock ≠ some k → X.heap[k]? = W.heap[k]?) → Q .normal ⟨#[p0, p1, vF, p3, .pointer (some ⟨B, 0, none⟩), p5, v3, t 0, t 1, t 2, t 3, t 4, t 5, t 6, t 7, t 8, t 9, t 10, t 11, t 12, t 13, t 14, t 15, t 16, t 17, v3, p26, p27, p28, p29, p30, p31], []⟩ X) :
    Code.wp Tryz.prog (Code.region 1 #[{ dst := some 7, op := Op.move (Operand.tmp 2), type := 32, pos := "l9_book_form.go:78", after := #[], guard := none }, { dst := some 8, op := Op.fieldAddr 38 (Operand.tmp 4) 0, type := 0, pos := "l9_book_form.go:78", after := #[], guard := none }, { dst := some 9, op := Op.load 9 (Operand.tmp 8), type := 9, pos := "l9_book_form.go:78", after := #[{ on := 1, ground := Ground.data }], guard := none }, { dst := some 10, op := Op.fieldAddr 38 (Operand.tmp 4) 1, type := 0, pos := "l9_book_form.go:78", after := #[], guard := none }, { dst := some 11, op := Op.load 9 (Operand.tmp 10), type := 9, pos := "l9_book_form.go:78", after := #[{ on := 3, ground := Ground.data }], guard := none }, { dst := some 12, op := Op.fieldAddr 38 (Operand.tmp 4) 2, type := 0, pos := "l9_book_form.go:78", after := #[], guard := none }, { dst := some 13, op := Op.load 3 (Operand.tmp 12), type := 3, pos := "l9_book_form.go:78", after := #[{ on := 5, ground := Ground.data }], guard := none }, { dst := some 14, op := Op.call { callee := Callee.value (Operand.func 39), args := #[Operand.tmp 13], argTypes := #[3] }, type := 9, pos := "l9_book_form.go:78", after := #[{ on := 6, ground := Ground.data }], guard := none }, { dst := some 15, op := Op.fieldAddr 38 (Operand.tmp 4) 3, type := 0, pos := "l9_book_form.go:78", after := #[], guard := none }, { dst := some 16, op := Op.load 3 (Operand.tmp 15), type := 3, pos := "l9_book_form.go:78", after := #[{ on := 8, ground := Ground.data }], guard := none }, { dst := some 17, op := Op.call { callee := Callee.value (Operand.func 39), args := #[Operand.tmp 16], argTypes := #[3] }, type := 9, pos := "l9_book_form.go:78", after := #[{ on := 9, ground := Ground.data }, { on := 7, ground := Ground.chain }], guard := none }, { dst := some 18, op := Op.fieldAddr 38 (Operand.tmp 4) 5, type := 0, pos := "l9_book_form.go:78", after := #[], guard := none }, { dst := some 19, op := Op.load 4 (Operand.tmp 18), type := 4, pos := "l9_book_form.go:78", after := #[{ on := 11, ground := Ground.data }], guard := none }, { dst := some 20, op := Op.call { callee := Callee.value (Operand.func 41), args := #[Operand.tmp 19, Operand.const (Value.string { data := #[101, 110, 100, 105, 110, 103] })], argTypes := #[4, 9] }, type := 9, pos := "l9_book_form.go:78", after := #[{ on := 12, ground := Ground.data }, { on := 10, ground := Ground.chain }], guard := none }, { dst := some 21, op := Op.fieldAddr 38 (Operand.tmp 4) 4, type := 0, pos := "l9_book_form.go:78", after := #[], guard := none }, { dst := some 22, op := Op.load 9 (Operand.tmp 21), type := 9, pos := "l9_book_form.go:78", after := #[{ on := 14, ground := Ground.data }], guard := none }, { dst := some 23, op := Op.call { callee := Callee.value (Operand.func 42), args := #[Operand.tmp 22], argTypes := #[9] }, type := 9, pos := "l9_book_form.go:78", after := #[{ on := 15, ground := Ground.data }, { on := 13, ground := Ground.chain }], guard := none }, { dst := some 24, op := Op.buildSlice 32 6 #[(0, Operand.tmp 9), (1, Operand.tmp 11), (2, Operand.tmp 14), (3, Operand.tmp 17), (4, Operand.tmp 20), (5, Operand.tmp 23)], type := 32, pos := "l9_book_form.go:78", after := #[{ on := 2, ground := Ground.data }, { on := 4, ground := Ground.data }, { on := 7, ground := Ground.data }, { on := 10, ground := Ground.data }, { on := 13, ground := Ground.data }, { on := 16, ground := Ground.data }], guard := none }, { dst := some 25, op := Op.call { callee := Callee.builtin Builtin.append, args := #[Operand.tmp 7, Operand.tmp 24], argTypes := #[32, 32] }, type := 32, pos := "l9_book_form.go:78", after := #[{ on := 0, ground := Ground.data }, { on := 17, ground := Ground.data }, { on := 16, ground := Ground.chain }], guard := none }, { dst := some 6, op := Op.assign (Operand.tmp 25), type := 32, pos := "l9_book_form.go:78", after := #[{ on := 18, ground := Ground.data }, { on := 18, ground := Ground.chain }, { on := 0, ground := Ground.phase }, { on := 1, ground := Ground.phase }, { on := 2, ground := Ground.phase }, { on := 3, ground := Ground.phase }, { on := 4, ground := Ground.phase }, { on := 5, ground := Ground.phase }, { on := 6, ground := Ground.phase }, { on := 7, ground := Ground.phase }, { on := 8, ground := Ground.phase }, { on := 9, ground := Ground.phase }, { on := 10, ground := Ground.phase }, { on := 11, ground := Ground.phase }, { on := 12, ground := Ground.phase }, { on := 13, ground := Ground.phase }, { on := 14, ground := Ground.phase }, { on := 15, ground := Ground.phase }, { on := 16, ground := Ground.phase }, { on := 17, ground := Ground.phase }, { on := 18, ground := Ground.phase }], guard := none }] true) Q ⟨#[p0, p1, vF, p3, .pointer (some ⟨B, 0, none⟩), p5, p6, t0 0, t0 1, t0 2, t0 3, t0 4, t0 5, t0 6, t0 7, t0 8, t0 9, t0 10, t0 11, t0 12, t0 13, t0 14, t0 15, t0 16, t0 17, p25, p26, p27, p28, p29, p30, p31], []⟩ W := by
  refine regionK (by kernel_rfl) 18 (fun t : Nat → Value => #[p0, p1, vF, p3, .pointer (some ⟨B, 0, none⟩), p5, p6, t 0, t 1, t 2, t 3, t 4, t 5, t 6, t 7, t 8, t 9, t 10, t 11, t 12, t 13, t 14, t 15, t 16, t 17, p25, p26, p27, p28, p29, p30, p31]) t0 (objImplRegG o B vv bb vF W) (fun a X => ∃ (t : Nat → Value) (v3 : Value), a = ⟨#[p0, p1, vF, p3, .pointer (some ⟨B, 0, none⟩), p5, p6, t 0, t 1, t 2, t 3, t 4, t 5, t 6, t 7, t 8, t 9, t 10, t 11, t 12, t 13, t 14, t 15, t 16, t 17, v3, p26, p27, p28, p29, p30, p31], []⟩ ∧ (SL X F v3 (fs ++ [o.kind, o.name, dS vv, dS bb, wrdS o.ending ⟨#[101, 110, 100, 105, 110, 103]⟩, quS o.text]) ∧ Below F W X ∧ ∀ k, k < W.heap.size → vF.ownBlock ≠ some k → X.heap[k]? = W.heap[k]?)) (fun a X => ∃ (t : Nat → Value) (v3 : Value), a = ⟨#[p0, p1, vF, p3, .pointer (some ⟨B, 0, none⟩), p5, v3, t 0, t 1, t 2, t 3, t 4, t 5, t 6, t 7, t 8, t 9, t 10, t 11, t 12, t 13, t 14, t 15, t 16, t 17, v3, p26, p27, p28, p29, p30, p31], []⟩ ∧ (SL X F v3 (fs ++ [o.kind, o.name, dS vv, dS bb, wrdS o.ending ⟨#[101, 110, 100, 105, 110, 103]⟩, quS o.text]) ∧ Below F W X ∧ ∀ k, k < W.heap.size → vF.ownBlock ≠ some k → X.heap[k]? = W.heap[k]?)) (by kernel_rfl) (by kernel_rfl) (by kernel_rfl) (by kernel_rfl) ?_ rfl ?_ ?_ ?_ ?_
  · intro i v X Y hi h hb
    rcases (show i = 0 ∨ i = 1 ∨ i = 2 ∨ i = 3 ∨ i = 4 ∨ i = 5 ∨ i = 6 ∨ i = 7 ∨ i = 8 ∨ i = 9 ∨ i = 10 ∨ i = 11 ∨ i = 12 ∨ i = 13 ∨ i = 14 ∨ i = 15 ∨ i = 16 ∨ i = 17 by omega) with rfl | rfl | rfl | rfl | rfl | rfl | rfl | rfl | rfl | rfl | rfl | rfl | rfl | rfl | rfl | rfl | rfl | rfl
    · exact h
    · exact h
    · exact h
    · exact h
    · exact h
    · exact h
    · exact h
    · exact h
    · exact h
    · exact h
    · exact h
    · exact h
    · exact h
    · exact h
    · exact h
    · exact h
    · exact h
    · exact h.grow hb (Nat.le_refl _)
  · intro i hi t X K hb hg hK
    rcases (show i = 0 ∨ i = 1 ∨ i = 2 ∨ i = 3 ∨ i = 4 ∨ i = 5 ∨ i = 6 ∨ i = 7 ∨ i = 8 ∨ i = 9 ∨ i = 10 ∨ i = 11 ∨ i = 12 ∨ i = 13 ∨ i = 14 ∨ i = 15 ∨ i = 16 ∨ i = 17 by omega) with rfl | rfl | rfl | rfl | rfl | rfl | rfl | rfl | rfl | rfl | rfl | rfl | rfl | rfl | rfl | rfl | rfl | rfl
    · have h := hK (vF) X rfl (Below.refl _ _)
      refine wpOp_of rfl rfl ?_
      clear hK hg
      go_simp
      simpa [updT] using h
    · have h := hK (.pointer (some ⟨B, 0, none⟩)) X rfl (Below.refl _ _)
      refine wpOp_of rfl rfl ?_
      clear hK hg
      go_simp
      simpa [updT] using h
    · have e1 : t 1 = .pointer (some ⟨B, 0, none⟩) := hg 1 ⟨_, rfl, ⟨1, .data⟩, by simp, rfl, rfl⟩
      have q := (hb.cell (p := ⟨B, 0, none⟩) hB).trans hc0
      have h := hK (.string o.kind) X rfl (Below.refl _ _)
      refine wpOp_of rfl rfl ?_
      clear hK hg
      go_simp
      simpa [updT, e1] using h
    · have h := hK (.pointer (some ⟨B, 1, none⟩)) X rfl (Below.refl _ _)
      refine wpOp_of rfl rfl ?_
      clear hK hg
      go_simp
      simpa [updT] using h
    · have e3 : t 3 = .pointer (some ⟨B, 1, none⟩) := hg 3 ⟨_, rfl, ⟨3, .data⟩, by simp, rfl, rfl⟩
      have q := (hb.cell (p := ⟨B, 1, none⟩) hB).trans hc1
      have h := hK (.string o.name) X rfl (Below.refl _ _)
      refine wpOp_of rfl rfl ?_
      clear hK hg
      go_simp
      simpa [updT, e3] using h
    · have h := hK (.pointer (some ⟨B, 2, none⟩)) X rfl (Below.refl _ _)
      refine wpOp_of rfl rfl ?_
      clear hK hg
      go_simp
      simpa [updT] using h
    · have e5 : t 5 = .pointer (some ⟨B, 2, none⟩) := hg 5 ⟨_, rfl, ⟨5, .data⟩, by simp, rfl, rfl⟩
      have q := (hb.cell (p := ⟨B, 2, none⟩) hB).trans hc2
      have h := hK (.int .i64 vv) X rfl (Below.refl _ _)
      refine wpOp_of rfl rfl ?_
      clear hK hg
      go_simp
      simpa [updT, e5] using h
    · have e6 : t 6 = .int .i64 vv := hg 6 ⟨_, rfl, ⟨6, .data⟩, by simp, rfl, rfl⟩
      refine wpOp_of rfl rfl ?_
      have HK := hid hK
      clear hK hg
      go_simp
      go_at_call 39
      refine (itoaS_any vv (by omega) X (hT.below hb)).mono ?_
      rintro r Y ⟨rfl, hbY⟩
      have h := HK.out (.string (dS vv)) Y rfl hbY
      simpa [updT, e6] using h
    · have h := hK (.pointer (some ⟨B, 3, none⟩)) X rfl (Below.refl _ _)
      refine wpOp_of rfl rfl ?_
      clear hK hg
      go_simp
      simpa [updT] using h
    · have e8 : t 8 = .pointer (some ⟨B, 3, none⟩) := hg 8 ⟨_, rfl, ⟨8, .data⟩, by simp, rfl, rfl⟩
      have q := (hb.cell (p := ⟨B, 3, none⟩) hB).trans hc3
      have h := hK (.int .i64 bb) X rfl (Below.refl _ _)
      refine wpOp_of rfl rfl ?_
      clear hK hg
      go_simp
      simpa [updT, e8] using h
    · have e9 : t 9 = .int .i64 bb := hg 9 ⟨_, rfl, ⟨9, .data⟩, by simp, rfl, rfl⟩
      refine wpOp_of rfl rfl ?_
      have HK := hid hK
      clear hK hg
      go_simp
      go_at_call 39
      refine (itoaS_any bb (by omega) X (hT.below hb)).mono ?_
      rintro r Y ⟨rfl, hbY⟩
      have h := HK.out (.string (dS bb)) Y rfl hbY
      simpa [updT, e9] using h
    · have h := hK (.pointer (some ⟨B, 5, none⟩)) X rfl (Below.refl _ _)
      refine wpOp_of rfl rfl ?_
      clear hK hg
      go_simp
      simpa [updT] using h
    · have e11 : t 11 = .pointer (some ⟨B, 5, none⟩) := hg 11 ⟨_, rfl, ⟨11, .data⟩, by simp, rfl, rfl⟩
      have q := (hb.cell (p := ⟨B, 5, none⟩) hB).trans hc5
      have h := hK (.bool o.ending) X rfl (Below.refl _ _)
      refine wpOp_of rfl rfl ?_
      clear hK hg
      go_simp
      simpa [updT, e11] using h
    · have e12 : t 12 = .bool o.ending := hg 12 ⟨_, rfl, ⟨12, .data⟩, by simp, rfl, rfl⟩
      refine wpOp_of rfl rfl ?_
      have HK := hid hK
      clear hK hg
      go_simp
      go_at_call 41
      refine (wordIf_any o.ending _ X).mono ?_
      rintro r Y ⟨rfl, rfl⟩
      have h := HK.out (.string (wrdS o.ending ⟨#[101, 110, 100, 105, 110, 103]⟩)) Y rfl (Below.refl _ _)
      simpa [updT, e12] using h
    · have h := hK (.pointer (some ⟨B, 4, none⟩)) X rfl (Below.refl _ _)
      refine wpOp_of rfl rfl ?_
      clear hK hg
      go_simp
      simpa [updT] using h
    · have e14 : t 14 = .pointer (some ⟨B, 4, none⟩) := hg 14 ⟨_, rfl, ⟨14, .data⟩, by simp, rfl, rfl⟩
      have q := (hb.cell (p := ⟨B, 4, none⟩) hB).trans hc4
      have h := hK (.string o.text) X rfl (Below.refl _ _)
      refine wpOp_of rfl rfl ?_
      clear hK hg
      go_simp
      simpa [updT, e14] using h
    · have e15 : t 15 = .string o.text := hg 15 ⟨_, rfl, ⟨15, .data⟩, by simp, rfl, rfl⟩
      refine wpOp_of rfl rfl ?_
      have HK := hid hK
      clear hK hg
      go_simp
      go_at_call 42
      refine (implQuoteS_any o.text X (by omega)).mono ?_
      rintro r Y ⟨rfl, hbY⟩
      have h := HK.out (.string (quS o.text)) Y rfl hbY
      simpa [updT, e15] using h
    · have e2 : t 2 = .string o.kind := hg 2 ⟨_, rfl, ⟨2, .data⟩, by simp, rfl, rfl⟩
      have e4 : t 4 = .string o.name := hg 4 ⟨_, rfl, ⟨4, .data⟩, by simp, rfl, rfl⟩
      have e7 : t 7 = .string (dS vv) := hg 7 ⟨_, rfl, ⟨7, .data⟩, by simp, rfl, rfl⟩
      have e10 : t 10 = .string (dS bb) := hg 10 ⟨_, rfl, ⟨10, .data⟩, by simp, rfl, rfl⟩
      have e13 : t 13 = .string (wrdS o.ending ⟨#[101, 110, 100, 105, 110, 103]⟩) := hg 13 ⟨_, rfl, ⟨13, .data⟩, by simp, rfl, rfl⟩
      have e16 : t 16 = .string (quS o.text) := hg 16 ⟨_, rfl, ⟨16, .data⟩, by simp, rfl, rfl⟩
      have h := hK (.slice (some ⟨X.heap.size, 0, none⟩) 6 6) (X.alloc (.cells (sCells [o.kind, o.name, dS vv, dS bb, wrdS o.ending ⟨#[101, 110, 100, 105, 110, 103]⟩, quS o.text]).toArray 9)) ((SL.new X [o.kind, o.name, dS vv, dS bb, wrdS o.ending ⟨#[101, 110, 100, 105, 110, 103]⟩, quS o.text]).mono hb.size) (below_alloc _ _)
      refine wpOp_of rfl rfl ?_
      clear hK hg
      go_simp
      simpa [updT, e2, e4, e7, e10, e13, e16, sCells] using h
  · intro t X K hb hg hK
    have e0 : t 0 = vF := hg 0 (by omega)
    have g17 : SL X W.heap.size (t 17) [o.kind, o.name, dS vv, dS bb, wrdS o.ending ⟨#[101, 110, 100, 105, 110, 103]⟩, quS o.text] := hg 17 (by omega)
    refine wpOp_of rfl rfl ?_
    refine operSL (.tmp 7) (.tmp 24) rfl F (t 0) (t 17) fs [o.kind, o.name, dS vv, dS bb, wrdS o.ending ⟨#[101, 110, 100, 105, 110, 103]⟩, quS o.text] rfl rfl (by rw [e0]; exact hS.grow hb (Nat.le_refl _)) g17.src (by simp; omega) (Nat.le_trans hF hb.size) (fun v2 w2 h1 h2 h3 => ?_)
    have h := hK ⟨#[p0, p1, vF, p3, .pointer (some ⟨B, 0, none⟩), p5, p6, t 0, t 1, t 2, t 3, t 4, t 5, t 6, t 7, t 8, t 9, t 10, t 11, t 12, t 13, t 14, t 15, t 16, t 17, v2, p26, p27, p28, p29, p30, p31], []⟩ w2 ⟨t, v2, rfl, h1, (hb.mono hF).trans h2, fun k hk hne => (h3 k (Nat.lt_of_lt_of_le hk hb.size) (by rw [e0]; exact hne)).trans (hb.block k hk)⟩
    exact h
  · rintro a X K ⟨t, v3, rfl, hp⟩ hK
    have h := hK ⟨#[p0, p1, vF, p3, .pointer (some ⟨B, 0, none⟩), p5, v3, t 0, t 1, t 2, t 3, t 4, t 5, t 6, t 7, t 8, t 9, t 10, t 11, t 12, t 13, t 14, t 15, t 16, t 17, v3, p26, p27, p28, p29, p30, p31], []⟩ X ⟨t, v3, rfl, hp⟩
    refine wpOp_of rfl rfl ?_
    clear hK
    go_simp
    exact h
  · rintro a X ⟨t, v3, rfl, hp⟩
    exact hQ t v3 X hp
end Go.Proofs.YtkfbclopkgnacaaGreatDoor
namespace Go.Proofs.YtkfbclopkgnacaaGreatDoor
open Go.RowKit
theorem SL.block {w : World} {base : Nat} {v : Value} {xs : List ByteArray} (h : SL w base v xs) {k : Nat} (hk : w.heap.size ≤ k) : v.ownBlock ≠ some k := by
  obtain ⟨g, cap, rfl, e2, e3, _⟩ := h
  intro e
  have : g = k := by simpa [Value.ownBlock] using e
  omega
set_option maxRecDepth 100000 in
set_option maxHeartbeats 2000000 in
theorem implObj_any (B b : Nat) (l : List UInt8) (o : Ob) (ov : ObV o) (ad : Option Addr) (cap : Nat) (vF : Value) (F : Nat) (f0 : ByteArray) (fs : List ByteArray) (w : World) (lo hi : Nat) (hW : ∀ w', Below F w w' → Wr B b l w') (hBF : B ≤ F) (hF : F ≤ w.heap.size) (hS : SL w F vF (f0 :: fs)) (hT : Tab w) (hc : StrsIn w lo hi ad o.hn o.hs) (hiF : hi ≤ F) (zf : fs.length ≤ 3) (zfs : ∀ s ∈ f0 :: fs, s.size ≤ 3000002) (hl : (l.length : Int) ≤ 600000000000) :
    Calls Tryz.prog 40 #[.pointer (some ⟨b, 0, none⟩), .agg #[.string o.kind, .string o.name, .int .i64 o.ver, .int .i64 o.born, .string o.text, .bool o.ending, .slice ad o.hn cap], vF] w fun e w' => e = .returned (.tuple #[]) ∧ Wr B b (l ++ (lineS ((f0 :: fs) ++ six o ++ hol o)).data.toList) w' ∧ Below B w w' := by
  have hev := ov.ev
  have heb := ov.eb
  obtain ⟨vv, hvv⟩ : ∃ vv : Nat, o.ver.toNat = vv := ⟨_, rfl⟩
  obtain ⟨bb, hbb⟩ : ∃ bb : Nat, o.born.toNat = bb := ⟨_, rfl⟩
  have hvl := ov.lv
  have hbl := ov.lb
  have zt := ov.sm.t
  have zh := ov.sm.h
  have E6 : Hid (six o = [o.kind, o.name, dS vv, dS bb, wrdS o.ending ⟨#[101, 110, 100, 105, 110, 103]⟩, quS o.text]) := by rw [← hvv, ← hbb]; exact hid rfl
  rw [hvv] at hev hvl
  rw [hbb] at heb hbl
  rw [hev, heb]
  have HOV := hid ov
  have HW := hid hW
  have HS := hid hS
  have HT := hid hT
  have HC := hid hc
  have HZ := hid zfs
  have hlen : (((joinL ((f0 :: fs) ++ six o ++ hol o)).length : Nat) : Int) ≤ 1000000000000 := by
    have h1 := joinL_len (m := 3000002) (a := f0) (xs := fs ++ six o ++ hol o) (by
      intro s hs
      have : s ∈ f0 :: fs ∨ s ∈ six o ++ hol o := by
        simp only [List.mem_cons, List.mem_append] at hs ⊢
        rcases hs with h | (h | h) | h
        · exact Or.inl (Or.inl h)
        · exact Or.inl (Or.inr h)
        · exact Or.inr (Or.inl h)
        · exact Or.inr (Or.inr h)
      rcases this with h | h
      · exact zfs s h
      · exact six_size ov s h)
    have h2 : (fs ++ six o ++ hol o).length ≤ 1010 := by
      simp [six, hol]
      omega
    have h3 : ((fs ++ six o ++ hol o).length + 1) * (3000002 + 1) ≤ 1011 * 3000003 := Nat.mul_le_mul (by omega) (by omega)
    have h4 : (f0 :: fs) ++ six o ++ hol o = f0 :: (fs ++ six o ++ hol o) := by simp
    rw [h4]
    omega
  have hN : ((((f0 :: fs) ++ six o ++ hol o).length : Nat) : Int) ≤ 1000000000 := by
    simp [six, hol]
    omega
  clear hev heb hvv hbb ov hW hS hT hc zfs
  go_enter Tryz.func40, Tryz.ntmps40
  go_wp2_with fail
  refine objImplReg _ _ _ _ _ _ _ _ _ _ _ _ (fun _ => undef) o w.heap.size vv bb vF _ (by simp) (by simp) (by simp) (by simp) (by simp) (by simp) (by simp) hvl hbl zt (HT.out.below (below_alloc _ _)) F (f0 :: fs) (by simp; omega) (HS.out.grow (below_alloc _ _) (Nat.le_refl _)) (by simp; omega) _ ?_
  rintro t v3 X ⟨h1, h2, h3⟩
  rw [← E6.out] at h1
  have p6 : X.cell? ⟨w.heap.size, 6, none⟩ = some (.slice ad o.hn cap) := (World.cell?_of_block (h3 w.heap.size (by simp) (HS.out.block (Nat.le_refl _)))).trans (by simp)
  have hX : Below F w X := ((below_alloc w _).mono hF).trans h2
  have zX := hX.size
  have HX1 := hid h1
  have HXC := hid (HC.out.below hX hiF)
  clear h1 h2 h3
  go_wp2_with (first
    | (at_builtin; go_must (refine wpListSL rfl _ _ rfl F _ _ ((f0 :: fs) ++ six o) (hol o) rfl rfl HX1.out (strs_src HXC.out) (by have := hN; simp at this ⊢; omega) (by omega) ?_; intro v4 Y k1 k2 k3))
    | (go_at_call 38; refine (line_any B b l F v4 ((f0 :: fs) ++ six o ++ hol o) _ (HW.out _ (hX.trans k2)) (by have := k2.size; omega) k1 hN hlen (by omega)).mono ?_; rintro e Z ⟨rfl, hz, hbz⟩))
  go_end0
  exact ⟨rfl, hz, ((hX.trans k2).mono hBF).trans hbz⟩
end Go.Proofs.YtkfbclopkgnacaaGreatDoor
