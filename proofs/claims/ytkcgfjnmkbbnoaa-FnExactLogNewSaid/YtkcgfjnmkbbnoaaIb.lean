import Derived.Test.YtkcgfjnmkbbnoaaIa
import Derived.Test.YtkcgfjnmkbbnoaaGe
namespace Go.Proofs.Ytkcgfjnmkbbnoaa
open Go.RowKit
theorem numOk_at {k n : Nat} (h : k < n) (hn : n ≤ 5) : numOk ((k : Int) + 1) n = true := by
  unfold numOk
  rw [inB_yes ⟨by omega, by omega⟩, inB_yes ⟨by omega, by omega⟩]
  rfl
theorem new_at (k n : Nat) (h : k < n) (hn : n ≤ 5) (w : World) : Calls Try.prog 20 #[.int .i64 ((k : Int) + 1), .int .i64 n] w fun e w' => e = .returned (rcZ ((k : Int) + 1) n true) ∧ Below w.heap.size w w' := by
  have := implNew_any ((k : Int) + 1) n w
  rw [newN, newO, numOk_at h hn] at this
  exact this
def nwReg7G (B : Nat) (g : Nat) (k : Nat) (n : Nat) (i : Nat) (v : Value) (_X : World) : Prop :=
  match i with
  | 0 => v = .pointer (some ⟨B, 0, none⟩)
  | 1 => v = .slice (some ⟨g, 0, none⟩) n n
  | 2 => v = .int .i64 k
  | 3 => v = .int .i64 k
  | 4 => v = .int .i64 ((k : Int) + 1)
  | 5 => v = .int .i64 n
  | 6 => v = rcZ ((k : Int) + 1) n true
  | 7 => v = .pointer (some ⟨g, k * 18, none⟩)
  | _ => True
set_option maxRecDepth 100000 in
set_option maxHeartbeats 4000000 in
theorem nwReg7 (p1 p2 p5 p6 p7 p8 p9 p10 p11 p12 p13 p14 p15 p16 p17 p18 p27 p28 : Value) (v0 v1 v2 v3 v4 v5 v6 v7 : Value) (B : Nat) (g : Nat) (k : Nat) (n : Nat) (W : World) (hkn : k < n) (hn5 : n ≤ 5) (hB : W.cell? ⟨B, 0, none⟩ = some (.slice (some ⟨g, 0, none⟩) n n)) (hBW : B < W.heap.size) (hgW : g < W.heap.size) (hth : W.there g (k * 18) 18) (Q : Exit → Act → World → Prop) (hQ : ∀ (t : Nat → Value) (_v3' : Value) X, (∃ Y, Below W.heap.size W Y ∧ X = Y.setCells g (k * 18) (rcL ((k : Int) + 1) n true)) → Q .normal ⟨#[(.int .i64 n), p1, p2, (.pointer (some ⟨B, 0, none⟩)), (.int .i64 k), p5, p6, p7, p8, p9, p10, p11, p12, p13, p14, p15, p16, p17, p18, t 0, t 1, t 2, t 3, t 4, t 5, t 6, t 7, p27, p28], []⟩ X) :
    Code.wp Try.prog (Code.region 7 #[{ dst := some 19, op := Op.fieldAddr 26 (Operand.tmp 3) 0, type := 0, pos := "l17_rec_world.go:52", after := #[], guard := none }, { dst := some 20, op := Op.load 22 (Operand.tmp 19), type := 22, pos := "l17_rec_world.go:52", after := #[{ on := 0, ground := Ground.data }], guard := none }, { dst := some 21, op := Op.move (Operand.tmp 4), type := 3, pos := "l17_rec_world.go:52", after := #[], guard := none }, { dst := some 22, op := Op.move (Operand.tmp 4), type := 3, pos := "l17_rec_world.go:52", after := #[], guard := none }, { dst := some 23, op := Op.binOp BinOp.add 3 (Operand.tmp 22) (Operand.const (Value.int IntKind.i64 1)) 3, type := 3, pos := "l17_rec_world.go:52", after := #[{ on := 3, ground := Ground.data }], guard := none }, { dst := some 24, op := Op.move (Operand.tmp 0), type := 3, pos := "l17_rec_world.go:52", after := #[], guard := none }, { dst := some 25, op := Op.call { callee := Callee.value (Operand.func 20), args := #[Operand.tmp 23, Operand.tmp 24], argTypes := #[3, 3] }, type := 47, pos := "l17_rec_world.go:52", after := #[{ on := 4, ground := Ground.data }, { on := 5, ground := Ground.data }], guard := none }, { dst := some 26, op := Op.indexAddr 22 (Operand.tmp 20) (Operand.tmp 21), type := 0, pos := "l17_rec_world.go:52", after := #[{ on := 1, ground := Ground.data }, { on := 2, ground := Ground.data }, { on := 0, ground := Ground.phase }, { on := 1, ground := Ground.phase }, { on := 2, ground := Ground.phase }, { on := 3, ground := Ground.phase }, { on := 4, ground := Ground.phase }, { on := 5, ground := Ground.phase }, { on := 6, ground := Ground.phase }], guard := none }, { dst := none, op := Op.store 47 (Operand.tmp 26) (Operand.tmp 25), type := 0, pos := "l17_rec_world.go:52", after := #[{ on := 7, ground := Ground.data }, { on := 6, ground := Ground.data }, { on := 6, ground := Ground.chain }, { on := 0, ground := Ground.phase }, { on := 1, ground := Ground.phase }, { on := 2, ground := Ground.phase }, { on := 3, ground := Ground.phase }, { on := 4, ground := Ground.phase }, { on := 5, ground := Ground.phase }, { on := 6, ground := Ground.phase }], guard := none }] true) Q ⟨#[(.int .i64 n), p1, p2, (.pointer (some ⟨B, 0, none⟩)), (.int .i64 k), p5, p6, p7, p8, p9, p10, p11, p12, p13, p14, p15, p16, p17, p18, v0, v1, v2, v3, v4, v5, v6, v7, p27, p28], []⟩ W := by
  refine regionJ (by kernel_rfl) 8 (fun t : Nat → Value => #[(.int .i64 n), p1, p2, (.pointer (some ⟨B, 0, none⟩)), (.int .i64 k), p5, p6, p7, p8, p9, p10, p11, p12, p13, p14, p15, p16, p17, p18, t 0, t 1, t 2, t 3, t 4, t 5, t 6, t 7, p27, p28]) (fun i => match i with | 0 => v0 | 1 => v1 | 2 => v2 | 3 => v3 | 4 => v4 | 5 => v5 | 6 => v6 | _ => v7) (nwReg7G B g k n) (fun a X => ∃ (t : Nat → Value) (v3' : Value), a = ⟨#[(.int .i64 n), p1, p2, (.pointer (some ⟨B, 0, none⟩)), (.int .i64 k), p5, p6, p7, p8, p9, p10, p11, p12, p13, p14, p15, p16, p17, p18, t 0, t 1, t 2, t 3, t 4, t 5, t 6, t 7, p27, p28], []⟩ ∧ (∃ Y, Below W.heap.size W Y ∧ X = Y.setCells g (k * 18) (rcL ((k : Int) + 1) n true))) (by kernel_rfl) (by kernel_rfl) (by kernel_rfl) ?_ rfl ?_ ?_ ?_
  · intro i v X Y hi h hb
    rcases (show i = 0 ∨ i = 1 ∨ i = 2 ∨ i = 3 ∨ i = 4 ∨ i = 5 ∨ i = 6 ∨ i = 7 by omega) with rfl | rfl | rfl | rfl | rfl | rfl | rfl | rfl
    · exact h
    · exact h
    · exact h
    · exact h
    · exact h
    · exact h
    · exact h
    · exact h
  · intro i hi t X K hb hg hK
    rcases (show i = 0 ∨ i = 1 ∨ i = 2 ∨ i = 3 ∨ i = 4 ∨ i = 5 ∨ i = 6 ∨ i = 7 by omega) with rfl | rfl | rfl | rfl | rfl | rfl | rfl | rfl
    · have h := hK (.pointer (some ⟨B, 0, none⟩)) X rfl (Below.refl _ _)
      refine wpOp_of rfl rfl ?_
      clear hK hg
      go_simp
      simpa [updT] using h
    · have e0 : t 0 = .pointer (some ⟨B, 0, none⟩) := hg 0 ⟨_, rfl, ⟨0, .data⟩, by simp, rfl, rfl⟩
      have c0 := (hb.cell (p := ⟨B, 0, none⟩) hBW).trans hB
      have h := hK (.slice (some ⟨g, 0, none⟩) n n) X rfl (Below.refl _ _)
      refine wpOp_of rfl rfl ?_
      clear hK hg
      go_simp
      simpa [updT, e0] using h
    · have h := hK (.int .i64 k) X rfl (Below.refl _ _)
      refine wpOp_of rfl rfl ?_
      clear hK hg
      go_simp
      simpa [updT] using h
    · have h := hK (.int .i64 k) X rfl (Below.refl _ _)
      refine wpOp_of rfl rfl ?_
      clear hK hg
      go_simp
      simpa [updT] using h
    · have e3 : t 3 = .int .i64 k := hg 3 ⟨_, rfl, ⟨3, .data⟩, by simp, rfl, rfl⟩
      have h := hK (.int .i64 ((k : Int) + 1)) X rfl (Below.refl _ _)
      refine wpOp_of rfl rfl ?_
      have hw : IntKind.i64.wrap ((k : Int) + 1) = (k : Int) + 1 := by rw [IntKind.wrap_i64]; omega
      clear hK hg
      go_simp
      simpa [updT, e3, hw] using h
    · have h := hK (.int .i64 n) X rfl (Below.refl _ _)
      refine wpOp_of rfl rfl ?_
      clear hK hg
      go_simp
      simpa [updT] using h
    · have e4 : t 4 = .int .i64 ((k : Int) + 1) := hg 4 ⟨_, rfl, ⟨4, .data⟩, by simp, rfl, rfl⟩
      have e5 : t 5 = .int .i64 n := hg 5 ⟨_, rfl, ⟨5, .data⟩, by simp, rfl, rfl⟩
      refine wpOp_of rfl rfl ?_
      have HK := hid hK
      clear hK hg
      go_simp
      go_at_call 20
      refine ((new_at k n hkn hn5 X)).mono ?_
      rintro r Y ⟨rfl, hbY⟩
      have h := HK.out (rcZ ((k : Int) + 1) n true) Y rfl hbY
      simpa [updT, e4, e5] using h
    · have e1 : t 1 = .slice (some ⟨g, 0, none⟩) n n := hg 1 ⟨_, rfl, ⟨1, .data⟩, by simp, rfl, rfl⟩
      have e2 : t 2 = .int .i64 k := hg 2 ⟨_, rfl, ⟨2, .data⟩, by simp, rfl, rfl⟩
      have h := hK (.pointer (some ⟨g, k * 18, none⟩)) X rfl (Below.refl _ _)
      refine wpOp_of rfl rfl ?_
      clear hK hg
      go_simp
      simpa [updT, e1, e2] using h
  · intro t X K hb hg hK
    have e6 : t 6 = rcZ ((k : Int) + 1) n true := hg 6 (by omega)
    have e7 : t 7 = .pointer (some ⟨g, k * 18, none⟩) := hg 7 (by omega)
    refine wpOp_of rfl rfl ?_
    refine wp_store_mid 47 _ _ rfl g (k * 18) (rcL ((k : Int) + 1) n true).toArray (by exact e7) (by exact e6) (fun j hj => ?_) rcs_sz58 (by simp [Value.oneCell']) ?_
    · have hj' : j < 18 := hj
      obtain ⟨h1, h2⟩ := hth j hj'
      exact ⟨by rw [hb.cell (p := ⟨g, k * 18 + j, none⟩) hgW]; exact h1, (hb.frozen (p := ⟨g, k * 18 + j, none⟩) hgW).trans h2⟩
    · have h := hK _ _ ⟨t, .tuple #[], rfl, X, hb, rfl⟩
      exact h
  · rintro a X ⟨t, v3', rfl, hp⟩
    exact hQ t v3' X hp
def zrw : Value := .agg #[.slice none 0 0, .slice none 0 0, .slice none 0 0]
set_option maxRecDepth 100000 in
set_option maxHeartbeats 4000000 in
theorem newWorldNo_any (a : Int) (w : World) (h : inB a 1 5 = false) : Calls Try.prog 10 #[.int .i64 a] w fun e w' => e = .returned zrw ∧ Below w.heap.size w w' := by
  have hno : numOk a a = false := by unfold numOk; rw [h]; rfl
  go_enter Try.func10, Try.ntmps10
  go_wp2_with (go_at_call 19; go_must (refine (isNumber_any a a _).mono ?_; rintro e w1 ⟨rfl, h0⟩; rw [h0, hno]; clear h0 w1))
  refine bodyPost_ret (v := zrw) (by simp [results, Try.results10, go_sem, zrw]) rfl ⟨rfl, ?_⟩
  exact below_alloc _ _
/-- n new recorders in block g, and room for all -/
structure NwRow (w : World) (g k n : Nat) : Prop where
  room : Room w g (n * 18)
  at_ : ∀ i, i < k → w.rangeAt g (i * 18) (rcL ((i : Int) + 1) n true)
theorem NwRow.step {wr w1 : World} {g k n : Nat} (h : NwRow wr g k n) (hk : k < n) (hb : Below wr.heap.size wr w1) : NwRow (w1.setCells g (k * 18) (rcL ((k : Int) + 1) n true)) g (k + 1) n := by
  have hg := h.room.lt
  have hR := h.room.below hb hg
  have hin := World.cell?_setCells_in g (rcL ((k : Int) + 1) n true) (k * 18) w1 (fun j hj => by
    obtain ⟨u, hu⟩ := hR.has (k * 18 + j) (by have : (rcL ((k : Int) + 1) n true).length = 18 := rfl; omega)
    rw [hu]; rfl)
  refine ⟨hR.setCells _ (by have : (rcL ((k : Int) + 1) n true).length = 18 := rfl; omega), fun i hi' => ?_⟩
  by_cases e : i < k
  · have c1 := h.at_ i e
    intro j v hv
    have hj : j < 18 := (List.getElem?_eq_some_iff.1 hv).1
    rw [World.cell?_setCells_out g _ (k * 18) w1 _ (fun _ _ => Or.inl (by show i * 18 + j < k * 18; omega)), hb.cell (p := ⟨g, i * 18 + j, none⟩) hg]
    exact c1 j v hv
  · obtain rfl : i = k := by omega
    intro j v hv
    have hj := (List.getElem?_eq_some_iff.1 hv).1
    rw [hin j hj, ← List.getElem?_eq_getElem hj]
    exact hv
theorem NwRow.fr {w w' : World} {g k n lo hi : Nat} (h : NwRow w g k n) (hf : Fr lo hi w w') (ho : g < lo ∨ hi ≤ g) : NwRow w' g k n := by
  have hc : ∀ j, w'.cell? ⟨g, j, none⟩ = w.cell? ⟨g, j, none⟩ := fun j => hf.cell (p := ⟨g, j, none⟩) h.room.lt ho
  exact ⟨⟨fun j hj => by obtain ⟨u, hu⟩ := h.room.has j hj; exact ⟨u, (hc j).trans hu⟩, fun j => (hf.frozen (p := ⟨g, j, none⟩) h.room.lt ho).trans (h.room.free j), Nat.lt_of_lt_of_le h.room.lt hf.size⟩, fun i hi' => rangeAt_same (h.at_ i hi') hc⟩
set_option maxRecDepth 100000 in
set_option maxHeartbeats 8000000 in
theorem newWorldYes_any (n : Nat) (w : World) (h1 : 1 ≤ n) (h5 : n ≤ 5) : Calls Try.prog 10 #[.int .i64 n] w fun e w' => ∃ g, e = .returned (.agg #[.slice (some ⟨g, 0, none⟩) n n, .slice none 0 0, .slice none 0 0]) ∧ w.heap.size ≤ g ∧ NwRow w' g n n ∧ Below w.heap.size w w' := by
  have hok : numOk n n = true := by unfold numOk; rw [inB_yes ⟨by omega, by omega⟩, inB_yes ⟨by omega, by omega⟩]; rfl
  obtain ⟨i0, hi0, hz0, hz1, hz2⟩ := info_parts rcs_info58
  go_enter Try.func10, Try.ntmps10
  go_wp2_with (first | (go_at_call 19; go_must (refine (isNumber_any n n _).mono ?_; rintro e w1 ⟨rfl, h0⟩; rw [h0, hok]; clear h0 w1)) | (at_make; refine wpList_make_full _ rfl _ _ 22 rfl (w.heap.size + 1) 47 i0 _ 18 Try.underlying22 hi0 hz0 hz1 .i64 .i64 _ _ n rfl rfl (by omega) (by omega) (by rw [hz2]; omega) (by unfold maxLen; omega) (by simp) ?_; intro w1 hown1 hgrow1))
  simp only [World.size_alloc] at hown1
  have rm : Room w1 (w.heap.size + 1) (n * 18) := room_made hown1
  have hBa : Below (w.heap.size + 1) (w.alloc (.cells #[.slice none 0 0, .slice none 0 0, .slice none 0 0] 26)) w1 := (Below.refl _ _).grown hgrow1 (by simp) (by simp)
  have hg1 := rm.lt
  have hR1 : Holds w1 w.heap.size #[.slice none 0 0, .slice none 0 0, .slice none 0 0] := (holds_new w _ 26).below hBa (by omega)
  have fR1 : ∀ i, w1.frozen? ⟨w.heap.size, i, none⟩ = false := fun i => (hBa.frozen (p := ⟨w.heap.size, i, none⟩) (by show w.heap.size < _; omega)).trans (by simp)
  have hB1 : Below w.heap.size w w1 := (below_alloc _ _).trans (hBa.mono (by omega))
  obtain ⟨U, hU⟩ : ∃ U, w1.alloc (.cells #[.slice (some ⟨w.heap.size + 1, 0, none⟩) n n, .slice none 0 0, .slice none 0 0] 26) = U := ⟨_, rfl⟩
  have hUs : U.heap.size = w1.heap.size + 1 := by rw [← hU]; simp
  have b1U : Below w1.heap.size w1 U := by rw [← hU]; exact below_alloc _ _
  have hO : Holds U w1.heap.size #[.slice (some ⟨w.heap.size + 1, 0, none⟩) n n, .slice none 0 0, .slice none 0 0] := by rw [← hU]; exact holds_new _ _ _
  have hR : Holds U w.heap.size #[.slice none 0 0, .slice none 0 0, .slice none 0 0] := hR1.below b1U (by omega)
  have fR : ∀ i, U.frozen? ⟨w.heap.size, i, none⟩ = false := fun i => (b1U.frozen (p := ⟨w.heap.size, i, none⟩) (by show w.heap.size < _; omega)).trans (fR1 i)
  have rU : NwRow U (w.heap.size + 1) 0 n := ⟨rm.below b1U hg1, fun i h => absurd h (Nat.not_lt_zero _)⟩
  have hBU : Below w.heap.size w U := hB1.trans (b1U.mono (by omega))
  rw [hU]
  clear hU hown1 hgrow1 rm hBa hR1 fR1 hi0 hz0 hz1 hz2 hok
  have HO := hid hO
  have HR := hid hR
  clear hO hR
  go_loopw [16] (fun i wr => ∃ k : Nat, k ≤ n ∧ i = .int .i64 k ∧ NwRow wr (w.heap.size + 1) k n ∧ Fr (w.heap.size + 1) (w.heap.size + 2) U wr) (fun i _ => n - (intOf i).toNat)
  case atStart => exact ⟨0, Nat.zero_le _, rfl, rU, Fr.refl _ _ _⟩
  case round =>
    obtain ⟨k, hk, rfl, row, hf⟩ := hrel
    clear rU
    have zr := hf.size
    obtain ⟨o0, o1, o2⟩ := holds3 (HO.out.fr hf (by omega) (Or.inr (by omega)))
    obtain ⟨u0, u1, u2⟩ := holds3 (HR.out.fr hf (by omega) (Or.inl (by omega)))
    by_cases hkn : k < n
    · have HW := hid row
      have HF := hid hf
      have hth : wr.there (w.heap.size + 1) (k * 18) 18 := fun j hj => by
        obtain ⟨u, hu⟩ := row.room.has (k * 18 + j) (by omega)
        exact ⟨by rw [hu]; rfl, row.room.free _⟩
      clear row hf u0 u1 u2 o1 o2
      go_wp2
      refine nwReg7 _ _ _ _ _ _ _ _ _ _ _ _ _ _ _ _ _ _ _ _ _ _ _ _ _ _ w1.heap.size (w.heap.size + 1) k n wr hkn h5 o0 (by omega) (by omega) hth _ ?_
      rintro t v3' X ⟨Y, hbY, rfl⟩
      have R2 := hid (HW.out.step hkn hbY)
      have F2 := hid (HF.out.trans ((Fr.of_below hbY).trans ((fr_setCells (w.heap.size + 1) (rcL ((k : Int) + 1) n true) (k * 18) Y).widen (Nat.le_refl _) (by omega))))
      clear HW HF hth o0 hbY
      go_wp2
      go_roundw
      case rel => exact ⟨k + 1, by omega, by go_num, R2.out, F2.out⟩
      case measure => simp [intOf]; omega
    · obtain rfl : k = n := by omega
      have fr2 : ∀ i, wr.frozen? ⟨w.heap.size, i, none⟩ = false := fun i => (hf.frozen (p := ⟨w.heap.size, i, none⟩) (by show w.heap.size < _; omega) (Or.inl (by show w.heap.size < _; omega))).trans (fR i)
      have HW := hid row
      have hBr : Below w.heap.size w wr := hBU.trans (hf.below (by omega) (by omega))
      clear row hf
      go_wp2
      refine bodyPost_ret (v := .agg #[.slice (some ⟨w.heap.size + 1, 0, none⟩) k k, .slice none 0 0, .slice none 0 0]) (by simp [results, Try.results10, go_sem, u0, u1, u2]) rfl ⟨w.heap.size + 1, rfl, by omega, HW.out.fr (lo := w.heap.size) (hi := w.heap.size + 1) ?_ (Or.inr (Nat.le_refl _)), ?_⟩
      · iterate 3 refine Fr.setCell ?_ (by show w.heap.size ≤ w.heap.size; omega) (by show w.heap.size < w.heap.size + 1; omega) _
        exact Fr.refl _ _ _
      · refine hBr.trans (Fr.below (lo := w.heap.size) (hi := w.heap.size + 1) ?_ (Nat.le_refl _) hBr.size)
        iterate 3 refine Fr.setCell ?_ (by show w.heap.size ≤ w.heap.size; omega) (by show w.heap.size < w.heap.size + 1; omega) _
        exact Fr.refl _ _ _
end Go.Proofs.Ytkcgfjnmkbbnoaa
