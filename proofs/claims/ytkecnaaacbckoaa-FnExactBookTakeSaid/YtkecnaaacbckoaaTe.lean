import Derived.Test.YtkecnaaacbckoaaTd
import Derived.Test.YtkecnaaacbckoaaTm
namespace Go.Proofs.Ytkecnaaacbckoaa
open Go.RowKit Go.Maps
def cellsE : List EO → List Value | [] => [] | e :: r => encE e ++ cellsE r
theorem encE_len (e : EO) : (encE e).length = 7 := rfl
theorem cellsE_len : ∀ L, (cellsE L).length = L.length * 7
  | [] => rfl
  | e :: r => by simp only [cellsE, List.length_append, encE_len, cellsE_len r, List.length_cons]; omega
theorem cellsE_append : ∀ K L, cellsE (K ++ L) = cellsE K ++ cellsE L
  | [], _ => rfl
  | e :: r, L => by simp only [List.cons_append, cellsE, cellsE_append r L, List.append_assoc]
theorem cellsE_one : ∀ L, ∀ u ∈ cellsE L, u.oneCell' = true
  | [], u, h => by cases h
  | e :: r, u, h => by
    rcases List.mem_append.1 h with h1 | h1
    · simp [encE] at h1
      rcases h1 with rfl | rfl | rfl | rfl | rfl | rfl | rfl <;> rfl
    · exact cellsE_one r u h1
theorem cellsE_at : ∀ (L : List EO) (i r : Nat), i < L.length → r < 7 → (cellsE L)[i * 7 + r]? = (encE (ixE L i))[r]?
  | [], i, _, h, _ => absurd h (Nat.not_lt_zero _)
  | e :: l, 0, r, _, hr => by
    rw [cellsE, List.getElem?_append_left (by rw [encE_len]; omega), Nat.zero_mul, Nat.zero_add]
    rfl
  | e :: l, i + 1, r, h, hr => by
    rw [cellsE, List.getElem?_append_right (by rw [encE_len]; omega), encE_len, show (i + 1) * 7 + r - 7 = i * 7 + r by omega, cellsE_at l i r (by simpa using h) hr]
    simp [ixE]
theorem RowE.cells {w : World} {g : Nat} {L : List EO} (h : RowE w g L) {t : Nat} {u : Value} (hu : (cellsE L)[t]? = some u) : w.cell? ⟨g, t, none⟩ = some u := by
  have ht : t < L.length * 7 := by
    have := (List.getElem?_eq_some_iff.1 hu).1
    rw [cellsE_len] at this
    exact this
  obtain ⟨q, r, hr, rfl⟩ : ∃ q r, r < 7 ∧ t = q * 7 + r := ⟨t / 7, t % 7, by omega, by omega⟩
  have hi : q < L.length := by omega
  obtain ⟨c0, c1, c2, c3, c4, c5, c6⟩ := h.ob q hi
  have hat := cellsE_at L q r hi hr
  rw [hu] at hat
  rcases (show r = 0 ∨ r = 1 ∨ r = 2 ∨ r = 3 ∨ r = 4 ∨ r = 5 ∨ r = 6 by omega) with rfl | rfl | rfl | rfl | rfl | rfl | rfl <;> simp only [encE, List.getElem?_cons_succ, List.getElem?_cons_zero] at hat <;> rw [hat]
  · exact c0
  · exact c1
  · exact c2
  · exact c3
  · exact c4
  · exact c5
  · exact c6
theorem rowE_own {w : World} {base g cap : Nat} {L : List EO} (h : w.ownsRow base 50 7 (.slice (some ⟨g, 0, none⟩) L.length cap) L.length (cellsE L)) (hg : g < w.heap.size) : RowE w g L :=
  ⟨hg, fun j => h.frozenAt j, fun i hi => by
    have hc : ∀ r, r < 7 → w.cell? ⟨g, i * 7 + r, none⟩ = (encE (ixE L i))[r]? := fun r hr => by
      rw [h.cellAt (i * 7 + r) (by omega), cellsE_at L i r hi hr]
    exact ⟨hc 0 (by decide), hc 1 (by decide), hc 2 (by decide), hc 3 (by decide), hc 4 (by decide), hc 5 (by decide), hc 6 (by decide)⟩⟩
/-- where a row stands -/
def RowS (w : World) (ad : Option Addr) (g cap : Nat) (L : List EO) : Prop := (ad = none ∧ L = [] ∧ cap = 0) ∨ (ad = some ⟨g, 0, none⟩ ∧ RowE w g L ∧ L.length ≤ cap)
theorem RowS.grow {w w' : World} {ad : Option Addr} {g cap : Nat} {L : List EO} (h : RowS w ad g cap L) (hf : Below w.heap.size w w') : RowS w' ad g cap L := by
  rcases h with h | ⟨h1, h2, h3⟩
  · exact Or.inl h
  · exact Or.inr ⟨h1, h2.grow hf, h3⟩
def tlA (ad : Option Addr) (g cap k : Nat) : Option Addr := if cap = k then ad else some ⟨g, k * 7, none⟩
def insG (ad : Option Addr) (g cap : Nat) (L : List EO) (k : Nat) (e : EO) (W : World) (i : Nat) (v : Value) (X : World) : Prop :=
  match i with
  | 0 => v = .slice ad L.length cap
  | 1 => v = .int .i64 k
  | 2 => v = .slice ad k cap
  | 3 => v = .agg #[.string e.ob.kind, .string e.ob.name, .int .i64 e.ob.ver, .int .i64 e.ob.born, .string e.ob.text, .bool e.ob.ending, .slice e.A e.ob.hn e.C]
  | 4 => ∃ b1, v = .slice (some ⟨b1, 0, none⟩) 1 1 ∧ b1 < X.heap.size ∧ Holds X b1 (obCells e.ob e.A e.C)
  | 5 => v = .slice ad L.length cap
  | 6 => v = .int .i64 k
  | 7 => v = .slice (tlA ad g cap k) (L.length - k) (cap - k)
  | 8 => ∃ b3 b1, v = .slice (some ⟨b3, 0, none⟩) 3 3 ∧ b3 < X.heap.size ∧ b1 < X.heap.size ∧ Holds X b1 (obCells e.ob e.A e.C) ∧ Holds X b3 #[.slice ad k cap, .slice (some ⟨b1, 0, none⟩) 1 1, .slice (tlA ad g cap k) (L.length - k) (cap - k)]
  | _ => ∃ g' cap', v = .slice (some ⟨g', 0, none⟩) (L.length + 1) cap' ∧ W.heap.size ≤ g' ∧ L.length + 1 ≤ cap' ∧ RowE X g' (L.take k ++ e :: L.drop k)
def insD (i j : Nat) : Prop := (i = 2 ∧ (j = 0 ∨ j = 1)) ∨ (i = 4 ∧ j = 3) ∨ (i = 7 ∧ (j = 5 ∨ j = 6)) ∨ (i = 8 ∧ (j = 2 ∨ j = 4 ∨ j = 7)) ∨ (i = 9 ∧ j = 8) ∨ (i = 10 ∧ j < 10)
theorem flat3 (f : Nat → List Value) : flatN f 3 = f 0 ++ f 1 ++ f 2 := by simp [flatN]
theorem sum3 (f : Nat → Nat) : sumTo f 3 = f 0 + f 1 + f 2 := by simp [sumTo]
set_option maxRecDepth 100000 in
set_option maxHeartbeats 2000000 in
theorem insReg (ad : Option Addr) (g cap : Nat) (L : List EO) (k : Nat) (e : EO) (bx : Nat) (W : World) (hst : RowS W ad g cap L) (hk : k ≤ L.length) (hl : (L.length : Int) ≤ 1099511627775) (hbx : Holds W bx (obCells e.ob e.A e.C)) (hb0 : bx < W.heap.size) (Q : Exit → Act → World → Prop)
    (hQ : ∀ (t : Nat → Value) v X, insG ad g cap L k e W 9 v X → Below W.heap.size W X → Q .normal ⟨#[.slice ad L.length cap, .int .i64 k, .agg #[.string e.ob.kind, .string e.ob.name, .int .i64 e.ob.ver, .int .i64 e.ob.born, .string e.ob.text, .bool e.ob.ending, .slice e.A e.ob.hn e.C], undef, undef, .pointer (some ⟨bx, 0, none⟩), v, t 0, t 1, t 2, t 3, t 4, t 5, t 6, t 7, t 8, t 9], []⟩ X) :
    Code.wp Try.prog (Code.region 1 #[{ dst := some 7, op := Op.move (Operand.tmp 0), type := 30, pos := "l2_book_write.go:258", after := #[], guard := none }, { dst := some 8, op := Op.move (Operand.tmp 1), type := 3, pos := "l2_book_write.go:258", after := #[], guard := none }, { dst := some 9, op := Op.slice 30 (Operand.tmp 7) none (some (Operand.tmp 8)) none, type := 30, pos := "l2_book_write.go:258", after := #[{ on := 0, ground := Ground.data }, { on := 1, ground := Ground.data }], guard := none }, { dst := some 10, op := Op.load 50 (Operand.tmp 5), type := 50, pos := "l2_book_write.go:258", after := #[], guard := none }, { dst := some 11, op := Op.buildSlice 30 1 #[(0, Operand.tmp 10)], type := 30, pos := "l2_book_write.go:258", after := #[{ on := 3, ground := Ground.data }], guard := none }, { dst := some 12, op := Op.move (Operand.tmp 0), type := 30, pos := "l2_book_write.go:258", after := #[], guard := none }, { dst := some 13, op := Op.move (Operand.tmp 1), type := 3, pos := "l2_book_write.go:258", after := #[], guard := none }, { dst := some 14, op := Op.slice 30 (Operand.tmp 12) (some (Operand.tmp 13)) none none, type := 30, pos := "l2_book_write.go:258", after := #[{ on := 5, ground := Ground.data }, { on := 6, ground := Ground.data }], guard := none }, { dst := some 15, op := Op.buildSlice 117 3 #[(0, Operand.tmp 9), (1, Operand.tmp 11), (2, Operand.tmp 14)], type := 117, pos := "l2_book_write.go:258", after := #[{ on := 2, ground := Ground.data }, { on := 4, ground := Ground.data }, { on := 7, ground := Ground.data }], guard := none }, { dst := some 16, op := Op.call { callee := Callee.value (Operand.func 75), args := #[Operand.tmp 15], argTypes := #[117] }, type := 30, pos := "l2_book_write.go:258", after := #[{ on := 8, ground := Ground.data }], guard := none }, { dst := some 6, op := Op.assign (Operand.tmp 16), type := 30, pos := "l2_book_write.go:258", after := #[{ on := 9, ground := Ground.data }, { on := 9, ground := Ground.chain }, { on := 0, ground := Ground.phase }, { on := 1, ground := Ground.phase }, { on := 2, ground := Ground.phase }, { on := 3, ground := Ground.phase }, { on := 4, ground := Ground.phase }, { on := 5, ground := Ground.phase }, { on := 6, ground := Ground.phase }, { on := 7, ground := Ground.phase }, { on := 8, ground := Ground.phase }, { on := 9, ground := Ground.phase }], guard := none }] true) Q ⟨#[.slice ad L.length cap, .int .i64 k, .agg #[.string e.ob.kind, .string e.ob.name, .int .i64 e.ob.ver, .int .i64 e.ob.born, .string e.ob.text, .bool e.ob.ending, .slice e.A e.ob.hn e.C], undef, undef, .pointer (some ⟨bx, 0, none⟩), .slice none 0 0, undef, undef, undef, undef, undef, undef, undef, undef, undef, undef], []⟩ W := by
  refine regionG (by kernel_rfl) 10 (fun t : Nat → Value => #[.slice ad L.length cap, .int .i64 k, .agg #[.string e.ob.kind, .string e.ob.name, .int .i64 e.ob.ver, .int .i64 e.ob.born, .string e.ob.text, .bool e.ob.ending, .slice e.A e.ob.hn e.C], undef, undef, .pointer (some ⟨bx, 0, none⟩), .slice none 0 0, t 0, t 1, t 2, t 3, t 4, t 5, t 6, t 7, t 8, t 9]) (insG ad g cap L k e W) insD (fun a X => ∃ (t : Nat → Value) (v : Value), a = ⟨#[.slice ad L.length cap, .int .i64 k, .agg #[.string e.ob.kind, .string e.ob.name, .int .i64 e.ob.ver, .int .i64 e.ob.born, .string e.ob.text, .bool e.ob.ending, .slice e.A e.ob.hn e.C], undef, undef, .pointer (some ⟨bx, 0, none⟩), v, t 0, t 1, t 2, t 3, t 4, t 5, t 6, t 7, t 8, t 9], []⟩ ∧ insG ad g cap L k e W 9 v X ∧ Below W.heap.size W X) rfl (by kernel_rfl) ?_ ?_ ?_ ?_ rfl ?_ ?_ ?_
  · intro i j h
    unfold insD at h
    omega
  · intro l i hr j hj
    obtain ⟨_, o, ho, hdep⟩ := mem_ready.1 hr
    rcases hj with ⟨rfl, rfl | rfl⟩ | ⟨rfl, rfl⟩ | ⟨rfl, rfl | rfl⟩ | ⟨rfl, rfl | rfl | rfl⟩ | ⟨rfl, rfl⟩ | ⟨rfl, hj⟩ <;> simp only [List.getElem?_toArray, List.getElem?_cons_succ, List.getElem?_cons_zero, Option.some.injEq] at ho <;> subst ho
    · exact hdep ⟨0, .data⟩ (by simp) rfl
    · exact hdep ⟨1, .data⟩ (by simp) rfl
    · exact hdep ⟨3, .data⟩ (by simp) rfl
    · exact hdep ⟨5, .data⟩ (by simp) rfl
    · exact hdep ⟨6, .data⟩ (by simp) rfl
    · exact hdep ⟨2, .data⟩ (by simp) rfl
    · exact hdep ⟨4, .data⟩ (by simp) rfl
    · exact hdep ⟨7, .data⟩ (by simp) rfl
    · exact hdep ⟨8, .data⟩ (by simp) rfl
    · rcases (show j = 0 ∨ j = 1 ∨ j = 2 ∨ j = 3 ∨ j = 4 ∨ j = 5 ∨ j = 6 ∨ j = 7 ∨ j = 8 ∨ j = 9 by omega) with rfl | rfl | rfl | rfl | rfl | rfl | rfl | rfl | rfl | rfl
      · exact hdep ⟨0, .phase⟩ (by simp) rfl
      · exact hdep ⟨1, .phase⟩ (by simp) rfl
      · exact hdep ⟨2, .phase⟩ (by simp) rfl
      · exact hdep ⟨3, .phase⟩ (by simp) rfl
      · exact hdep ⟨4, .phase⟩ (by simp) rfl
      · exact hdep ⟨5, .phase⟩ (by simp) rfl
      · exact hdep ⟨6, .phase⟩ (by simp) rfl
      · exact hdep ⟨7, .phase⟩ (by simp) rfl
      · exact hdep ⟨8, .phase⟩ (by simp) rfl
      · exact hdep ⟨9, .phase⟩ (by simp) rfl
  · intro f _ hf j hj
    exact hf j (by unfold insD; omega)
  · intro i v X Y h hb
    match i with
    | 0 => exact h
    | 1 => exact h
    | 2 => exact h
    | 3 => exact h
    | 4 =>
      obtain ⟨b1, e1, e2, e3⟩ := h
      exact ⟨b1, e1, Nat.lt_of_lt_of_le e2 hb.size, e3.below hb e2⟩
    | 5 => exact h
    | 6 => exact h
    | 7 => exact h
    | 8 =>
      obtain ⟨b3, b1, e1, e2, e3, e4, e5⟩ := h
      exact ⟨b3, b1, e1, Nat.lt_of_lt_of_le e2 hb.size, Nat.lt_of_lt_of_le e3 hb.size, e4.below hb e3, e5.below hb e2⟩
    | _ + 9 =>
      obtain ⟨g', cap', e1, e2, e3, e4⟩ := h
      exact ⟨g', cap', e1, e2, e3, e4.grow hb⟩
  · intro i hi t X K hb hg hK
    rcases (show i = 0 ∨ i = 1 ∨ i = 2 ∨ i = 3 ∨ i = 4 ∨ i = 5 ∨ i = 6 ∨ i = 7 ∨ i = 8 ∨ i = 9 by omega) with rfl | rfl | rfl | rfl | rfl | rfl | rfl | rfl | rfl | rfl
    · have h := hK (.slice ad L.length cap) X rfl (Below.refl _ _)
      refine wpOp_of rfl rfl ?_
      go_simp
      exact h
    · have h := hK (.int .i64 k) X rfl (Below.refl _ _)
      refine wpOp_of rfl rfl ?_
      go_simp
      exact h
    · have e0 : t 0 = .slice ad L.length cap := hg 0 (by unfold insD; omega)
      have e1 : t 1 = .int .i64 k := hg 1 (by unfold insD; omega)
      have h := hK (.slice ad k cap) X rfl (Below.refl _ _)
      refine wpOp_of rfl rfl ?_
      rcases hst with ⟨rfl, rfl, rfl⟩ | ⟨rfl, hr, hc⟩
      · obtain rfl : k = 0 := by simpa using hk
        go_simp
        simpa [updT, e0, e1] using h
      · have hkc : k ≤ cap := Nat.le_trans hk hc
        go_simp
        simpa [updT, e0, e1] using h
    · obtain ⟨q0, q1, q2, q3, q4, q5, q6⟩ := holds_ob (hbx.below hb hb0)
      have h := hK (.agg #[.string e.ob.kind, .string e.ob.name, .int .i64 e.ob.ver, .int .i64 e.ob.born, .string e.ob.text, .bool e.ob.ending, .slice e.A e.ob.hn e.C]) X rfl (Below.refl _ _)
      refine wpOp_of rfl rfl ?_
      go_simp
      exact h
    · have e3 : t 3 = .agg #[.string e.ob.kind, .string e.ob.name, .int .i64 e.ob.ver, .int .i64 e.ob.born, .string e.ob.text, .bool e.ob.ending, .slice e.A e.ob.hn e.C] := hg 3 (by unfold insD; omega)
      have h := hK (.slice (some ⟨X.heap.size, 0, none⟩) 1 1) (X.alloc (.cells (obCells e.ob e.A e.C) 50)) ⟨X.heap.size, rfl, by simp, holds_new X _ 50⟩ (below_alloc _ _)
      refine wpOp_of rfl rfl ?_
      go_simp
      simpa [updT, e3, obCells] using h
    · have h := hK (.slice ad L.length cap) X rfl (Below.refl _ _)
      refine wpOp_of rfl rfl ?_
      go_simp
      exact h
    · have h := hK (.int .i64 k) X rfl (Below.refl _ _)
      refine wpOp_of rfl rfl ?_
      go_simp
      exact h
    · have e0 : t 5 = .slice ad L.length cap := hg 5 (by unfold insD; omega)
      have e1 : t 6 = .int .i64 k := hg 6 (by unfold insD; omega)
      have h := hK (.slice (tlA ad g cap k) (L.length - k) (cap - k)) X rfl (Below.refl _ _)
      refine wpOp_of rfl rfl ?_
      unfold tlA at h
      rcases hst with ⟨rfl, rfl, rfl⟩ | ⟨rfl, hr, hc⟩
      · obtain rfl : k = 0 := by simpa using hk
        go_simp
        simpa [updT, e0, e1] using h
      · by_cases hck : cap = k
        · subst hck
          rw [if_pos rfl, show L.length - cap = 0 by omega, Nat.sub_self] at h
          go_simp
          simpa [updT, e0, e1] using h
        · rw [if_neg hck] at h
          go_simp
          simpa [updT, e0, e1] using h
    · have e2 : t 2 = .slice ad k cap := hg 2 (by unfold insD; omega)
      obtain ⟨b1, e4, z1, h1⟩ : ∃ b1, t 4 = .slice (some ⟨b1, 0, none⟩) 1 1 ∧ b1 < X.heap.size ∧ Holds X b1 (obCells e.ob e.A e.C) := hg 4 (by unfold insD; omega)
      have e7 : t 7 = .slice (tlA ad g cap k) (L.length - k) (cap - k) := hg 7 (by unfold insD; omega)
      have hB := below_alloc X (.cells #[.slice ad k cap, .slice (some ⟨b1, 0, none⟩) 1 1, .slice (tlA ad g cap k) (L.length - k) (cap - k)] 30)
      have h := hK (.slice (some ⟨X.heap.size, 0, none⟩) 3 3) _ ⟨X.heap.size, b1, rfl, by simp, Nat.lt_of_lt_of_le z1 hB.size, h1.below hB z1, holds_new X _ 30⟩ hB
      refine wpOp_of rfl rfl ?_
      go_simp
      simpa [updT, e2, e4, e7] using h
    · obtain ⟨b3, b1, e8, z3, z1, h1, h3⟩ : ∃ b3 b1, t 8 = .slice (some ⟨b3, 0, none⟩) 3 3 ∧ b3 < X.heap.size ∧ b1 < X.heap.size ∧ Holds X b1 (obCells e.ob e.A e.C) ∧ Holds X b3 #[.slice ad k cap, .slice (some ⟨b1, 0, none⟩) 1 1, .slice (tlA ad g cap k) (L.length - k) (cap - k)] := hg 8 (by unfold insD; omega)
      refine wpOp_of rfl rfl ?_
      have HK := hid hK
      have HST := hid (hst.grow hb)
      have H1 := hid h1
      have H3 := hid h3
      clear hK hg h1 h3
      go_simp
      go_at_call 75
      refine (concat_any 3 (fun j => match j with | 0 => ad | 1 => some ⟨b1, 0, none⟩ | _ => tlA ad g cap k) (fun j => match j with | 0 => k | 1 => 1 | _ => L.length - k) (fun j => match j with | 0 => cap | 1 => 1 | _ => cap - k) (fun j => match j with | 0 => cellsE (L.take k) | 1 => encE e | _ => cellsE (L.drop k)) b3 X z3 (by omega) (fun j hj => ?_) ⟨fun j hj => ?_, fun j hj => ?_, fun j hj => ?_⟩ (by rw [sum3]; show 0 < k + 1 + (L.length - k); omega) (by rw [sum3]; show ((k + 1 + (L.length - k) : Nat) : Int) ≤ 1099511627776; omega)).mono ?_
      · rcases (show j = 0 ∨ j = 1 ∨ j = 2 by omega) with rfl | rfl | rfl
        · exact H3.out 0
        · exact H3.out 1
        · exact H3.out 2
      · rcases (show j = 0 ∨ j = 1 ∨ j = 2 by omega) with rfl | rfl | rfl
        · show (cellsE (L.take k)).length = k * 7
          rw [cellsE_len, List.length_take, Nat.min_eq_left hk]
        · rfl
        · show (cellsE (L.drop k)).length = (L.length - k) * 7
          rw [cellsE_len, List.length_drop]
      · rcases (show j = 0 ∨ j = 1 ∨ j = 2 by omega) with rfl | rfl | rfl
        · exact cellsE_one _
        · intro u hu
          exact cellsE_one [e] u (by simpa [cellsE] using hu)
        · exact cellsE_one _
      · rcases (show j = 0 ∨ j = 1 ∨ j = 2 by omega) with rfl | rfl | rfl
        · rcases HST.out with ⟨rfl, rfl, rfl⟩ | ⟨rfl, hr, hc⟩
          · exact Or.inl ⟨rfl, by simpa using hk, rfl⟩
          · refine Or.inr ⟨g, 0, rfl, hr.lt, fun t u hu => ?_⟩
            rw [Nat.zero_add]
            refine hr.cells ?_
            have hu' : (cellsE (L.take k))[t]? = some u := hu
            rw [← List.take_append_drop k L, cellsE_append, List.getElem?_append_left (List.getElem?_eq_some_iff.1 hu').1]
            exact hu'
        · refine Or.inr ⟨b1, 0, rfl, z1, fun t u hu => ?_⟩
          rw [Nat.zero_add, H1.out t]
          have hu' : (encE e)[t]? = some u := hu
          rw [← hu']
          simp [obCells, encE]
        · rcases HST.out with ⟨rfl, rfl, rfl⟩ | ⟨rfl, hr, hc⟩
          · obtain rfl : k = 0 := by simpa using hk
            exact Or.inl ⟨rfl, rfl, rfl⟩
          · by_cases hck : cap = k
            · have hd : L.drop k = [] := List.drop_eq_nil_of_le (by omega)
              refine Or.inr ⟨g, 0, ?_, hr.lt, fun t u hu => ?_⟩
              · show tlA _ g cap k = _
                rw [tlA, if_pos hck]
              · have hu' : (cellsE (L.drop k))[t]? = some u := hu
                rw [hd] at hu'
                simp [cellsE] at hu'
            · refine Or.inr ⟨g, k * 7, ?_, hr.lt, fun t u hu => ?_⟩
              · show tlA _ g cap k = _
                rw [tlA, if_neg hck]
              · have hu' : (cellsE (L.drop k))[t]? = some u := hu
                refine hr.cells ?_
                rw [← List.take_append_drop k L, cellsE_append, List.getElem?_append_right (by rw [cellsE_len, List.length_take]; omega), cellsE_len, List.length_take, Nat.min_eq_left hk, Nat.add_sub_cancel_left]
                exact hu'
      · rintro r Y ⟨v, rfl, hown, hbY⟩
        have hlen : (L.take k ++ e :: L.drop k).length = L.length + 1 := by simp; omega
        have hs : k + 1 + (L.length - k) = L.length + 1 := by omega
        rw [sum3, flat3] at hown
        have hown2 : Y.ownsRow X.heap.size 50 7 v (L.take k ++ e :: L.drop k).length (cellsE (L.take k ++ e :: L.drop k)) := by
          rw [hlen, cellsE_append]
          have : cellsE (e :: L.drop k) = encE e ++ cellsE (L.drop k) := rfl
          rw [this, ← List.append_assoc, ← hs]
          exact hown
        have hh := hown2.2
        rcases hh with ⟨_, h0⟩ | ⟨g', cap', cur, rfl, hb', hheap, hle, _⟩
        · rw [hlen] at h0
          omega
        · have hg' : g' < Y.heap.size := (Array.getElem?_eq_some_iff.1 hheap).1
          have h := HK.out (.slice (some ⟨g', 0, none⟩) (L.length + 1) cap') Y ⟨g', cap', rfl, Nat.le_trans hb.size hb', by rw [← hlen]; exact hle, rowE_own hown2 hg'⟩ hbY
          rw [hlen]
          simpa [updT, e8] using h
  · intro t X K hb hg hK
    have h := hK ⟨#[.slice ad L.length cap, .int .i64 k, .agg #[.string e.ob.kind, .string e.ob.name, .int .i64 e.ob.ver, .int .i64 e.ob.born, .string e.ob.text, .bool e.ob.ending, .slice e.A e.ob.hn e.C], undef, undef, .pointer (some ⟨bx, 0, none⟩), t 9, t 0, t 1, t 2, t 3, t 4, t 5, t 6, t 7, t 8, t 9], []⟩ X ⟨t, t 9, rfl, hg 9 (by omega), hb⟩
    refine wpOp_of rfl rfl ?_
    go_simp
    exact h
  · rintro a X ⟨t, v, rfl, h1, h2⟩
    exact hQ t v X h1 h2
set_option maxRecDepth 100000 in
set_option maxHeartbeats 1000000 in
theorem insert_any (ad : Option Addr) (g cap : Nat) (L : List EO) (k : Nat) (e : EO) (w : World) (hst : RowS w ad g cap L) (hk : k ≤ L.length) (hl : (L.length : Int) ≤ 1099511627775) :
    Calls Try.prog 71 #[.slice ad L.length cap, .int .i64 k, .agg #[.string e.ob.kind, .string e.ob.name, .int .i64 e.ob.ver, .int .i64 e.ob.born, .string e.ob.text, .bool e.ob.ending, .slice e.A e.ob.hn e.C]] w fun r w' => ∃ g' cap', r = .returned (.slice (some ⟨g', 0, none⟩) (L.length + 1) cap') ∧ w.heap.size ≤ g' ∧ L.length + 1 ≤ cap' ∧ RowE w' g' (L.take k ++ e :: L.drop k) ∧ Below w.heap.size w w' := by
  have hB := below_alloc w (.cells (obCells e.ob e.A e.C) 50)
  have HST := hid (hst.grow hB)
  have HX := hid (holds_new w (obCells e.ob e.A e.C) 50)
  clear hst
  go_enter Try.func71, Try.ntmps71
  go_wp2
  refine insReg ad g cap L k e w.heap.size _ (by exact HST.out) hk hl (by exact HX.out) (by simp) _ ?_
  rintro t v X ⟨g', cap', rfl, z1, z2, hr⟩ hbX
  have HR := hid hr
  have z3 : w.heap.size ≤ g' := by simp at z1; omega
  have hBX : Below w.heap.size w X := hB.trans (hbX.mono (by simp))
  clear hr hbX
  go_wp2
  go_ret
  exact ⟨g', cap', rfl, z3, z2, HR.out, hBX⟩
end Go.Proofs.Ytkecnaaacbckoaa
