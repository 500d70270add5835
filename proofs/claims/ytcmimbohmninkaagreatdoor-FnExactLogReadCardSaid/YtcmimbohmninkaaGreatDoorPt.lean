import Derived.Test.YtcmimbohmninkaaGreatDoorPs
namespace Go.Proofs.YtcmimbohmninkaaGreatDoor
open Go.RowKit
theorem told_sz {s cl : ByteArray} {nn : Int} {x : Wr} (h : Told s cl nn x) : 7 ≤ s.size := by
  have h2 : ∀ k, k < 7 → (rN s (k + 1)).size + 1 ≤ (rN s k).size := fun k hk => by
    have := h.lt k hk
    show (wR (rN s k)).size + 1 ≤ _
    unfold wR wS
    rw [if_pos this, ext_size _ _ _ (Nat.le_refl _)]
    omega
  have a0 := h2 0 (by omega)
  have a1 := h2 1 (by omega)
  have a2 := h2 2 (by omega)
  have a3 := h2 3 (by omega)
  have a4 := h2 4 (by omega)
  have a5 := h2 5 (by omega)
  have a6 := h2 6 (by omega)
  have e : rN s 0 = s := rfl
  rw [e] at a0
  simp only [Nat.reduceAdd] at a0 a1 a2 a3 a4 a5 a6
  omega
theorem split8_any (s : ByteArray) (hs : (s.size : Int) ≤ 1048576) (m : Int) (w : World) (h7 : w.cell? ⟨7, 0, none⟩ = some (.int .i64 m)) :
    Calls Tryz.prog 33 #[.string s, .string ⟨#[32]⟩, .int .i64 8] w fun e w' => ∃ (n cap : Nat) (pc : Nat → ByteArray), e = .returned (.slice (some ⟨w.heap.size, 0, none⟩) n cap) ∧ n < 9223372036854775807 ∧ (∀ j, j < n → w'.cell? ⟨w.heap.size, j, none⟩ = some (.string (pc j))) ∧ (∀ j, (pc j).size ≤ s.size) ∧ (∀ cl nn x, Told s cl nn x → n = 8 ∧ (∀ j, j < 7 → pc j = wH (rN s j)) ∧ pc 7 = rN s 7) ∧ w.heap.size < w'.heap.size ∧ Below w.heap.size w w' := by
  refine (Any.strings_SplitN (P := Tryz.prog) (ρ := Tryz.lays147_ren) Tryz.lays147 Tryz.info9 s ⟨#[32]⟩ 8 m w (by omega) h7 (by decide) (by omega) (by omega)).mono ?_
  rintro e w' ⟨rfl, rfl⟩
  have hln : ∀ (k : Nat) (u : ByteArray), (Lib.splitB ⟨#[32]⟩ 0 k u).length ≤ k + 1 := by
    intro k
    induction k with
    | zero => intro u; rw [Lib.splitB_zero]; simp
    | succ k ih =>
      intro u
      rcases Lib.indexB_cases u ⟨#[32]⟩ with e | ⟨i, e, _⟩
      · rw [Lib.splitB_miss _ _ _ _ e]; simp
      · rw [Lib.splitB_hit _ _ _ _ _ e, List.length_cons]
        have := ih (u.extract (i + (⟨#[32]⟩ : ByteArray).size) u.size)
        omega
  have hl8 := hln (min 8 (s.size + 1) - 1) s
  refine ⟨_, _, fun j => (Lib.splitB ⟨#[32]⟩ 0 (min 8 (s.size + 1) - 1) s).getD j ⟨#[]⟩, rfl, by omega, fun j hj => ?_, fun j => ?_, fun cl nn x ht => ?_, by rw [World.size_alloc]; omega, below_alloc _ _⟩
  · rw [World.cell?_alloc_new]
    unfold Lib.cellsOf
    rw [List.getElem?_toArray, List.getElem?_append_left (by rw [List.length_map]; exact hj), List.getElem?_map, List.getElem?_eq_getElem hj]
    simp [List.getD, List.getElem?_eq_getElem hj]
  · show ((Lib.splitB ⟨#[32]⟩ 0 (min 8 (s.size + 1) - 1) s).getD j ⟨#[]⟩).size ≤ s.size
    rw [List.getD_eq_getElem?_getD]
    cases h : (Lib.splitB ⟨#[32]⟩ 0 (min 8 (s.size + 1) - 1) s)[j]? with
    | none => exact Nat.zero_le _
    | some x => exact split_sizes _ _ _ _ (List.mem_of_getElem? h)
  · have h7s := told_sz ht
    have e := split_told s 7 0 (fun k _ hk => ht.lt k (by omega))
    rw [show min 8 (s.size + 1) - 1 = 7 by omega]
    rw [show rN s 0 = s from rfl] at e
    rw [e]
    refine ⟨by simp, fun j hj => ?_, by simp [List.getD]⟩
    rcases (show j = 0 ∨ j = 1 ∨ j = 2 ∨ j = 3 ∨ j = 4 ∨ j = 5 ∨ j = 6 by omega) with rfl | rfl | rfl | rfl | rfl | rfl | rfl <;> simp [List.getD, List.range_succ]
/-- the parts of a call, field by field -/
def tv (cl : ByteArray) (nn : Int) (x : Wr) (j : Nat) : Value := match j with
  | 0 => .string cl
  | 1 => .int .i64 nn
  | 2 => .int .i64 x.op
  | 3 => .string x.kind
  | 4 => .string x.name
  | 5 => .int .i64 x.seen
  | 6 => .string x.hold
  | _ => .string x.text
/-- what the parts are behind k fields -/
structure VS (s : ByteArray) (k : Nat) (val : Nat → Value) : Prop where
  num : ∀ j, j = 1 ∨ j = 2 ∨ j = 5 → ∃ n : Int, val j = .int .i64 n
  str : ∀ j, j = 0 ∨ j = 3 ∨ j = 4 ∨ j = 6 ∨ j = 7 → ∃ t : ByteArray, val j = .string t ∧ t.size ≤ s.size
  told : ∀ cl nn x, Told s cl nn x → ∀ j, j < k → val j = tv cl nn x j
  hold : k ≤ 6 → val 6 = .string ⟨#[]⟩
def updV (val : Nat → Value) (j : Nat) (v : Value) : Nat → Value := fun i => if i = j then v else val i
theorem updV_at (val : Nat → Value) (j : Nat) (v : Value) : updV val j v j = v := if_pos rfl
theorem updV_ne (val : Nat → Value) {i j : Nat} (v : Value) (h : i ≠ j) : updV val j v i = val i := if_neg h
theorem VS.setStr {s : ByteArray} {k : Nat} {val : Nat → Value} (h : VS s k val) (hk : k = 0 ∨ k = 3 ∨ k = 4 ∨ k = 6 ∨ k = 7) (t : ByteArray) (hz : t.size ≤ s.size) (ht : ∀ cl nn x, Told s cl nn x → .string t = tv cl nn x k) : VS s (k + 1) (updV val k (.string t)) := by
  refine ⟨fun j hj => ?_, fun j hj => ?_, fun cl nn x T j hj => ?_, fun h6 => ?_⟩
  · rw [updV_ne _ _ (by omega)]; exact h.num j hj
  · by_cases e : j = k
    · subst e; exact ⟨t, updV_at _ _ _, hz⟩
    · rw [updV_ne _ _ e]; exact h.str j hj
  · by_cases e : j = k
    · subst e; rw [updV_at]; exact ht cl nn x T
    · rw [updV_ne _ _ e]; exact h.told cl nn x T j (by omega)
  · rw [updV_ne _ _ (by omega)]; exact h.hold (by omega)
theorem VS.setNum {s : ByteArray} {k : Nat} {val : Nat → Value} (h : VS s k val) (hk : k = 1 ∨ k = 2 ∨ k = 5) (n : Int) (ht : ∀ cl nn x, Told s cl nn x → .int .i64 n = tv cl nn x k) : VS s (k + 1) (updV val k (.int .i64 n)) := by
  refine ⟨fun j hj => ?_, fun j hj => ?_, fun cl nn x T j hj => ?_, fun h6 => ?_⟩
  · by_cases e : j = k
    · subst e; exact ⟨n, updV_at _ _ _⟩
    · rw [updV_ne _ _ e]; exact h.num j hj
  · rw [updV_ne _ _ (by omega)]; exact h.str j hj
  · by_cases e : j = k
    · subst e; rw [updV_at]; exact ht cl nn x T
    · rw [updV_ne _ _ e]; exact h.told cl nn x T j (by omega)
  · rw [updV_ne _ _ (by omega)]; exact h.hold (by omega)
theorem VS.star {s : ByteArray} {val : Nat → Value} (h : VS s 6 val) (ht : ∀ cl nn x, Told s cl nn x → x.hold = ⟨#[]⟩) : VS s 7 val := by
  refine ⟨h.num, h.str, fun cl nn x T j hj => ?_, fun h6 => absurd h6 (by omega)⟩
  by_cases e : j = 6
  · subst e
    rw [h.hold (Nat.le_refl _)]
    show _ = Value.string x.hold
    rw [ht cl nn x T]
  · exact h.told cl nn x T j (by omega)
theorem prt_block (C R j : Nat) : (prt C R j).block = C ∨ (prt C R j).block = R := by
  unfold prt
  split <;> simp
theorem prt_ne (C R i j : Nat) (hC : C ≠ R) (hi : i < 8) (hj : j < 8) (h : i ≠ j) : prt C R i ≠ prt C R j := by
  have h1 : ∀ k, k < 8 → k = 0 ∨ k = 1 ∨ k = 2 ∨ k = 3 ∨ k = 4 ∨ k = 5 ∨ k = 6 ∨ k = 7 := fun k hk => by omega
  rcases h1 i hi with rfl | rfl | rfl | rfl | rfl | rfl | rfl | rfl <;> rcases h1 j hj with rfl | rfl | rfl | rfl | rfl | rfl | rfl | rfl <;> simp [prt] <;> first | omega | exact hC | exact fun e => hC e.symm
theorem prt_23 (C R j : Nat) (hC : C ≠ R) : prt C R j ≠ ⟨C, 2, none⟩ ∧ prt C R j ≠ ⟨C, 3, none⟩ := by
  unfold prt
  split <;> simp <;> exact ⟨fun e => absurd e.symm hC, fun e => absurd e.symm hC⟩
def z4L : List Value := [.string ⟨#[]⟩, .int .i64 0, .slice none 0 0, .slice none 0 0]
/-- where the reading of fields stands: the answer's box B, the call's C, the write's R, the fields' row g, the texts' row q -/
structure RfAt (W : World) (B C R g q : Nat) (pc : Nat → ByteArray) (val : Nat → Value) : Prop where
  zC : C < W.heap.size
  zR : R < W.heap.size
  CR : C ≠ R
  C9 : 9 < C
  R9 : 9 < R
  zg : g < W.heap.size ∧ g ≠ C ∧ g ≠ R
  fl : ∀ j, j < 8 → ∃ gj, W.cell? ⟨g, j * 2, none⟩ = some (.func (.func (wrt j)) #[] #[.pointer (some ⟨gj, 0, none⟩)]) ∧ W.cell? ⟨g, j * 2 + 1, none⟩ = some (.func (.func (rdt j)) #[] #[.pointer (some ⟨gj, 0, none⟩)]) ∧ gj < W.heap.size ∧ W.cell? ⟨gj, 0, none⟩ = some (.pointer (some (prt C R j))) ∧ gj ≠ C ∧ gj ≠ R
  zq : q < W.heap.size ∧ q ≠ C ∧ q ≠ R
  pcs : ∀ j, j < 8 → W.cell? ⟨q, j, none⟩ = some (.string (pc j))
  val : ∀ j, j < 8 → W.cell? (prt C R j) = some (val j) ∧ W.frozen? (prt C R j) = false
  rest : W.cell? ⟨C, 2, none⟩ = some (.slice none 0 0) ∧ W.cell? ⟨C, 3, none⟩ = some (.slice none 0 0) ∧ W.frozen? ⟨C, 3, none⟩ = false
  zB : B < W.heap.size ∧ B ≠ C ∧ B ≠ R
  bx : W.rangeAt B 0 z4L
  bt : W.there B 0 4
  er : Ers W
  e8 : ∃ e, W.cell? ⟨8, 0, none⟩ = some e ∧ ErrV e
  e9 : ∃ e, W.cell? ⟨9, 0, none⟩ = some e ∧ ErrV e
theorem RfAt.below {W W' : World} {B C R g q : Nat} {pc : Nat → ByteArray} {val : Nat → Value} (h : RfAt W B C R g q pc val) (hb : Below W.heap.size W W') : RfAt W' B C R g q pc val := by
  have hz := hb.size
  have c : ∀ (b o : Nat), b < W.heap.size → W'.cell? ⟨b, o, none⟩ = W.cell? ⟨b, o, none⟩ := fun b o hb' => hb.cell (p := ⟨b, o, none⟩) hb'
  have cp : ∀ p : Addr, p.block < W.heap.size → W'.cell? p = W.cell? p := fun p hp => hb.cell hp
  have fp : ∀ p : Addr, p.block < W.heap.size → W'.frozen? p = W.frozen? p := fun p hp => hb.frozen hp
  have pz : ∀ j, (prt C R j).block < W.heap.size := fun j => by
    rcases prt_block C R j with e | e <;> rw [e]
    · exact h.zC
    · exact h.zR
  refine ⟨Nat.lt_of_lt_of_le h.zC hz, Nat.lt_of_lt_of_le h.zR hz, h.CR, h.C9, h.R9, ⟨Nat.lt_of_lt_of_le h.zg.1 hz, h.zg.2⟩, fun j hj => ?_, ⟨Nat.lt_of_lt_of_le h.zq.1 hz, h.zq.2⟩, fun j hj => by rw [c _ _ h.zq.1]; exact h.pcs j hj, fun j hj => by rw [cp _ (pz j), fp _ (pz j)]; exact h.val j hj, ?_, ⟨Nat.lt_of_lt_of_le h.zB.1 hz, h.zB.2⟩, range_below h.bx hb h.zB.1, there_below h.bt hb h.zB.1, h.er.below hb, ?_, ?_⟩
  · obtain ⟨gj, h1, h2, h3, h4, h5⟩ := h.fl j hj
    exact ⟨gj, by rw [c _ _ h.zg.1]; exact h1, by rw [c _ _ h.zg.1]; exact h2, Nat.lt_of_lt_of_le h3 hz, by rw [c _ _ h3]; exact h4, h5⟩
  · rw [c _ _ h.zC, c _ _ h.zC, fp ⟨C, 3, none⟩ h.zC]; exact h.rest
  · obtain ⟨e, h1, h2⟩ := h.e8
    exact ⟨e, by rw [c _ _ (by have := h.C9; have := h.zC; omega)]; exact h1, h2⟩
  · obtain ⟨e, h1, h2⟩ := h.e9
    exact ⟨e, by rw [c _ _ (by have := h.C9; have := h.zC; omega)]; exact h1, h2⟩
theorem RfAt.set {W : World} {B C R g q : Nat} {pc : Nat → ByteArray} {val : Nat → Value} (h : RfAt W B C R g q pc val) (j : Nat) (hj : j < 8) (v : Value) : RfAt (W.setCell (prt C R j) v) B C R g q pc (updV val j v) := by
  have c : ∀ (b o : Nat), b ≠ C → b ≠ R → (W.setCell (prt C R j) v).cell? ⟨b, o, none⟩ = W.cell? ⟨b, o, none⟩ := fun b o h1 h2 => World.cell?_setCell_other _ _ _ _ (fun e => by
    rcases prt_block C R j with k | k
    · rw [e] at k; exact h1 k
    · rw [e] at k; exact h2 k)
  have c2 : ∀ p : Addr, prt C R j ≠ p → (W.setCell (prt C R j) v).cell? p = W.cell? p := fun p hp => World.cell?_setCell_other _ _ _ _ hp
  have hC9 := h.C9
  have hR9 := h.R9
  have z : (W.setCell (prt C R j) v).heap.size = W.heap.size := World.size_setCell _ _ _
  have f : ∀ p, (W.setCell (prt C R j) v).frozen? p = W.frozen? p := fun p => by simp
  refine ⟨by rw [z]; exact h.zC, by rw [z]; exact h.zR, h.CR, h.C9, h.R9, by rw [z]; exact h.zg, fun i hi => ?_, by rw [z]; exact h.zq, fun i hi => by rw [c _ _ h.zq.2.1 h.zq.2.2]; exact h.pcs i hi, fun i hi => ?_, ?_, by rw [z]; exact h.zB, fun i u hu => by rw [c _ _ h.zB.2.1 h.zB.2.2]; exact h.bx i u hu, fun i hi => by rw [c _ _ h.zB.2.1 h.zB.2.2, f]; exact h.bt i hi, fun i hi => ?_, ?_, ?_⟩
  · obtain ⟨gj, h1, h2, h3, h4, h5, h6⟩ := h.fl i hi
    exact ⟨gj, by rw [c _ _ h.zg.2.1 h.zg.2.2]; exact h1, by rw [c _ _ h.zg.2.1 h.zg.2.2]; exact h2, by rw [z]; exact h3, by rw [c _ _ h5 h6]; exact h4, h5, h6⟩
  · rw [f]
    by_cases e : i = j
    · subst e
      exact ⟨by rw [updV_at]; exact World.cell?_setCell_same _ _ _ (h.val i hi).1, (h.val i hi).2⟩
    · rw [updV_ne _ _ e, c2 _ (prt_ne C R j i h.CR hj hi (fun k => e k.symm))]
      exact h.val i hi
  · rw [c2 _ (prt_23 C R j h.CR).1, c2 _ (prt_23 C R j h.CR).2, f]; exact h.rest
  · obtain ⟨h1, t, u, h2⟩ := h.er i hi
    exact ⟨by rw [z]; exact h1, t, u, by rw [c _ _ (by omega) (by omega)]; exact h2⟩
  · obtain ⟨e, h1, h2⟩ := h.e8
    exact ⟨e, by rw [c _ _ (by omega) (by omega)]; exact h1, h2⟩
  · obtain ⟨e, h1, h2⟩ := h.e9
    exact ⟨e, by rw [c _ _ (by omega) (by omega)]; exact h1, h2⟩
/-- what the texts are where the whole is a form -/
def PcT (s : ByteArray) (pc : Nat → ByteArray) : Prop := (∀ j, (pc j).size ≤ s.size) ∧ ∀ cl nn x, Told s cl nn x → (∀ j, j < 7 → pc j = wH (rN s j)) ∧ pc 7 = rN s 7
/-- what one field's reading leaves -/
def PPk (s : ByteArray) (base : Nat) (w : World) (B C R g q : Nat) (pc : Nat → ByteArray) (k : Nat) (err : Value) (X : World) : Prop :=
  ErrV err ∧ ∃ val, RfAt X B C R g q pc val ∧ VS s (k + 1) val ∧ (∀ cl nn x, Told s cl nn x → err = .nilIface) ∧ Below base w X
theorem ErrV.ofErs {w : World} (h : Ers w) (g : Nat) (hg : g < 7) : ∃ e, w.cell? ⟨g, 0, none⟩ = some e ∧ ErrV e := by
  obtain ⟨_, t, v, h2⟩ := h g hg
  exact ⟨_, h2, .inr ⟨_, _, rfl⟩⟩
theorem read_field (s : ByteArray) (hs : (s.size : Int) ≤ 1048576) (base : Nat) (w : World) (B C R g q : Nat) (pc : Nat → ByteArray) (hpc : PcT s pc) (k : Nat) (hk : k < 8) (W : World) (val : Nat → Value) (hV : VS s k val) (h : RfAt W B C R g q pc val) (hbC : base ≤ C) (hbR : base ≤ R) (hB : Below base w W) (gk : Nat) (hgl : gk < W.heap.size) (hgc : W.cell? ⟨gk, 0, none⟩ = some (.pointer (some (prt C R k)))) :
    Calls Tryz.prog (rdt k) #[.string (pc k), .pointer (some ⟨gk, 0, none⟩)] W fun e X => ∃ err, e = .returned err ∧ PPk s base w B C R g q pc k err X := by
  have hv := h.val k hk
  have hbp : base ≤ (prt C R k).block := by rcases prt_block C R k with e | e <;> rw [e] <;> assumption
  have hz : base ≤ W.heap.size := by have := h.zC; omega
  have hf : ((pc k).size : Int) ≤ 1048576 := by have := hpc.1 k; omega
  have word : k = 0 ∨ k = 3 ∨ k = 4 → Calls Tryz.prog 51 #[.string (pc k), .pointer (some ⟨gk, 0, none⟩)] W fun e X => ∃ err, e = .returned err ∧ PPk s base w B C R g q pc k err X := by
    intro hkk
    refine (word2_any gk (prt C R k).block (prt C R k).off (pc k) (val k) W (by rcases hkk with rfl | rfl | rfl <;> exact hgc) (by rcases hkk with rfl | rfl | rfl <;> exact hv.1) (by rcases hkk with rfl | rfl | rfl <;> exact hv.2)).mono ?_
    rintro e X ⟨rfl, rfl⟩
    refine ⟨_, rfl, .inl rfl, updV val k (.string (pc k)), ?_, hV.setStr (by omega) _ (hpc.1 k) (fun cl nn x T => ?_), fun _ _ _ _ => rfl, ?_⟩
    · rcases hkk with rfl | rfl | rfl <;> exact h.set _ hk _
    · rw [(hpc.2 cl nn x T).1 k (by omega)]
      rcases hkk with rfl | rfl | rfl
      · rw [T.w0]; rfl
      · rw [T.w3]; rfl
      · rw [T.w4]; rfl
    · exact hB.setCell (p := ⟨(prt C R k).block, (prt C R k).off, none⟩) hbp _
  have number : k = 1 ∨ k = 2 ∨ k = 5 → Calls Tryz.prog 54 #[.string (pc k), .pointer (some ⟨gk, 0, none⟩)] W fun e X => ∃ err, e = .returned err ∧ PPk s base w B C R g q pc k err X := by
    intro hkk
    obtain ⟨e8, h8, v8⟩ := h.e8
    obtain ⟨e9, h9, v9⟩ := h.e9
    refine (number2_any gk (prt C R k).block (prt C R k).off (pc k) hf (val k) e8 e9 W h8 v8 h9 v9 hgl (by rcases prt_block C R k with e | e <;> rw [e]; exact h.zC; exact h.zR) (by rcases hkk with rfl | rfl | rfl <;> exact hgc) (by rcases hkk with rfl | rfl | rfl <;> exact hv.1) (by rcases hkk with rfl | rfl | rfl <;> exact hv.2)).mono ?_
    rintro e X ⟨v, err, w1, rfl, he, hm, hb, rfl⟩
    have T1 : ∀ cl nn x, Told s cl nn x → Value.int .i64 v = tv cl nn x k ∧ err = .nilIface := by
      intro cl nn x T
      have e1 := (hpc.2 cl nn x T).1 k (by omega)
      have a0 := T.n0
      have a1 := T.n1
      have a2 := T.o0
      have a3 := T.o1
      have a4 := T.s0
      have a5 := T.s1
      rcases hkk with rfl | rfl | rfl
      · obtain ⟨r1, r2⟩ := hm nn.toNat (by omega) (by rw [e1, T.w1])
        exact ⟨by rw [r1]; show Value.int .i64 _ = .int .i64 nn; congr 1; omega, r2⟩
      · obtain ⟨r1, r2⟩ := hm x.op.toNat (by omega) (by rw [e1, T.w2])
        exact ⟨by rw [r1]; show Value.int .i64 _ = .int .i64 x.op; congr 1; omega, r2⟩
      · obtain ⟨r1, r2⟩ := hm x.seen.toNat (by omega) (by rw [e1, T.w5])
        exact ⟨by rw [r1]; show Value.int .i64 _ = .int .i64 x.seen; congr 1; omega, r2⟩
    refine ⟨_, rfl, he, updV val k (.int .i64 v), ?_, hV.setNum (by omega) _ (fun cl nn x T => (T1 cl nn x T).1), fun cl nn x T => (T1 cl nn x T).2, ?_⟩
    · rcases hkk with rfl | rfl | rfl <;> exact (h.below hb).set _ hk _
    · exact (hB.trans (hb.mono hz)).setCell (p := ⟨(prt C R k).block, (prt C R k).off, none⟩) hbp _
  rcases (show k = 0 ∨ k = 1 ∨ k = 2 ∨ k = 3 ∨ k = 4 ∨ k = 5 ∨ k = 6 ∨ k = 7 by omega) with rfl | rfl | rfl | rfl | rfl | rfl | rfl | rfl
  · exact word (by omega)
  · exact number (by omega)
  · exact number (by omega)
  · exact word (by omega)
  · exact word (by omega)
  · exact number (by omega)
  · refine (hold2_any gk R 5 (pc 6) _ W hgc hv.1 hv.2).mono ?_
    rintro e X ⟨rfl, rfl⟩
    unfold hdW
    by_cases e : pc 6 = ⟨#[42]⟩
    · rw [if_pos e]
      refine ⟨_, rfl, .inl rfl, val, h, hV.star (fun cl nn x T => ?_), fun _ _ _ _ => rfl, hB⟩
      have e1 := (hpc.2 cl nn x T).1 6 (by omega)
      have e2 := hold_back (T.w6) T.ho
      rw [← e1, if_pos e] at e2
      exact e2.symm
    · rw [if_neg e]
      refine ⟨_, rfl, .inl rfl, updV val 6 (.string (pc 6)), h.set 6 hk _, hV.setStr (by omega) _ (hpc.1 6) (fun cl nn x T => ?_), fun _ _ _ _ => rfl, hB.setCell (p := ⟨R, 5, none⟩) hbR _⟩
      have e1 := (hpc.2 cl nn x T).1 6 (by omega)
      have e2 := hold_back (T.w6) T.ho
      rw [← e1, if_neg e] at e2
      show _ = Value.string x.hold
      rw [e2]
  · obtain ⟨e8, h8, v8⟩ := h.e8
    obtain ⟨e6, h6, v6⟩ := ErrV.ofErs h.er 6 (by omega)
    have hC9 := h.C9
    have hR9 := h.R9
    have hzC := h.zC
    refine (quoted2_any gk R 4 (pc 7) hf _ e6 e8 W h6 v6 h8 v8 (by omega) hgl h.zR (by omega) hgc hv.1 hv.2).mono ?_
    rintro e X ⟨r, err, w1, rfl, he, hr, hq, hb, rfl⟩
    have T1 : ∀ cl nn x, Told s cl nn x → Value.string r = tv cl nn x 7 ∧ err = .nilIface := by
      intro cl nn x T
      have e1 := (hpc.2 cl nn x T).2
      obtain ⟨r1, r2⟩ := hq x.text (by rw [e1, T.r7])
      exact ⟨by rw [r1]; rfl, r2⟩
    exact ⟨_, rfl, he, updV val 7 (.string r), (h.below hb).set 7 hk _, hV.setStr (by omega) _ (Nat.le_trans hr (hpc.1 7)) (fun cl nn x T => (T1 cl nn x T).1), fun cl nn x T => (T1 cl nn x T).2, (hB.trans (hb.mono hz)).setCell (p := ⟨R, 4, none⟩) hbR _⟩
end Go.Proofs.YtcmimbohmninkaaGreatDoor
