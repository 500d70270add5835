import Derived.Test.YtkbghbbaldjinaaGreatDoorFc
import Derived.Test.YtkbghbbaldjinaaGreatDoorG
namespace Go.Proofs.YtkbghbbaldjinaaGreatDoor
open Go.RowKit
/-- bytes of one's own, in a row that may be marked behind its end -/
def BL (w : World) (base : Nat) (v : Value) (l : List UInt8) : Prop :=
  ∃ g cap, v = .slice (some ⟨g, 0, none⟩) l.length cap ∧ base ≤ g ∧ g < w.heap.size ∧ l.length ≤ cap ∧ (∀ j, j < cap → (w.cell? ⟨g, j, none⟩).isSome = true ∧ w.frozen? ⟨g, j, none⟩ = false) ∧ (∀ j (h : j < l.length), w.cell? ⟨g, j, none⟩ = some (.int .u8 (l[j].toNat : Int)))
theorem BL.grow {w w' : World} {base : Nat} {v : Value} {l : List UInt8} (h : BL w base v l) (hb : Below w.heap.size w w') : BL w' base v l := by
  obtain ⟨g, cap, e1, e2, e3, e4, e5, e6⟩ := h
  have hc : ∀ j, w'.cell? ⟨g, j, none⟩ = w.cell? ⟨g, j, none⟩ := fun j => hb.cell (p := ⟨g, j, none⟩) e3
  have hf : ∀ j, w'.frozen? ⟨g, j, none⟩ = w.frozen? ⟨g, j, none⟩ := fun j => hb.frozen (p := ⟨g, j, none⟩) e3
  exact ⟨g, cap, e1, e2, Nat.lt_of_lt_of_le e3 hb.size, e4, fun j hj => by rw [hc, hf]; exact e5 j hj, fun j hj => by rw [hc]; exact e6 j hj⟩
theorem add_zero_addr (g j : Nat) : ((⟨g, 0, none⟩ : Addr).add j) = ⟨g, j, none⟩ := by unfold Addr.add; split <;> simp_all
theorem BL.conv {W : World} {base : Nat} {v : Value} {l : List UInt8} (h : BL W base v l) : (convert 41 9 v).run Tryz.prog W = .ok (.string ⟨l.toArray⟩) W := by
  obtain ⟨g, cap, rfl, e2, e3, e4, e5, e6⟩ := h
  refine run_convert_bytes_back (P := Tryz.prog) W 41 9 5 ⟨g, 0, none⟩ cap l Tryz.underlying41 Tryz.underlying5 Tryz.underlying9 ?_
  intro i hi
  rw [add_zero_addr]
  exact e6 i hi
theorem BL.len {W : World} {base : Nat} {v : Value} {l : List UInt8} (h : BL W base v l) : ∃ ad cap, v = .slice ad l.length cap := by
  obtain ⟨g, cap, e, _⟩ := h
  exact ⟨_, _, e⟩
theorem BL.new (w : World) (s : ByteArray) : ∃ v w2, (convert 9 41 (.string s)).run Tryz.prog w = .ok v w2 ∧ BL w2 w.heap.size v s.data.toList ∧ Below w.heap.size w w2 := by
  refine ⟨_, _, run_bytes_of_string (P := Tryz.prog) w 9 41 5 s Tryz.underlying9 Tryz.underlying41 Tryz.underlying5, ?_, ((Below.refl _ _).drew).alloc (Nat.le_refl _) _⟩
  have hz : s.data.toList.length = s.size := by rw [Array.length_toList]; rfl
  have hcs : (bytesRow s (grownCap w s.size 0 5)).size = grownCap w s.size 0 5 := by
    have := grownCap_ge w s.size 0 5
    have e : s.data.size = s.size := rfl
    simp [bytesRow]
    omega
  refine ⟨w.heap.size, grownCap w s.size 0 5, by rw [hz], Nat.le_refl _, by rw [World.size_alloc]; exact Nat.lt_succ_self _, by rw [hz]; exact grownCap_ge w s.size 0 5, fun j hj => ⟨?_, ?_⟩, fun j hj => ?_⟩
  · have := World.cell?_alloc_mark w.drew (bytesRow s (grownCap w s.size 0 5)) 5 ((bytesRow s (grownCap w s.size 0 5)).size, (bytesRow s (grownCap w s.size 0 5)).size + 1) j
    rw [show w.drew.heap.size = w.heap.size from rfl] at this
    rw [this, Array.getElem?_eq_getElem (by omega)]
    rfl
  · have := World.frozen?_alloc_mark w.drew (bytesRow s (grownCap w s.size 0 5)) 5 (bytesRow s (grownCap w s.size 0 5)).size ((bytesRow s (grownCap w s.size 0 5)).size + 1) j
    rw [show w.drew.heap.size = w.heap.size from rfl] at this
    rw [this]
    simp
    omega
  · have := World.cell?_alloc_mark w.drew (bytesRow s (grownCap w s.size 0 5)) 5 ((bytesRow s (grownCap w s.size 0 5)).size, (bytesRow s (grownCap w s.size 0 5)).size + 1) j
    rw [show w.drew.heap.size = w.heap.size from rfl] at this
    rw [this, bytesRow_at s _ j (by rw [Array.length_toList] at hj; exact hj)]
    simp
theorem BL.app {w : World} {base : Nat} {v : Value} {l : List UInt8} (h : BL w base v l) (s : ByteArray) (hl : (l.length : Int) + s.size ≤ 70368744177664) (hbase : base ≤ w.heap.size) (ty : TypeId) :
    ∃ v2 w2, (Builtin.append_ #[41, 9] ty #[v, .string s]).run Tryz.prog w = .ok v2 w2 ∧ BL w2 base v2 (l ++ s.data.toList) ∧ Below base w w2 := by
  obtain ⟨i0, hi0, hz0, hz1, hz2⟩ := info_parts Tryz.info5
  obtain ⟨g, cap, rfl, e2, e3, e4, e5, e6⟩ := h
  have hz : s.data.toList.length = s.size := by rw [Array.length_toList]; rfl
  have hbl : (byteCells s).length = s.size := byteCells_length s
  have src := Src.ofString (P := Tryz.prog) w (tx := 9) Tryz.underlying9 s
  by_cases hr : l.length + s.size ≤ cap
  · have hrun := run_append_room_src (P := Tryz.prog) w 41 9 ty 5 i0 Tryz.underlying41 hi0 g 0 l.length cap (.string s) s.size (byteCells s) (by rw [hz1]; exact src) hr (fun j hj => (by rw [hz1, Nat.zero_add, Nat.mul_one]; exact (e5 _ (by omega)).1)) (fun j hj => (by rw [hz1, Nat.zero_add, Nat.mul_one]; exact (e5 _ (by omega)).2))
    rw [hz1, Nat.zero_add, Nat.mul_one] at hrun
    refine ⟨_, _, hrun, ⟨g, cap, by rw [List.length_append, hz], e2, by rw [size_setCells]; exact e3, by rw [List.length_append, hz]; exact hr, fun j hj => ⟨?_, ?_⟩, fun j hj => ?_⟩, (fr_setCells g (byteCells s) l.length w).below e2 hbase⟩
    · by_cases hin : l.length ≤ j ∧ j < l.length + s.size
      · obtain ⟨k, rfl⟩ : ∃ k, j = l.length + k := ⟨j - l.length, by omega⟩
        rw [World.cell?_setCells_in g (byteCells s) l.length w (fun j hj => (e5 _ (by omega)).1) k (by omega)]
        rfl
      · rw [World.cell?_setCells_out g (byteCells s) l.length w ⟨g, j, none⟩ (fun _ _ => by show j < _ ∨ _ ≤ j; omega)]
        exact (e5 j hj).1
    · rw [World.frozen?_setCells]; exact (e5 j hj).2
    · rw [List.length_append, hz] at hj
      by_cases hjl : j < l.length
      · rw [World.cell?_setCells_out g (byteCells s) l.length w ⟨g, j, none⟩ (fun _ _ => Or.inl hjl), e6 j hjl, List.getElem_append_left hjl]
      · obtain ⟨k, rfl⟩ : ∃ k, j = l.length + k := ⟨j - l.length, by omega⟩
        have := World.cell?_setCells_in g (byteCells s) l.length w (fun j hj => (e5 _ (by omega)).1) k (by omega)
        rw [this, List.getElem_append_right (by omega)]
        simp [byteCells]
  · have hnl : ((Lib.byteCells l)).length = l.length := by simp [Lib.byteCells]
    have hold := (Src.ofSlice (P := Tryz.prog) w (size := 1) (tx := 41) Tryz.underlying41 ⟨g, 0, none⟩ l.length cap (Lib.byteCells l) (by rw [hnl, Nat.mul_one]) (fun j u hu => by
      rw [add_zero_addr]
      have hj : j < l.length := by
        rcases Nat.lt_or_ge j l.length with h | h
        · exact h
        · rw [List.getElem?_eq_none (by omega)] at hu; cases hu
      rw [e6 j hj]
      rw [List.getElem?_eq_getElem (by omega)] at hu
      simpa [Lib.byteCells] using hu) (by simp [Lib.byteCells, Value.oneCell'])).cellsD
    have hrun := run_append_grow_src (P := Tryz.prog) w 41 9 ty 5 i0 (.int .u8 0) Tryz.underlying41 hi0 hz0 (some ⟨g, 0, none⟩) l.length cap (Lib.byteCells l) (by rw [hz1]; exact hold) (.string s) s.size (byteCells s) (by rw [hz1]; exact src) (by omega) (by omega) (growslice_fits (by omega) (by rw [hz2]; omega))
    have hcg := grownCap_ge w (l.length + s.size) cap 5
    obtain ⟨gc, hgc⟩ : ∃ gc, grownCap w (l.length + s.size) cap 5 = gc := ⟨_, rfl⟩
    rw [hgc] at hrun hcg
    have hcs : ((Lib.byteCells l ++ byteCells s).toArray ++ Builtin.zeroCells (Value.int .u8 0).cells (gc - (l.length + s.size))).size = gc := by
      rw [Array.size_append, size_zeroCells]
      simp [hnl, hbl, Value.cells]
      omega
    refine ⟨_, _, hrun, ⟨w.heap.size, gc, by rw [List.length_append, hz], hbase, by rw [World.size_alloc]; exact Nat.lt_succ_self _, by rw [List.length_append, hz]; exact hcg, fun j hj => ⟨?_, ?_⟩, fun j hj => ?_⟩, ((Below.refl _ _).drew).alloc hbase _⟩
    · have := World.cell?_alloc_new w.drew ((Lib.byteCells l ++ byteCells s).toArray ++ Builtin.zeroCells (Value.int .u8 0).cells (gc - (l.length + s.size))) 5 j
      rw [show w.drew.heap.size = w.heap.size from rfl] at this
      rw [this, Array.getElem?_eq_getElem (by omega)]
      rfl
    · have := World.frozen?_alloc_mark w.drew ((Lib.byteCells l ++ byteCells s).toArray ++ Builtin.zeroCells (Value.int .u8 0).cells (gc - (l.length + s.size))) 5 0 0 j
      rw [show w.drew.heap.size = w.heap.size from rfl] at this
      simpa using this
    · have := World.cell?_alloc_new w.drew ((Lib.byteCells l ++ byteCells s).toArray ++ Builtin.zeroCells (Value.int .u8 0).cells (gc - (l.length + s.size))) 5 j
      rw [show w.drew.heap.size = w.heap.size from rfl] at this
      rw [List.length_append, hz] at hj
      rw [this, Array.getElem?_append_left (by simp [hnl, hbl]; omega)]
      rw [show Lib.byteCells l ++ byteCells s = Lib.byteCells (l ++ s.data.toList) by simp [Lib.byteCells, byteCells]]
      rw [List.getElem?_toArray, List.getElem?_eq_getElem (by simp [Lib.byteCells]; omega)]
      simp only [Lib.byteCells, List.getElem_map]
theorem BL.mono {w : World} {base base' : Nat} {v : Value} {l : List UInt8} (h : BL w base v l) (hb : base' ≤ base) : BL w base' v l := by
  obtain ⟨g, cap, e1, e2, e⟩ := h
  exact ⟨g, cap, e1, Nat.le_trans hb e2, e⟩
theorem operBL {o : Oper} {a : Act} {w : World} {K : Act → World → Prop} {Q : Exit → Act → World → Prop} (s x : Operand) (hop : o.op = Op.call { callee := Callee.builtin Builtin.append, args := #[s, x], argTypes := #[41, 9] })
    (base : Nat) (v : Value) (l : List UInt8) (str : ByteArray) (hs : a.eval s = v) (hx : a.eval x = .string str) (ho : BL w base v l) (hl : (l.length : Int) + str.size ≤ 70368744177664) (hbase : base ≤ w.heap.size)
    (hK : ∀ v2 w2, BL w2 base v2 (l ++ str.data.toList) → Below base w w2 → K (a.put o.dst v2) w2) : o.wp Tryz.prog a w K Q := by
  obtain ⟨v2, w2, hr, h2, h3⟩ := ho.app str hl hbase o.type
  unfold Oper.wp execOp
  simp only [hop, resolve, invoke, builtin, Sem.run_bind, Sem.run_pure, Result.andThen_ok, List.map_toArray, List.map_cons, List.map_nil, hs, hx, hr]
  exact hK v2 w2 h2 h3
theorem wpListBL {w : World} {ops : Array Oper} {rest : List Oper} {o : Oper} {a : Act} {Q : Exit → Act → World → Prop} (hgd : o.guard = none) (s x : Operand) (hop : o.op = Op.call { callee := Callee.builtin Builtin.append, args := #[s, x], argTypes := #[41, 9] })
    (base : Nat) (v : Value) (l : List UInt8) (str : ByteArray) (hs : a.eval s = v) (hx : a.eval x = .string str) (ho : BL w base v l) (hl : (l.length : Int) + str.size ≤ 70368744177664) (hbase : base ≤ w.heap.size)
    (h : ∀ v2 w2, BL w2 base v2 (l ++ str.data.toList) → Below base w w2 → wpList Tryz.prog ops Q rest (a.put o.dst v2) w2) : wpList Tryz.prog ops Q (o :: rest) a w := by
  refine wpList_plain hgd fun K hK => ?_
  exact operBL s x hop base v l str hs hx ho hl hbase (fun v2 w2 h1 h2 => hK _ _ (h v2 w2 h1 h2))
end Go.Proofs.YtkbghbbaldjinaaGreatDoor
