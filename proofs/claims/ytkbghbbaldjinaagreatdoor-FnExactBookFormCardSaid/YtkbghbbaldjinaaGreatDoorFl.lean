import Derived.Test.YtkbghbbaldjinaaGreatDoorFi
import Derived.Test.YtkbghbbaldjinaaGreatDoorFe
namespace Go.Proofs.YtkbghbbaldjinaaGreatDoor
open Go.RowKit
def sCells (xs : List ByteArray) : List Value := xs.map Value.string
/-- texts of one's own, in a row -/
def SL (w : World) (base : Nat) (v : Value) (xs : List ByteArray) : Prop :=
  ∃ g cap, v = .slice (some ⟨g, 0, none⟩) xs.length cap ∧ base ≤ g ∧ g < w.heap.size ∧ xs.length ≤ cap ∧ (∀ j, j < cap → (w.cell? ⟨g, j, none⟩).isSome = true ∧ w.frozen? ⟨g, j, none⟩ = false) ∧ (∀ j (h : j < xs.length), w.cell? ⟨g, j, none⟩ = some (.string xs[j]))
theorem SL.grow {w w' : World} {base B : Nat} {v : Value} {xs : List ByteArray} (h : SL w base v xs) (hb : Below B w w') (hB : w.heap.size ≤ B) : SL w' base v xs := by
  obtain ⟨g, cap, e1, e2, e3, e4, e5, e6⟩ := h
  have hc : ∀ j, w'.cell? ⟨g, j, none⟩ = w.cell? ⟨g, j, none⟩ := fun j => hb.cell (p := ⟨g, j, none⟩) (Nat.lt_of_lt_of_le e3 hB)
  have hf : ∀ j, w'.frozen? ⟨g, j, none⟩ = w.frozen? ⟨g, j, none⟩ := fun j => hb.frozen (p := ⟨g, j, none⟩) (Nat.lt_of_lt_of_le e3 hB)
  exact ⟨g, cap, e1, e2, Nat.lt_of_lt_of_le e3 hb.size, e4, fun j hj => by rw [hc, hf]; exact e5 j hj, fun j hj => by rw [hc]; exact e6 j hj⟩
theorem SL.new (w : World) (xs : List ByteArray) : SL (w.alloc (.cells (sCells xs).toArray 9)) w.heap.size (.slice (some ⟨w.heap.size, 0, none⟩) xs.length xs.length) xs := by
  have hl : (sCells xs).length = xs.length := by simp [sCells]
  refine ⟨w.heap.size, xs.length, rfl, Nat.le_refl _, by rw [World.size_alloc]; exact Nat.lt_succ_self _, Nat.le_refl _, fun j hj => ⟨?_, ?_⟩, fun j hj => ?_⟩
  · rw [World.cell?_alloc_new, List.getElem?_toArray, List.getElem?_eq_getElem (by omega)]; rfl
  · simp
  · rw [World.cell?_alloc_new, List.getElem?_toArray, List.getElem?_eq_getElem (by omega)]
    simp [sCells]
theorem SL.app {w : World} {base : Nat} {v : Value} {xs : List ByteArray} (h : SL w base v xs) (x : Value) (news : List ByteArray) (src : Src Tryz.prog 1 44 x news.length (sCells news) w) (hl : (xs.length : Int) + news.length ≤ 1000000000) (hbase : base ≤ w.heap.size) (ty : TypeId) :
    ∃ v2 w2, (Builtin.append_ #[44, 44] ty #[v, x]).run Tryz.prog w = .ok v2 w2 ∧ SL w2 base v2 (xs ++ news) ∧ Below base w w2 ∧ (∀ k, k < w.heap.size → v.ownBlock ≠ some k → w2.heap[k]? = w.heap[k]?) := by
  obtain ⟨i0, hi0, hz0, hz1, hz2⟩ := info_parts Tryz.info9
  obtain ⟨g, cap, rfl, e2, e3, e4, e5, e6⟩ := h
  have hbl : (sCells news).length = news.length := by simp [sCells]
  by_cases hr : xs.length + news.length ≤ cap
  · have hrun := run_append_room_src (P := Tryz.prog) w 44 44 ty 9 i0 Tryz.underlying44 hi0 g 0 xs.length cap x news.length (sCells news) (by rw [hz1]; exact src) hr (fun j hj => (by rw [hz1, Nat.zero_add, Nat.mul_one]; exact (e5 _ (by omega)).1)) (fun j hj => (by rw [hz1, Nat.zero_add, Nat.mul_one]; exact (e5 _ (by omega)).2))
    rw [hz1, Nat.zero_add, Nat.mul_one] at hrun
    refine ⟨_, _, hrun, ⟨g, cap, by rw [List.length_append], e2, by rw [size_setCells]; exact e3, by rw [List.length_append]; exact hr, fun j hj => ⟨?_, ?_⟩, fun j hj => ?_⟩, (fr_setCells g (sCells news) xs.length w).below e2 hbase, fun k hk hne => (fr_setCells g (sCells news) xs.length w).block k hk (by have : g ≠ k := fun e => hne (by rw [← e]; rfl); omega)⟩
    · by_cases hin : xs.length ≤ j ∧ j < xs.length + news.length
      · obtain ⟨k, rfl⟩ : ∃ k, j = xs.length + k := ⟨j - xs.length, by omega⟩
        rw [World.cell?_setCells_in g (sCells news) xs.length w (fun j hj => (e5 _ (by omega)).1) k (by omega)]
        rfl
      · rw [World.cell?_setCells_out g (sCells news) xs.length w ⟨g, j, none⟩ (fun _ _ => by show j < _ ∨ _ ≤ j; omega)]
        exact (e5 j hj).1
    · rw [World.frozen?_setCells]; exact (e5 j hj).2
    · rw [List.length_append] at hj
      by_cases hjl : j < xs.length
      · rw [World.cell?_setCells_out g (sCells news) xs.length w ⟨g, j, none⟩ (fun _ _ => Or.inl hjl), e6 j hjl, List.getElem_append_left hjl]
      · obtain ⟨k, rfl⟩ : ∃ k, j = xs.length + k := ⟨j - xs.length, by omega⟩
        have := World.cell?_setCells_in g (sCells news) xs.length w (fun j hj => (e5 _ (by omega)).1) k (by omega)
        rw [this, List.getElem_append_right (by omega)]
        simp [sCells]
  · have hnl : (sCells xs).length = xs.length := by simp [sCells]
    have hold := (Src.ofSlice (P := Tryz.prog) w (size := 1) (tx := 44) Tryz.underlying44 ⟨g, 0, none⟩ xs.length cap (sCells xs) (by rw [hnl, Nat.mul_one]) (fun j u hu => by
      rw [add_zero_addr]
      have hj : j < xs.length := by
        rcases Nat.lt_or_ge j xs.length with h | h
        · exact h
        · rw [List.getElem?_eq_none (by omega)] at hu; cases hu
      rw [e6 j hj]
      rw [List.getElem?_eq_getElem (by omega)] at hu
      simpa [sCells] using hu) (by simp [sCells, Value.oneCell'])).cellsD
    have hrun := run_append_grow_src (P := Tryz.prog) w 44 44 ty 9 i0 (.string ByteArray.empty) Tryz.underlying44 hi0 hz0 (some ⟨g, 0, none⟩) xs.length cap (sCells xs) (by rw [hz1]; exact hold) x news.length (sCells news) (by rw [hz1]; exact src) (by omega) (by omega) (growslice_fits (by omega) (by rw [hz2]; omega))
    have hcg := grownCap_ge w (xs.length + news.length) cap 9
    obtain ⟨gc, hgc⟩ : ∃ gc, grownCap w (xs.length + news.length) cap 9 = gc := ⟨_, rfl⟩
    rw [hgc] at hrun hcg
    have hcs : ((sCells xs ++ sCells news).toArray ++ Builtin.zeroCells (Value.string ByteArray.empty).cells (gc - (xs.length + news.length))).size = gc := by
      rw [Array.size_append, size_zeroCells]
      simp [hnl, hbl, Value.cells]
      omega
    refine ⟨_, _, hrun, ⟨w.heap.size, gc, by rw [List.length_append], hbase, by rw [World.size_alloc]; exact Nat.lt_succ_self _, by rw [List.length_append]; exact hcg, fun j hj => ⟨?_, ?_⟩, fun j hj => ?_⟩, ((Below.refl _ _).drew).alloc hbase _, fun k hk _ => (((Below.refl w.heap.size w).drew).alloc (Nat.le_refl _) _).block k hk⟩
    · have := World.cell?_alloc_new w.drew ((sCells xs ++ sCells news).toArray ++ Builtin.zeroCells (Value.string ByteArray.empty).cells (gc - (xs.length + news.length))) 9 j
      rw [show w.drew.heap.size = w.heap.size from rfl] at this
      rw [this, Array.getElem?_eq_getElem (by omega)]
      rfl
    · have := World.frozen?_alloc_mark w.drew ((sCells xs ++ sCells news).toArray ++ Builtin.zeroCells (Value.string ByteArray.empty).cells (gc - (xs.length + news.length))) 9 0 0 j
      rw [show w.drew.heap.size = w.heap.size from rfl] at this
      simpa using this
    · have := World.cell?_alloc_new w.drew ((sCells xs ++ sCells news).toArray ++ Builtin.zeroCells (Value.string ByteArray.empty).cells (gc - (xs.length + news.length))) 9 j
      rw [show w.drew.heap.size = w.heap.size from rfl] at this
      rw [List.length_append] at hj
      rw [this, Array.getElem?_append_left (by simp [hnl, hbl]; omega)]
      rw [show sCells xs ++ sCells news = sCells (xs ++ news) by simp [sCells]]
      rw [List.getElem?_toArray, List.getElem?_eq_getElem (by simp [sCells]; omega)]
      simp only [sCells, List.getElem_map]
theorem Wr.grow {B b : Nat} {l : List UInt8} {w w' : World} (h : Wr B b l w) (hb : Below w.heap.size w w') : Wr B b l w' := by
  have hk : ∀ k, k < w.heap.size → w'.heap[k]? = w.heap[k]? := fun k hk => hb.block k hk
  have key : ∀ p, Lib.BuilderAt 59 5 B b p (Lib.byteCells l) w → Lib.BuilderAt 59 5 B b p (Lib.byteCells l) w' := by
    rintro p ⟨h1, v, h2, h3, h4⟩
    have hlt : b < w.heap.size := by
      rcases Nat.lt_or_ge b w.heap.size with h' | h'
      · exact h'
      · simp [Array.getElem?_eq_none h'] at h2
    refine ⟨h1, v, by rw [hk b hlt]; exact h2, ⟨h3.1, ?_⟩, h4⟩
    rcases h3.2 with hn | ⟨g, cap, cur, hv, hbg, hg, r⟩
    · exact Or.inl hn
    · have hgl : g < w.heap.size := by
        rcases Nat.lt_or_ge g w.heap.size with h' | h'
        · exact h'
        · simp [Array.getElem?_eq_none h'] at hg
      exact Or.inr ⟨g, cap, cur, hv, hbg, by rw [hk g hgl]; exact hg, r⟩
  rcases h with h | h
  · exact Or.inl (key _ h)
  · exact Or.inr (key _ h)
def wrdS (b : Bool) (s : ByteArray) : ByteArray := if b then s else ⟨#[45]⟩
set_option maxRecDepth 100000 in
theorem wordIf_any (b : Bool) (s : ByteArray) (w : World) : Calls Tryz.prog 23 #[.bool b, .string s] w fun e w' => e = .returned (.string (wrdS b s)) ∧ w' = w := by
  cases b
  all_goals
    go_enter Tryz.func23, Tryz.ntmps23
    go_wp2
    go_ret
    exact ⟨rfl, rfl⟩
def lineS (xs : List ByteArray) : ByteArray := (⟨(joinL xs).toArray⟩ : ByteArray) ++ (⟨#[10]⟩ : ByteArray)
set_option maxRecDepth 100000 in
set_option maxHeartbeats 1000000 in
theorem bookLine_any (base : Nat) (v : Value) (xs : List ByteArray) (w : World) (h : SL w base v xs) (hN : (xs.length : Int) ≤ 1000000000) (hlen : ((joinL xs).length : Int) ≤ 1000000000000) :
    Calls Tryz.prog 48 #[v] w fun e w' => e = .returned (.string (lineS xs)) ∧ Below w.heap.size w w' := by
  obtain ⟨g, cap, rfl, e2, e3, e4, e5, e6⟩ := h
  have hJ := join_any g 0 cap xs w (fun j x hx => by
    have hj : j < xs.length := by
      rcases Nat.lt_or_ge j xs.length with h | h
      · exact h
      · rw [List.getElem?_eq_none (by omega)] at hx; cases hx
    rw [List.getElem?_eq_getElem hj] at hx
    obtain rfl := Option.some.inj hx
    rw [Nat.zero_add]
    exact e6 j hj) e3 (by omega) e4 (by omega)
  have hsz : (⟨(joinL xs).toArray⟩ : ByteArray).size = (joinL xs).length := by simp [ByteArray.size]
  obtain ⟨jl, hjl⟩ : ∃ jl : ByteArray, jl = ⟨(joinL xs).toArray⟩ := ⟨_, rfl⟩
  rw [← hjl] at hsz hJ
  have hz : (jl.size : Int) ≤ 1000000000000 := by omega
  have HE : Hid (lineS xs = jl ++ (⟨#[10]⟩ : ByteArray)) := by rw [hjl]; exact hid rfl
  clear e5 e6 hlen hjl hsz
  go_enter Tryz.func48, Tryz.ntmps48
  go_wp2_with (go_at_call 79; refine hJ.mono ?_; rintro e w1 ⟨rfl, hb1⟩)
  go_ret
  exact ⟨by rw [HE.out]; rfl, hb1⟩
set_option maxRecDepth 100000 in
set_option maxHeartbeats 1000000 in
theorem line_any (B b : Nat) (l : List UInt8) (base : Nat) (v : Value) (xs : List ByteArray) (w : World) (hW : Wr B b l w) (hBw : B ≤ w.heap.size) (hS : SL w base v xs) (hN : (xs.length : Int) ≤ 1000000000) (hlen : ((joinL xs).length : Int) ≤ 1000000000000) (hl : (l.length : Int) ≤ 1000000000000) :
    Calls Tryz.prog 20 #[.pointer (some ⟨b, 0, none⟩), v] w fun e w' => e = .returned (.tuple #[]) ∧ Wr B b (l ++ (lineS xs).data.toList) w' ∧ Below B w w' := by
  have zz : ((lineS xs).size : Int) ≤ 1000000000001 := by
    have e1 : ((⟨#[10]⟩ : ByteArray)).size = 1 := rfl
    have hsz : (⟨(joinL xs).toArray⟩ : ByteArray).size = (joinL xs).length := by simp [ByteArray.size]
    unfold lineS
    rw [ByteArray.size_append, e1, hsz]
    omega
  have HS := hid hS
  have HW := hid hW
  clear hS hW
  go_enter Tryz.func20, Tryz.ntmps20
  go_wp2_with fail
  go_region_with (first
    | (go_at_call 48; go_must (refine (bookLine_any base v xs _ (HS.out.grow (B := w.heap.size) ((Below.refl _ _).drew) (Nat.le_refl _)) hN hlen).mono ?_; rintro e w1 ⟨rfl, hb0⟩; have hb1 : Below w.heap.size w w1 := ((Below.refl w.heap.size w).drew).trans hb0; clear hb0))
    | (go_at_call 47; go_must (refine (writeString_any B b l (lineS xs) _ (HW.out.grow hb1) (by omega) (by have := hb1.size; exact Nat.le_trans hBw this)).mono ?_; rintro e w2 ⟨rfl, hw2, hb2⟩)))
  go_wp2
  go_end0
  exact ⟨rfl, hw2, (hb1.mono hBw).trans hb2⟩
theorem SL.src {w : World} {base : Nat} {v : Value} {xs : List ByteArray} (h : SL w base v xs) : Src Tryz.prog 1 44 v xs.length (sCells xs) w := by
  obtain ⟨g, cap, rfl, e2, e3, e4, e5, e6⟩ := h
  have hnl : (sCells xs).length = xs.length := by simp [sCells]
  refine Src.ofSlice (P := Tryz.prog) w (size := 1) (tx := 44) Tryz.underlying44 ⟨g, 0, none⟩ xs.length cap (sCells xs) (by rw [hnl, Nat.mul_one]) (fun j u hu => ?_) (by simp [sCells, Value.oneCell'])
  rw [add_zero_addr]
  have hj : j < xs.length := by
    rcases Nat.lt_or_ge j xs.length with h | h
    · exact h
    · rw [List.getElem?_eq_none (by omega)] at hu; cases hu
  rw [e6 j hj]
  rw [List.getElem?_eq_getElem (by omega)] at hu
  simpa [sCells] using hu
/-- texts wherever they lie, as what is appended -/
theorem strs_src {w : World} {lo hi : Nat} {ad : Option Addr} {n cap : Nat} {s : Nat → ByteArray} (h : StrsIn w lo hi ad n s) : Src Tryz.prog 1 44 (.slice ad n cap) ((List.range n).map s).length (sCells ((List.range n).map s)) w := by
  have hl : ((List.range n).map s).length = n := by simp
  have hl2 : (sCells ((List.range n).map s)).length = n := by simp [sCells]
  rw [hl]
  cases ad with
  | none =>
    have h0 : n = 0 := by
      rcases Nat.eq_zero_or_pos n with h0 | h0
      · exact h0
      · obtain ⟨b, off, e, _⟩ := h 0 h0
        cases e
    subst h0
    exact Src.ofNil (P := Tryz.prog) w (tx := 44) Tryz.underlying44 cap
  | some a =>
    refine Src.ofSlice (P := Tryz.prog) w (size := 1) (tx := 44) Tryz.underlying44 a n cap _ (by rw [hl2, Nat.mul_one]) (fun j u hu => ?_) (by simp [sCells, Value.oneCell'])
    have hj : j < n := by
      rcases Nat.lt_or_ge j n with h | h
      · exact h
      · rw [List.getElem?_eq_none (by omega)] at hu; cases hu
    obtain ⟨b, off, e, _, _, e4⟩ := h j hj
    cases e
    rw [show ((⟨b, off, none⟩ : Addr).add j) = ⟨b, off + j, none⟩ by unfold Addr.add; split <;> simp_all, e4]
    rw [List.getElem?_eq_getElem (by omega)] at hu
    simpa [sCells] using hu
theorem operSL {o : Oper} {a : Act} {w : World} {K : Act → World → Prop} {Q : Exit → Act → World → Prop} (s x : Operand) (hop : o.op = Op.call { callee := Callee.builtin Builtin.append, args := #[s, x], argTypes := #[44, 44] })
    (base : Nat) (v xv : Value) (xs news : List ByteArray) (hs : a.eval s = v) (hx : a.eval x = xv) (ho : SL w base v xs) (src : Src Tryz.prog 1 44 xv news.length (sCells news) w) (hl : (xs.length : Int) + news.length ≤ 1000000000) (hbase : base ≤ w.heap.size)
    (hK : ∀ v2 w2, SL w2 base v2 (xs ++ news) → Below base w w2 → (∀ k, k < w.heap.size → v.ownBlock ≠ some k → w2.heap[k]? = w.heap[k]?) → K (a.put o.dst v2) w2) : o.wp Tryz.prog a w K Q := by
  obtain ⟨v2, w2, hr, h2, h3, h4⟩ := ho.app xv news src hl hbase o.type
  unfold Oper.wp execOp
  simp only [hop, resolve, invoke, builtin, Sem.run_bind, Sem.run_pure, Result.andThen_ok, List.map_toArray, List.map_cons, List.map_nil, hs, hx, hr]
  exact hK v2 w2 h2 h3 h4
theorem wpListSL {w : World} {ops : Array Oper} {rest : List Oper} {o : Oper} {a : Act} {Q : Exit → Act → World → Prop} (hgd : o.guard = none) (s x : Operand) (hop : o.op = Op.call { callee := Callee.builtin Builtin.append, args := #[s, x], argTypes := #[44, 44] })
    (base : Nat) (v xv : Value) (xs news : List ByteArray) (hs : a.eval s = v) (hx : a.eval x = xv) (ho : SL w base v xs) (src : Src Tryz.prog 1 44 xv news.length (sCells news) w) (hl : (xs.length : Int) + news.length ≤ 1000000000) (hbase : base ≤ w.heap.size)
    (h : ∀ v2 w2, SL w2 base v2 (xs ++ news) → Below base w w2 → (∀ k, k < w.heap.size → v.ownBlock ≠ some k → w2.heap[k]? = w.heap[k]?) → wpList Tryz.prog ops Q rest (a.put o.dst v2) w2) : wpList Tryz.prog ops Q (o :: rest) a w := by
  refine wpList_plain hgd fun K hK => ?_
  exact operSL s x hop base v xv xs news hs hx ho src hl hbase (fun v2 w2 h1 h2 h3 => hK _ _ (h v2 w2 h1 h2 h3))
end Go.Proofs.YtkbghbbaldjinaaGreatDoor
