import Derived.Test.YtkecnaaacbckoaaL
import Derived.Deep.AppendSrc
namespace Go.Proofs.Ytkecnaaacbckoaa
open Go.RowKit Go.Maps
theorem wpList_append_zero {P : Program} {w : World} {ops : Array Oper} {rest : List Oper} {o : Oper} {a : Act} {Q : Exit → Act → World → Prop} (hgd : o.guard = none) (s x : Operand) (t : TypeId)
    (ho : o.op = .call { callee := .builtin .append, args := #[s, x], argTypes := #[t, t] })
    (e : TypeId) (i : TypeInfo) (ht : P.underlying t = some (.slice e)) (hi : P.info? e = some i)
    (b off sLen sCap : Nat) (hle : sLen ≤ sCap) (hs : a.eval s = .slice (some ⟨b, off, none⟩) sLen sCap) (ad : Option Addr) (c : Nat) (hx : a.eval x = .slice ad 0 c)
    (h : wpList P ops Q rest (a.put o.dst (.slice (some ⟨b, off, none⟩) sLen sCap)) w) : wpList P ops Q (o :: rest) a w := by
  refine wpList_plain hgd fun K hK => ?_
  have hsrc : Src P i.size t (.slice ad 0 c) 0 [] w := by
    cases ad with
    | none => exact Src.ofNil w ht c
    | some a0 => exact Src.ofSlice w ht a0 0 c [] (by simp) (fun j u hj => by simp at hj) (fun u hu => by cases hu)
  have hrun := run_append_room_src (P := P) w t t o.type e i ht hi b off sLen sCap _ 0 [] hsrc (by omega) (fun j hj => by simp at hj) (fun j hj => by simp at hj)
  simp only [Nat.add_zero, World.setCells] at hrun
  unfold Oper.wp
  simp [execOp, ho, resolve, invoke, builtin, hs, hx, hrun, Result.andThen]
  exact hK _ _ h
/-- the strings as cells -/
def strCells (n : Nat) (s : Nat → ByteArray) : List Value := (List.range n).map fun i => .string (s i)
theorem strCells_get {n : Nat} {s : Nat → ByteArray} {j : Nat} {u : Value} (h : (strCells n s)[j]? = some u) : j < n ∧ u = .string (s j) := by
  simp only [strCells, List.getElem?_map] at h
  rcases Nat.lt_or_ge j n with h1 | h1
  · rw [List.getElem?_eq_getElem (by simpa using h1)] at h
    simp at h
    exact ⟨h1, h.symm⟩
  · rw [List.getElem?_eq_none (by simpa using h1)] at h
    cases h
theorem strCells_at {n : Nat} {s : Nat → ByteArray} {j : Nat} (h : j < n) : (strCells n s)[j]? = some (.string (s j)) := by
  simp [strCells, h]
theorem strCells_len (n : Nat) (s : Nat → ByteArray) : (strCells n s).length = n := by simp [strCells]
theorem strCells_one (n : Nat) (s : Nat → ByteArray) : ∀ u ∈ strCells n s, u.oneCell' = true := by
  intro u hu
  obtain ⟨i, _, rfl⟩ := List.mem_map.1 hu
  rfl
theorem strsOwn_of_row {w : World} {base n : Nat} {v : Value} {s : Nat → ByteArray} (h : w.ownsRow base 9 1 v n (strCells n s)) (hn : 0 < n) : ∃ g cap, v = .slice (some ⟨g, 0, none⟩) n cap ∧ StrsOwn w base w.heap.size (some ⟨g, 0, none⟩) n s := by
  rcases h.2 with ⟨_, h0⟩ | ⟨g, cap, cur, rfl, hg, hh, hr⟩
  · omega
  · refine ⟨g, cap, rfl, fun i hi => ⟨g, 0, rfl, hg, (Array.getElem?_eq_some_iff.1 hh).1, ?_, ?_⟩⟩
    · have := World.ownsRow.cellAt (g := g) (cap := cap) h i (by omega)
      simpa [strCells_at hi] using this
    · simpa using World.ownsRow.frozenAt (g := g) (cap := cap) h i
theorem three_grown {w w1 : World} {c0 c1 : Array Value} {t0 t1 : TypeId} {o2 : Obj} (hg : (((w.alloc (.cells c0 t0)).alloc (.cells c1 t1)).alloc o2).grownBy w1 (some (w.heap.size + 1 + 1))) :
    (∀ i, w1.cell? ⟨w.heap.size, i, none⟩ = c0[i]?) ∧ (∀ i, w1.cell? ⟨w.heap.size + 1, i, none⟩ = c1[i]?) ∧ (∀ i, w1.frozen? ⟨w.heap.size, i, none⟩ = false) ∧ (∀ i, w1.frozen? ⟨w.heap.size + 1, i, none⟩ = false) ∧ Below w.heap.size w w1 ∧ w.heap.size + 2 < w1.heap.size := by
  have hB2 : Below (w.heap.size + 1 + 1) ((w.alloc (.cells c0 t0)).alloc (.cells c1 t1)) w1 :=
    ((Below.refl _ _).alloc (by simp) o2).grown hg (by simp) (fun k hk => by cases hk; exact Nat.le_refl _)
  have hB2' : Below ((w.alloc (.cells c0 t0)).alloc (.cells c1 t1)).heap.size ((w.alloc (.cells c0 t0)).alloc (.cells c1 t1)) w1 := by simpa using hB2
  obtain ⟨A0, A1, F0, F1⟩ := two_cell hB2'
  refine ⟨A0, A1, F0, F1, ((below_alloc _ _).alloc (by simp) _).trans (hB2.mono (by omega)), ?_⟩
  have := hg.size; simp at this; omega
set_option maxRecDepth 100000 in
set_option maxHeartbeats 400000 in
theorem specOb_any (x : Ob) (ad : Option Addr) (cap : Nat) (w : World) (lo hi : Nat) (hhi : hi ≤ w.heap.size) (hl : (x.hn : Int) ≤ 8796093022208) (hc : StrsIn w lo hi ad x.hn x.hs) :
    Calls Try.prog 18 #[.agg #[.string x.kind, .string x.name, .int .i64 x.ver, .int .i64 x.born, .string x.text, .bool x.ending, .slice ad x.hn cap]] w fun e w' => ∃ ad' cap', e = .returned (.agg #[.string x.kind, .string x.name, .int .i64 x.ver, .int .i64 x.born, .string x.text, .bool x.ending, .slice ad' x.hn cap']) ∧ StrsOwn w' w.heap.size w'.heap.size ad' x.hn x.hs ∧ Below w.heap.size w w' := by
  obtain ⟨i0, hi0, hz0, hz1, hz2⟩ := info_parts Try.info9
  rcases Nat.eq_zero_or_pos x.hn with h0 | hpos
  · obtain ⟨ki, na, ve, bo, te, en, hn, hs⟩ := x
    dsimp only at h0 hc hl ⊢
    subst h0
    go_enter Try.func18, Try.ntmps18
    go_wp2_with (at_builtin; refine wpList_append_zero rfl _ _ 48 rfl 9 i0 Try.underlying48 hi0 _ _ _ _ (Nat.le_refl _) rfl _ _ rfl ?_)
    refine bodyPost_ret (v := .agg #[.string ki, .string na, .int .i64 ve, .int .i64 bo, .string te, .bool en, .slice (some ⟨w.heap.size + 1 + 1, 0, none⟩) 0 0]) (by simp [results, Try.results18, go_sem]) rfl ⟨_, 0, rfl, ?_, ?_⟩
    · intro i hi'; exact absurd hi' (Nat.not_lt_zero _)
    · exact (((Below.refl _ _).alloc (Nat.le_refl _) _).alloc (by simp) _).alloc (by simp; omega) _
  · obtain ⟨b, off, rfl, hlo, hbh, _⟩ := hc 0 hpos
    have hown0 : ∀ (o1 o2 : Obj), (((w.alloc o1).alloc o2).alloc (.cells #[] 9)).ownsRow (w.heap.size + 1 + 1) 9 1 (.slice (some ⟨w.heap.size + 1 + 1, 0, none⟩) 0 0) 0 [] := fun o1 o2 => by
      have := World.ownsRow_made (base := w.heap.size + 1 + 1) (e := 9) (size := 1) ((w.alloc o1).alloc o2) #[] 0 (by simp) (Nat.zero_le _) rfl
      simpa using this
    have hb0 : ∀ (o1 o2 o3 : Obj), Below w.heap.size w (((w.alloc o1).alloc o2).alloc o3) := fun o1 o2 o3 => (((Below.refl _ _).alloc (Nat.le_refl _) _).alloc (by simp) _).alloc (by simp; omega) _
    have hnews : ∀ (o1 o2 o3 : Obj), ∀ j u, (strCells x.hn x.hs)[j]? = some u → (((w.alloc o1).alloc o2).alloc o3).cell? ((⟨b, off, none⟩ : Addr).add j) = some u := fun o1 o2 o3 j u hj => by
      obtain ⟨h1, rfl⟩ := strCells_get hj
      obtain ⟨b', off', e, _, _, e4⟩ := hc j h1
      cases e
      have ea : ((⟨b, off, none⟩ : Addr).add j) = ⟨b, off + j, none⟩ := by simp [Addr.add]
      rw [ea, (hb0 o1 o2 o3).cell (p := ⟨b, off + j, none⟩) (by show b < _; omega)]
      exact e4
    have HB := hid hb0
    clear hb0
    go_enter Try.func18, Try.ntmps18
    go_wp2_with (at_builtin; go_must (refine wpList_append_own _ rfl _ _ 48 rfl (w.heap.size + 1 + 1) 9 i0 (.string ByteArray.empty) 1 16 Try.underlying48 hi0 hz0 hz1 hz2 rfl (by decide) _ 0 [] rfl (hown0 _ _) ⟨b, off, none⟩ x.hn cap (strCells x.hn x.hs) rfl (by rw [strCells_len]; omega) (hnews _ _ _) (strCells_one _ _) (by unfold maxLen; omega) (by omega) (by simp) ?_; intro v1 w1 hown1 hgrow1 _; obtain ⟨g', cap', rfl, hS⟩ := strsOwn_of_row (by simpa only [Nat.zero_add, List.nil_append] using hown1) hpos; clear hown1; obtain ⟨A0, A1, F0, F1, hB, hz⟩ := three_grown hgrow1; clear hgrow1; have p0 := A0 0; have p1 := A0 1; have p2 := A0 2; have p3 := A0 3; have p4 := A0 4; have p5 := A0 5; have p6 := A0 6; have q0 := A1 0; have q1 := A1 1; have q2 := A1 2; have q3 := A1 3; have q4 := A1 4; have q5 := A1 5; have q6 := A1 6; simp only [List.getElem?_toArray, List.getElem?_cons_succ, List.getElem?_cons_zero] at p0 p1 p2 p3 p4 p5 p6 q0 q1 q2 q3 q4 q5 q6; clear A0 A1; have HS := hid hS; clear hS hown0 hnews hc))
    refine bodyPost_ret (v := .agg #[.string x.kind, .string x.name, .int .i64 x.ver, .int .i64 x.born, .string x.text, .bool x.ending, .slice (some ⟨g', 0, none⟩) x.hn cap']) (by simp [results, Try.results18, go_sem, q0, q1, q2, q3, q4, q5, q6]) rfl ⟨_, _, rfl, ?_, ?_⟩
    · simp only [World.size_setCell]
      refine (StrsOwn.fr HS.out (lo2 := w.heap.size) (hi2 := w.heap.size + 2) ?_ (Nat.le_refl _) (by omega)).mono (by omega) (Nat.le_refl _)
      iterate 8 refine Fr.setCell ?_ (by simp; try omega) (by simp; try omega) _
      exact Fr.refl _ _ _
    · refine hB.trans (Fr.below (lo := w.heap.size) (hi := w.heap.size + 2) ?_ (Nat.le_refl _) hB.size)
      iterate 8 refine Fr.setCell ?_ (by simp; try omega) (by simp; try omega) _
      exact Fr.refl _ _ _
theorem lit_int {a b : Int} (h : (DataW.lit (.int .i64 a) : DataW Unit) = .lit (.int .i64 b)) : a = b := by cases h; rfl
def ob0 : Ob := ⟨⟨#[]⟩, ⟨#[]⟩, 0, 0, ⟨#[]⟩, false, 0, fun _ => ⟨#[]⟩⟩
theorem toList_inj' {a b : ByteArray} (h : a.toList = b.toList) : a = b := by
  have h1 : a.data.toList = b.data.toList := by simpa [ByteArray.toList_eq] using h
  cases a; cases b
  simp at h1
  exact congrArg ByteArray.mk h1
end Go.Proofs.Ytkecnaaacbckoaa
