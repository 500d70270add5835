import Derived.Test.YtokkbdlofbdljaaCg
namespace Go.Proofs.Ytokkbdlofbdljaa
open Go.RowKit
/-- a recorder with what it keeps and what it forgets apart -/
abbrev ptC (r : Rc) (A : RcA) : Array Value := #[.int .i64 r.num, .int .i64 r.of, .int .i64 r.sf.pr, .int .i64 r.sf.kn, .slice A.sa r.sf.n A.sc, .bool r.up, .int .i64 r.dk.pr, .int .i64 r.dk.kn, .slice A.da r.dk.n A.dc, .slice A.ha r.hn A.hc, .slice A.wa r.wn A.wc, .bool r.ld, .bool r.tr, .int .i64 r.bal, .slice A.ya r.yn A.yc, .slice A.ba r.bn A.bc, .slice A.aa r.an A.ac, .int .i64 r.hd]
theorem Try.sz66 : (Try.prog.info? 66).map (·.size) = some 18 := by kernel_rfl
theorem Try.sz64 : (Try.prog.info? 64).map (·.size) = some 13 := by kernel_rfl
abbrev ptZ : List Value := [.int .i64 0, .int .i64 0, .int .i64 0, .int .i64 0, .slice none 0 0, .bool false, .int .i64 0, .int .i64 0, .slice none 0 0, .slice none 0 0, .slice none 0 0, .bool false, .bool false, .int .i64 0, .slice none 0 0, .slice none 0 0, .slice none 0 0, .int .i64 0]
set_option maxRecDepth 100000 in
set_option maxHeartbeats 8000000 in
theorem part_any (r : Rc) (A : RcA) (w : World) : Calls Try.prog 35 #[.agg (rcC r A)] w fun e w' => e = .returned (.agg (ptC r A)) ∧ Below w.heap.size w w' := by
  have mark : Nat := 0
  go_enter Try.func35, Try.ntmps35
  go_wp2_with (first | ((with_reducible show wpList _ _ _ (⟨some 3, _, _, _, _, _⟩ :: _) _ _); clear mark; have Q0 := hid (Bx.new2 w (rcC r A) ptZ.toArray 40 66).1; have Z0 := hid (Bx.new2 w (rcC r A) ptZ.toArray 40 66).2; have hB0 : Below w.heap.size w ((w.alloc (.cells (rcC r A) 40)).alloc (.cells ptZ.toArray 66)) := (below_alloc _ _).alloc (by simp) _; (generalize (w.alloc (.cells (rcC r A) 40)).alloc (.cells ptZ.toArray 66) = W at *); obtain ⟨q0, q1, q2, q3, q4, q5, q6, q7, q8, q9, q10, q11, q12, q13, q14, q15, q16, q17⟩ := holds18 Q0.out.cell) | ((with_reducible show wpList _ _ _ (⟨none, Op.store 66 _ _, _, _, _, _⟩ :: _) _ _); refine wpList_store_box rfl 66 _ _ rfl (w.heap.size + 1) (ptC r A).toList rfl rfl Z0.out rfl Try.sz66 (by simp [Value.oneCell']) ?_; intro V hr hfr hsv; have HBV := hid hr; have HFV := hid hfr; have HSV := hid hsv; clear hr hfr hsv))
  have hBV : Below w.heap.size w V := hB0.trans (HFV.out.below (B := w.heap.size) (Nat.le_succ _) hB0.size)
  exact bodyPost_ret (v := .agg (ptC r A)) (results_cell_mid rfl _ _ (w.heap.size + 1) (ptC r A).toList _ rfl (Holds.range (cs := (ptC r A).toList) HBV.out.cell) Try.underlying66 rfl Try.sz66) rfl ⟨rfl, hBV⟩
set_option maxRecDepth 100000 in
set_option maxHeartbeats 8000000 in
theorem whole_any (r : Rc) (A : RcA) (w : World) : Calls Try.prog 38 #[.agg (ptC r A)] w fun e w' => e = .returned (.agg (rcC r A)) ∧ Below w.heap.size w w' := by
  have mark : Nat := 0
  go_enter Try.func38, Try.ntmps38
  go_wp2_with (first | ((with_reducible show wpList _ _ _ (⟨some 3, _, _, _, _, _⟩ :: _) _ _); clear mark; have Q0 := hid (Bx.new2 w (ptC r A) (rcL 0 0 false).toArray 66 40).1; have Z0 := hid (Bx.new2 w (ptC r A) (rcL 0 0 false).toArray 66 40).2; have hB0 : Below w.heap.size w ((w.alloc (.cells (ptC r A) 66)).alloc (.cells (rcL 0 0 false).toArray 40)) := (below_alloc _ _).alloc (by simp) _; (generalize (w.alloc (.cells (ptC r A) 66)).alloc (.cells (rcL 0 0 false).toArray 40) = W at *); obtain ⟨q0, q1, q2, q3, q4, q5, q6, q7, q8, q9, q10, q11, q12, q13, q14, q15, q16, q17⟩ := holds18 Q0.out.cell) | ((with_reducible show wpList _ _ _ (⟨none, Op.store 40 _ _, _, _, _, _⟩ :: _) _ _); refine wpList_store_box rfl 40 _ _ rfl (w.heap.size + 1) (rcC r A).toList rfl rfl Z0.out rfl Try.sz40 (by simp [Value.oneCell']) ?_; intro V hr hfr hsv; have HBV := hid hr; have HFV := hid hfr; have HSV := hid hsv; clear hr hfr hsv))
  have hBV : Below w.heap.size w V := hB0.trans (HFV.out.below (B := w.heap.size) (Nat.le_succ _) hB0.size)
  exact bodyPost_ret (v := .agg (rcC r A)) (results_cell_mid rfl _ _ (w.heap.size + 1) (rcC r A).toList _ rfl (Holds.range (cs := (rcC r A).toList) HBV.out.cell) Try.underlying40 rfl Try.sz40) rfl ⟨rfl, hBV⟩
theorem Bx.mid {w : World} {b : Nat} {c c' : Array Value} (h : Bx w b c) (o : Nat) (cs : List Value) (hs : o + cs.length ≤ c.size) (hin : ∀ i, i < cs.length → c'[o + i]? = cs[i]?) (hout : ∀ i, i < o ∨ o + cs.length ≤ i → c'[i]? = c[i]?) : Bx (w.setCells b o cs) b c' := by
  have ht : w.there b o cs.length := fun j hj => by
    rw [h.cell (o + j)]
    exact ⟨by simp; omega, h.free _⟩
  refine ⟨fun i => ?_, fun i => ?_, ?_⟩
  · by_cases h1 : i < o ∨ o + cs.length ≤ i
    · rw [World.cell?_setCells_out b cs o w ⟨b, i, none⟩ (fun _ _ => by rcases h1 with h1 | h1; exact Or.inl h1; exact Or.inr h1), h.cell i, hout i h1]
    · obtain ⟨j, rfl⟩ : ∃ j, i = o + j := ⟨i - o, by omega⟩
      have hj : j < cs.length := by omega
      have := World.rangeAt_setCells_same w b o cs ht j cs[j] (List.getElem?_eq_getElem hj)
      rw [hin j hj, List.getElem?_eq_getElem hj]
      exact this
  · rw [World.frozen?_setCells]; exact h.free i
  · rw [size_setCells]; exact h.lt
theorem frP_setCells {w : World} (b o : Nat) (cs : List Value) : FrP (fun q => q = b) w (w.setCells b o cs) := FrP.of_fr (fr_setCells _ _ _ _) (fun k h1 h2 => by omega)
/-- a recorder that fell -/
abbrev fallR (r : Rc) : Rc := ⟨r.num, r.of, false, r.sf, r.sf, 0, fun _ => ⟨0, 0, 0, 0, 0, 0, ⟨#[]⟩, 0, fun _ => ⟨0, ⟨#[]⟩⟩⟩, 0, fun _ => ⟨#[]⟩, false, false, 0, 0, fun _ => 0, 0, fun _ => ⟨0, ⟨#[]⟩⟩, 0, fun _ => ⟨0, 0, fun _ => 0⟩, 0⟩
abbrev fallA (sa da : Option Addr) (sc dc : Nat) : RcA := ⟨sa, da, none, none, none, none, none, sc, dc, 0, 0, 0, 0, 0⟩
abbrev fallP (sa da : Option Addr) (sc dc g0 g1 : Nat) : RcP := ⟨fallA sa da sc dc, g0, g1, 0, 0, 0, 0, 0, fun _ => none, fun _ => 0, fun _ => 0, fun _ => none, fun _ => 0, fun _ => 0⟩
theorem rb_fall {sa da : Option Addr} {sc dc g0 g1 : Nat} {r : Rc} {j k : Nat} (h : rb (fallP sa da sc dc g0 g1) (fallR r) j k) : r.sf.n ≠ 0 ∧ ((j = 0 ∧ k = g0) ∨ (j = 1 ∧ k = g1)) := by
  unfold rb at h
  split at h
  · exact ⟨h.1, Or.inl ⟨rfl, h.2⟩⟩
  · exact ⟨h.1, Or.inr ⟨rfl, h.2⟩⟩
  · rcases h with ⟨h, _⟩ | ⟨i, h, _⟩ <;> exact absurd h (Nat.not_lt_zero _)
  · exact absurd rfl h.1
  · exact absurd rfl h.1
  · exact absurd rfl h.1
  · rcases h with ⟨h, _⟩ | ⟨i, h, _⟩ <;> exact absurd h (Nat.not_lt_zero _)
theorem RcAt.fall {w : World} {r : Rc} {sa da : Option Addr} {sc dc g0 g1 : Nat} (o0 : SlsAt w sa g0 r.sf.n r.sf.s) (o1 : SlsAt w da g1 r.sf.n r.sf.s) (h : r.sf.n ≠ 0 → g0 < w.heap.size ∧ g1 < w.heap.size ∧ g0 ≠ g1) : RcAt w (fallR r) (fallP sa da sc dc g0 g1) :=
  have z := RcAt.none w 0 0 false
  ⟨o0, o1, z.o2, z.o3, z.o4, z.o5, z.o6, fun k ⟨j, _, hk⟩ => by obtain ⟨h0, h1⟩ := rb_fall hk; have := h h0; rcases h1 with ⟨_, rfl⟩ | ⟨_, rfl⟩; exact this.1; exact this.2.1,
   fun i j k _ _ h1 h2 => by obtain ⟨h0, h1⟩ := rb_fall h1; obtain ⟨_, h2⟩ := rb_fall h2; have := h h0; omega⟩
set_option maxRecDepth 100000 in
set_option maxHeartbeats 8000000 in
theorem fall_any (r : Rc) (A : RcA) (B : Nat) (w : World) (lo hi : Nat) (hhi : hi ≤ w.heap.size) (hl : (r.sf.n : Int) ≤ 1099511627776) (hbx : Bx w B (ptC r A)) (hc : SlsIn w lo hi A.sa r.sf.n r.sf.s) :
    Calls Try.prog 37 #[.pointer (some ⟨B, 0, none⟩)] w fun e w' => e = .returned (.tuple #[]) ∧ ∃ a' b', Bx w' B (ptC (fallR r) (fallA A.sa a' A.sc r.sf.n)) ∧ SlsAt w' a' b' r.sf.n r.sf.s ∧ (r.sf.n ≠ 0 → w.heap.size ≤ b' ∧ b' < w'.heap.size) ∧ FrP (fun q => q = B) w w' := by
  have HB := hid hbx
  have HC := hid hc
  have hBlt := hbx.lt
  obtain ⟨q0, q1, q2, q3, q4, q5, q6, q7, q8, q9, q10, q11, q12, q13, q14, q15, q16, q17⟩ := holds18 hbx.cell
  clear hbx hc
  go_enter Try.func37, Try.ntmps37
  go_wp2_with (first | (go_at_call 80; refine (copyDisk_own r.sf A.sa A.sc w lo hi hhi hl HC.out).mono ?_; rintro e w1 ⟨a1, g1, rfl, o1, l1, hb1, _⟩; have O1 := hid o1; have L1 := hid l1; have HB1 := hid (HB.out.below hb1 hBlt); have F1 := hid (FrP.of_below (P := fun q => q = B) hb1); (clear q0 q1 q2 q3 q4 q5 q6 q7 q8 q9 q10 q11 q12 q13 q14 q15 q16 q17 o1 l1 HC); (have hsz1 := hb1.size); clear hb1; have HT : Hid (w1.there B 5 13) := fun j hj => by rw [HB1.out.cell (5 + j)]; exact ⟨by simp; omega, HB1.out.free _⟩) | ((with_reducible show wpList _ _ _ (⟨none, Op.store 64 _ _, _, _, _, _⟩ :: _) _ _); refine wpList_store_mid rfl 64 _ _ rfl B 5 ([.bool false, .int .i64 r.sf.pr, .int .i64 r.sf.kn, .slice a1 r.sf.n r.sf.n, .slice none 0 0, .slice none 0 0, .bool false, .bool false, .int .i64 0, .slice none 0 0, .slice none 0 0, .slice none 0 0, .int .i64 0].toArray) rfl rfl HT.out Try.sz64 (all_oneCell_toArray (by simp [Value.oneCell'])) ?_))
  · refine bodyPost_end (results_none rfl _ _ _) rfl ?_
    refine ⟨rfl, a1, HB1.out.mid 5 [.bool false, .int .i64 r.sf.pr, .int .i64 r.sf.kn, .slice a1 r.sf.n r.sf.n, .slice none 0 0, .slice none 0 0, .bool false, .bool false, .int .i64 0, .slice none 0 0, .slice none 0 0, .slice none 0 0, .int .i64 0] (by simp) (fun i hi => ?_) (fun i hi => ?_), g1, O1.out.frP (frP_setCells B 5 _) (fun h0 => ⟨by have := L1.out h0; omega, (L1.out h0).2⟩), fun h0 => by rw [size_setCells]; exact L1.out h0, F1.out.trans (frP_setCells B 5 _)⟩
    · have hi2 : i < 13 := hi
      match i, hi2 with
      | 0, _ => rfl
      | 1, _ => rfl
      | 2, _ => rfl
      | 3, _ => rfl
      | 4, _ => rfl
      | 5, _ => rfl
      | 6, _ => rfl
      | 7, _ => rfl
      | 8, _ => rfl
      | 9, _ => rfl
      | 10, _ => rfl
      | 11, _ => rfl
      | 12, _ => rfl
    · rcases hi with hi | hi
      · match i, hi with
        | 0, _ => rfl
        | 1, _ => rfl
        | 2, _ => rfl
        | 3, _ => rfl
        | 4, _ => rfl
      · have hi2 : 18 ≤ i := hi
        rw [Array.getElem?_eq_none (by simpa using hi2), Array.getElem?_eq_none (by simpa using hi2)]
end Go.Proofs.Ytokkbdlofbdljaa
