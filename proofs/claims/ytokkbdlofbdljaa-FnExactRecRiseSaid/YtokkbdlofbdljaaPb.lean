import Derived.Test.YtokkbdlofbdljaaCg
import Derived.Test.YtokkbdlofbdljaaWz
import Derived.Test.YtokkbdlofbdljaaCf
namespace Go.Proofs.Ytokkbdlofbdljaa
open Go.RowKit
/-- a recorder with what it keeps and what it forgets apart -/
abbrev ptC (r : Rc) (A : RcA) : Array Value := #[.int .i64 r.num, .int .i64 r.of, .int .i64 r.sf.pr, .int .i64 r.sf.kn, .slice A.sa r.sf.n A.sc, .bool r.up, .int .i64 r.dk.pr, .int .i64 r.dk.kn, .slice A.da r.dk.n A.dc, .slice A.ha r.hn A.hc, .slice A.wa r.wn A.wc, .bool r.ld, .bool r.tr, .int .i64 r.bal, .slice A.ya r.yn A.yc, .slice A.ba r.bn A.bc, .slice A.aa r.an A.ac, .int .i64 r.hd]
theorem Try.sz66 : (Try.prog.info? 66).map (·.size) = some 18 := by kernel_rfl
theorem Try.sz64 : (Try.prog.info? 64).map (·.size) = some 13 := by kernel_rfl
abbrev ptZ : List Value := [.int .i64 0, .int .i64 0, .int .i64 0, .int .i64 0, .slice none 0 0, .bool false, .int .i64 0, .int .i64 0, .slice none 0 0, .slice none 0 0, .slice none 0 0, .bool false, .bool false, .int .i64 0, .slice none 0 0, .slice none 0 0, .slice none 0 0, .int .i64 0]
set_option maxRecDepth 100000 in
set_option maxHeartbeats 8000000 in
theorem part_any (r : Rc) (A : RcA) (w : World) : Calls Try.prog 35 #[.agg (rcC r A)] w fun e w' => e = .returned (.agg (ptC r A)) ∧ Below w.heap.size w w' := by
  have mark : Nat := 0
  go_enter Try.func35, Try.ntmps35
  go_wp2_with (first | ((with_reducible show wpList _ _ _ (⟨some 3, _, _, _, _, _⟩ :: _) _ _); clear mark; have Q0 := hid (Bx.new2 w (rcC r A) ptZ.toArray 40 66).1; have Z0 := hid (Bx.new2 w (rcC r A) ptZ.toArray 40 66).2; have hB0 : Below w.heap.size w ((w.alloc (.cells (rcC r A) 40)).alloc (.cells ptZ.toArray 66)) := (below_alloc _ _).alloc (by simp) _; (generalize (w.alloc (.cells (rcC r A) 40)).alloc (.cells ptZ.toArray 66) = W at *); obtain ⟨q0, q1, q2, q3, q4, q5, q6, q7, q8, q9, q10, q11, q12, q13, q14, q15, q16, q17⟩ := holds18 Q0.out.cell) | ((with_reducible show wpList _ _ _ (⟨none, Op.store 66 _ _, _, _, _, _⟩ :: _) _ _); refine wpList_store_box rfl 66 _ _ rfl (w.heap.size + 1) (ptC r A).toList rfl rfl Z0.out rfl Try.sz66 (by simp [Value.oneCell']) ?_; intro V hr hfr hsv; have HBV := hid hr; have HFV := hid hfr; have HSV := hid hsv; clear hr hfr hsv))
  have hBV : Below w.heap.size w V := hB0.trans (HFV.out.below (B := w.heap.size) (Nat.le_succ _) hB0.size)
  exact bodyPost_ret (v := .agg (ptC r A)) (results_cell_mid rfl _ _ (w.heap.size + 1) (ptC r A).toList _ rfl (Holds.range (cs := (ptC r A).toList) HBV.out.cell) Try.underlying66 rfl Try.sz66) rfl ⟨rfl, hBV⟩
set_option maxRecDepth 100000 in
set_option maxHeartbeats 8000000 in
theorem whole_any (r : Rc) (A : RcA) (w : World) : Calls Try.prog 38 #[.agg (ptC r A)] w fun e w' => e = .returned (.agg (rcC r A)) ∧ Below w.heap.size w w' := by
  have mark : Nat := 0
  go_enter Try.func38, Try.ntmps38
  go_wp2_with (first | ((with_reducible show wpList _ _ _ (⟨some 3, _, _, _, _, _⟩ :: _) _ _); clear mark; have Q0 := hid (Bx.new2 w (ptC r A) (rcL 0 0 false).toArray 66 40).1; have Z0 := hid (Bx.new2 w (ptC r A) (rcL 0 0 false).toArray 66 40).2; have hB0 : Below w.heap.size w ((w.alloc (.cells (ptC r A) 66)).alloc (.cells (rcL 0 0 false).toArray 40)) := (below_alloc _ _).alloc (by simp) _; (generalize (w.alloc (.cells (ptC r A) 66)).alloc (.cells (rcL 0 0 false).toArray 40) = W at *); obtain ⟨q0, q1, q2, q3, q4, q5, q6, q7, q8, q9, q10, q11, q12, q13, q14, q15, q16, q17⟩ := holds18 Q0.out.cell) | ((with_reducible show wpList _ _ _ (⟨none, Op.store 40 _ _, _, _, _, _⟩ :: _) _ _); refine wpList_store_box rfl 40 _ _ rfl (w.heap.size + 1) (rcC r A).toList rfl rfl Z0.out rfl Try.sz40 (by simp [Value.oneCell']) ?_; intro V hr hfr hsv; have HBV := hid hr; have HFV := hid hfr; have HSV := hid hsv; clear hr hfr hsv))
  have hBV : Below w.heap.size w V := hB0.trans (HFV.out.below (B := w.heap.size) (Nat.le_succ _) hB0.size)
  exact bodyPost_ret (v := .agg (rcC r A)) (results_cell_mid rfl _ _ (w.heap.size + 1) (rcC r A).toList _ rfl (Holds.range (cs := (rcC r A).toList) HBV.out.cell) Try.underlying40 rfl Try.sz40) rfl ⟨rfl, hBV⟩
theorem Bx.mid {w : World} {b : Nat} {c c' : Array Value} (h : Bx w b c) (o : Nat) (cs : List Value) (hs : o + cs.length ≤ c.size) (hin : ∀ i, i < cs.length → c'[o + i]? = cs[i]?) (hout : ∀ i, i < o ∨ o + cs.length ≤ i → c'[i]? = c[i]?) : Bx (w.setCells b o cs) b c' := by
  have ht : w.there b o cs.length := fun j hj => by
    rw [h.cell (o + j)]
    exact ⟨by simp; omega, h.free _⟩
  refine ⟨fun i => ?_, fun i => ?_, ?_⟩
  · by_cases h1 : i < o ∨ o + cs.length ≤ i
    · rw [World.cell?_setCells_out b cs o w ⟨b, i, none⟩ (fun _ _ => by rcases h1 with h1 | h1; exact Or.inl h1; exact Or.inr h1), h.cell i, hout i h1]
    · obtain ⟨j, rfl⟩ : ∃ j, i = o + j := ⟨i - o, by omega⟩
      have hj : j < cs.length := by omega
      have := World.rangeAt_setCells_same w b o cs ht j cs[j] (List.getElem?_eq_getElem hj)
      rw [hin j hj, List.getElem?_eq_getElem hj]
      exact this
  · rw [World.frozen?_setCells]; exact h.free i
  · rw [size_setCells]; exact h.lt
theorem frP_setCells {w : World} (b o : Nat) (cs : List Value) : FrP (fun q => q = b) w (w.setCells b o cs) := FrP.of_fr (fr_setCells _ _ _ _) (fun k h1 h2 => by omega)
/-- a recorder that fell -/
abbrev fallR (r : Rc) : Rc := ⟨r.num, r.of, false, r.sf, r.sf, 0, fun _ => ⟨0, 0, 0, 0, 0, 0, ⟨#[]⟩, 0, fun _ => ⟨0, ⟨#[]⟩⟩⟩, 0, fun _ => ⟨#[]⟩, false, false, 0, 0, fun _ => 0, 0, fun _ => ⟨0, ⟨#[]⟩⟩, 0, fun _ => ⟨0, 0, fun _ => 0⟩, 0⟩
abbrev fallA (sa da : Option Addr) (sc dc : Nat) : RcA := ⟨sa, da, none, none, none, none, none, sc, dc, 0, 0, 0, 0, 0⟩
abbrev fallP (sa da : Option Addr) (sc dc g0 g1 : Nat) : RcP := ⟨fallA sa da sc dc, g0, g1, 0, 0, 0, 0, 0, fun _ => none, fun _ => 0, fun _ => 0, fun _ => none, fun _ => 0, fun _ => 0⟩
theorem rb_fall {sa da : Option Addr} {sc dc g0 g1 : Nat} {r : Rc} {j k : Nat} (h : rb (fallP sa da sc dc g0 g1) (fallR r) j k) : r.sf.n ≠ 0 ∧ ((j = 0 ∧ k = g0) ∨ (j = 1 ∧ k = g1)) := by
  unfold rb at h
  split at h
  · exact ⟨h.1, Or.inl ⟨rfl, h.2⟩⟩
  · exact ⟨h.1, Or.inr ⟨rfl, h.2⟩⟩
  · rcases h with ⟨h, _⟩ | ⟨i, h, _⟩ <;> exact absurd h (Nat.not_lt_zero _)
  · exact absurd rfl h.1
  · exact absurd rfl h.1
  · exact absurd rfl h.1
  · rcases h with ⟨h, _⟩ | ⟨i, h, _⟩ <;> exact absurd h (Nat.not_lt_zero _)
theorem RcAt.fall {w : World} {r : Rc} {sa da : Option Addr} {sc dc g0 g1 : Nat} (o0 : SlsAt w sa g0 r.sf.n r.sf.s) (o1 : SlsAt w da g1 r.sf.n r.sf.s) (h : r.sf.n ≠ 0 → g0 < w.heap.size ∧ g1 < w.heap.size ∧ g0 ≠ g1) : RcAt w (fallR r) (fallP sa da sc dc g0 g1) :=
  have z := RcAt.none w 0 0 false
  ⟨o0, o1, z.o2, z.o3, z.o4, z.o5, z.o6, fun k ⟨j, _, hk⟩ => by obtain ⟨h0, h1⟩ := rb_fall hk; have := h h0; rcases h1 with ⟨_, rfl⟩ | ⟨_, rfl⟩; exact this.1; exact this.2.1,
   fun i j k _ _ h1 h2 => by obtain ⟨h0, h1⟩ := rb_fall h1; obtain ⟨_, h2⟩ := rb_fall h2; have := h h0; omega⟩
set_option maxRecDepth 100000 in
set_option maxHeartbeats 8000000 in
theorem fall_any (r : Rc) (A : RcA) (B : Nat) (w : World) (lo hi : Nat) (hhi : hi ≤ w.heap.size) (hl : (r.sf.n : Int) ≤ 1099511627776) (hbx : Bx w B (ptC r A)) (hc : SlsIn w lo hi A.sa r.sf.n r.sf.s) :
    Calls Try.prog 37 #[.pointer (some ⟨B, 0, none⟩)] w fun e w' => e = .returned (.tuple #[]) ∧ ∃ a' b', Bx w' B (ptC (fallR r) (fallA A.sa a' A.sc r.sf.n)) ∧ SlsAt w' a' b' r.sf.n r.sf.s ∧ (r.sf.n ≠ 0 → w.heap.size ≤ b' ∧ b' < w'.heap.size) ∧ FrP (fun q => q = B) w w' := by
  have HB := hid hbx
  have HC := hid hc
  have hBlt := hbx.lt
  obtain ⟨q0, q1, q2, q3, q4, q5, q6, q7, q8, q9, q10, q11, q12, q13, q14, q15, q16, q17⟩ := holds18 hbx.cell
  clear hbx hc
  go_enter Try.func37, Try.ntmps37
  go_wp2_with (first | (go_at_call 80; refine (copyDisk_own r.sf A.sa A.sc w lo hi hhi hl HC.out).mono ?_; rintro e w1 ⟨a1, g1, rfl, o1, l1, hb1, _⟩; have O1 := hid o1; have L1 := hid l1; have HB1 := hid (HB.out.below hb1 hBlt); have F1 := hid (FrP.of_below (P := fun q => q = B) hb1); (clear q0 q1 q2 q3 q4 q5 q6 q7 q8 q9 q10 q11 q12 q13 q14 q15 q16 q17 o1 l1 HC); (have hsz1 := hb1.size); clear hb1; have HT : Hid (w1.there B 5 13) := fun j hj => by rw [HB1.out.cell (5 + j)]; exact ⟨by simp; omega, HB1.out.free _⟩) | ((with_reducible show wpList _ _ _ (⟨none, Op.store 64 _ _, _, _, _, _⟩ :: _) _ _); refine wpList_store_mid rfl 64 _ _ rfl B 5 ([.bool false, .int .i64 r.sf.pr, .int .i64 r.sf.kn, .slice a1 r.sf.n r.sf.n, .slice none 0 0, .slice none 0 0, .bool false, .bool false, .int .i64 0, .slice none 0 0, .slice none 0 0, .slice none 0 0, .int .i64 0].toArray) rfl rfl HT.out Try.sz64 (all_oneCell_toArray (by simp [Value.oneCell'])) ?_))
  · refine bodyPost_end (results_none rfl _ _ _) rfl ?_
    refine ⟨rfl, a1, HB1.out.mid 5 [.bool false, .int .i64 r.sf.pr, .int .i64 r.sf.kn, .slice a1 r.sf.n r.sf.n, .slice none 0 0, .slice none 0 0, .bool false, .bool false, .int .i64 0, .slice none 0 0, .slice none 0 0, .slice none 0 0, .int .i64 0] (by simp) (fun i hi => ?_) (fun i hi => ?_), g1, O1.out.frP (frP_setCells B 5 _) (fun h0 => ⟨by have := L1.out h0; omega, (L1.out h0).2⟩), fun h0 => by rw [size_setCells]; exact L1.out h0, F1.out.trans (frP_setCells B 5 _)⟩
    · have hi2 : i < 13 := hi
      match i, hi2 with
      | 0, _ => rfl
      | 1, _ => rfl
      | 2, _ => rfl
      | 3, _ => rfl
      | 4, _ => rfl
      | 5, _ => rfl
      | 6, _ => rfl
      | 7, _ => rfl
      | 8, _ => rfl
      | 9, _ => rfl
      | 10, _ => rfl
      | 11, _ => rfl
      | 12, _ => rfl
    · rcases hi with hi | hi
      · match i, hi with
        | 0, _ => rfl
        | 1, _ => rfl
        | 2, _ => rfl
        | 3, _ => rfl
        | 4, _ => rfl
      · have hi2 : 18 ≤ i := hi
        rw [Array.getElem?_eq_none (by simpa using hi2), Array.getElem?_eq_none (by simpa using hi2)]
end Go.Proofs.Ytokkbdlofbdljaa
namespace Go.Proofs.Ytokkbdlofbdljaa
open Go.RowKit
/-- a recorder that rose -/
abbrev riseR (r : Rc) : Rc := ⟨r.num, r.of, true, r.sf, r.dk, r.hn, r.hs, r.wn, r.ws, r.ld, r.tr, r.bal, r.yn, r.ys, r.bn, r.bs, r.an, r.as_, r.hd⟩
theorem RcAt.rise {w : World} {r : Rc} {p : RcP} (h : RcAt w r p) : RcAt w (riseR r) p := ⟨h.o0, h.o1, h.o2, h.o3, h.o4, h.o5, h.o6, h.lt, h.ap⟩
/-- what RecFall and RecRise answer -/
def outF (r : Rc) : Rc := if rcB r then fallR r else rc0 0 0 false
def outU (r : Rc) : Rc := if rcB r then riseR r else rc0 0 0 false
set_option maxRecDepth 100000 in
set_option maxHeartbeats 8000000 in
theorem fallImpl_any (r : Rc) (A : RcA) (w : World) (lo hi : Nat) (hhi : hi ≤ w.heap.size) (hm : RcSmall r) (hf : RcFit r) (hn : RcNew r A) (hc : RcIn w lo hi r A) :
    Calls Try.prog 11 #[rcV r A] w fun e w' => ∃ p, e = .returned (rcV (outF r) p.A) ∧ RcAt w' (outF r) p ∧ (∀ k, rbs p (outF r) k → w.heap.size ≤ k) ∧ Below w.heap.size w w' := by
  have HM := hid hm
  have HF := hid hf
  have HN := hid hn
  have HC := hid hc
  have hV := hid (implValid_any r A)
  clear hm hf hn hc
  have mark : Nat := 0
  obtain ⟨bv, hbv⟩ : ∃ b, rcB r = b := ⟨_, rfl⟩
  rw [hbv] at hV
  have HBV0 := hid hbv
  clear hbv
  cases bv
  · have OUT := hid (show outF r = rc0 0 0 false by simp [outF, HBV0.out])
    generalize outF r = O at *
    go_enter Try.func11, Try.ntmps11
    go_wp2_with (first | ((with_reducible show wpList _ _ _ (⟨some 4, _, _, _, _, _⟩ :: _) _ _); clear mark; have Q0 := hid (Bx.new2 w (rcC r A) (rcL 0 0 false).toArray 40 40).1; have Z0 := hid (Bx.new2 w (rcC r A) (rcL 0 0 false).toArray 40 40).2; have hB0 : Below w.heap.size w ((w.alloc (.cells (rcC r A) 40)).alloc (.cells (rcL 0 0 false).toArray 40)) := (below_alloc _ _).alloc (by simp) _; (generalize (w.alloc (.cells (rcC r A) 40)).alloc (.cells (rcL 0 0 false).toArray 40) = W at *)) | ((with_reducible show wpList _ _ _ (⟨some 4, Op.load 40 _, _, _, _, _⟩ :: _) _ _); refine wpList_load_mid rfl 40 _ rfl w.heap.size 0 rfl (rcC r A).toList _ (Holds.range (cs := (rcC r A).toList) Q0.out.cell) Try.underlying40 rfl Try.sz40 ?_) | (go_at_call 34; refine (hV.out W lo hi (Nat.le_trans hhi hB0.size) HF.out HN.out (HC.out.below hB0 hhi)).mono ?_; rintro e w1 ⟨rfl, hb1⟩; have hB1 : Below w.heap.size w w1 := hB0.trans (hb1.mono hB0.size); have Z1 := hid (Z0.out.below hb1 Z0.out.lt); have Q1 := hid (Q0.out.below hb1 Q0.out.lt); clear hb1 Q0 Z0 hB0) | ((with_reducible show wpList _ _ _ (⟨none, Op.store 40 _ _, _, _, _, _⟩ :: _) _ _); refine wpList_store_box rfl 40 _ _ rfl (w.heap.size + 1) (rcL 0 0 false) rfl rfl Z1.out rfl Try.sz40 (by simp [Value.oneCell']) ?_; intro V hr hfr hsv; have HBV := hid hr; have HFV := hid hfr; have HSV := hid hsv; clear hr hfr hsv))
    have hBV : Below w.heap.size w V := hB1.trans (HFV.out.below (B := w.heap.size) (Nat.le_succ _) hB1.size)
    refine bodyPost_ret (v := rcZ 0 0 false) (results_cell_mid rfl _ _ (w.heap.size + 1) (rcL 0 0 false) _ rfl (Holds.range (cs := (rcL 0 0 false)) HBV.out.cell) Try.underlying40 rfl Try.sz40) rfl ?_
    rw [OUT.out]
    exact ⟨pN, rfl, RcAt.none _ _ _ _, fun k ⟨j, _, hk⟩ => absurd hk (rb_none 0 0 false j k), hBV⟩
  have OUT := hid (show outF r = fallR r by simp [outF, HBV0.out])
  generalize outF r = O at *
  have mark2 : Nat := 0
  have mark3 : Nat := 0
  go_enter Try.func11, Try.ntmps11
  go_wp2_with (first | ((with_reducible show wpList _ _ _ (⟨some 4, _, _, _, _, _⟩ :: _) _ _); clear mark; have Q0 := hid (Bx.new2 w (rcC r A) (rcL 0 0 false).toArray 40 40).1; have Z0 := hid (Bx.new2 w (rcC r A) (rcL 0 0 false).toArray 40 40).2; have hB0 : Below w.heap.size w ((w.alloc (.cells (rcC r A) 40)).alloc (.cells (rcL 0 0 false).toArray 40)) := (below_alloc _ _).alloc (by simp) _; (generalize (w.alloc (.cells (rcC r A) 40)).alloc (.cells (rcL 0 0 false).toArray 40) = W at *)) | ((with_reducible show wpList _ _ _ (⟨some 4, Op.load 40 _, _, _, _, _⟩ :: _) _ _); refine wpList_load_mid rfl 40 _ rfl w.heap.size 0 rfl (rcC r A).toList _ (Holds.range (cs := (rcC r A).toList) Q0.out.cell) Try.underlying40 rfl Try.sz40 ?_) | (go_at_call 34; refine (hV.out W lo hi (Nat.le_trans hhi hB0.size) HF.out HN.out (HC.out.below hB0 hhi)).mono ?_; rintro e w1 ⟨rfl, hb1⟩; have hB1 : Below w.heap.size w w1 := hB0.trans (hb1.mono hB0.size); have Z1 := hid (Z0.out.below hb1 Z0.out.lt); have Q1 := hid (Q0.out.below hb1 Q0.out.lt); clear hb1 Q0 Z0 hB0) | ((with_reducible show wpList _ _ _ (⟨some 8, Op.load 40 _, _, _, _, _⟩ :: _) _ _); refine wpList_load_mid rfl 40 _ rfl w.heap.size 0 rfl (rcC r A).toList _ (Holds.range (cs := (rcC r A).toList) Q1.out.cell) Try.underlying40 rfl Try.sz40 ?_) | (go_at_call 36; refine (recCopy_any r A w1 lo hi (Nat.le_trans hhi hB1.size) HM.out (HC.out.below hB1 hhi)).mono ?_; rintro e w2 ⟨p, rfl, hat, htt, hge, hb2⟩; have hB2 : Below w.heap.size w w2 := hB1.trans (hb2.mono hB1.size); have Z2 := hid (Z1.out.below hb2 Z1.out.lt); have HAT := hid hat; have HTT := hid htt; have hsz1 := hB1.size; have hsz12 := hb2.size; have HGE := hid hge; have hz1x : w.heap.size + 1 + 1 ≤ w1.heap.size := Z1.out.lt; clear hb2 Q1 Z1 hat htt hge hB1) | (go_at_call 35; refine (part_any r p.A w2).mono ?_; rintro e w3 ⟨rfl, hb3⟩; have hB3 : Below w.heap.size w w3 := hB2.trans (hb3.mono hB2.size); have Z3 := hid (Z2.out.below hb3 Z2.out.lt); have A3 := hid (HAT.out.grow hb3); have HLT := hid HAT.out.lt; have hsz23 := hb3.size; clear hb3 Z2 HAT hB2) | ((with_reducible show wpList _ _ _ (⟨none, Op.store 66 _ _, _, _, _, _⟩ :: _) _ _); refine wpList_store_box rfl 66 _ _ rfl w3.heap.size (ptC r p.A).toList rfl rfl (Bx.new w3 ptZ.toArray 66) rfl Try.sz66 (by simp [Value.oneCell']) ?_; intro V hr hfr hsv; have B5 := hid hr; have hb4 : Below w3.heap.size w3 V := (below_alloc w3 _).trans (hfr.below (B := w3.heap.size) (Nat.le_refl _) (by simp)); have hB4 : Below w.heap.size w V := hB3.trans (hb4.mono hB3.size); have Z4 := hid (Z3.out.below hb4 Z3.out.lt); have A4 := hid (A3.out.grow hb4); have hsz34 := hb4.size; clear hr hfr hsv hb4 Z3 A3 hB3) | (go_at_call 37; refine (fall_any r p.A w3.heap.size V 0 V.heap.size (Nat.le_refl _) (by have := HM.out.sf; omega) B5.out (A4.out.o0.isIn (fun h0 => ⟨Nat.zero_le _, rb_lt A4.out (j := 0) (by omega) ⟨h0, rfl⟩⟩))).mono ?_; rintro e w4 ⟨rfl, a', b', bx, o1, l1, fr⟩; have B6 := hid bx; have O1 := hid o1; have L1 := hid l1; have FF := hid fr; have Z5 := hid (Z4.out.frP fr (by omega)); have O0 := hid (A4.out.o0.frP fr (fun h0 => ⟨by have := HLT.out _ ⟨0, by omega, h0, rfl⟩; omega, rb_lt A4.out (j := 0) (by omega) ⟨h0, rfl⟩⟩)); have hB5 : Below w.heap.size w w4 := hB4.trans (fr.below (B := w.heap.size) (fun k hk e => by omega) (by omega)); have hszf := fr.size; clear bx o1 l1 fr Z4 B5 hB4) | ((with_reducible show wpList _ _ _ (⟨some 12, Op.load 66 _, _, _, _, _⟩ :: _) _ _); refine wpList_load_mid rfl 66 _ rfl w3.heap.size 0 rfl (ptC (fallR r) (fallA p.A.sa a' p.A.sc r.sf.n)).toList _ (Holds.range (cs := (ptC (fallR r) (fallA p.A.sa a' p.A.sc r.sf.n)).toList) B6.out.cell) Try.underlying66 rfl Try.sz66 ?_) | (go_at_call 38; refine (whole_any (fallR r) (fallA p.A.sa a' p.A.sc r.sf.n) w4).mono ?_; rintro e w5 ⟨rfl, hb5⟩; have hB6 : Below w.heap.size w w5 := hB5.trans (hb5.mono hB5.size); have Z6 := hid (Z5.out.below hb5 Z5.out.lt); have O06 := hid (O0.out.grow hb5); have O16 := hid (O1.out.grow hb5); have hsz45 := hb5.size; clear hb5 Z5 hB5 O0 O1) | ((with_reducible show wpList _ _ _ (⟨none, Op.store 40 _ _, _, _, _, _⟩ :: _) _ _); refine wpList_store_box rfl 40 _ _ rfl (w.heap.size + 1) (rcC (fallR r) (fallA p.A.sa a' p.A.sc r.sf.n)).toList rfl rfl Z6.out rfl Try.sz40 (by simp [Value.oneCell']) ?_; intro V2 hr hfr hsv; have HBV2 := hid hr; have HFV2 := hid hfr; have HSV2 := hid hsv; clear hr hfr hsv))
  have fv : FrP (fun q => q = w.heap.size + 1) w5 V2 := FrP.of_fr HFV2.out (fun k h1 h2 => by omega)
  have hBV : Below w.heap.size w V2 := hB6.trans (fv.below (B := w.heap.size) (fun k hk e => by omega) (by have := hB6.size; omega))
  refine bodyPost_ret (v := .agg (rcC (fallR r) (fallA p.A.sa a' p.A.sc r.sf.n))) (results_cell_mid rfl _ _ (w.heap.size + 1) (rcC (fallR r) (fallA p.A.sa a' p.A.sc r.sf.n)).toList _ rfl (Holds.range (cs := (rcC (fallR r) (fallA p.A.sa a' p.A.sc r.sf.n)).toList) HBV2.out.cell) Try.underlying40 rfl Try.sz40) rfl ?_
  rw [OUT.out]
  have h0' : r.sf.n ≠ 0 → w.heap.size + 1 < p.g0 ∧ p.g0 < w2.heap.size := fun h0 => ⟨by have := HGE.out _ ⟨0, by omega, h0, rfl⟩; omega, HLT.out _ ⟨0, by omega, h0, rfl⟩⟩
  have hs2 := HSV2.out
  refine ⟨fallP p.A.sa a' p.A.sc r.sf.n p.g0 b', rfl, RcAt.fall (O06.out.frP fv (fun h0 => ⟨by have := h0' h0; omega, by have := h0' h0; omega⟩)) (O16.out.frP fv (fun h0 => ⟨by have := L1.out h0; omega, by have := L1.out h0; omega⟩)) (fun h0 => ⟨by have := h0' h0; omega, by have := L1.out h0; omega, by have := h0' h0; have := L1.out h0; omega⟩), fun k ⟨j, _, hk⟩ => ?_, hBV⟩
  obtain ⟨h0, h1⟩ := rb_fall hk
  have := h0' h0
  have := L1.out h0
  omega
set_option maxRecDepth 100000 in
set_option maxHeartbeats 8000000 in
theorem riseImpl_any (r : Rc) (A : RcA) (w : World) (lo hi : Nat) (hhi : hi ≤ w.heap.size) (hm : RcSmall r) (hf : RcFit r) (hn : RcNew r A) (hc : RcIn w lo hi r A) :
    Calls Try.prog 16 #[rcV r A] w fun e w' => ∃ p, e = .returned (rcV (outU r) p.A) ∧ RcAt w' (outU r) p ∧ (∀ k, rbs p (outU r) k → w.heap.size ≤ k) ∧ Below w.heap.size w w' := by
  have HM := hid hm
  have HF := hid hf
  have HN := hid hn
  have HC := hid hc
  have hV := hid (implValid_any r A)
  clear hm hf hn hc
  have mark : Nat := 0
  obtain ⟨bv, hbv⟩ : ∃ b, rcB r = b := ⟨_, rfl⟩
  rw [hbv] at hV
  have HBV0 := hid hbv
  clear hbv
  cases bv
  · have OUT := hid (show outU r = rc0 0 0 false by simp [outU, HBV0.out])
    generalize outU r = O at *
    go_enter Try.func16, Try.ntmps16
    go_wp2_with (first | ((with_reducible show wpList _ _ _ (⟨some 4, _, _, _, _, _⟩ :: _) _ _); clear mark; have Q0 := hid (Bx.new2 w (rcC r A) (rcL 0 0 false).toArray 40 40).1; have Z0 := hid (Bx.new2 w (rcC r A) (rcL 0 0 false).toArray 40 40).2; have hB0 : Below w.heap.size w ((w.alloc (.cells (rcC r A) 40)).alloc (.cells (rcL 0 0 false).toArray 40)) := (below_alloc _ _).alloc (by simp) _; (generalize (w.alloc (.cells (rcC r A) 40)).alloc (.cells (rcL 0 0 false).toArray 40) = W at *)) | ((with_reducible show wpList _ _ _ (⟨some 4, Op.load 40 _, _, _, _, _⟩ :: _) _ _); refine wpList_load_mid rfl 40 _ rfl w.heap.size 0 rfl (rcC r A).toList _ (Holds.range (cs := (rcC r A).toList) Q0.out.cell) Try.underlying40 rfl Try.sz40 ?_) | (go_at_call 34; refine (hV.out W lo hi (Nat.le_trans hhi hB0.size) HF.out HN.out (HC.out.below hB0 hhi)).mono ?_; rintro e w1 ⟨rfl, hb1⟩; have hB1 : Below w.heap.size w w1 := hB0.trans (hb1.mono hB0.size); have Z1 := hid (Z0.out.below hb1 Z0.out.lt); have Q1 := hid (Q0.out.below hb1 Q0.out.lt); clear hb1 Q0 Z0 hB0) | ((with_reducible show wpList _ _ _ (⟨none, Op.store 40 _ _, _, _, _, _⟩ :: _) _ _); refine wpList_store_box rfl 40 _ _ rfl (w.heap.size + 1) (rcL 0 0 false) rfl rfl Z1.out rfl Try.sz40 (by simp [Value.oneCell']) ?_; intro V hr hfr hsv; have HBV := hid hr; have HFV := hid hfr; have HSV := hid hsv; clear hr hfr hsv))
    have hBV : Below w.heap.size w V := hB1.trans (HFV.out.below (B := w.heap.size) (Nat.le_succ _) hB1.size)
    refine bodyPost_ret (v := rcZ 0 0 false) (results_cell_mid rfl _ _ (w.heap.size + 1) (rcL 0 0 false) _ rfl (Holds.range (cs := (rcL 0 0 false)) HBV.out.cell) Try.underlying40 rfl Try.sz40) rfl ?_
    rw [OUT.out]
    exact ⟨pN, rfl, RcAt.none _ _ _ _, fun k ⟨j, _, hk⟩ => absurd hk (rb_none 0 0 false j k), hBV⟩
  have OUT := hid (show outU r = riseR r by simp [outU, HBV0.out])
  generalize outU r = O at *
  have mark2 : Nat := 0
  have mark3 : Nat := 0
  go_enter Try.func16, Try.ntmps16
  go_wp2_with (first | ((with_reducible show wpList _ _ _ (⟨some 4, _, _, _, _, _⟩ :: _) _ _); clear mark; have Q0 := hid (Bx.new2 w (rcC r A) (rcL 0 0 false).toArray 40 40).1; have Z0 := hid (Bx.new2 w (rcC r A) (rcL 0 0 false).toArray 40 40).2; have hB0 : Below w.heap.size w ((w.alloc (.cells (rcC r A) 40)).alloc (.cells (rcL 0 0 false).toArray 40)) := (below_alloc _ _).alloc (by simp) _; (generalize (w.alloc (.cells (rcC r A) 40)).alloc (.cells (rcL 0 0 false).toArray 40) = W at *)) | ((with_reducible show wpList _ _ _ (⟨some 4, Op.load 40 _, _, _, _, _⟩ :: _) _ _); refine wpList_load_mid rfl 40 _ rfl w.heap.size 0 rfl (rcC r A).toList _ (Holds.range (cs := (rcC r A).toList) Q0.out.cell) Try.underlying40 rfl Try.sz40 ?_) | (go_at_call 34; refine (hV.out W lo hi (Nat.le_trans hhi hB0.size) HF.out HN.out (HC.out.below hB0 hhi)).mono ?_; rintro e w1 ⟨rfl, hb1⟩; have hB1 : Below w.heap.size w w1 := hB0.trans (hb1.mono hB0.size); have Z1 := hid (Z0.out.below hb1 Z0.out.lt); have Q1 := hid (Q0.out.below hb1 Q0.out.lt); clear hb1 Q0 Z0 hB0) | ((with_reducible show wpList _ _ _ (⟨some 8, Op.load 40 _, _, _, _, _⟩ :: _) _ _); refine wpList_load_mid rfl 40 _ rfl w.heap.size 0 rfl (rcC r A).toList _ (Holds.range (cs := (rcC r A).toList) Q1.out.cell) Try.underlying40 rfl Try.sz40 ?_) | (go_at_call 36; refine (recCopy_any r A w1 lo hi (Nat.le_trans hhi hB1.size) HM.out (HC.out.below hB1 hhi)).mono ?_; rintro e w2 ⟨p, rfl, hat, htt, hge, hb2⟩; have hB2 : Below w.heap.size w w2 := hB1.trans (hb2.mono hB1.size); have Z2 := hid (Z1.out.below hb2 Z1.out.lt); have HAT := hid hat; have HTT := hid htt; have hsz1 := hB1.size; have hsz12 := hb2.size; have HGE := hid hge; have hz1x : w.heap.size + 1 + 1 ≤ w1.heap.size := Z1.out.lt; clear hb2 Q1 Z1 hat htt hge hB1) | (go_at_call 35; refine (part_any r p.A w2).mono ?_; rintro e w3 ⟨rfl, hb3⟩; have hB3 : Below w.heap.size w w3 := hB2.trans (hb3.mono hB2.size); have Z3 := hid (Z2.out.below hb3 Z2.out.lt); have A3 := hid (HAT.out.grow hb3); have HLT := hid HAT.out.lt; have hsz23 := hb3.size; clear hb3 Z2 HAT hB2) | ((with_reducible show wpList _ _ _ (⟨none, Op.store 66 _ _, _, _, _, _⟩ :: _) _ _); refine wpList_store_box rfl 66 _ _ rfl w3.heap.size (ptC r p.A).toList rfl rfl (Bx.new w3 ptZ.toArray 66) rfl Try.sz66 (by simp [Value.oneCell']) ?_; intro V hr hfr hsv; have B5 := hid hr; have hb4 : Below w3.heap.size w3 V := (below_alloc w3 _).trans (hfr.below (B := w3.heap.size) (Nat.le_refl _) (by simp)); have hB4 : Below w.heap.size w V := hB3.trans (hb4.mono hB3.size); have Z4 := hid (Z3.out.below hb4 Z3.out.lt); have A4 := hid (A3.out.grow hb4); have hsz34 := hb4.size; clear hr hfr hsv hb4 Z3 A3 hB3) | ((with_reducible show wpList _ _ _ (⟨some 11, _, _, _, _, _⟩ :: _) _ _); clear mark2; obtain ⟨q0, q1, q2, q3, q4, q5, q6, q7, q8, q9, q10, q11, q12, q13, q14, q15, q16, q17⟩ := holds18 B5.out.cell; have qf := B5.out.free) | ((with_reducible show wpList _ _ _ (⟨some 13, Op.load 66 _, _, _, _, _⟩ :: _) _ _); clear mark3; have B6 : Hid (Bx (V.setCell ⟨w3.heap.size, 5, none⟩ (.bool true)) w3.heap.size (ptC (riseR r) p.A)) := B5.out.to (hset5 B5.out.cell (.bool true)); have FF := hid ((FrP.refl (fun q => q = w3.heap.size) V).setCell (p := ⟨w3.heap.size, 5, none⟩) rfl (.bool true)); (generalize V.setCell ⟨w3.heap.size, 5, none⟩ (.bool true) = w4 at *); have Z5 := hid (Z4.out.frP FF.out (by omega)); have A5 := hid (A4.out.fr FF.out (fun k hk e => by have := HLT.out k hk; omega)); have hB5 : Below w.heap.size w w4 := hB4.trans (FF.out.below (B := w.heap.size) (fun k hk e => by omega) (by omega)); have hszf := FF.out.size; clear q0 q1 q2 q3 q4 q5 q6 q7 q8 q9 q10 q11 q12 q13 q14 q15 q16 q17 qf Z4 A4 B5 hB4) | ((with_reducible show wpList _ _ _ (⟨some 13, Op.load 66 _, _, _, _, _⟩ :: _) _ _); refine wpList_load_mid rfl 66 _ rfl w3.heap.size 0 rfl (ptC (riseR r) p.A).toList _ (Holds.range (cs := (ptC (riseR r) p.A).toList) B6.out.cell) Try.underlying66 rfl Try.sz66 ?_) | (go_at_call 38; refine (whole_any (riseR r) p.A w4).mono ?_; rintro e w5 ⟨rfl, hb5⟩; have hB6 : Below w.heap.size w w5 := hB5.trans (hb5.mono hB5.size); have Z6 := hid (Z5.out.below hb5 Z5.out.lt); have A6 := hid (A5.out.grow hb5); have hsz45 := hb5.size; clear hb5 Z5 hB5 A5) | ((with_reducible show wpList _ _ _ (⟨none, Op.store 40 _ _, _, _, _, _⟩ :: _) _ _); refine wpList_store_box rfl 40 _ _ rfl (w.heap.size + 1) (rcC (riseR r) p.A).toList rfl rfl Z6.out rfl Try.sz40 (by simp [Value.oneCell']) ?_; intro V2 hr hfr hsv; have HBV2 := hid hr; have HFV2 := hid hfr; have HSV2 := hid hsv; clear hr hfr hsv))
  have fv : FrP (fun q => q = w.heap.size + 1) w5 V2 := FrP.of_fr HFV2.out (fun k h1 h2 => by omega)
  have hBV : Below w.heap.size w V2 := hB6.trans (fv.below (B := w.heap.size) (fun k hk e => by omega) (by have := hB6.size; omega))
  refine bodyPost_ret (v := .agg (rcC (riseR r) p.A)) (results_cell_mid rfl _ _ (w.heap.size + 1) (rcC (riseR r) p.A).toList _ rfl (Holds.range (cs := (rcC (riseR r) p.A).toList) HBV2.out.cell) Try.underlying40 rfl Try.sz40) rfl ?_
  rw [OUT.out]
  have ge : ∀ k, rbs p r k → w.heap.size + 1 < k := fun k hk => by
    have := HGE.out k hk
    omega
  exact ⟨p, rfl, (A6.out.fr fv (fun k hk e => by have := ge k hk; omega)).rise, fun k hk => by have := ge k hk; omega, hBV⟩
end Go.Proofs.Ytokkbdlofbdljaa
