import Derived.Test.YtkfbclopkgnacaaGreatDoorGe
import Derived.Test.YtkfbclopkgnacaaGreatDoorJu
import Derived.Test.YtkfbclopkgnacaaGreatDoorZ
namespace Go.Proofs.YtkfbclopkgnacaaGreatDoor
open Go.RowKit
set_option maxRecDepth 100000 in
set_option maxHeartbeats 2000000 in
theorem heldChs_own (ad : Option Addr) (g n : Nat) (x : Nat → Ch) (A : Nat → Option Addr) (C : Nat → Nat) (hb : Nat → Nat) (cap k0 : Nat) (w : World) (hl : (n : Int) ≤ 1048576) (hk1 : 1 ≤ (k0 : Int)) (hk2 : (mkChs k0 x n : Int) ≤ 1073741824) (hc : ChsAt w ad g n (ykCh k0 x n) A C hb) :
    Calls Tryz.prog 24 #[.slice ad n cap, .int .i64 k0] w fun e w' => e = .returned (.int .i64 (mkChs k0 x n)) ∧ Below w.heap.size w w' := by
  have HO := hid hc
  clear hc
  go_enter Tryz.func24, Tryz.ntmps24
  go_wp2
  go_loopw [1, 5] (fun t i wr => ∃ k : Nat, k ≤ n ∧ i = .int .i64 k ∧ t = .int .i64 (mkChs k0 x k) ∧ Below w.heap.size w wr) (fun _ i _ => n - (intOf i).toNat)
  case atStart => exact ⟨0, Nat.zero_le _, rfl, rfl, Below.refl _ _⟩
  case round =>
    obtain ⟨k, hk, rfl, rfl, b0⟩ := hrel
    by_cases hkn : k < n
    · have hmo := mkChs_mono k0 x (k := k + 1) (n := n) (by omega)
      have hm1 := mkChs_pos k0 x k (by omega)
      have hms : mkChs k0 x (k + 1) = mkChs k0 x k + 8 + (x k).ob.hn := rfl
      have HM : Hid (mkChs k0 x (k + 1) = mkChs k0 x k + 8 + (x k).ob.hn) := hms
      have hm : mkChs k0 x k + 8 + (x k).ob.hn ≤ 1073741824 := by omega
      clear hmo hms
      have hadr := HO.out.addr (by omega)
      obtain ⟨c, rr, hat⟩ := HO.out.row (by omega)
      have hak := hat k hkn
      rw [ykCh_lt hkn] at hak
      have hho := HO.out.hold k hkn
      have hhl := HO.out.hlt k hkn
      rw [ykCh_lt hkn] at hho hhl
      obtain ⟨m, hme⟩ : ∃ m, mkChs k0 x k = m := ⟨_, rfl⟩
      rw [hme] at hm1 hm HM hak hho hhl ⊢
      clear hme hat
      subst hadr
      obtain ⟨a0, a1, a2, a3, a4, a5, a6, a7, a8⟩ := hak
      replace a0 : c (k * 9) = .int .i64 ((m : Int)) := a0.trans (by first | (exact congrArg (Value.int .i64) (by first | rfl | (simp only [mkCh]; omega))) | (exact congrArg Value.bool (rem3 (by omega)).symm))
      replace a1 : c (k * 9 + 1) = .bool (((m : Int) + 1) % 3 == 0) := a1.trans (by first | (exact congrArg (Value.int .i64) (by first | rfl | (simp only [mkCh]; omega))) | (exact congrArg Value.bool (rem3 (by omega)).symm))
      replace a2 : c (k * 9 + 2) = .string (mt (m + 2)) := a2
      replace a3 : c (k * 9 + 3) = .string (mt (m + 3)) := a3
      replace a4 : c (k * 9 + 4) = .int .i64 ((m : Int) + 1 + 1 + 1 + 1) := a4.trans (by first | (exact congrArg (Value.int .i64) (by first | rfl | (simp only [mkCh]; omega))) | (exact congrArg Value.bool (rem3 (by omega)).symm))
      replace a5 : c (k * 9 + 5) = .int .i64 ((m : Int) + 1 + 1 + 1 + 1 + 1) := a5.trans (by first | (exact congrArg (Value.int .i64) (by first | rfl | (simp only [mkCh]; omega))) | (exact congrArg Value.bool (rem3 (by omega)).symm))
      replace a6 : c (k * 9 + 6) = .string (mt (m + 6)) := a6
      replace a7 : c (k * 9 + 7) = .bool (((m : Int) + 1 + 1 + 1 + 1 + 1 + 1 + 1) % 3 == 0) := a7.trans (by first | (exact congrArg (Value.int .i64) (by first | rfl | (simp only [mkCh]; omega))) | (exact congrArg Value.bool (rem3 (by omega)).symm))
      replace a8 : c (k * 9 + 8) = .slice (A k) (x k).ob.hn (C k) := a8
      have A0 := hid a0
      have A1 := hid a1
      have A2 := hid a2
      have A3 := hid a3
      have A4 := hid a4
      have A5 := hid a5
      have A6 := hid a6
      have A7 := hid a7
      have A8 := hid a8
      have RR := hid rr
      have hgw := rr.lt
      clear rr a0 a1 a2 a3 a4 a5 a6 a7 a8
      have HHO : Hid (StrsOwn w (hb k) (hb k + 1) (A k) (x k).ob.hn (fun i => mt (m + 8 + i))) := hho
      have HHL : Hid ((x k).ob.hn ≠ 0 → hb k < w.heap.size) := hhl
      clear hho hhl
      have q0 := ((RR.out.below b0 hgw).cell (k * 9) (by omega)).trans (congrArg some A0.out)
      have q1 := ((RR.out.below b0 hgw).cell (k * 9 + 1) (by omega)).trans (congrArg some A1.out)
      have z1 := b0.size
      have qq2 := ((RR.out.below b0 hgw).cell (k * 9 + 2) (by omega)).trans (congrArg some A2.out)
      have y2 := subcell qq2 (by show g < _; omega)
      have hne1 : Nonempty (GW wr) := ⟨⟨_, Below.refl _ _⟩⟩
      go_wp2
      refine wp_region_grow (by kernel_rfl) (by kernel_rfl) ?_
      repeat (go_big_quiet_step ((go_at_call 48; go_must (exact grow_of (markText_at _ (m + 2) (by omega) _ (by omega) (by omega))))))
      refine wpQuiet_nil ?_
      rintro w1 ⟨u, hu⟩
      have c1 : Below wr.heap.size wr w1 := hu ▸ u.prop
      have b1 := b0.trans (c1.mono (by omega))
      clear hu u hne1 qq2 y2 c1 q0 q1
      have z2 := b1.size
      have qq3 := ((RR.out.below b1 hgw).cell (k * 9 + 3) (by omega)).trans (congrArg some A3.out)
      have y3 := subcell qq3 (by show g < _; omega)
      have hne2 : Nonempty (GW w1) := ⟨⟨_, Below.refl _ _⟩⟩
      go_wp2
      refine wp_region_grow (by kernel_rfl) (by kernel_rfl) ?_
      repeat (go_big_quiet_step ((go_at_call 48; go_must (exact grow_of (markText_at _ (m + 3) (by omega) _ (by omega) (by omega))))))
      refine wpQuiet_nil ?_
      rintro w2 ⟨u, hu⟩
      have c2 : Below w1.heap.size w1 w2 := hu ▸ u.prop
      have b2 := b1.trans (c2.mono (by omega))
      clear hu u hne2 qq3 y3 c2 
      have q4 := ((RR.out.below b2 hgw).cell (k * 9 + 4) (by omega)).trans (congrArg some A4.out)
      have q5 := ((RR.out.below b2 hgw).cell (k * 9 + 5) (by omega)).trans (congrArg some A5.out)
      have z3 := b2.size
      have qq6 := ((RR.out.below b2 hgw).cell (k * 9 + 6) (by omega)).trans (congrArg some A6.out)
      have y6 := subcell qq6 (by show g < _; omega)
      have hne3 : Nonempty (GW w2) := ⟨⟨_, Below.refl _ _⟩⟩
      go_wp2
      refine wp_region_grow (by kernel_rfl) (by kernel_rfl) ?_
      repeat (go_big_quiet_step ((go_at_call 48; go_must (exact grow_of (markText_at _ (m + 6) (by omega) _ (by omega) (by omega))))))
      refine wpQuiet_nil ?_
      rintro w3 ⟨u, hu⟩
      have c3 : Below w2.heap.size w2 w3 := hu ▸ u.prop
      have b3 := b2.trans (c3.mono (by omega))
      clear hu u hne3 qq6 y6 c3 q4 q5
      have q7 := ((RR.out.below b3 hgw).cell (k * 9 + 7) (by omega)).trans (congrArg some A7.out)
      have q8 := ((RR.out.below b3 hgw).cell (k * 9 + 8) (by omega)).trans (congrArg some A8.out)
      have zl := b3.size
      go_wp2_with fail
      refine (heldStrs_own (x k).ob.hn (A k) (C k) _ (m + 8) (by omega) _ (hb k) (fun h0 => (by have := HHL.out h0; omega)) (by omega) (by omega) (by omega) (HHO.out.frP (FrP.of_below (P := fun _ => False) b3) (fun h0 => ⟨fun h => h, HHL.out h0⟩))).mono ?_
      rintro e w9 ⟨rfl, c9⟩
      have b9 := b3.trans (c9.mono (by omega))
      clear q8 q7 c9
      go_wp2
      go_roundw
      case rel => exact ⟨k + 1, by omega, by go_num, by rw [HM.out]; apply congrArg; omega, b9⟩
      case measure => simp [intOf]; omega
    · have : k = n := by omega
      subst this
      go_wp2
      go_ret
      exact ⟨rfl, b0⟩
set_option maxRecDepth 100000 in
set_option maxHeartbeats 2000000 in
theorem heldTis_own (ad : Option Addr) (g n : Nat) (x : Nat → Ti) (cap k0 : Nat) (w : World) (hl : (n : Int) ≤ 1048576) (hk1 : 1 ≤ (k0 : Int)) (hk2 : (mkTis k0 x n : Int) ≤ 1073741824) (hc : TisAt w ad g n (ykTi k0 x n)) :
    Calls Tryz.prog 25 #[.slice ad n cap, .int .i64 k0] w fun e w' => e = .returned (.int .i64 (mkTis k0 x n)) ∧ Below w.heap.size w w' := by
  have HO := hid hc
  clear hc
  go_enter Tryz.func25, Tryz.ntmps25
  go_wp2
  go_loopw [1, 5] (fun t i wr => ∃ k : Nat, k ≤ n ∧ i = .int .i64 k ∧ t = .int .i64 (mkTis k0 x k) ∧ Below w.heap.size w wr) (fun _ i _ => n - (intOf i).toNat)
  case atStart => exact ⟨0, Nat.zero_le _, rfl, rfl, Below.refl _ _⟩
  case round =>
    obtain ⟨k, hk, rfl, rfl, b0⟩ := hrel
    by_cases hkn : k < n
    · have hmo := mkTis_mono k0 x (k := k + 1) (n := n) (by omega)
      have hm1 := mkTis_pos k0 x k (by omega)
      have hms : mkTis k0 x (k + 1) = mkTis k0 x k + 5 := rfl
      have HM : Hid (mkTis k0 x (k + 1) = mkTis k0 x k + 5) := hms
      have hm : mkTis k0 x k + 5 ≤ 1073741824 := by omega
      clear hmo hms
      have hadr := HO.out.addr (by omega)
      obtain ⟨c, rr, hat⟩ := HO.out.row (by omega)
      have hak := hat k hkn
      rw [ykTi_lt hkn] at hak
      obtain ⟨m, hme⟩ : ∃ m, mkTis k0 x k = m := ⟨_, rfl⟩
      rw [hme] at hm1 hm HM hak ⊢
      clear hme hat
      subst hadr
      obtain ⟨a0, a1, a2, a3, a4⟩ := hak
      replace a0 : c (k * 5) = .string (mt m) := a0
      replace a1 : c (k * 5 + 1) = .int .i64 ((m : Int) + 1) := a1.trans (by first | (exact congrArg (Value.int .i64) (by first | rfl | (simp only [mkTi]; omega))) | (exact congrArg Value.bool (rem3 (by omega)).symm))
      replace a2 : c (k * 5 + 2) = .string (mt (m + 2)) := a2
      replace a3 : c (k * 5 + 3) = .int .i64 ((m : Int) + 1 + 1 + 1) := a3.trans (by first | (exact congrArg (Value.int .i64) (by first | rfl | (simp only [mkTi]; omega))) | (exact congrArg Value.bool (rem3 (by omega)).symm))
      replace a4 : c (k * 5 + 4) = .int .i64 ((m : Int) + 1 + 1 + 1 + 1) := a4.trans (by first | (exact congrArg (Value.int .i64) (by first | rfl | (simp only [mkTi]; omega))) | (exact congrArg Value.bool (rem3 (by omega)).symm))
      have A0 := hid a0
      have A1 := hid a1
      have A2 := hid a2
      have A3 := hid a3
      have A4 := hid a4
      have RR := hid rr
      have hgw := rr.lt
      clear rr a0 a1 a2 a3 a4
      have z1 := b0.size
      have qq0 := ((RR.out.below b0 hgw).cell (k * 5) (by omega)).trans (congrArg some A0.out)
      have y0 := subcell qq0 (by show g < _; omega)
      have hne1 : Nonempty (GW wr) := ⟨⟨_, Below.refl _ _⟩⟩
      go_wp2
      refine wp_region_grow (by kernel_rfl) (by kernel_rfl) ?_
      repeat (go_big_quiet_step ((go_at_call 48; go_must (exact grow_of (markText_at _ (m + 0) (by omega) _ (by omega) (by omega))))))
      refine wpQuiet_nil ?_
      rintro w1 ⟨u, hu⟩
      have c1 : Below wr.heap.size wr w1 := hu ▸ u.prop
      have b1 := b0.trans (c1.mono (by omega))
      clear hu u hne1 qq0 y0 c1 
      have q1 := ((RR.out.below b1 hgw).cell (k * 5 + 1) (by omega)).trans (congrArg some A1.out)
      have z2 := b1.size
      have qq2 := ((RR.out.below b1 hgw).cell (k * 5 + 2) (by omega)).trans (congrArg some A2.out)
      have y2 := subcell qq2 (by show g < _; omega)
      have hne2 : Nonempty (GW w1) := ⟨⟨_, Below.refl _ _⟩⟩
      go_wp2
      refine wp_region_grow (by kernel_rfl) (by kernel_rfl) ?_
      repeat (go_big_quiet_step ((go_at_call 48; go_must (exact grow_of (markText_at _ (m + 2) (by omega) _ (by omega) (by omega))))))
      refine wpQuiet_nil ?_
      rintro w2 ⟨u, hu⟩
      have c2 : Below w1.heap.size w1 w2 := hu ▸ u.prop
      have b2 := b1.trans (c2.mono (by omega))
      clear hu u hne2 qq2 y2 c2 q1
      have q3 := ((RR.out.below b2 hgw).cell (k * 5 + 3) (by omega)).trans (congrArg some A3.out)
      have q4 := ((RR.out.below b2 hgw).cell (k * 5 + 4) (by omega)).trans (congrArg some A4.out)
      go_wp2
      go_roundw
      case rel => exact ⟨k + 1, by omega, by go_num, by rw [HM.out]; apply congrArg; omega, b2⟩
      case measure => simp [intOf]; omega
    · have : k = n := by omega
      subst this
      go_wp2
      go_ret
      exact ⟨rfl, b0⟩
set_option maxRecDepth 100000 in
set_option maxHeartbeats 1000000 in
theorem heldBk_own (x : Bk) (p : Pl) (c1 c2 c3 k0 : Nat) (w : World) (l1 : (x.on : Int) ≤ 1048576) (l2 : (x.hn : Int) ≤ 1048576) (l3 : (x.tn : Int) ≤ 1048576) (hk1 : 1 ≤ (k0 : Int)) (hk2 : (mkBk k0 x : Int) ≤ 1073741824) (no fl : Int) (hc : BkAt w (ykBk k0 x) p) :
    Calls Tryz.prog 8 #[.agg #[.int .i64 no, .int .i64 fl, .slice p.a1 x.on c1, .slice p.a2 x.hn c2, .slice p.a3 x.tn c3], .int .i64 k0] w fun e w' => e = .returned (.int .i64 (mkBk k0 x)) ∧ Below w.heap.size w w' := by
  have m1 := mkObs_pos k0 x.os x.on (by omega)
  have m2 := mkChs_pos (mkObs k0 x.os x.on) x.hs x.hn m1
  have m3 := mkTis_pos (mkChs (mkObs k0 x.os x.on) x.hs x.hn) x.ts x.tn m2
  have n2 := mkChs_mono (mkObs k0 x.os x.on) x.hs (Nat.zero_le x.hn)
  have n3 := mkTis_mono (mkChs (mkObs k0 x.os x.on) x.hs x.hn) x.ts (Nat.zero_le x.tn)
  have hk3 : (mkTis (mkChs (mkObs k0 x.os x.on) x.hs x.hn) x.ts x.tn : Int) ≤ 1073741824 := hk2
  simp only [mkChs, mkTis] at n2 n3
  have hA := hid (hc.grow (below_alloc w (.cells #[.int .i64 no, .int .i64 fl, .slice p.a1 x.on c1, .slice p.a2 x.hn c2, .slice p.a3 x.tn c3] 26)))
  clear hc hk2
  go_enter Tryz.func8, Tryz.ntmps8
  go_wp2_with fail
  refine (heldObs_own p.a1 p.g1 x.on x.os p.A1 p.C1 p.h1 c1 k0 _ l1 hk1 (by omega) hA.out.o).mono ?_
  rintro e w1 ⟨rfl, b1⟩
  have q3 := box_cell b1 3
  have q4 := box_cell b1 4
  simp only [List.getElem?_toArray, List.getElem?_cons_succ, List.getElem?_cons_zero] at q3 q4
  have z1 : w.heap.size < w1.heap.size := by have := b1.size; simp at this; omega
  have H1 := hid (hA.out.h.grow b1)
  have T1 := hid (hA.out.t.grow b1)
  have B1 : Below w.heap.size w w1 := (below_alloc _ _).trans (b1.mono (by simp))
  clear b1 hA
  go_wp2_with fail
  refine (heldChs_own p.a2 p.g2 x.hn x.hs p.A2 p.C2 p.h2 c2 (mkObs k0 x.os x.on) _ l2 (by omega) (by omega) H1.out).mono ?_
  rintro e w2 ⟨rfl, b2⟩
  have r4 := (b2.cell (p := ⟨w.heap.size, 4, none⟩) z1).trans q4
  have T2 := hid (T1.out.grow b2)
  have B2 := B1.trans (b2.mono B1.size)
  clear b2 q3 q4 T1 H1
  go_wp2_with fail
  refine (heldTis_own p.a3 p.g3 x.tn x.ts c3 (mkChs (mkObs k0 x.os x.on) x.hs x.hn) _ l3 (by omega) hk3 T2.out).mono ?_
  rintro e w3 ⟨rfl, b3⟩
  have B3 := B2.trans (b3.mono B2.size)
  clear b3 r4
  go_wp2
  go_ret
  exact ⟨rfl, B3⟩
theorem mkObs_top (k0 H : Nat) (x : Nat → Ob) : ∀ n, (∀ i, i < n → (x i).hn ≤ H) → mkObs k0 x n ≤ k0 + n * (6 + H)
  | 0, _ => by simp [mkObs]
  | n + 1, h => by
    have h1 := mkObs_top k0 H x n (fun i hi => h i (by omega))
    have h2 := h n (by omega)
    rw [mkObs, Nat.succ_mul]
    omega
theorem mkChs_top (k0 H : Nat) (x : Nat → Ch) : ∀ n, (∀ i, i < n → (x i).ob.hn ≤ H) → mkChs k0 x n ≤ k0 + n * (8 + H)
  | 0, _ => by simp [mkChs]
  | n + 1, h => by
    have h1 := mkChs_top k0 H x n (fun i hi => h i (by omega))
    have h2 := h n (by omega)
    rw [mkChs, Nat.succ_mul]
    omega
theorem mkTis_top (k0 : Nat) (x : Nat → Ti) : ∀ n, mkTis k0 x n ≤ k0 + n * 5
  | 0 => by simp [mkTis]
  | n + 1 => by
    have h1 := mkTis_top k0 x n
    rw [mkTis, Nat.succ_mul]
    omega
end Go.Proofs.YtkfbclopkgnacaaGreatDoor
namespace Go.Proofs.YtkfbclopkgnacaaGreatDoor
open Go.RowKit Go.Shelf
/-- what reading comes to: a book, which is the same for all who read the text -/
structure RdB (s : ByteArray) (y : Bk) (b : Bool) : Prop where
  yes : b = true → TolB s y ∧ (s.size : Int) ≤ 200000
  no : b = false → y = bk0 ∧ ∀ B, (s.size : Int) ≤ 200000 → ¬ TolB s B
  one : ∀ B, TolB s B → (s.size : Int) ≤ 200000 → BkE y B
theorem RdB.same {s : ByteArray} {y z : Bk} {b c : Bool} (h : RdB s y b) (k : RdB s z c) : b = c ∧ BkE y z := by
  cases b with
  | true =>
    obtain ⟨h1, h2⟩ := h.yes rfl
    cases c with
    | true => exact ⟨rfl, h.one z (k.yes rfl).1 h2⟩
    | false => exact absurd h1 ((k.no rfl).2 y h2)
  | false =>
    obtain ⟨rfl, h2⟩ := h.no rfl
    cases c with
    | true => exact absurd (k.yes rfl).1 (h2 z (k.yes rfl).2)
    | false =>
      obtain ⟨rfl, _⟩ := k.no rfl
      exact ⟨rfl, rfl, rfl, rfl, rfl, rfl, fun _ hi => absurd hi (Nat.not_lt_zero _), fun _ hi => absurd hi (Nat.not_lt_zero _), fun _ hi => absurd hi (Nat.not_lt_zero _)⟩
/-- how far marks go -/
structure SmB (y : Bk) : Prop where
  o : y.on ≤ 100
  h : y.hn ≤ 200
  t : y.tn ≤ 50
  m : mkBk 1 y ≤ 1000000
theorem smB_valid {y : Bk} (h : allTo (chk y) 7 = true) : SmB y := by
  have hv := valid_v h
  have h1 := mkObs_top 1 1000 y.os y.on (fun i hi => by have := (hv.os i hi).sm.h; omega)
  have h2 := mkChs_top (mkObs 1 y.os y.on) 1000 y.hs y.hn (fun i hi => by have := (hv.hs i hi).sm.h; omega)
  have h3 := mkTis_top (mkChs (mkObs 1 y.os y.on) y.hs y.hn) y.ts y.tn
  have k1 := hv.o
  have k2 := hv.h
  have k3 := hv.t
  refine ⟨k1, k2, k3, ?_⟩
  unfold mkBk
  omega
theorem smB_zero : SmB bk0 := ⟨by simp [bk0], by simp [bk0], by simp [bk0], by simp [bk0, mkBk, mkTis, mkChs, mkObs]⟩
def pl0 : Pl := ⟨none, none, none, 0, 0, 0, fun _ => none, fun _ => 0, fun _ => 0, fun _ => none, fun _ => 0, fun _ => 0⟩
theorem bk0_no (q : Nat) : ¬ blkB pl0 bk0 q := by
  intro h
  rcases h with h | h | h
  · rcases h with ⟨h, _⟩ | ⟨i, hi, _⟩
    · exact absurd h (Nat.lt_irrefl _)
    · exact absurd hi (Nat.not_lt_zero _)
  · rcases h with ⟨h, _⟩ | ⟨i, hi, _⟩
    · exact absurd h (Nat.lt_irrefl _)
    · exact absurd hi (Nat.not_lt_zero _)
  · exact absurd h.1 (Nat.lt_irrefl _)
theorem bk0_at (w : World) : BkAt w bk0 pl0 :=
  ⟨⟨fun h => absurd h (Nat.lt_irrefl _), fun h => absurd h (Nat.lt_irrefl _), fun _ hi => absurd hi (Nat.not_lt_zero _), fun _ hi => absurd hi (Nat.not_lt_zero _), ⟨fun _ hi => absurd hi (Nat.not_lt_zero _), fun _ _ hi => absurd hi (Nat.not_lt_zero _)⟩⟩,
   ⟨fun h => absurd h (Nat.lt_irrefl _), fun h => absurd h (Nat.lt_irrefl _), fun _ hi => absurd hi (Nat.not_lt_zero _), fun _ hi => absurd hi (Nat.not_lt_zero _), ⟨fun _ hi => absurd hi (Nat.not_lt_zero _), fun _ _ hi => absurd hi (Nat.not_lt_zero _)⟩⟩,
   ⟨fun h => absurd h (Nat.lt_irrefl _), fun h => absurd h (Nat.lt_irrefl _)⟩, fun k h => absurd (Or.inl h) (bk0_no k), fun k h => absurd (Or.inl h) (bk0_no k), fun k h => absurd (Or.inr (Or.inl h)) (bk0_no k)⟩
theorem fit0 : BkFit bk0 := fit_of FitB.start (by simp [bk0])
/-- what a call of either reader gives back -/
def RdG (s : ByteArray) (w : World) (e : Ending) (w' : World) : Prop :=
  ∃ (y : Bk) (b : Bool) (p : Pl) (c1 c2 c3 : Nat), e = .returned (.tuple #[.agg #[.int .i64 y.now, .int .i64 y.floor, .slice p.a1 y.on c1, .slice p.a2 y.hn c2, .slice p.a3 y.tn c3], .bool b]) ∧ BkAt w' y p ∧ (∀ q, blkB p y q → w.heap.size ≤ q) ∧ Below w.heap.size w w' ∧ BkFit y ∧ SmB y ∧ RdB s y b
theorem ReR.out {s : ByteArray} {w w' : World} {e : Ending} (h : ReR s w e w') : RdG s w e w' := by
  obtain ⟨hb, ⟨y, p, c1, c2, c3, h1, h2, rfl, h4, h5, h6, h7⟩ | ⟨h1, rfl⟩⟩ := h
  · exact ⟨y, true, p, c1, c2, c3, rfl, h4, h5, hb, h6, smB_valid h1.ok, ⟨fun _ => ⟨h1, h2⟩, fun h => (by cases h), fun B hB _ => h7 B hB⟩⟩
  · exact ⟨bk0, false, pl0, 0, 0, 0, rfl, bk0_at _, fun q hq => absurd hq (bk0_no q), hb, fit0, smB_zero, ⟨fun h => (by cases h), fun _ => ⟨rfl, h1⟩, fun B hB hz => absurd hB (h1 B hz)⟩⟩
theorem BkFit.e {x B : Bk} (h : BkFit x) (e : BkE x B) : BkFit B := fit_e h e
theorem FrP.range {P : Nat → Prop} {w w' : World} {g : Nat} {l : List Value} (hf : FrP P w w') (hn : ¬ P g) (hg : g < w.heap.size) (h : w.rangeAt g 0 l) : w'.rangeAt g 0 l := fun j v hv => by
  rw [hf.cell (p := ⟨g, 0 + j, none⟩) hg hn]
  exact h j v hv
/-- a book in a box -/
structure Hl (W : World) (z : Bk) (p : Pl) (l : List Value) (g : Nat) : Prop where
  rg : W.rangeAt g 0 l
  lt : g < W.heap.size
  bk : BkAt W z p
theorem Hl.frP {W W' : World} {z : Bk} {p : Pl} {l : List Value} {g : Nat} {P : Nat → Prop} (h : Hl W z p l g) (hf : FrP P W W') (n1 : ¬ P g) (n2 : ∀ k, blkB p z k → ¬ P k) : Hl W' z p l g :=
  ⟨hf.range n1 h.lt h.rg, Nat.lt_of_lt_of_le h.lt hf.size, h.bk.fr hf n2⟩
theorem Hl.grow {W W' : World} {z : Bk} {p : Pl} {l : List Value} {g : Nat} (h : Hl W z p l g) (hb : Below W.heap.size W W') : Hl W' z p l g :=
  h.frP (FrP.of_below (P := fun _ => False) hb) id (fun _ _ h => h)
theorem Hl.fr {W W' : World} {z : Bk} {p : Pl} {l : List Value} {g : Nat} (h : Hl W z p l g) (hf : Fr W.heap.size (W.heap.size + 1) W W') : Hl W' z p l g :=
  h.grow (hf.below (Nat.le_refl _) (Nat.le_refl _))
theorem Hl.box {W W' : World} {z : Bk} {p : Pl} {l : List Value} (h : BkAt W z p) (hf : Fr W.heap.size (W.heap.size + 1) W W') (hz : W.heap.size + 1 ≤ W'.heap.size) (hr : W'.rangeAt W.heap.size 0 l) : Hl W' z p l W.heap.size :=
  ⟨hr, hz, h.grow (hf.below (Nat.le_refl _) (Nat.le_refl _))⟩
theorem blk_top {p : Pl} {z : Bk} {W : World} (h : BkAt W z p) : ∀ q, blkB p z q → q < W.heap.size := fun _ hq => h.blt hq
/-- what each later reading gives back, said of the first book -/
def RdF (y : Bk) (b : Bool) (w : World) (e : Ending) (w' : World) : Prop :=
  ∃ (r : Pl) (d1 d2 d3 : Nat), e = .returned (.tuple #[.agg #[.int .i64 y.now, .int .i64 y.floor, .slice r.a1 y.on d1, .slice r.a2 y.hn d2, .slice r.a3 y.tn d3], .bool b]) ∧ BkAt w' y r ∧ (∀ q, blkB r y q → w.heap.size ≤ q) ∧ Below w.heap.size w w'
theorem RdG.same {s : ByteArray} {y : Bk} {b : Bool} {w w' : World} {e : Ending} (h : RdG s w e w') (k : RdB s y b) : RdF y b w e w' := by
  obtain ⟨z, c, r, d1, d2, d3, rfl, hat, hlo, hb, _, _, hrd⟩ := h
  obtain ⟨rfl, he⟩ := hrd.same k
  refine ⟨r, d1, d2, d3, ?_, hat.congr he, fun q hq => hlo q (he.blkB hq), hb⟩
  rw [he.now, he.fl, he.on, he.hn, he.tn]
set_option maxRecDepth 100000 in
set_option maxHeartbeats 8000000 in
theorem read_law (s : ByteArray) (w : World) (hE : ErC w) (hT : Tab w) : Calls Tryz.prog 3 #[.string s] w fun e w' => e = .returned (.bool true) ∧ Below w.heap.size w w' := by
  by_cases hbig : (1048576 : Int) < (s.size : Int)
  · clear hE hT
    go_enter Tryz.func3, Tryz.ntmps3
    go_wp2
    go_ret
    exact ⟨rfl, Below.refl _ _⟩
  · have hs : (s.size : Int) ≤ 1048576 := by omega
    have HSP := hid (fun W => (specRead_any s hs W).mono fun e w' h => h.out)
    have HIM := hid (fun W (hb : Below w.heap.size w W) => (implRead_any s hs W (hE.below hb) (hT.below hb)).mono fun e w' h => h.out)
    clear hE hT
    go_enter Tryz.func3, Tryz.ntmps3
    go_wp2_with (first
      | (go_at_call 4; go_must (refine (HSP.out _).mono ?_; rintro e w1 ⟨y, b, p, c1, c2, c3, rfl, hat, hlo, hb1, hfit, hsm, hrd⟩; have AT1 := hid hat; have HB1 := hid hb1; have FI1 := hid hfit; have SM1 := hid hsm; have IM := hid (fun W (hb : Below w.heap.size w W) => (HIM.out W hb).mono fun e w' h => h.same hrd); have NW1 := hid (fun cs => there_new w1 cs 26); have PT := hid (blk_top hat); clear hat hlo hb1 hfit hsm hrd HSP HIM))
      | ((with_reducible show wpList _ _ _ (⟨none, Op.store 26 (Operand.tmp 3) _, _, _, _, _⟩ :: _) _ _); go_must (refine wpList_store_new rfl 26 _ _ rfl w1.heap.size [.int .i64 y.now, .int .i64 y.floor, .slice p.a1 y.on c1, .slice p.a2 y.hn c2, .slice p.a3 y.tn c3] (by simp [go_sem]) rfl (NW1.out _) sz26 (by simp [Value.oneCell']) ?_; intro W2 hr hf hz; have F := (Fr.of_below (lo := w1.heap.size) (hi := w1.heap.size + 1) (below_alloc' w1 _)).trans hf; have Z : w1.heap.size + 1 ≤ W2.heap.size := (by rw [hz]; simp); have H2 := hid (Hl.box AT1.out F Z hr); have Z2 := hid Z; have SZ := hid HB1.out.size; have B2 := hid (HB1.out.trans (F.below HB1.out.size HB1.out.size)); clear AT1 HB1 NW1; clear hr hf hz F Z))
      | (go_at_call 5; have _q := H2; go_must (refine (IM.out _ B2.out).mono ?_; rintro e w3 ⟨r, d1, d2, d3, rfl, hat, hlo, hb⟩; have H3 := hid (H2.out.grow hb); have AT3 := hid hat; have RL := hid hlo; have RT := hid (blk_top hat); have B3 := hid (B2.out.trans (hb.mono B2.out.size)); have NW3 := hid (fun cs => there_new w3 cs 26); have Z3 := hid hb.size; clear hat hlo hb H2 B2))
      | ((with_reducible show wpList _ _ _ (⟨none, Op.store 26 (Operand.tmp 5) _, _, _, _, _⟩ :: _) _ _); go_must (refine wpList_store_new rfl 26 _ _ rfl w3.heap.size [.int .i64 y.now, .int .i64 y.floor, .slice r.a1 y.on d1, .slice r.a2 y.hn d2, .slice r.a3 y.tn d3] (by simp [go_sem]) rfl (NW3.out _) sz26 (by simp [Value.oneCell']) ?_; intro W4 hr hf hz; have F := (Fr.of_below (lo := w3.heap.size) (hi := w3.heap.size + 1) (below_alloc' w3 _)).trans hf; have Z : w3.heap.size + 1 ≤ W4.heap.size := (by rw [hz]; simp); have H4 := hid (H3.out.fr F); have K4 := hid (Hl.box AT3.out F Z hr); have Z4 := hid Z; have B4 := hid (B3.out.trans (F.below B3.out.size B3.out.size)); clear AT3 NW3 H3 B3; clear hr hf hz F Z))
      | ((with_reducible show wpList _ _ _ (⟨some 24, Op.load 26 (Operand.tmp 5), _, _, _, _⟩ :: _) _ _); go_must (refine wpList_load_mid rfl 26 _ rfl w3.heap.size 0 (by simp [go_sem]) [.int .i64 y.now, .int .i64 y.floor, .slice r.a1 y.on d1, .slice r.a2 y.hn d2, .slice r.a3 y.tn d3] _ K4.out.rg Tryz.underlying26 rfl sz26 ?_))
      | ((with_reducible show wpList _ _ _ (⟨some 25, Op.load 26 (Operand.tmp 3), _, _, _, _⟩ :: _) _ _); go_must (refine wpList_load_mid rfl 26 _ rfl w1.heap.size 0 (by simp [go_sem]) [.int .i64 y.now, .int .i64 y.floor, .slice p.a1 y.on c1, .slice p.a2 y.hn c2, .slice p.a3 y.tn c3] _ H4.out.rg Tryz.underlying26 rfl sz26 ?_))
      | (go_at_call 6; have _q := H4; go_must (refine (eqBk_any y r.a1 r.a2 r.a3 p.a1 p.a2 p.a3 d1 d2 d3 c1 c2 c3 _ 0 _ 0 _ (Nat.le_refl _) (Nat.le_refl _) FI1.out (K4.out.bk.isIn (fun _ _ => Nat.zero_le _)) (H4.out.bk.isIn (fun _ _ => Nat.zero_le _))).mono ?_; rintro e w5 ⟨rfl, hb⟩; have H5 := hid (H4.out.grow hb); have K5 := hid (K4.out.grow hb); have B5 := hid (B4.out.trans (hb.mono B4.out.size)); clear hb H4 K4 B4; cases b))
      | ((with_reducible show wpList _ _ _ (⟨some 33, Op.load 26 (Operand.tmp 5), _, _, _, _⟩ :: _) _ _); go_must (refine wpList_load_mid rfl 26 _ rfl w3.heap.size 0 (by simp [go_sem]) [.int .i64 y.now, .int .i64 y.floor, .slice r.a1 y.on d1, .slice r.a2 y.hn d2, .slice r.a3 y.tn d3] _ K5.out.rg Tryz.underlying26 rfl sz26 ?_))
      | (go_at_call 7; go_must (refine (markBk_own y r d1 d2 d3 1 _ (by have := SM1.out.o; omega) (by have := SM1.out.h; omega) (by have := SM1.out.t; omega) (by omega) (by have := SM1.out.m; omega) K5.out.bk).mono ?_; rintro e w6 ⟨rfl, hat, hf⟩; have H6 := hid (H5.out.frP hf (fun h => by have := RL.out _ h; have := Z2.out; omega) (fun k hk h => by have := PT.out k hk; have := RL.out _ h; have := Z2.out; omega)); have K6 := hid (show Hl w6 (ykBk 1 y) r [.int .i64 y.now, .int .i64 y.floor, .slice r.a1 y.on d1, .slice r.a2 y.hn d2, .slice r.a3 y.tn d3] w3.heap.size from ⟨hf.range (fun h => by have := RT.out _ h; omega) K5.out.lt K5.out.rg, Nat.lt_of_lt_of_le K5.out.lt hf.size, hat⟩); have B6 := hid (B5.out.trans (hf.below (B := w.heap.size) (fun k hk h => by have := RL.out _ h; have := Z2.out; have := SZ.out; omega) B5.out.size)); have HM := hid SM1.out.m; clear hat hf H5 K5 B5))
      | ((with_reducible show wpList _ _ _ (⟨some 36, Op.load 26 (Operand.tmp 5), _, _, _, _⟩ :: _) _ _); go_must (refine wpList_load_mid rfl 26 _ rfl w3.heap.size 0 (by simp [go_sem]) [.int .i64 y.now, .int .i64 y.floor, .slice r.a1 y.on d1, .slice r.a2 y.hn d2, .slice r.a3 y.tn d3] _ K6.out.rg Tryz.underlying26 rfl sz26 ?_))
      | (go_at_call 8; have _q := H6; go_must (refine (heldBk_own y r d1 d2 d3 1 _ (by have := SM1.out.o; omega) (by have := SM1.out.h; omega) (by have := SM1.out.t; omega) (by omega) (by have := SM1.out.m; omega) _ _ K6.out.bk).mono ?_; rintro e w7 ⟨rfl, hb⟩; have H7 := hid (H6.out.grow hb); have K7 := hid (K6.out.grow hb); have B7 := hid (B6.out.trans (hb.mono B6.out.size)); clear hb H6 K6 B6))
      | (go_at_call 5; have _q := H7; go_must (refine (IM.out _ B7.out).mono ?_; rintro e w8 ⟨v, e1, e2, e3, rfl, hat, hlo, hb⟩; have H8 := hid (H7.out.grow hb); have K8 := hid (K7.out.grow hb); have AT8 := hid hat; have B8 := hid (B7.out.trans (hb.mono B7.out.size)); have NW8 := hid (fun cs => there_new w8 cs 26); clear hat hlo hb H7 K7 B7))
      | ((with_reducible show wpList _ _ _ (⟨none, Op.store 26 (Operand.tmp 9) _, _, _, _, _⟩ :: _) _ _); go_must (refine wpList_store_new rfl 26 _ _ rfl w8.heap.size [.int .i64 y.now, .int .i64 y.floor, .slice v.a1 y.on e1, .slice v.a2 y.hn e2, .slice v.a3 y.tn e3] (by simp [go_sem]) rfl (NW8.out _) sz26 (by simp [Value.oneCell']) ?_; intro W9 hr hf hz; have F := (Fr.of_below (lo := w8.heap.size) (hi := w8.heap.size + 1) (below_alloc' w8 _)).trans hf; have Z : w8.heap.size + 1 ≤ W9.heap.size := (by rw [hz]; simp); have H9 := hid (H8.out.fr F); have K9 := hid (K8.out.fr F); have V9 := hid (Hl.box AT8.out F Z hr); have B9 := hid (B8.out.trans (F.below B8.out.size B8.out.size)); clear AT8 NW8 H8 K8 B8; clear hr hf hz F Z))
      | ((with_reducible show wpList _ _ _ (⟨some 49, Op.load 26 (Operand.tmp 9), _, _, _, _⟩ :: _) _ _); go_must (refine wpList_load_mid rfl 26 _ rfl w8.heap.size 0 (by simp [go_sem]) [.int .i64 y.now, .int .i64 y.floor, .slice v.a1 y.on e1, .slice v.a2 y.hn e2, .slice v.a3 y.tn e3] _ V9.out.rg Tryz.underlying26 rfl sz26 ?_))
      | ((with_reducible show wpList _ _ _ (⟨some 50, Op.load 26 (Operand.tmp 3), _, _, _, _⟩ :: _) _ _); go_must (refine wpList_load_mid rfl 26 _ rfl w1.heap.size 0 (by simp [go_sem]) [.int .i64 y.now, .int .i64 y.floor, .slice p.a1 y.on c1, .slice p.a2 y.hn c2, .slice p.a3 y.tn c3] _ H9.out.rg Tryz.underlying26 rfl sz26 ?_))
      | (go_at_call 6; have _q := H9; go_must (refine (eqBk_any y v.a1 v.a2 v.a3 p.a1 p.a2 p.a3 e1 e2 e3 c1 c2 c3 _ 0 _ 0 _ (Nat.le_refl _) (Nat.le_refl _) FI1.out (V9.out.bk.isIn (fun _ _ => Nat.zero_le _)) (H9.out.bk.isIn (fun _ _ => Nat.zero_le _))).mono ?_; rintro e w10 ⟨rfl, hb⟩; have K10 := hid (K9.out.grow hb); have B10 := hid (B9.out.trans (hb.mono B9.out.size)); clear hb H9 K9 V9 B9))
      | ((with_reducible show wpList _ _ _ (⟨some 58, Op.load 26 (Operand.tmp 5), _, _, _, _⟩ :: _) _ _); go_must (refine wpList_load_mid rfl 26 _ rfl w3.heap.size 0 (by simp [go_sem]) [.int .i64 y.now, .int .i64 y.floor, .slice r.a1 y.on d1, .slice r.a2 y.hn d2, .slice r.a3 y.tn d3] _ K10.out.rg Tryz.underlying26 rfl sz26 ?_))
      | (go_at_call 8; have _q := K10; go_must (refine (heldBk_own y r d1 d2 d3 1 _ (by have := SM1.out.o; omega) (by have := SM1.out.h; omega) (by have := SM1.out.t; omega) (by omega) (by have := SM1.out.m; omega) _ _ K10.out.bk).mono ?_; rintro e w11 ⟨rfl, hb⟩; have B11 := hid (B10.out.trans (hb.mono B10.out.size)); clear hb K10 B10)))
    · go_ret
      exact ⟨rfl, B11.out⟩
    · go_ret
      exact ⟨rfl, B11.out⟩
end Go.Proofs.YtkfbclopkgnacaaGreatDoor
