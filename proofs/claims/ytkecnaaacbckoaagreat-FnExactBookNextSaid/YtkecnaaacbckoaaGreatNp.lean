import Derived.Test.YtkecnaaacbckoaaGreatNi
import Derived.Test.YtkecnaaacbckoaaGreatGd
namespace Go.Proofs.YtkecnaaacbckoaaGreat
open Go.RowKit Go.Maps
set_option maxRecDepth 100000 in
theorem szW_any (ki pr : ByteArray) (fr left : Int) (w : World) (h0 : 0 ≤ left) (h1 : left ≤ 1048576) (f1 : (ki.size : Int) ≤ 140737488355328) (f2 : (pr.size : Int) ≤ 140737488355328) :
    Calls Tryz.prog 20 #[.agg #[.string ki, .string pr, .int .i64 fr], .int .i64 left] w fun e w' => e = .returned (.int .i64 (szOut left (ki.size + pr.size))) ∧ Below w.heap.size w w' := by
  go_enter Tryz.func20, Tryz.ntmps20
  go_wp2
  · go_ret
    exact ⟨ret_int (szOut_no (by omega)).symm, below_alloc _ _⟩
  · go_ret
    exact ⟨ret_int (szOut_no (by omega)).symm, below_alloc _ _⟩
  · go_ret
    exact ⟨ret_int (by have h := szOut_yes (left := left) (s := ki.size + pr.size) (by omega); omega), below_alloc _ _⟩
set_option maxRecDepth 100000 in
theorem toW_any (ki pr : ByteArray) (fr : Int) (w : World) :
    Calls Tryz.prog 22 #[.agg #[.string ki, .string pr, .int .i64 fr]] w fun e w' => e = .returned (.agg #[.string ki, .string pr, .int .i64 fr]) ∧ Below w.heap.size w w' := by
  go_enter Tryz.func22, Tryz.ntmps22
  go_wp2
  refine bodyPost_ret (v := .agg #[.string ki, .string pr, .int .i64 fr]) (by simp [results, Tryz.results22, go_sem]) rfl ⟨rfl, ?_⟩
  first
    | exact ((below_alloc _ _).alloc (by simp) _).alloc (by simp; omega) _
    | (repeat' (first | exact ((below_alloc _ _).alloc (by simp) _).alloc (by simp; omega) _ | refine Below.setCell ?_ (by simp; omega) _))
set_option maxRecDepth 100000 in
set_option maxHeartbeats 800000 in
theorem eqNw_any (cd fv : Int) (n : Nat) (x : Nat → Ch) (a b : Option Addr) (c d : Nat) (w : World) (lo hi lo2 hi2 : Nat) (hh : hi ≤ w.heap.size) (hh2 : hi2 ≤ w.heap.size) (hn : (n : Int) ≤ 140737488355328) (hf : ∀ i, i < n → ((x i).ob.hn : Int) ≤ 140737488355328) (hc : ChgsIn w lo hi a n x) (hc2 : ChgsIn w lo2 hi2 b n x) :
    Calls Tryz.prog 24 #[.agg #[.int .i64 cd, .slice a n c, .int .i64 fv], .agg #[.int .i64 cd, .slice b n d, .int .i64 fv]] w fun e w' => e = .returned (.bool true) ∧ Below w.heap.size w w' := by
  have HC := hid hc
  have HC2 := hid hc2
  clear hc hc2
  go_enter Tryz.func24, Tryz.ntmps24
  go_wp2_with fail
  refine (eqChs_any n x a b c d _ lo hi lo2 hi2 (by simp; omega) (by simp; omega) hn hf (HC.out.below (B := w.heap.size) ((below_alloc _ _).alloc (by simp) _) hh) (HC2.out.below (B := w.heap.size) ((below_alloc _ _).alloc (by simp) _) hh2)).mono ?_
  rintro e w1 ⟨rfl, hb1⟩
  have hB1 : Below w.heap.size w w1 := ((below_alloc _ _).alloc (by simp) _).trans (hb1.mono (by simp; omega))
  obtain ⟨A0, A1, _, _⟩ := two_cell hb1
  have u2 := A0 2
  have v2 := A1 2
  simp only [List.getElem?_toArray, List.getElem?_cons_succ, List.getElem?_cons_zero] at u2 v2
  clear A0 A1 hb1
  go_wp2
  go_ret
  exact ⟨rfl, hB1⟩
set_option maxRecDepth 100000 in
theorem markNw_own (cd fv : Int) (n : Nat) (x : Nat → Ch) (ad : Option Addr) (g : Nat) (A : Nat → Option Addr) (C hb : Nat → Nat) (c k0 : Nat) (w : World) (hl : (n : Int) ≤ 1048576) (hk1 : 1 ≤ (k0 : Int)) (hk2 : (mkChs k0 x n : Int) ≤ 1073741824) (hc : ChsAt w ad g n x A C hb) :
    Calls Tryz.prog 25 #[.agg #[.int .i64 cd, .slice ad n c, .int .i64 fv], .int .i64 k0] w fun e w' => e = .returned (.int .i64 (mkChs k0 x n)) ∧ ChsAt w' ad g n (ykCh k0 x n) A C hb ∧ FrP (blkH g n (fun i => (x i).ob.hn) hb) w w' := by
  have HC := hid (hc.grow (below_alloc w (.cells #[.int .i64 cd, .slice ad n c, .int .i64 fv] 46)))
  clear hc
  go_enter Tryz.func25, Tryz.ntmps25
  go_wp2_with fail
  refine (markChs_own ad g n x A C hb c k0 _ hl hk1 hk2 HC.out).mono ?_
  rintro e w1 ⟨rfl, o1, f1⟩
  have O1 := hid o1
  have F1 := hid ((FrP.of_below (P := blkH g n (fun i => (x i).ob.hn) hb) (below_alloc w (.cells #[.int .i64 cd, .slice ad n c, .int .i64 fv] 46))).trans f1)
  clear o1 f1
  go_wp2
  go_ret
  exact ⟨rfl, O1.out, F1.out⟩
set_option maxRecDepth 100000 in
set_option maxHeartbeats 2000000 in
theorem heldChs_own (ad : Option Addr) (g n : Nat) (x : Nat → Ch) (A : Nat → Option Addr) (C : Nat → Nat) (hb : Nat → Nat) (cap k0 : Nat) (w : World) (hl : (n : Int) ≤ 1048576) (hk1 : 1 ≤ (k0 : Int)) (hk2 : (mkChs k0 x n : Int) ≤ 1073741824) (hc : ChsAt w ad g n (ykCh k0 x n) A C hb) :
    Calls Tryz.prog 53 #[.slice ad n cap, .int .i64 k0] w fun e w' => e = .returned (.int .i64 (mkChs k0 x n)) ∧ Below w.heap.size w w' := by
  have HO := hid hc
  clear hc
  go_enter Tryz.func53, Tryz.ntmps53
  go_wp2
  go_loopw [1, 5] (fun t i wr => ∃ k : Nat, k ≤ n ∧ i = .int .i64 k ∧ t = .int .i64 (mkChs k0 x k) ∧ Below w.heap.size w wr) (fun _ i _ => n - (intOf i).toNat)
  case atStart => exact ⟨0, Nat.zero_le _, rfl, rfl, Below.refl _ _⟩
  case round =>
    obtain ⟨k, hk, rfl, rfl, b0⟩ := hrel
    by_cases hkn : k < n
    · have hmo := mkChs_mono k0 x (k := k + 1) (n := n) (by omega)
      have hm1 := mkChs_pos k0 x k (by omega)
      have hms : mkChs k0 x (k + 1) = mkChs k0 x k + 8 + (x k).ob.hn := rfl
      have HM : Hid (mkChs k0 x (k + 1) = mkChs k0 x k + 8 + (x k).ob.hn) := hms
      have hm : mkChs k0 x k + 8 + (x k).ob.hn ≤ 1073741824 := by omega
      clear hmo hms
      have hadr := HO.out.addr (by omega)
      obtain ⟨c, rr, hat⟩ := HO.out.row (by omega)
      have hak := hat k hkn
      rw [ykCh_lt hkn] at hak
      have hho := HO.out.hold k hkn
      have hhl := HO.out.hlt k hkn
      rw [ykCh_lt hkn] at hho hhl
      obtain ⟨m, hme⟩ : ∃ m, mkChs k0 x k = m := ⟨_, rfl⟩
      rw [hme] at hm1 hm HM hak hho hhl ⊢
      clear hme hat
      subst hadr
      obtain ⟨a0, a1, a2, a3, a4, a5, a6, a7, a8⟩ := hak
      replace a0 : c (k * 9) = .int .i64 ((m : Int)) := a0.trans (by first | (exact congrArg (Value.int .i64) (by first | rfl | (simp only [mkCh]; omega))) | (exact congrArg Value.bool (rem3 (by omega)).symm))
      replace a1 : c (k * 9 + 1) = .bool (((m : Int) + 1) % 3 == 0) := a1.trans (by first | (exact congrArg (Value.int .i64) (by first | rfl | (simp only [mkCh]; omega))) | (exact congrArg Value.bool (rem3 (by omega)).symm))
      replace a2 : c (k * 9 + 2) = .string (mt (m + 2)) := a2
      replace a3 : c (k * 9 + 3) = .string (mt (m + 3)) := a3
      replace a4 : c (k * 9 + 4) = .int .i64 ((m : Int) + 1 + 1 + 1 + 1) := a4.trans (by first | (exact congrArg (Value.int .i64) (by first | rfl | (simp only [mkCh]; omega))) | (exact congrArg Value.bool (rem3 (by omega)).symm))
      replace a5 : c (k * 9 + 5) = .int .i64 ((m : Int) + 1 + 1 + 1 + 1 + 1) := a5.trans (by first | (exact congrArg (Value.int .i64) (by first | rfl | (simp only [mkCh]; omega))) | (exact congrArg Value.bool (rem3 (by omega)).symm))
      replace a6 : c (k * 9 + 6) = .string (mt (m + 6)) := a6
      replace a7 : c (k * 9 + 7) = .bool (((m : Int) + 1 + 1 + 1 + 1 + 1 + 1 + 1) % 3 == 0) := a7.trans (by first | (exact congrArg (Value.int .i64) (by first | rfl | (simp only [mkCh]; omega))) | (exact congrArg Value.bool (rem3 (by omega)).symm))
      replace a8 : c (k * 9 + 8) = .slice (A k) (x k).ob.hn (C k) := a8
      have A0 := hid a0
      have A1 := hid a1
      have A2 := hid a2
      have A3 := hid a3
      have A4 := hid a4
      have A5 := hid a5
      have A6 := hid a6
      have A7 := hid a7
      have A8 := hid a8
      have RR := hid rr
      have hgw := rr.lt
      clear rr a0 a1 a2 a3 a4 a5 a6 a7 a8
      have HHO : Hid (StrsOwn w (hb k) (hb k + 1) (A k) (x k).ob.hn (fun i => mt (m + 8 + i))) := hho
      have HHL : Hid ((x k).ob.hn ≠ 0 → hb k < w.heap.size) := hhl
      clear hho hhl
      have q0 := ((RR.out.below b0 hgw).cell (k * 9) (by omega)).trans (congrArg some A0.out)
      have q1 := ((RR.out.below b0 hgw).cell (k * 9 + 1) (by omega)).trans (congrArg some A1.out)
      have z1 := b0.size
      have qq2 := ((RR.out.below b0 hgw).cell (k * 9 + 2) (by omega)).trans (congrArg some A2.out)
      have y2 := subcell qq2 (by show g < _; omega)
      have hne1 : Nonempty (GW wr) := ⟨⟨_, Below.refl _ _⟩⟩
      go_wp2
      refine wp_region_grow (by kernel_rfl) (by kernel_rfl) ?_
      repeat (go_big_quiet_step ((go_at_call 69; go_must (exact grow_of (markText_at _ (m + 2) (by omega) _ (by omega) (by omega))))))
      refine wpQuiet_nil ?_
      rintro w1 ⟨u, hu⟩
      have c1 : Below wr.heap.size wr w1 := hu ▸ u.prop
      have b1 := b0.trans (c1.mono (by omega))
      clear hu u hne1 qq2 y2 c1 q0 q1
      have z2 := b1.size
      have qq3 := ((RR.out.below b1 hgw).cell (k * 9 + 3) (by omega)).trans (congrArg some A3.out)
      have y3 := subcell qq3 (by show g < _; omega)
      have hne2 : Nonempty (GW w1) := ⟨⟨_, Below.refl _ _⟩⟩
      go_wp2
      refine wp_region_grow (by kernel_rfl) (by kernel_rfl) ?_
      repeat (go_big_quiet_step ((go_at_call 69; go_must (exact grow_of (markText_at _ (m + 3) (by omega) _ (by omega) (by omega))))))
      refine wpQuiet_nil ?_
      rintro w2 ⟨u, hu⟩
      have c2 : Below w1.heap.size w1 w2 := hu ▸ u.prop
      have b2 := b1.trans (c2.mono (by omega))
      clear hu u hne2 qq3 y3 c2 
      have q4 := ((RR.out.below b2 hgw).cell (k * 9 + 4) (by omega)).trans (congrArg some A4.out)
      have q5 := ((RR.out.below b2 hgw).cell (k * 9 + 5) (by omega)).trans (congrArg some A5.out)
      have z3 := b2.size
      have qq6 := ((RR.out.below b2 hgw).cell (k * 9 + 6) (by omega)).trans (congrArg some A6.out)
      have y6 := subcell qq6 (by show g < _; omega)
      have hne3 : Nonempty (GW w2) := ⟨⟨_, Below.refl _ _⟩⟩
      go_wp2
      refine wp_region_grow (by kernel_rfl) (by kernel_rfl) ?_
      repeat (go_big_quiet_step ((go_at_call 69; go_must (exact grow_of (markText_at _ (m + 6) (by omega) _ (by omega) (by omega))))))
      refine wpQuiet_nil ?_
      rintro w3 ⟨u, hu⟩
      have c3 : Below w2.heap.size w2 w3 := hu ▸ u.prop
      have b3 := b2.trans (c3.mono (by omega))
      clear hu u hne3 qq6 y6 c3 q4 q5
      have q7 := ((RR.out.below b3 hgw).cell (k * 9 + 7) (by omega)).trans (congrArg some A7.out)
      have q8 := ((RR.out.below b3 hgw).cell (k * 9 + 8) (by omega)).trans (congrArg some A8.out)
      have zl := b3.size
      go_wp2_with fail
      refine (heldStrs_own (x k).ob.hn (A k) (C k) _ (m + 8) (by omega) _ (hb k) (fun h0 => (by have := HHL.out h0; omega)) (by omega) (by omega) (by omega) (HHO.out.frP (FrP.of_below (P := fun _ => False) b3) (fun h0 => ⟨fun h => h, HHL.out h0⟩))).mono ?_
      rintro e w9 ⟨rfl, c9⟩
      have b9 := b3.trans (c9.mono (by omega))
      clear q8 q7 c9
      go_wp2
      go_roundw
      case rel => exact ⟨k + 1, by omega, by go_num, by rw [HM.out]; apply congrArg; omega, b9⟩
      case measure => simp [intOf]; omega
    · have : k = n := by omega
      subst this
      go_wp2
      go_ret
      exact ⟨rfl, b0⟩
set_option maxRecDepth 100000 in
theorem heldNw_own (cd fv : Int) (n : Nat) (x : Nat → Ch) (ad : Option Addr) (g : Nat) (A : Nat → Option Addr) (C hb : Nat → Nat) (c k0 : Nat) (w : World) (hl : (n : Int) ≤ 1048576) (hk1 : 1 ≤ (k0 : Int)) (hk2 : (mkChs k0 x n : Int) ≤ 1073741824) (hc : ChsAt w ad g n (ykCh k0 x n) A C hb) :
    Calls Tryz.prog 26 #[.agg #[.int .i64 cd, .slice ad n c, .int .i64 fv], .int .i64 k0] w fun e w' => e = .returned (.int .i64 (mkChs k0 x n)) ∧ Below w.heap.size w w' := by
  have HC := hid (hc.grow (below_alloc w (.cells #[.int .i64 cd, .slice ad n c, .int .i64 fv] 46)))
  clear hc
  have hpos : (0 : Int) ≤ (mkChs k0 x n : Int) := by omega
  go_enter Tryz.func26, Tryz.ntmps26
  go_wp2_with fail
  refine (heldChs_own ad g n x A C hb c k0 _ hl hk1 hk2 HC.out).mono ?_
  rintro e w1 ⟨rfl, hb1⟩
  have hB1 : Below w.heap.size w w1 := (below_alloc _ _).trans (hb1.mono (by simp))
  clear hb1
  go_wp2
  go_ret
  exact ⟨rfl, hB1⟩
end Go.Proofs.YtkecnaaacbckoaaGreat
namespace Go.Proofs.YtkecnaaacbckoaaGreat
open Go.RowKit Go.Shelf
/-- how many changes, which, and from where on -/
def nwN (x : Bk) (ki pr : ByteArray) (fr most : Int) : Nat := if nwC x fr most = 0 then (nwL x (fr - x.floor).toNat ki pr most).length else 0
def nwY (x : Bk) (ki pr : ByteArray) (fr most : Int) : Nat → Ch := pick (fun i => x.hs ((fr - x.floor).toNat + i)) (nwL x (fr - x.floor).toNat ki pr most)
def nwV (x : Bk) (ki pr : ByteArray) (fr most : Int) : Int := if nwC x fr most = 0 then nwF x (fr - x.floor).toNat ki pr most else 0
/-- what a call answers: its list lies between lo and hi -/
def nwA (x : Bk) (ki pr : ByteArray) (fr most : Int) (v : Value) (lo hi : Nat) (X : World) : Prop :=
  ∃ adw cw gw Aw Cw hw, v = .agg #[.int .i64 (nwC x fr most), .slice adw (nwN x ki pr fr most) cw, .int .i64 (nwV x ki pr fr most)] ∧ ChsAt X adw gw (nwN x ki pr fr most) (nwY x ki pr fr most) Aw Cw hw ∧ (∀ q, blkH gw (nwN x ki pr fr most) (fun i => (nwY x ki pr fr most i).ob.hn) hw q → lo ≤ q ∧ q < hi) ∧ hi ≤ X.heap.size
theorem nwP.ans {w w' : World} {x : Bk} {ki pr : ByteArray} {fr most : Int} {e : Ending} (h : nwP w w' x ki pr fr most e) : ∃ v, e = .returned v ∧ nwA x ki pr fr most v w.heap.size w'.heap.size w' ∧ Below w.heap.size w w' := by
  obtain ⟨hb, v, n, y, fv, A, C, hb', rfl, bd, h1, h2⟩ := h
  refine ⟨_, rfl, ?_, hb⟩
  have hn : n = nwN x ki pr fr most ∧ fv = nwV x ki pr fr most ∧ ∀ i, i < n → y i = nwY x ki pr fr most i := by
    by_cases hK : nwC x fr most = 0
    · obtain ⟨_, _, k, hk, _⟩ := nwC_zero hK
      obtain ⟨e1, e2, e3⟩ := h2 hK k hk
      obtain rfl : k = (fr - x.floor).toNat := by omega
      exact ⟨by rw [e1, nwN, if_pos hK], by rw [e3, nwV, if_pos hK], fun i _ => by rw [e2]; rfl⟩
    · obtain ⟨e1, e2⟩ := h1 hK
      exact ⟨by rw [e1, nwN, if_neg hK], by rw [e2, nwV, if_neg hK], fun i hi => by omega⟩
  obtain ⟨e1, e2, e3⟩ := hn
  have bd2 := bd.congr e3
  rw [e1] at bd2
  obtain ⟨ad, cap, g, ev, hc, hq⟩ := bd2.done
  refine ⟨ad, cap, g, A, C, hb', by rw [ev, e2], hc, fun q hq' => ⟨hq q hq', ?_⟩, Nat.le_refl _⟩
  exact hc.blt hq'
end Go.Proofs.YtkecnaaacbckoaaGreat
namespace Go.Proofs.YtkecnaaacbckoaaGreat
open Go.RowKit Go.Shelf
theorem mkChs_leM {k0 M : Nat} {y : Nat → Ch} : ∀ n, (∀ i, i < n → (y i).ob.hn ≤ M) → mkChs k0 y n ≤ k0 + n * (8 + M)
  | 0, _ => by simp [mkChs]
  | n + 1, h => by
    have h1 := mkChs_leM (k0 := k0) n (fun i hi => h i (by omega))
    have h2 := h n (by omega)
    have h3 : mkChs k0 y (n + 1) = mkChs k0 y n + 8 + (y n).ob.hn := rfl
    rw [h3, Nat.add_mul]
    omega
theorem nwN_le (x : Bk) (ki pr : ByteArray) (fr most : Int) : nwN x ki pr fr most ≤ x.hn := by
  unfold nwN nwL
  split
  · rw [List.length_take]
    have := seen_len (x := x.hs) (k := (fr - x.floor).toNat) (j := x.hn) (ki := ki) (pr := pr)
    omega
  · exact Nat.zero_le _
theorem nwY_mem {x : Bk} {ki pr : ByteArray} {fr most : Int} {i : Nat} (hi : i < nwN x ki pr fr most) : ∃ j, j < x.hn ∧ nwY x ki pr fr most i = x.hs j := by
  unfold nwN at hi
  split at hi
  case isFalse => exact absurd hi (Nat.not_lt_zero _)
  case isTrue h =>
    unfold nwY pick
    have hm : (nwL x (fr - x.floor).toNat ki pr most)[i] ∈ nwL x (fr - x.floor).toNat ki pr most := List.getElem_mem hi
    have hm2 := List.mem_of_mem_take hm
    unfold seen at hm2
    have hm3 := List.mem_range.1 (List.mem_filter.1 hm2).1
    refine ⟨(fr - x.floor).toNat + (nwL x (fr - x.floor).toNat ki pr most)[i], by omega, ?_⟩
    simp [List.getD_eq_getElem?_getD, hi]
end Go.Proofs.YtkecnaaacbckoaaGreat
