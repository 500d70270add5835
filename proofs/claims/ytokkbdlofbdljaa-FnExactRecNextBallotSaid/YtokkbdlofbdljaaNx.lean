import Derived.Test.YtokkbdlofbdljaaNa
namespace Go.Proofs.Ytokkbdlofbdljaa
open Go.RowKit
/-- the next ballot of number n, of o, above a -/
def nbS (a n o : Int) : Int := if a / o * o + n ≤ a then a / o * o + n + o else a / o * o + n
def nbR (a n o : Int) : Int := if numOk n o && inB a 0 1000000 then (if nbS a n o ≤ 1000000 then nbS a n o else 0) else 0
theorem nb_zero {a n o : Int} (h : (numOk n o && inB a 0 1000000) = false) : nbR a n o = 0 := by unfold nbR; rw [h]; rfl
theorem nb_some {a n o : Int} (h1 : numOk n o = true) (h2 : inB a 0 1000000 = true) : nbR a n o = (if nbS a n o ≤ 1000000 then nbS a n o else 0) := by unfold nbR; rw [h1, h2]; rfl
set_option maxRecDepth 100000 in
set_option maxHeartbeats 4000000 in
theorem implNext_any (a n o : Int) (w : World) : Calls Try.prog 7 #[.int .i64 a, .int .i64 n, .int .i64 o] w fun e w' => e = .returned (.int .i64 (nbR a n o)) ∧ w' = w := by
  cases hnum : numOk n o with
  | false =>
    have HE := hid (nb_zero (a := a) (n := n) (o := o) (by rw [hnum]; rfl))
    go_enter Try.func7, Try.ntmps7
    go_wp2_with (first | (go_at_call 18; refine (isNumber_any _ _ _).mono ?_; rintro e w1 ⟨rfl, rfl⟩; rw [hnum]) | (go_at_call 19; refine (within_any _ _ _ _).mono ?_; rintro e w1 ⟨rfl, rfl⟩; rw [hnum]))
    go_ret
    exact ⟨ret_int HE.out.symm, rfl⟩
  | true =>
    cases h3 : inB a 0 1000000 with
    | false =>
      have HE := hid (nb_zero (a := a) (n := n) (o := o) (by rw [hnum, h3]; rfl))
      go_enter Try.func7, Try.ntmps7
      go_wp2_with (first | (go_at_call 18; refine (isNumber_any _ _ _).mono ?_; rintro e w1 ⟨rfl, rfl⟩; first | rw [hnum] | rw [h3]) | (go_at_call 19; refine (within_any _ _ _ _).mono ?_; rintro e w1 ⟨rfl, rfl⟩; first | rw [hnum] | rw [h3]))
      go_ret
      exact ⟨ret_int HE.out.symm, rfl⟩
    | true =>
      have HE := hid (nb_some hnum h3)
      have g1 := (show (1 : Int) ≤ o ∧ o ≤ 5 ∧ 1 ≤ n ∧ n ≤ o by have e := hnum; rw [numOk, Bool.and_eq_true] at e; exact ⟨(inB_of e.1).1, (inB_of e.1).2, (inB_of e.2).1, (inB_of e.2).2⟩)
      have g2 := inB_of h3
      obtain ⟨g1, g4, g5, g6⟩ := g1
      obtain ⟨g2, g3⟩ := g2
      have hod : o = 1 ∨ o = 2 ∨ o = 3 ∨ o = 4 ∨ o = 5 := by omega
      rcases hod with rfl | rfl | rfl | rfl | rfl
      · obtain ⟨q, hq⟩ : ∃ q : Int, a / 1 = q := ⟨_, rfl⟩
        have HQ := hid hq
        have hdiv := Int.tdiv_eq_ediv_of_nonneg (b := 1) g2
        rw [hq] at hdiv
        have hmod := Int.tmod_eq_emod_of_nonneg (b := 1) g2
        have hm2 : a % 1 = a - q * 1 := by omega
        rw [hm2] at hmod
        have gq : 0 ≤ q := by omega
        have gq2 : q * 1 ≤ a := by omega
        clear hm2 hq
        by_cases h5 : q * 1 + n ≤ a
        · by_cases h6 : q * 1 + n + 1 ≤ 1000000
          · have HR : Hid (nbR a n 1 = q * 1 + n + 1) := by have e := HE.out; rw [nbS, HQ.out, if_pos h5, if_pos h6] at e; exact e
            clear HE HQ
            go_enter Try.func7, Try.ntmps7
            go_wp2_with (first | (go_at_call 18; refine (isNumber_any _ _ _).mono ?_; rintro e w1 ⟨rfl, rfl⟩; first | rw [hnum] | rw [h3]) | (go_at_call 19; refine (within_any _ _ _ _).mono ?_; rintro e w1 ⟨rfl, rfl⟩; first | rw [hnum] | rw [h3]))
            go_ret
            exact ⟨ret_int (HR.out.trans (by omega)).symm, rfl⟩
          · have HR : Hid (nbR a n 1 = 0) := by have e := HE.out; rw [nbS, HQ.out, if_pos h5, if_neg h6] at e; exact e
            clear HE HQ
            go_enter Try.func7, Try.ntmps7
            go_wp2_with (first | (go_at_call 18; refine (isNumber_any _ _ _).mono ?_; rintro e w1 ⟨rfl, rfl⟩; first | rw [hnum] | rw [h3]) | (go_at_call 19; refine (within_any _ _ _ _).mono ?_; rintro e w1 ⟨rfl, rfl⟩; first | rw [hnum] | rw [h3]))
            go_ret
            exact ⟨ret_int HR.out.symm, rfl⟩
        · by_cases h6 : q * 1 + n ≤ 1000000
          · have HR : Hid (nbR a n 1 = q * 1 + n) := by have e := HE.out; rw [nbS, HQ.out, if_neg h5, if_pos h6] at e; exact e
            clear HE HQ
            go_enter Try.func7, Try.ntmps7
            go_wp2_with (first | (go_at_call 18; refine (isNumber_any _ _ _).mono ?_; rintro e w1 ⟨rfl, rfl⟩; first | rw [hnum] | rw [h3]) | (go_at_call 19; refine (within_any _ _ _ _).mono ?_; rintro e w1 ⟨rfl, rfl⟩; first | rw [hnum] | rw [h3]))
            go_ret
            exact ⟨ret_int (HR.out.trans (by omega)).symm, rfl⟩
          · have HR : Hid (nbR a n 1 = 0) := by have e := HE.out; rw [nbS, HQ.out, if_neg h5, if_neg h6] at e; exact e
            clear HE HQ
            go_enter Try.func7, Try.ntmps7
            go_wp2_with (first | (go_at_call 18; refine (isNumber_any _ _ _).mono ?_; rintro e w1 ⟨rfl, rfl⟩; first | rw [hnum] | rw [h3]) | (go_at_call 19; refine (within_any _ _ _ _).mono ?_; rintro e w1 ⟨rfl, rfl⟩; first | rw [hnum] | rw [h3]))
            go_ret
            exact ⟨ret_int HR.out.symm, rfl⟩
      · obtain ⟨q, hq⟩ : ∃ q : Int, a / 2 = q := ⟨_, rfl⟩
        have HQ := hid hq
        have hdiv := Int.tdiv_eq_ediv_of_nonneg (b := 2) g2
        rw [hq] at hdiv
        have hmod := Int.tmod_eq_emod_of_nonneg (b := 2) g2
        have hm2 : a % 2 = a - q * 2 := by omega
        rw [hm2] at hmod
        have gq : 0 ≤ q := by omega
        have gq2 : q * 2 ≤ a := by omega
        clear hm2 hq
        by_cases h5 : q * 2 + n ≤ a
        · by_cases h6 : q * 2 + n + 2 ≤ 1000000
          · have HR : Hid (nbR a n 2 = q * 2 + n + 2) := by have e := HE.out; rw [nbS, HQ.out, if_pos h5, if_pos h6] at e; exact e
            clear HE HQ
            go_enter Try.func7, Try.ntmps7
            go_wp2_with (first | (go_at_call 18; refine (isNumber_any _ _ _).mono ?_; rintro e w1 ⟨rfl, rfl⟩; first | rw [hnum] | rw [h3]) | (go_at_call 19; refine (within_any _ _ _ _).mono ?_; rintro e w1 ⟨rfl, rfl⟩; first | rw [hnum] | rw [h3]))
            go_ret
            exact ⟨ret_int (HR.out.trans (by omega)).symm, rfl⟩
          · have HR : Hid (nbR a n 2 = 0) := by have e := HE.out; rw [nbS, HQ.out, if_pos h5, if_neg h6] at e; exact e
            clear HE HQ
            go_enter Try.func7, Try.ntmps7
            go_wp2_with (first | (go_at_call 18; refine (isNumber_any _ _ _).mono ?_; rintro e w1 ⟨rfl, rfl⟩; first | rw [hnum] | rw [h3]) | (go_at_call 19; refine (within_any _ _ _ _).mono ?_; rintro e w1 ⟨rfl, rfl⟩; first | rw [hnum] | rw [h3]))
            go_ret
            exact ⟨ret_int HR.out.symm, rfl⟩
        · by_cases h6 : q * 2 + n ≤ 1000000
          · have HR : Hid (nbR a n 2 = q * 2 + n) := by have e := HE.out; rw [nbS, HQ.out, if_neg h5, if_pos h6] at e; exact e
            clear HE HQ
            go_enter Try.func7, Try.ntmps7
            go_wp2_with (first | (go_at_call 18; refine (isNumber_any _ _ _).mono ?_; rintro e w1 ⟨rfl, rfl⟩; first | rw [hnum] | rw [h3]) | (go_at_call 19; refine (within_any _ _ _ _).mono ?_; rintro e w1 ⟨rfl, rfl⟩; first | rw [hnum] | rw [h3]))
            go_ret
            exact ⟨ret_int (HR.out.trans (by omega)).symm, rfl⟩
          · have HR : Hid (nbR a n 2 = 0) := by have e := HE.out; rw [nbS, HQ.out, if_neg h5, if_neg h6] at e; exact e
            clear HE HQ
            go_enter Try.func7, Try.ntmps7
            go_wp2_with (first | (go_at_call 18; refine (isNumber_any _ _ _).mono ?_; rintro e w1 ⟨rfl, rfl⟩; first | rw [hnum] | rw [h3]) | (go_at_call 19; refine (within_any _ _ _ _).mono ?_; rintro e w1 ⟨rfl, rfl⟩; first | rw [hnum] | rw [h3]))
            go_ret
            exact ⟨ret_int HR.out.symm, rfl⟩
      · obtain ⟨q, hq⟩ : ∃ q : Int, a / 3 = q := ⟨_, rfl⟩
        have HQ := hid hq
        have hdiv := Int.tdiv_eq_ediv_of_nonneg (b := 3) g2
        rw [hq] at hdiv
        have hmod := Int.tmod_eq_emod_of_nonneg (b := 3) g2
        have hm2 : a % 3 = a - q * 3 := by omega
        rw [hm2] at hmod
        have gq : 0 ≤ q := by omega
        have gq2 : q * 3 ≤ a := by omega
        clear hm2 hq
        by_cases h5 : q * 3 + n ≤ a
        · by_cases h6 : q * 3 + n + 3 ≤ 1000000
          · have HR : Hid (nbR a n 3 = q * 3 + n + 3) := by have e := HE.out; rw [nbS, HQ.out, if_pos h5, if_pos h6] at e; exact e
            clear HE HQ
            go_enter Try.func7, Try.ntmps7
            go_wp2_with (first | (go_at_call 18; refine (isNumber_any _ _ _).mono ?_; rintro e w1 ⟨rfl, rfl⟩; first | rw [hnum] | rw [h3]) | (go_at_call 19; refine (within_any _ _ _ _).mono ?_; rintro e w1 ⟨rfl, rfl⟩; first | rw [hnum] | rw [h3]))
            go_ret
            exact ⟨ret_int (HR.out.trans (by omega)).symm, rfl⟩
          · have HR : Hid (nbR a n 3 = 0) := by have e := HE.out; rw [nbS, HQ.out, if_pos h5, if_neg h6] at e; exact e
            clear HE HQ
            go_enter Try.func7, Try.ntmps7
            go_wp2_with (first | (go_at_call 18; refine (isNumber_any _ _ _).mono ?_; rintro e w1 ⟨rfl, rfl⟩; first | rw [hnum] | rw [h3]) | (go_at_call 19; refine (within_any _ _ _ _).mono ?_; rintro e w1 ⟨rfl, rfl⟩; first | rw [hnum] | rw [h3]))
            go_ret
            exact ⟨ret_int HR.out.symm, rfl⟩
        · by_cases h6 : q * 3 + n ≤ 1000000
          · have HR : Hid (nbR a n 3 = q * 3 + n) := by have e := HE.out; rw [nbS, HQ.out, if_neg h5, if_pos h6] at e; exact e
            clear HE HQ
            go_enter Try.func7, Try.ntmps7
            go_wp2_with (first | (go_at_call 18; refine (isNumber_any _ _ _).mono ?_; rintro e w1 ⟨rfl, rfl⟩; first | rw [hnum] | rw [h3]) | (go_at_call 19; refine (within_any _ _ _ _).mono ?_; rintro e w1 ⟨rfl, rfl⟩; first | rw [hnum] | rw [h3]))
            go_ret
            exact ⟨ret_int (HR.out.trans (by omega)).symm, rfl⟩
          · have HR : Hid (nbR a n 3 = 0) := by have e := HE.out; rw [nbS, HQ.out, if_neg h5, if_neg h6] at e; exact e
            clear HE HQ
            go_enter Try.func7, Try.ntmps7
            go_wp2_with (first | (go_at_call 18; refine (isNumber_any _ _ _).mono ?_; rintro e w1 ⟨rfl, rfl⟩; first | rw [hnum] | rw [h3]) | (go_at_call 19; refine (within_any _ _ _ _).mono ?_; rintro e w1 ⟨rfl, rfl⟩; first | rw [hnum] | rw [h3]))
            go_ret
            exact ⟨ret_int HR.out.symm, rfl⟩
      · obtain ⟨q, hq⟩ : ∃ q : Int, a / 4 = q := ⟨_, rfl⟩
        have HQ := hid hq
        have hdiv := Int.tdiv_eq_ediv_of_nonneg (b := 4) g2
        rw [hq] at hdiv
        have hmod := Int.tmod_eq_emod_of_nonneg (b := 4) g2
        have hm2 : a % 4 = a - q * 4 := by omega
        rw [hm2] at hmod
        have gq : 0 ≤ q := by omega
        have gq2 : q * 4 ≤ a := by omega
        clear hm2 hq
        by_cases h5 : q * 4 + n ≤ a
        · by_cases h6 : q * 4 + n + 4 ≤ 1000000
          · have HR : Hid (nbR a n 4 = q * 4 + n + 4) := by have e := HE.out; rw [nbS, HQ.out, if_pos h5, if_pos h6] at e; exact e
            clear HE HQ
            go_enter Try.func7, Try.ntmps7
            go_wp2_with (first | (go_at_call 18; refine (isNumber_any _ _ _).mono ?_; rintro e w1 ⟨rfl, rfl⟩; first | rw [hnum] | rw [h3]) | (go_at_call 19; refine (within_any _ _ _ _).mono ?_; rintro e w1 ⟨rfl, rfl⟩; first | rw [hnum] | rw [h3]))
            go_ret
            exact ⟨ret_int (HR.out.trans (by omega)).symm, rfl⟩
          · have HR : Hid (nbR a n 4 = 0) := by have e := HE.out; rw [nbS, HQ.out, if_pos h5, if_neg h6] at e; exact e
            clear HE HQ
            go_enter Try.func7, Try.ntmps7
            go_wp2_with (first | (go_at_call 18; refine (isNumber_any _ _ _).mono ?_; rintro e w1 ⟨rfl, rfl⟩; first | rw [hnum] | rw [h3]) | (go_at_call 19; refine (within_any _ _ _ _).mono ?_; rintro e w1 ⟨rfl, rfl⟩; first | rw [hnum] | rw [h3]))
            go_ret
            exact ⟨ret_int HR.out.symm, rfl⟩
        · by_cases h6 : q * 4 + n ≤ 1000000
          · have HR : Hid (nbR a n 4 = q * 4 + n) := by have e := HE.out; rw [nbS, HQ.out, if_neg h5, if_pos h6] at e; exact e
            clear HE HQ
            go_enter Try.func7, Try.ntmps7
            go_wp2_with (first | (go_at_call 18; refine (isNumber_any _ _ _).mono ?_; rintro e w1 ⟨rfl, rfl⟩; first | rw [hnum] | rw [h3]) | (go_at_call 19; refine (within_any _ _ _ _).mono ?_; rintro e w1 ⟨rfl, rfl⟩; first | rw [hnum] | rw [h3]))
            go_ret
            exact ⟨ret_int (HR.out.trans (by omega)).symm, rfl⟩
          · have HR : Hid (nbR a n 4 = 0) := by have e := HE.out; rw [nbS, HQ.out, if_neg h5, if_neg h6] at e; exact e
            clear HE HQ
            go_enter Try.func7, Try.ntmps7
            go_wp2_with (first | (go_at_call 18; refine (isNumber_any _ _ _).mono ?_; rintro e w1 ⟨rfl, rfl⟩; first | rw [hnum] | rw [h3]) | (go_at_call 19; refine (within_any _ _ _ _).mono ?_; rintro e w1 ⟨rfl, rfl⟩; first | rw [hnum] | rw [h3]))
            go_ret
            exact ⟨ret_int HR.out.symm, rfl⟩
      · obtain ⟨q, hq⟩ : ∃ q : Int, a / 5 = q := ⟨_, rfl⟩
        have HQ := hid hq
        have hdiv := Int.tdiv_eq_ediv_of_nonneg (b := 5) g2
        rw [hq] at hdiv
        have hmod := Int.tmod_eq_emod_of_nonneg (b := 5) g2
        have hm2 : a % 5 = a - q * 5 := by omega
        rw [hm2] at hmod
        have gq : 0 ≤ q := by omega
        have gq2 : q * 5 ≤ a := by omega
        clear hm2 hq
        by_cases h5 : q * 5 + n ≤ a
        · by_cases h6 : q * 5 + n + 5 ≤ 1000000
          · have HR : Hid (nbR a n 5 = q * 5 + n + 5) := by have e := HE.out; rw [nbS, HQ.out, if_pos h5, if_pos h6] at e; exact e
            clear HE HQ
            go_enter Try.func7, Try.ntmps7
            go_wp2_with (first | (go_at_call 18; refine (isNumber_any _ _ _).mono ?_; rintro e w1 ⟨rfl, rfl⟩; first | rw [hnum] | rw [h3]) | (go_at_call 19; refine (within_any _ _ _ _).mono ?_; rintro e w1 ⟨rfl, rfl⟩; first | rw [hnum] | rw [h3]))
            go_ret
            exact ⟨ret_int (HR.out.trans (by omega)).symm, rfl⟩
          · have HR : Hid (nbR a n 5 = 0) := by have e := HE.out; rw [nbS, HQ.out, if_pos h5, if_neg h6] at e; exact e
            clear HE HQ
            go_enter Try.func7, Try.ntmps7
            go_wp2_with (first | (go_at_call 18; refine (isNumber_any _ _ _).mono ?_; rintro e w1 ⟨rfl, rfl⟩; first | rw [hnum] | rw [h3]) | (go_at_call 19; refine (within_any _ _ _ _).mono ?_; rintro e w1 ⟨rfl, rfl⟩; first | rw [hnum] | rw [h3]))
            go_ret
            exact ⟨ret_int HR.out.symm, rfl⟩
        · by_cases h6 : q * 5 + n ≤ 1000000
          · have HR : Hid (nbR a n 5 = q * 5 + n) := by have e := HE.out; rw [nbS, HQ.out, if_neg h5, if_pos h6] at e; exact e
            clear HE HQ
            go_enter Try.func7, Try.ntmps7
            go_wp2_with (first | (go_at_call 18; refine (isNumber_any _ _ _).mono ?_; rintro e w1 ⟨rfl, rfl⟩; first | rw [hnum] | rw [h3]) | (go_at_call 19; refine (within_any _ _ _ _).mono ?_; rintro e w1 ⟨rfl, rfl⟩; first | rw [hnum] | rw [h3]))
            go_ret
            exact ⟨ret_int (HR.out.trans (by omega)).symm, rfl⟩
          · have HR : Hid (nbR a n 5 = 0) := by have e := HE.out; rw [nbS, HQ.out, if_neg h5, if_neg h6] at e; exact e
            clear HE HQ
            go_enter Try.func7, Try.ntmps7
            go_wp2_with (first | (go_at_call 18; refine (isNumber_any _ _ _).mono ?_; rintro e w1 ⟨rfl, rfl⟩; first | rw [hnum] | rw [h3]) | (go_at_call 19; refine (within_any _ _ _ _).mono ?_; rintro e w1 ⟨rfl, rfl⟩; first | rw [hnum] | rw [h3]))
            go_ret
            exact ⟨ret_int HR.out.symm, rfl⟩
set_option maxRecDepth 100000 in
set_option maxHeartbeats 4000000 in
theorem specNext_any (a n o : Int) (w : World) : Calls Try.prog 6 #[.int .i64 a, .int .i64 n, .int .i64 o] w fun e w' => e = .returned (.int .i64 (nbR a n o)) ∧ w' = w := by
  cases h1 : inB o 1 5 with
  | false =>
    have HE := hid (nb_zero (a := a) (n := n) (o := o) (by rw [numOk, h1]; rfl))
    go_enter Try.func6, Try.ntmps6
    go_wp2_with (go_at_call 17; refine (in_any _ _ _ _).mono ?_; rintro e w1 ⟨rfl, rfl⟩; rw [h1])
    go_ret
    exact ⟨ret_int HE.out.symm, rfl⟩
  | true =>
    cases h2 : inB n 1 o with
    | false =>
      have HE := hid (nb_zero (a := a) (n := n) (o := o) (by rw [numOk, h1, h2]; rfl))
      go_enter Try.func6, Try.ntmps6
      go_wp2_with (go_at_call 17; refine (in_any _ _ _ _).mono ?_; rintro e w1 ⟨rfl, rfl⟩; first | rw [h1] | rw [h2])
      go_ret
      exact ⟨ret_int HE.out.symm, rfl⟩
    | true =>
      have hnum : numOk n o = true := by rw [numOk, h1, h2]; rfl
      cases h3 : inB a 0 1000000 with
      | false =>
        have HE := hid (nb_zero (a := a) (n := n) (o := o) (by rw [hnum, h3]; rfl))
        clear hnum
        go_enter Try.func6, Try.ntmps6
        go_wp2_with (go_at_call 17; refine (in_any _ _ _ _).mono ?_; rintro e w1 ⟨rfl, rfl⟩; first | rw [h1] | rw [h2] | rw [h3])
        go_ret
        exact ⟨ret_int HE.out.symm, rfl⟩
      | true =>
        have HE := hid (nb_some hnum h3)
        have g1 := (show (1 : Int) ≤ o ∧ o ≤ 5 ∧ 1 ≤ n ∧ n ≤ o by have e := hnum; rw [numOk, Bool.and_eq_true] at e; exact ⟨(inB_of e.1).1, (inB_of e.1).2, (inB_of e.2).1, (inB_of e.2).2⟩)
        have g2 := inB_of h3
        clear hnum
        obtain ⟨g1, g4, g5, g6⟩ := g1
        obtain ⟨g2, g3⟩ := g2
        have hod : o = 1 ∨ o = 2 ∨ o = 3 ∨ o = 4 ∨ o = 5 := by omega
        rcases hod with rfl | rfl | rfl | rfl | rfl
        · obtain ⟨q, hq⟩ : ∃ q : Int, a / 1 = q := ⟨_, rfl⟩
          have HQ := hid hq
          have hdiv := Int.tdiv_eq_ediv_of_nonneg (b := 1) g2
          rw [hq] at hdiv
          have hmod := Int.tmod_eq_emod_of_nonneg (b := 1) g2
          have hm2 : a % 1 = a - q * 1 := by omega
          rw [hm2] at hmod
          have gq : 0 ≤ q := by omega
          have gq2 : q * 1 ≤ a := by omega
          clear hm2 hq
          by_cases h5 : q * 1 + n ≤ a
          · by_cases h6 : q * 1 + n + 1 ≤ 1000000
            · have HR : Hid (nbR a n 1 = q * 1 + n + 1) := by have e := HE.out; rw [nbS, HQ.out, if_pos h5, if_pos h6] at e; exact e
              clear HE HQ
              go_enter Try.func6, Try.ntmps6
              go_wp2_with (go_at_call 17; refine (in_any _ _ _ _).mono ?_; rintro e w1 ⟨rfl, rfl⟩; first | rw [h1] | rw [h2] | rw [h3])
              go_ret
              exact ⟨ret_int (HR.out.trans (by omega)).symm, rfl⟩
            · have HR : Hid (nbR a n 1 = 0) := by have e := HE.out; rw [nbS, HQ.out, if_pos h5, if_neg h6] at e; exact e
              clear HE HQ
              go_enter Try.func6, Try.ntmps6
              go_wp2_with (go_at_call 17; refine (in_any _ _ _ _).mono ?_; rintro e w1 ⟨rfl, rfl⟩; first | rw [h1] | rw [h2] | rw [h3])
              go_ret
              exact ⟨ret_int HR.out.symm, rfl⟩
          · by_cases h6 : q * 1 + n ≤ 1000000
            · have HR : Hid (nbR a n 1 = q * 1 + n) := by have e := HE.out; rw [nbS, HQ.out, if_neg h5, if_pos h6] at e; exact e
              clear HE HQ
              go_enter Try.func6, Try.ntmps6
              go_wp2_with (go_at_call 17; refine (in_any _ _ _ _).mono ?_; rintro e w1 ⟨rfl, rfl⟩; first | rw [h1] | rw [h2] | rw [h3])
              go_ret
              exact ⟨ret_int (HR.out.trans (by omega)).symm, rfl⟩
            · have HR : Hid (nbR a n 1 = 0) := by have e := HE.out; rw [nbS, HQ.out, if_neg h5, if_neg h6] at e; exact e
              clear HE HQ
              go_enter Try.func6, Try.ntmps6
              go_wp2_with (go_at_call 17; refine (in_any _ _ _ _).mono ?_; rintro e w1 ⟨rfl, rfl⟩; first | rw [h1] | rw [h2] | rw [h3])
              go_ret
              exact ⟨ret_int HR.out.symm, rfl⟩
        · obtain ⟨q, hq⟩ : ∃ q : Int, a / 2 = q := ⟨_, rfl⟩
          have HQ := hid hq
          have hdiv := Int.tdiv_eq_ediv_of_nonneg (b := 2) g2
          rw [hq] at hdiv
          have hmod := Int.tmod_eq_emod_of_nonneg (b := 2) g2
          have hm2 : a % 2 = a - q * 2 := by omega
          rw [hm2] at hmod
          have gq : 0 ≤ q := by omega
          have gq2 : q * 2 ≤ a := by omega
          clear hm2 hq
          by_cases h5 : q * 2 + n ≤ a
          · by_cases h6 : q * 2 + n + 2 ≤ 1000000
            · have HR : Hid (nbR a n 2 = q * 2 + n + 2) := by have e := HE.out; rw [nbS, HQ.out, if_pos h5, if_pos h6] at e; exact e
              clear HE HQ
              go_enter Try.func6, Try.ntmps6
              go_wp2_with (go_at_call 17; refine (in_any _ _ _ _).mono ?_; rintro e w1 ⟨rfl, rfl⟩; first | rw [h1] | rw [h2] | rw [h3])
              go_ret
              exact ⟨ret_int (HR.out.trans (by omega)).symm, rfl⟩
            · have HR : Hid (nbR a n 2 = 0) := by have e := HE.out; rw [nbS, HQ.out, if_pos h5, if_neg h6] at e; exact e
              clear HE HQ
              go_enter Try.func6, Try.ntmps6
              go_wp2_with (go_at_call 17; refine (in_any _ _ _ _).mono ?_; rintro e w1 ⟨rfl, rfl⟩; first | rw [h1] | rw [h2] | rw [h3])
              go_ret
              exact ⟨ret_int HR.out.symm, rfl⟩
          · by_cases h6 : q * 2 + n ≤ 1000000
            · have HR : Hid (nbR a n 2 = q * 2 + n) := by have e := HE.out; rw [nbS, HQ.out, if_neg h5, if_pos h6] at e; exact e
              clear HE HQ
              go_enter Try.func6, Try.ntmps6
              go_wp2_with (go_at_call 17; refine (in_any _ _ _ _).mono ?_; rintro e w1 ⟨rfl, rfl⟩; first | rw [h1] | rw [h2] | rw [h3])
              go_ret
              exact ⟨ret_int (HR.out.trans (by omega)).symm, rfl⟩
            · have HR : Hid (nbR a n 2 = 0) := by have e := HE.out; rw [nbS, HQ.out, if_neg h5, if_neg h6] at e; exact e
              clear HE HQ
              go_enter Try.func6, Try.ntmps6
              go_wp2_with (go_at_call 17; refine (in_any _ _ _ _).mono ?_; rintro e w1 ⟨rfl, rfl⟩; first | rw [h1] | rw [h2] | rw [h3])
              go_ret
              exact ⟨ret_int HR.out.symm, rfl⟩
        · obtain ⟨q, hq⟩ : ∃ q : Int, a / 3 = q := ⟨_, rfl⟩
          have HQ := hid hq
          have hdiv := Int.tdiv_eq_ediv_of_nonneg (b := 3) g2
          rw [hq] at hdiv
          have hmod := Int.tmod_eq_emod_of_nonneg (b := 3) g2
          have hm2 : a % 3 = a - q * 3 := by omega
          rw [hm2] at hmod
          have gq : 0 ≤ q := by omega
          have gq2 : q * 3 ≤ a := by omega
          clear hm2 hq
          by_cases h5 : q * 3 + n ≤ a
          · by_cases h6 : q * 3 + n + 3 ≤ 1000000
            · have HR : Hid (nbR a n 3 = q * 3 + n + 3) := by have e := HE.out; rw [nbS, HQ.out, if_pos h5, if_pos h6] at e; exact e
              clear HE HQ
              go_enter Try.func6, Try.ntmps6
              go_wp2_with (go_at_call 17; refine (in_any _ _ _ _).mono ?_; rintro e w1 ⟨rfl, rfl⟩; first | rw [h1] | rw [h2] | rw [h3])
              go_ret
              exact ⟨ret_int (HR.out.trans (by omega)).symm, rfl⟩
            · have HR : Hid (nbR a n 3 = 0) := by have e := HE.out; rw [nbS, HQ.out, if_pos h5, if_neg h6] at e; exact e
              clear HE HQ
              go_enter Try.func6, Try.ntmps6
              go_wp2_with (go_at_call 17; refine (in_any _ _ _ _).mono ?_; rintro e w1 ⟨rfl, rfl⟩; first | rw [h1] | rw [h2] | rw [h3])
              go_ret
              exact ⟨ret_int HR.out.symm, rfl⟩
          · by_cases h6 : q * 3 + n ≤ 1000000
            · have HR : Hid (nbR a n 3 = q * 3 + n) := by have e := HE.out; rw [nbS, HQ.out, if_neg h5, if_pos h6] at e; exact e
              clear HE HQ
              go_enter Try.func6, Try.ntmps6
              go_wp2_with (go_at_call 17; refine (in_any _ _ _ _).mono ?_; rintro e w1 ⟨rfl, rfl⟩; first | rw [h1] | rw [h2] | rw [h3])
              go_ret
              exact ⟨ret_int (HR.out.trans (by omega)).symm, rfl⟩
            · have HR : Hid (nbR a n 3 = 0) := by have e := HE.out; rw [nbS, HQ.out, if_neg h5, if_neg h6] at e; exact e
              clear HE HQ
              go_enter Try.func6, Try.ntmps6
              go_wp2_with (go_at_call 17; refine (in_any _ _ _ _).mono ?_; rintro e w1 ⟨rfl, rfl⟩; first | rw [h1] | rw [h2] | rw [h3])
              go_ret
              exact ⟨ret_int HR.out.symm, rfl⟩
        · obtain ⟨q, hq⟩ : ∃ q : Int, a / 4 = q := ⟨_, rfl⟩
          have HQ := hid hq
          have hdiv := Int.tdiv_eq_ediv_of_nonneg (b := 4) g2
          rw [hq] at hdiv
          have hmod := Int.tmod_eq_emod_of_nonneg (b := 4) g2
          have hm2 : a % 4 = a - q * 4 := by omega
          rw [hm2] at hmod
          have gq : 0 ≤ q := by omega
          have gq2 : q * 4 ≤ a := by omega
          clear hm2 hq
          by_cases h5 : q * 4 + n ≤ a
          · by_cases h6 : q * 4 + n + 4 ≤ 1000000
            · have HR : Hid (nbR a n 4 = q * 4 + n + 4) := by have e := HE.out; rw [nbS, HQ.out, if_pos h5, if_pos h6] at e; exact e
              clear HE HQ
              go_enter Try.func6, Try.ntmps6
              go_wp2_with (go_at_call 17; refine (in_any _ _ _ _).mono ?_; rintro e w1 ⟨rfl, rfl⟩; first | rw [h1] | rw [h2] | rw [h3])
              go_ret
              exact ⟨ret_int (HR.out.trans (by omega)).symm, rfl⟩
            · have HR : Hid (nbR a n 4 = 0) := by have e := HE.out; rw [nbS, HQ.out, if_pos h5, if_neg h6] at e; exact e
              clear HE HQ
              go_enter Try.func6, Try.ntmps6
              go_wp2_with (go_at_call 17; refine (in_any _ _ _ _).mono ?_; rintro e w1 ⟨rfl, rfl⟩; first | rw [h1] | rw [h2] | rw [h3])
              go_ret
              exact ⟨ret_int HR.out.symm, rfl⟩
          · by_cases h6 : q * 4 + n ≤ 1000000
            · have HR : Hid (nbR a n 4 = q * 4 + n) := by have e := HE.out; rw [nbS, HQ.out, if_neg h5, if_pos h6] at e; exact e
              clear HE HQ
              go_enter Try.func6, Try.ntmps6
              go_wp2_with (go_at_call 17; refine (in_any _ _ _ _).mono ?_; rintro e w1 ⟨rfl, rfl⟩; first | rw [h1] | rw [h2] | rw [h3])
              go_ret
              exact ⟨ret_int (HR.out.trans (by omega)).symm, rfl⟩
            · have HR : Hid (nbR a n 4 = 0) := by have e := HE.out; rw [nbS, HQ.out, if_neg h5, if_neg h6] at e; exact e
              clear HE HQ
              go_enter Try.func6, Try.ntmps6
              go_wp2_with (go_at_call 17; refine (in_any _ _ _ _).mono ?_; rintro e w1 ⟨rfl, rfl⟩; first | rw [h1] | rw [h2] | rw [h3])
              go_ret
              exact ⟨ret_int HR.out.symm, rfl⟩
        · obtain ⟨q, hq⟩ : ∃ q : Int, a / 5 = q := ⟨_, rfl⟩
          have HQ := hid hq
          have hdiv := Int.tdiv_eq_ediv_of_nonneg (b := 5) g2
          rw [hq] at hdiv
          have hmod := Int.tmod_eq_emod_of_nonneg (b := 5) g2
          have hm2 : a % 5 = a - q * 5 := by omega
          rw [hm2] at hmod
          have gq : 0 ≤ q := by omega
          have gq2 : q * 5 ≤ a := by omega
          clear hm2 hq
          by_cases h5 : q * 5 + n ≤ a
          · by_cases h6 : q * 5 + n + 5 ≤ 1000000
            · have HR : Hid (nbR a n 5 = q * 5 + n + 5) := by have e := HE.out; rw [nbS, HQ.out, if_pos h5, if_pos h6] at e; exact e
              clear HE HQ
              go_enter Try.func6, Try.ntmps6
              go_wp2_with (go_at_call 17; refine (in_any _ _ _ _).mono ?_; rintro e w1 ⟨rfl, rfl⟩; first | rw [h1] | rw [h2] | rw [h3])
              go_ret
              exact ⟨ret_int (HR.out.trans (by omega)).symm, rfl⟩
            · have HR : Hid (nbR a n 5 = 0) := by have e := HE.out; rw [nbS, HQ.out, if_pos h5, if_neg h6] at e; exact e
              clear HE HQ
              go_enter Try.func6, Try.ntmps6
              go_wp2_with (go_at_call 17; refine (in_any _ _ _ _).mono ?_; rintro e w1 ⟨rfl, rfl⟩; first | rw [h1] | rw [h2] | rw [h3])
              go_ret
              exact ⟨ret_int HR.out.symm, rfl⟩
          · by_cases h6 : q * 5 + n ≤ 1000000
            · have HR : Hid (nbR a n 5 = q * 5 + n) := by have e := HE.out; rw [nbS, HQ.out, if_neg h5, if_pos h6] at e; exact e
              clear HE HQ
              go_enter Try.func6, Try.ntmps6
              go_wp2_with (go_at_call 17; refine (in_any _ _ _ _).mono ?_; rintro e w1 ⟨rfl, rfl⟩; first | rw [h1] | rw [h2] | rw [h3])
              go_ret
              exact ⟨ret_int (HR.out.trans (by omega)).symm, rfl⟩
            · have HR : Hid (nbR a n 5 = 0) := by have e := HE.out; rw [nbS, HQ.out, if_neg h5, if_neg h6] at e; exact e
              clear HE HQ
              go_enter Try.func6, Try.ntmps6
              go_wp2_with (go_at_call 17; refine (in_any _ _ _ _).mono ?_; rintro e w1 ⟨rfl, rfl⟩; first | rw [h1] | rw [h2] | rw [h3])
              go_ret
              exact ⟨ret_int HR.out.symm, rfl⟩
end Go.Proofs.Ytokkbdlofbdljaa
