import Derived.Test.YtjepponnhieocaaGg
import Derived.Test.YtjepponnhieocaaYsz
namespace Go.Proofs.Ytjepponnhieocaa
open Go.RowKit
def asc1 (x : Nat → Sl) (i : Nat) : Bool := i == 0 || decide ((x (i - 1)).bal < (x i).bal)
theorem rwB_n {v : Rw} (h : inB v.n 1 5 = false) : rwB v = false := by unfold rwB rcsB; rw [h]; rfl
theorem rwB_f {v : Rw} (h : ¬ v.fn ≤ 600) : rwB v = false := by unfold rwB flB; simp [h]
theorem rwB_r {v : Rw} {k : Nat} (hk : k < v.n) (h : rp1 v.n v.x k = false) : rwB v = false := by unfold rwB; rw [rcsB_no hk h]; rfl
theorem rwB_m {v : Rw} {k : Nat} (hk : k < v.fn) (h : msB (v.fs k) v.n = false) : rwB v = false := by unfold rwB; rw [flB_no hk h]; simp
theorem rwB_g {v : Rw} {k : Nat} (hk : k < v.gn) (h : fx1 (v.gs k) = false) : rwB v = false := by unfold rwB; rw [fxB_no hk h]; simp
theorem rwB_a {v : Rw} {k : Nat} (hk : k < v.gn) (h : asc1 v.gs k = false) : rwB v = false := by
  have : ascF v.gn v.gs = false := allTo_no (p := fun i => i == 0 || decide ((v.gs (i - 1)).bal < (v.gs i).bal)) hk h
  unfold rwB fxB; rw [this]; simp
theorem rwB_yes {v : Rw} (h1 : inB v.n 1 5 = true) (h2 : ∀ i, i < v.n → rp1 v.n v.x i = true) (h3 : v.fn ≤ 600) (h4 : ∀ i, i < v.fn → msB (v.fs i) v.n = true) (h5 : ∀ i, i < v.gn → fx1 (v.gs i) = true) (h6 : ∀ i, i < v.gn → asc1 v.gs i = true) : rwB v = true := by
  have : ascF v.gn v.gs = true := allTo_iff.2 h6
  unfold rwB; rw [rcsB_yes h1 h2, flB_yes h3 h4, fxB_yes h5, this]; rfl
set_option maxRecDepth 100000 in
set_option maxHeartbeats 8000000 in
theorem specWorld_any (v : Rw) (V : RwA) (w : World) (lo hi : Nat) (hhi : hi ≤ w.heap.size) (hf : RwFit v) (hc : RwIn w lo hi v V) :
    Calls Try.prog 14 #[rwV v V] w fun e w' => e = .returned (.bool (rwB v)) ∧ Below w.heap.size w w' := by
  have HF := hid hf
  have HC := hid hc
  clear hf hc
  have l1 := HF.out.n
  have l2 := HF.out.fn
  have l3 := HF.out.gn
  have mark : Nat := 0
  cases hn : inB (v.n : Int) 1 5 with
  | false =>
    have HE := hid (rwB_n hn)
    go_enter Try.func14, Try.ntmps14
    go_wp2_with (go_at_call 30; go_must (refine (in_any v.n 1 5 _).mono ?_; rintro e w1 ⟨rfl, h0⟩; rw [h0, hn]; clear h0 w1))
    go_ret
    exact ⟨ret_bool HE.out.symm, below_alloc _ _⟩
  | true =>
  have HY := hid hn
  by_cases hfn : v.fn ≤ 600
  rotate_left
  · have HE := hid (rwB_f hfn)
    go_enter Try.func14, Try.ntmps14
    go_wp2_with (go_at_call 30; go_must (refine (in_any v.n 1 5 _).mono ?_; rintro e w1 ⟨rfl, h0⟩; rw [h0, hn]; clear h0 w1))
    go_ret
    exact ⟨ret_bool HE.out.symm, below_alloc _ _⟩
  have hB0 := below_alloc w (.cells (rwC v V) 26)
  have H0 := holds_new w (rwC v V) 26
  have hz0 : w.heap.size < (w.alloc (.cells (rwC v V) 26)).heap.size := by simp
  obtain ⟨p0, p1, p2⟩ := holds3 H0
  go_enter Try.func14, Try.ntmps14
  go_wp2_with (first | (go_at_call 30; go_must (refine (in_any v.n 1 5 _).mono ?_; rintro e w1 ⟨rfl, h0⟩; rw [h0, hn]; clear h0 w1)))
  clear hn p0 p1 p2
  have HH := hid H0
  clear H0
  generalize w.alloc (.cells (rwC v V) 26) = W at *
  go_loopw [4] (fun i wr => ∃ k : Nat, k ≤ v.n ∧ i = .int .i64 k ∧ Below W.heap.size W wr ∧ Hid (∀ j, j < k → rp1 v.n v.x j = true)) (fun i _ => v.n - (intOf i).toNat)
  case atStart => exact ⟨0, Nat.zero_le _, rfl, Below.refl _ _, fun j hj => absurd hj (Nat.not_lt_zero _)⟩
  case round =>
    obtain ⟨k, hk, rfl, hb, HA⟩ := hrel
    have HB : Below w.heap.size w wr := hB0.trans (hb.mono hB0.size)
    obtain ⟨p0, p1, p2⟩ := holds3 (HH.out.below hb hz0)
    have hww : w.heap.size < wr.heap.size := by have := hb.size; omega
    by_cases hkn : k < v.n
    · obtain ⟨b, off, e, hlo, hbh, hrx, hix⟩ := HC.out.rs k hkn
      rw [e] at p0
      have HR := hid (rangeAt_same hrx (fun j => HB.cell (p := ⟨b, j, none⟩) (by show b < _; omega)))
      have HV := hid (specValid_any (v.x k) (V.A k) wr lo hi (Nat.le_trans hhi HB.size) (HF.out.x k hkn) (hix.below HB hhi))
      have hbw : b < wr.heap.size := by have := HB.size; omega
      clear hrx hix e p1 p2
      have HE0 := hid (fun (h : rcB (v.x k) = false) => rwB_r hkn (show rp1 v.n v.x k = false by rw [rp1, h]; simp))
      have HE1 := hid (fun (h : rcB (v.x k) = true) => (show rp1 v.n v.x k = ((!((v.x k).num != (k : Int) + 1)) && ((!((v.x k).of != (v.n : Int))) && true)) by rw [rp1, h]))
      generalize rcB (v.x k) = bv at *
      cases bv with
      | false =>
        have HE := hid (HE0.out rfl)
        clear HE0 HE1
        go_wp2_with (first | ((with_reducible show wpList _ _ _ (⟨some 28, Op.load 58 _, _, _, _, _⟩ :: _) _ _); go_must (refine wpList_load_mid rfl 58 _ rfl b (off + k * 18) rfl (rcCs (v.x k) (V.A k)) _ HR.out Try.underlying58 rfl rcs_sz58 ?_)) | (go_at_call 46; go_must (refine (HV.out).mono ?_; rintro e w1 ⟨rfl, hb1⟩; have q0 : w1.cell? ⟨w.heap.size, 0, none⟩ = some (.slice (some ⟨b, off, none⟩) v.n V.rc) := (hb1.cell (p := ⟨w.heap.size, 0, none⟩) (by show w.heap.size < _; omega)).trans p0; have c0 : w1.cell? ⟨b, off + k * 18, none⟩ = some (.int .i64 (v.x k).num) := (hb1.cell (p := ⟨b, off + k * 18, none⟩) (by show b < _; omega)).trans (HR.out 0 _ rfl); have c1 : w1.cell? ⟨b, off + k * 18 + 1, none⟩ = some (.int .i64 (v.x k).of) := (hb1.cell (p := ⟨b, off + k * 18 + 1, none⟩) (by show b < _; omega)).trans (HR.out 1 _ rfl))))
        go_ret
        exact ⟨ret_bool HE.out.symm, HB.trans (hb1.mono HB.size)⟩
      | true =>
        have HE2 := hid (HE1.out rfl)
        clear HE0 HE1
        cases h1 : ((v.x k).num != (k : Int) + 1) with
        | true =>
          have HE := hid (rwB_r hkn (by rw [HE2.out, h1]; rfl))
          clear HE2
          go_wp2_with (first | ((with_reducible show wpList _ _ _ (⟨some 28, Op.load 58 _, _, _, _, _⟩ :: _) _ _); go_must (refine wpList_load_mid rfl 58 _ rfl b (off + k * 18) rfl (rcCs (v.x k) (V.A k)) _ HR.out Try.underlying58 rfl rcs_sz58 ?_)) | (go_at_call 46; go_must (refine (HV.out).mono ?_; rintro e w1 ⟨rfl, hb1⟩; have q0 : w1.cell? ⟨w.heap.size, 0, none⟩ = some (.slice (some ⟨b, off, none⟩) v.n V.rc) := (hb1.cell (p := ⟨w.heap.size, 0, none⟩) (by show w.heap.size < _; omega)).trans p0; have c0 : w1.cell? ⟨b, off + k * 18, none⟩ = some (.int .i64 (v.x k).num) := (hb1.cell (p := ⟨b, off + k * 18, none⟩) (by show b < _; omega)).trans (HR.out 0 _ rfl); have c1 : w1.cell? ⟨b, off + k * 18 + 1, none⟩ = some (.int .i64 (v.x k).of) := (hb1.cell (p := ⟨b, off + k * 18 + 1, none⟩) (by show b < _; omega)).trans (HR.out 1 _ rfl))))
          go_ret
          exact ⟨ret_bool HE.out.symm, HB.trans (hb1.mono HB.size)⟩
        | false =>
          cases h2 : ((v.x k).of != (v.n : Int)) with
          | true =>
            have HE := hid (rwB_r hkn (by rw [HE2.out, h1, h2]; rfl))
            clear HE2
            go_wp2_with (first | ((with_reducible show wpList _ _ _ (⟨some 28, Op.load 58 _, _, _, _, _⟩ :: _) _ _); go_must (refine wpList_load_mid rfl 58 _ rfl b (off + k * 18) rfl (rcCs (v.x k) (V.A k)) _ HR.out Try.underlying58 rfl rcs_sz58 ?_)) | (go_at_call 46; go_must (refine (HV.out).mono ?_; rintro e w1 ⟨rfl, hb1⟩; have q0 : w1.cell? ⟨w.heap.size, 0, none⟩ = some (.slice (some ⟨b, off, none⟩) v.n V.rc) := (hb1.cell (p := ⟨w.heap.size, 0, none⟩) (by show w.heap.size < _; omega)).trans p0; have c0 : w1.cell? ⟨b, off + k * 18, none⟩ = some (.int .i64 (v.x k).num) := (hb1.cell (p := ⟨b, off + k * 18, none⟩) (by show b < _; omega)).trans (HR.out 0 _ rfl); have c1 : w1.cell? ⟨b, off + k * 18 + 1, none⟩ = some (.int .i64 (v.x k).of) := (hb1.cell (p := ⟨b, off + k * 18 + 1, none⟩) (by show b < _; omega)).trans (HR.out 1 _ rfl))))
            go_ret
            exact ⟨ret_bool HE.out.symm, HB.trans (hb1.mono HB.size)⟩
          | false =>
            have HN := hid (show rp1 v.n v.x k = true by rw [HE2.out, h1, h2]; rfl)
            clear HE2
            go_wp2_with (first | ((with_reducible show wpList _ _ _ (⟨some 28, Op.load 58 _, _, _, _, _⟩ :: _) _ _); go_must (refine wpList_load_mid rfl 58 _ rfl b (off + k * 18) rfl (rcCs (v.x k) (V.A k)) _ HR.out Try.underlying58 rfl rcs_sz58 ?_)) | (go_at_call 46; go_must (refine (HV.out).mono ?_; rintro e w1 ⟨rfl, hb1⟩; have q0 : w1.cell? ⟨w.heap.size, 0, none⟩ = some (.slice (some ⟨b, off, none⟩) v.n V.rc) := (hb1.cell (p := ⟨w.heap.size, 0, none⟩) (by show w.heap.size < _; omega)).trans p0; have c0 : w1.cell? ⟨b, off + k * 18, none⟩ = some (.int .i64 (v.x k).num) := (hb1.cell (p := ⟨b, off + k * 18, none⟩) (by show b < _; omega)).trans (HR.out 0 _ rfl); have c1 : w1.cell? ⟨b, off + k * 18 + 1, none⟩ = some (.int .i64 (v.x k).of) := (hb1.cell (p := ⟨b, off + k * 18 + 1, none⟩) (by show b < _; omega)).trans (HR.out 1 _ rfl))))
            go_roundw
            case rel => exact ⟨k + 1, by omega, by go_num, hb.trans (hb1.mono hb.size), fun j hj => by
              by_cases e : j = k
              · rw [e]; exact HN.out
              · exact HA.out j (by omega)⟩
            case measure => simp [intOf]; omega
    · have HA1 := hid (fun i (hi : i < v.n) => HA.out i (by omega))
      clear HA HB
      go_wp2
      clear p0 p1 p2
      have hbk := hb
      go_loopw [5] (fun i wr => ∃ k2 : Nat, k2 ≤ v.fn ∧ i = .int .i64 k2 ∧ Below W.heap.size W wr ∧ Hid (∀ j, j < k2 → msB (v.fs j) v.n = true)) (fun i _ => v.fn - (intOf i).toNat)
      case atStart => exact ⟨0, Nat.zero_le _, rfl, hbk, fun j hj => absurd hj (Nat.not_lt_zero _)⟩
      case round =>
        obtain ⟨k2, hk2, rfl, hb2, HA2⟩ := hrel
        have HB : Below w.heap.size w wr := hB0.trans (hb2.mono hB0.size)
        obtain ⟨p0, p1, p2⟩ := holds3 (HH.out.below hb2 hz0)
        have hww2 : w.heap.size < wr.heap.size := by have := hb2.size; omega
        by_cases hkn2 : k2 < v.fn
        · obtain ⟨b, off, ah, ch, e, hlo, hbh, hcx, hs⟩ := HC.out.fs k2 hkn2
          rw [e] at p1
          have HV := hid (specMessage_any (v.fs k2) v.n ah ch wr lo hi (Nat.le_trans hhi HB.size) (HF.out.fs k2 hkn2) (hs.below HB hhi))
          obtain ⟨d0, d1, d2, d3, d4, d5, d6, d7⟩ := hcx.below HB (by omega)
          have hbw : b < wr.heap.size := by have := HB.size; omega
          clear hcx hs e p0 p2
          have HE0 := hid (fun (h : msB (v.fs k2) v.n = false) => rwB_m hkn2 h)
          have HE1 := hid (fun (h : msB (v.fs k2) v.n = true) => h)
          generalize hms : msB (v.fs k2) v.n = bv at *
          have HMS := hid hms
          clear hms
          cases bv with
          | false =>
            have HE := hid (HE0.out rfl)
            clear HE0 HE1
            go_wp2_with (go_at_call 47; go_must (refine (HV.out).mono ?_; rintro e w1 ⟨rfl, hb1⟩))
            go_ret
            exact ⟨ret_bool HE.out.symm, HB.trans (hb1.mono HB.size)⟩
          | true =>
            clear HE0 HE1
            go_wp2_with (go_at_call 47; go_must (refine (HV.out).mono ?_; rintro e w1 ⟨rfl, hb1⟩))
            go_roundw
            case rel => exact ⟨k2 + 1, by omega, by go_num, hb2.trans (hb1.mono hb2.size), fun j hj => by
              by_cases e : j = k2
              · rw [e]; exact HMS.out
              · exact HA2.out j (by omega)⟩
            case measure => simp [intOf]; omega
        · have HA3 := hid (fun i (hi : i < v.fn) => HA2.out i (by omega))
          clear HA2 HB
          go_wp2
          clear p0 p1 p2
          have hbk2 := hb2
          go_loopw [6] (fun i wr => ∃ k3 : Nat, k3 ≤ v.gn ∧ i = .int .i64 k3 ∧ Below W.heap.size W wr ∧ Hid (∀ j, j < k3 → fx1 (v.gs j) = true ∧ asc1 v.gs j = true)) (fun i _ => v.gn - (intOf i).toNat)
          case atStart => exact ⟨0, Nat.zero_le _, rfl, hbk2, fun j hj => absurd hj (Nat.not_lt_zero _)⟩
          case round =>
            obtain ⟨k3, hk3, rfl, hb3, HA4⟩ := hrel
            have HB : Below w.heap.size w wr := hB0.trans (hb3.mono hB0.size)
            obtain ⟨p0, p1, p2⟩ := holds3 (HH.out.below hb3 hz0)
            by_cases hkn3 : k3 < v.gn
            · obtain ⟨b, off, e, hlo, hbh, hcx⟩ := HC.out.gs k3 hkn3
              rw [e] at p2
              obtain ⟨d0, d1⟩ := hcx.below HB (by omega)
              have hbw : b < wr.heap.size := by have := HB.size; omega
              have hww3 : w.heap.size < wr.heap.size := by have := hb3.size; omega
              have rd0 := subcell d0 hbw
              have rd1 := subcell d1 hbw
              have rp2 := subcell p2 hww3
              have hne : Nonempty (GW wr) := ⟨⟨wr, Below.refl _ _⟩⟩
              clear d0 d1
              have hfk := (HF.out.gs k3 hkn3).t
              cases h1 : inB (v.gs k3).bal 1 60 with
              | false =>
                have HE := hid (rwB_g hkn3 (show fx1 (v.gs k3) = false by rw [fx1, h1]; rfl))
                clear hcx e p0 p1
                have HIN := hid (fun X : World => below_same (show Calls Try.prog 30 #[.int .i64 (v.gs k3).bal, .int .i64 1, .int .i64 60] X fun e w' => e = .returned (.bool false) ∧ w' = X by have h := in_any (v.gs k3).bal 1 60 X; rw [h1] at h; exact h))
                go_wp2
                refine wp_region_grow (by kernel_rfl) (by kernel_rfl) ?_
                repeat (go_big_quiet_step ((go_at_call 30; go_must (exact grow_of (HIN.out _)))))
                refine wpQuiet_nil ?_
                rintro w2 ⟨u, hu⟩
                have hw2 : Below wr.heap.size wr w2 := hu ▸ u.prop
                clear hu u
                go_wp2
                go_ret
                exact ⟨ret_bool HE.out.symm, HB.trans (hw2.mono HB.size)⟩
              | true =>
                by_cases h2 : ((v.gs k3).text.size : Int) ≤ 100
                rotate_left
                · have HE := hid (rwB_g hkn3 (show fx1 (v.gs k3) = false by rw [fx1, h1]; simpa using h2))
                  clear hcx e p0 p1
                  have HIN := hid (fun X : World => below_same (show Calls Try.prog 30 #[.int .i64 (v.gs k3).bal, .int .i64 1, .int .i64 60] X fun e w' => e = .returned (.bool true) ∧ w' = X by have h := in_any (v.gs k3).bal 1 60 X; rw [h1] at h; exact h))
                  go_wp2
                  refine wp_region_grow (by kernel_rfl) (by kernel_rfl) ?_
                  repeat (go_big_quiet_step ((go_at_call 30; go_must (exact grow_of (HIN.out _)))))
                  refine wpQuiet_nil ?_
                  rintro w2 ⟨u, hu⟩
                  have hw2 : Below wr.heap.size wr w2 := hu ▸ u.prop
                  clear hu u
                  go_wp2
                  go_ret
                  exact ⟨ret_bool HE.out.symm, HB.trans (hw2.mono HB.size)⟩
                have HN := hid (show fx1 (v.gs k3) = true by rw [fx1, h1]; simpa using h2)
                have hdt : decide (100 < ((v.gs k3).text.size : Int)) = false := by simp; omega
                cases k3 with
                | zero =>
                  clear hcx e p0 p1
                  simp only [Nat.zero_mul, Nat.add_zero] at rd0 rd1
                  have HIN := hid (fun X : World => below_same (show Calls Try.prog 30 #[.int .i64 (v.gs 0).bal, .int .i64 1, .int .i64 60] X fun e w' => e = .returned (.bool true) ∧ w' = X by have h := in_any (v.gs 0).bal 1 60 X; rw [h1] at h; exact h))
                  go_wp2
                  refine wp_region_grow (by kernel_rfl) (by kernel_rfl) ?_
                  repeat (go_big_quiet_step ((go_at_call 30; go_must (exact grow_of (HIN.out _)))))
                  refine wpQuiet_nil ?_
                  rintro w2 ⟨u, hu⟩
                  have hw2 : Below wr.heap.size wr w2 := hu ▸ u.prop
                  clear hu u
                  go_wp2
                  go_roundw
                  case rel => exact ⟨1, by omega, by go_num, hb3.trans (hw2.mono hb3.size), fun j hj => by
                    have : j = 0 := by omega
                    subst this
                    exact ⟨HN.out, rfl⟩⟩
                  case measure => simp [intOf]; omega
                | succ m =>
                  obtain ⟨b', off', e', _, _, hcm⟩ := HC.out.gs m (by omega)
                  rw [e] at e'
                  cases e'
                  obtain ⟨g0, g1⟩ := hcm.below HB (by omega)
                  have rg0 := subcell g0 hbw
                  have rg1 := subcell g1 hbw
                  clear g0 g1
                  clear hcx hcm e p0 p1
                  have hkz : (m : Int) + 1 ≤ v.gn := by omega
                  cases h3 : decide ((v.gs m).bal < (v.gs (m + 1)).bal) with
                  | false =>
                    have HE := hid (rwB_a hkn3 (show asc1 v.gs (m + 1) = false by simpa [asc1] using h3))
                    have h3' : (v.gs (m + 1)).bal ≤ (v.gs m).bal := by simpa using h3
                    clear h3
                    have HIN := hid (fun X : World => below_same (show Calls Try.prog 30 #[.int .i64 (v.gs (m + 1)).bal, .int .i64 1, .int .i64 60] X fun e w' => e = .returned (.bool true) ∧ w' = X by have h := in_any (v.gs (m + 1)).bal 1 60 X; rw [h1] at h; exact h))
                    go_wp2
                    refine wp_region_grow (by kernel_rfl) (by kernel_rfl) ?_
                    repeat (go_big_quiet_step ((go_at_call 30; go_must (exact grow_of (HIN.out _)))))
                    refine wpQuiet_nil ?_
                    rintro w2 ⟨u, hu⟩
                    have hw2 : Below wr.heap.size wr w2 := hu ▸ u.prop
                    clear hu u
                    go_wp2
                    go_ret
                    exact ⟨ret_bool HE.out.symm, HB.trans (hw2.mono HB.size)⟩
                  | true =>
                    have HM := hid (show asc1 v.gs (m + 1) = true by simpa [asc1] using h3)
                    have h3' : (v.gs m).bal < (v.gs (m + 1)).bal := by simpa using h3
                    clear h3
                    have HIN := hid (fun X : World => below_same (show Calls Try.prog 30 #[.int .i64 (v.gs (m + 1)).bal, .int .i64 1, .int .i64 60] X fun e w' => e = .returned (.bool true) ∧ w' = X by have h := in_any (v.gs (m + 1)).bal 1 60 X; rw [h1] at h; exact h))
                    go_wp2
                    refine wp_region_grow (by kernel_rfl) (by kernel_rfl) ?_
                    repeat (go_big_quiet_step ((go_at_call 30; go_must (exact grow_of (HIN.out _)))))
                    refine wpQuiet_nil ?_
                    rintro w2 ⟨u, hu⟩
                    have hw2 : Below wr.heap.size wr w2 := hu ▸ u.prop
                    clear hu u
                    go_wp2
                    go_roundw
                    case rel => exact ⟨m + 2, by omega, by go_num, hb3.trans (hw2.mono hb3.size), fun j hj => by
                      by_cases e : j = m + 1
                      · rw [e]; exact ⟨HN.out, HM.out⟩
                      · exact HA4.out j (by omega)⟩
                    case measure => simp [intOf]; omega
            · have HE := hid (rwB_yes HY.out HA1.out hfn HA3.out (fun i hi => (HA4.out i (by omega)).1) (fun i hi => (HA4.out i (by omega)).2))
              clear HA1 HA3 HA4
              go_wp2
              go_ret
              exact ⟨ret_bool HE.out.symm, HB⟩
end Go.Proofs.Ytjepponnhieocaa
