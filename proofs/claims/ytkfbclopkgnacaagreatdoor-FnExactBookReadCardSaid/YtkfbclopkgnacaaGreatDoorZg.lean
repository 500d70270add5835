import Derived.Test.YtkfbclopkgnacaaGreatDoorZe
import Derived.Test.YtkfbclopkgnacaaGreatDoorZf
namespace Go.Proofs.YtkfbclopkgnacaaGreatDoor
open Go.RowKit Go.Maps
/-- the checks, in their order -/
def chk (B : Bk) : Nat → Bool
  | 0 => numB B.now B.floor
  | 1 => objs1B B.on B.os B.now
  | 2 => verDiff B.on B.os
  | 3 => histB B.now B.floor B.hn B.hs
  | 4 => allTo (livB B.floor B.hs) B.hn
  | 5 => agB B.floor B.on B.os B.hn B.hs
  | _ => tisB B.tn B.ts B.now
theorem numB_yes {now floor : Int} (h : numB now floor = true) : 0 ≤ floor ∧ floor ≤ now ∧ now ≤ 1000000 := by
  unfold numB inB at h
  simp at h
  omega
set_option maxRecDepth 100000 in
set_option maxHeartbeats 2000000 in
theorem implValid_any (B : Bk) (a1 a2 a3 : Option Addr) (c1 c2 c3 : Nat) (w : World) (lo hi : Nat) (hhi : hi ≤ w.heap.size) (hfit : BkFit B) (hin : BkIn w lo hi B a1 a2 a3) :
    Calls Tryz.prog 37 #[.agg #[.int .i64 B.now, .int .i64 B.floor, .slice a1 B.on c1, .slice a2 B.hn c2, .slice a3 B.tn c3]] w fun e w' => e = .returned (.bool (allTo (chk B) 7)) ∧ Below w.heap.size w w' := by
  obtain ⟨f1, f2, f3, f4, f5, f6⟩ := hfit
  go_enter Tryz.func37, Tryz.ntmps37
  go_wp2_with fail
  go_loopw [9] (fun i wr => ∃ k : Nat, k ≤ 7 ∧ i = .int .i64 k ∧ Below (w.heap.size + 1 + 1) ((w.alloc (.cells #[.int .i64 B.now, .int .i64 B.floor, .slice a1 B.on c1, .slice a2 B.hn c2, .slice a3 B.tn c3] 26)).alloc (.cells #[.func (.func 63) #[] #[], .func (.func 64) #[] #[], .func (.func 65) #[] #[], .func (.func 66) #[] #[], .func (.func 67) #[] #[], .func (.func 68) #[] #[], .func (.func 69) #[] #[]] 56)) wr ∧ ∀ j, j < k → chk B j = true) (fun i _ => 7 - (intOf i).toNat)
  case atStart => exact ⟨0, Nat.zero_le _, rfl, Below.refl _ _, fun j hj => absurd hj (Nat.not_lt_zero _)⟩
  case round =>
    obtain ⟨k, hk, rfl, hb, hall⟩ := hrel
    have hBw : Below w.heap.size w wr := ((below_alloc' _ _).alloc (by simp) _).trans (hb.mono (by omega))
    have hsz : w.heap.size + 2 ≤ wr.heap.size := by have := hb.size; simpa using this
    have hhw : hi ≤ wr.heap.size := by omega
    have HI := hid (show BkIn wr lo hi B a1 a2 a3 from ⟨hin.o.below hBw hhi, hin.h.below hBw hhi, hin.t.below hBw hhi⟩)
    have HA := hid hall
    have e0 : wr.cell? ⟨w.heap.size, 0, none⟩ = some (.int .i64 B.now) := (hb.cell (p := ⟨w.heap.size, 0, none⟩) (by show w.heap.size < _; omega)).trans (by simp)
    have e1 : wr.cell? ⟨w.heap.size, 1, none⟩ = some (.int .i64 B.floor) := (hb.cell (p := ⟨w.heap.size, 1, none⟩) (by show w.heap.size < _; omega)).trans (by simp)
    have e2 : wr.cell? ⟨w.heap.size, 2, none⟩ = some (.slice a1 B.on c1) := (hb.cell (p := ⟨w.heap.size, 2, none⟩) (by show w.heap.size < _; omega)).trans (by simp)
    have e3 : wr.cell? ⟨w.heap.size, 3, none⟩ = some (.slice a2 B.hn c2) := (hb.cell (p := ⟨w.heap.size, 3, none⟩) (by show w.heap.size < _; omega)).trans (by simp)
    have e4 : wr.cell? ⟨w.heap.size, 4, none⟩ = some (.slice a3 B.tn c3) := (hb.cell (p := ⟨w.heap.size, 4, none⟩) (by show w.heap.size < _; omega)).trans (by simp)
    clear hin
    rcases (show k = 0 ∨ k = 1 ∨ k = 2 ∨ k = 3 ∨ k = 4 ∨ k = 5 ∨ k = 6 ∨ k = 7 by omega) with rfl | rfl | rfl | rfl | rfl | rfl | rfl | rfl
    all_goals clear hall
    iterate 1
      · -- 0
        have g : wr.cell? ⟨w.heap.size + 1, 0, none⟩ = some (.func (.func 63) #[] #[]) := (hb.cell (p := ⟨w.heap.size + 1, 0, none⟩) (by show w.heap.size + 1 < _; omega)).trans (by simp)
        cases hp : chk B 0 with
        | false =>
          have HE := hid (show allTo (chk B) 7 = false from allTo_no (show 0 < 7 by omega) hp)
          have hp' : numB B.now B.floor = false := hp
          go_wp2_with (go_at_call 63; refine (numbers_any B.now B.floor a1 a2 a3 B.on c1 B.hn c2 B.tn c3 wr).mono ?_; rintro e w2 ⟨rfl, hb2⟩; rw [hp'])
          go_ret
          exact ⟨ret_bool HE.out.symm, hBw.trans (hb2.mono (by omega))⟩
        | true =>
          have HP := hid hp
          have hp' : numB B.now B.floor = true := hp
          go_wp2_with (go_at_call 63; refine (numbers_any B.now B.floor a1 a2 a3 B.on c1 B.hn c2 B.tn c3 wr).mono ?_; rintro e w2 ⟨rfl, hb2⟩; rw [hp'])
          go_roundw
          case rel => exact ⟨1, by omega, by go_num, hb.trans (hb2.mono (by omega)), fun j hj => (by
            rcases Nat.lt_or_ge j 0 with h3 | h3
            · exact HA.out j h3
            · have : j = 0 := by omega
              subst this; exact HP.out)⟩
          case measure => simp [intOf]
      · -- 1
        have g : wr.cell? ⟨w.heap.size + 1, 1, none⟩ = some (.func (.func 64) #[] #[]) := (hb.cell (p := ⟨w.heap.size + 1, 1, none⟩) (by show w.heap.size + 1 < _; omega)).trans (by simp)
        cases hp : chk B 1 with
        | false =>
          have HE := hid (show allTo (chk B) 7 = false from allTo_no (show 1 < 7 by omega) hp)
          have hp' : objs1B B.on B.os B.now = false := hp
          go_wp2_with (go_at_call 64; refine (objsFit_any B.now B.floor B.on B.os a1 a2 a3 c1 B.hn c2 B.tn c3 wr lo hi hhw f1 f4 HI.out.o).mono ?_; rintro e w2 ⟨rfl, hb2⟩; rw [hp'])
          go_ret
          exact ⟨ret_bool HE.out.symm, hBw.trans (hb2.mono (by omega))⟩
        | true =>
          have HP := hid hp
          have hp' : objs1B B.on B.os B.now = true := hp
          go_wp2_with (go_at_call 64; refine (objsFit_any B.now B.floor B.on B.os a1 a2 a3 c1 B.hn c2 B.tn c3 wr lo hi hhw f1 f4 HI.out.o).mono ?_; rintro e w2 ⟨rfl, hb2⟩; rw [hp'])
          go_roundw
          case rel => exact ⟨2, by omega, by go_num, hb.trans (hb2.mono (by omega)), fun j hj => (by
            rcases Nat.lt_or_ge j 1 with h3 | h3
            · exact HA.out j h3
            · have : j = 1 := by omega
              subst this; exact HP.out)⟩
          case measure => simp [intOf]
      · -- 2
        have g : wr.cell? ⟨w.heap.size + 1, 2, none⟩ = some (.func (.func 65) #[] #[]) := (hb.cell (p := ⟨w.heap.size + 1, 2, none⟩) (by show w.heap.size + 1 < _; omega)).trans (by simp)
        cases hp : chk B 2 with
        | false =>
          have HE := hid (show allTo (chk B) 7 = false from allTo_no (show 2 < 7 by omega) hp)
          have hp' : verDiff B.on B.os = false := hp
          go_wp2_with (go_at_call 65; refine (verDiff_any B.now B.floor B.on B.os a1 a2 a3 c1 B.hn c2 B.tn c3 wr lo hi hhw f1 f4 HI.out.o).mono ?_; rintro e w2 ⟨rfl, hb2⟩; rw [hp'])
          go_ret
          exact ⟨ret_bool HE.out.symm, hBw.trans (hb2.mono (by omega))⟩
        | true =>
          have HP := hid hp
          have hp' : verDiff B.on B.os = true := hp
          go_wp2_with (go_at_call 65; refine (verDiff_any B.now B.floor B.on B.os a1 a2 a3 c1 B.hn c2 B.tn c3 wr lo hi hhw f1 f4 HI.out.o).mono ?_; rintro e w2 ⟨rfl, hb2⟩; rw [hp'])
          go_roundw
          case rel => exact ⟨3, by omega, by go_num, hb.trans (hb2.mono (by omega)), fun j hj => (by
            rcases Nat.lt_or_ge j 2 with h3 | h3
            · exact HA.out j h3
            · have : j = 2 := by omega
              subst this; exact HP.out)⟩
          case measure => simp [intOf]
      · -- 3
        have g : wr.cell? ⟨w.heap.size + 1, 3, none⟩ = some (.func (.func 66) #[] #[]) := (hb.cell (p := ⟨w.heap.size + 1, 3, none⟩) (by show w.heap.size + 1 < _; omega)).trans (by simp)
        have hnn := HA.out 0 (by omega)
        obtain ⟨hn1, hn2, hn3⟩ := numB_yes hnn
        clear hnn
        cases hp : chk B 3 with
        | false =>
          have HE := hid (show allTo (chk B) 7 = false from allTo_no (show 3 < 7 by omega) hp)
          have hp' : histB B.now B.floor B.hn B.hs = false := hp
          go_wp2_with (go_at_call 66; refine (histFits_any B.now B.floor B.hn B.hs a1 a2 a3 B.on c1 c2 B.tn c3 wr lo hi hhw f2 hn1 hn2 hn3 f5 HI.out.h).mono ?_; rintro e w2 ⟨rfl, hb2⟩; rw [hp'])
          go_ret
          exact ⟨ret_bool HE.out.symm, hBw.trans (hb2.mono (by omega))⟩
        | true =>
          have HP := hid hp
          have hp' : histB B.now B.floor B.hn B.hs = true := hp
          go_wp2_with (go_at_call 66; refine (histFits_any B.now B.floor B.hn B.hs a1 a2 a3 B.on c1 c2 B.tn c3 wr lo hi hhw f2 hn1 hn2 hn3 f5 HI.out.h).mono ?_; rintro e w2 ⟨rfl, hb2⟩; rw [hp'])
          go_roundw
          case rel => exact ⟨4, by omega, by go_num, hb.trans (hb2.mono (by omega)), fun j hj => (by
            rcases Nat.lt_or_ge j 3 with h3 | h3
            · exact HA.out j h3
            · have : j = 3 := by omega
              subst this; exact HP.out)⟩
          case measure => simp [intOf]
      · -- 4
        have g : wr.cell? ⟨w.heap.size + 1, 4, none⟩ = some (.func (.func 67) #[] #[]) := (hb.cell (p := ⟨w.heap.size + 1, 4, none⟩) (by show w.heap.size + 1 < _; omega)).trans (by simp)
        cases hp : chk B 4 with
        | false =>
          have HE := hid (show allTo (chk B) 7 = false from allTo_no (show 4 < 7 by omega) hp)
          have hp' : allTo (livB B.floor B.hs) B.hn = false := hp
          go_wp2_with (go_at_call 67; refine (livesFit_any B.now B.floor B.hn B.hs a1 a2 a3 B.on c1 c2 B.tn c3 wr lo hi hhw f2 f5 HI.out.h).mono ?_; rintro e w2 ⟨rfl, hb2⟩; rw [hp'])
          go_ret
          exact ⟨ret_bool HE.out.symm, hBw.trans (hb2.mono (by omega))⟩
        | true =>
          have HP := hid hp
          have hp' : allTo (livB B.floor B.hs) B.hn = true := hp
          go_wp2_with (go_at_call 67; refine (livesFit_any B.now B.floor B.hn B.hs a1 a2 a3 B.on c1 c2 B.tn c3 wr lo hi hhw f2 f5 HI.out.h).mono ?_; rintro e w2 ⟨rfl, hb2⟩; rw [hp'])
          go_roundw
          case rel => exact ⟨5, by omega, by go_num, hb.trans (hb2.mono (by omega)), fun j hj => (by
            rcases Nat.lt_or_ge j 4 with h3 | h3
            · exact HA.out j h3
            · have : j = 4 := by omega
              subst this; exact HP.out)⟩
          case measure => simp [intOf]
      · -- 5
        have g : wr.cell? ⟨w.heap.size + 1, 5, none⟩ = some (.func (.func 68) #[] #[]) := (hb.cell (p := ⟨w.heap.size + 1, 5, none⟩) (by show w.heap.size + 1 < _; omega)).trans (by simp)
        cases hp : chk B 5 with
        | false =>
          have HE := hid (show allTo (chk B) 7 = false from allTo_no (show 5 < 7 by omega) hp)
          have hp' : agB B.floor B.on B.os B.hn B.hs = false := hp
          go_wp2_with (go_at_call 68; refine (agree_any B.now B.floor B.on B.hn B.os B.hs a1 a2 a3 c1 c2 B.tn c3 wr lo hi hhw f1 f2 f4 f5 HI.out.o HI.out.h).mono ?_; rintro e w2 ⟨rfl, hb2⟩; rw [hp'])
          go_ret
          exact ⟨ret_bool HE.out.symm, hBw.trans (hb2.mono (by omega))⟩
        | true =>
          have HP := hid hp
          have hp' : agB B.floor B.on B.os B.hn B.hs = true := hp
          go_wp2_with (go_at_call 68; refine (agree_any B.now B.floor B.on B.hn B.os B.hs a1 a2 a3 c1 c2 B.tn c3 wr lo hi hhw f1 f2 f4 f5 HI.out.o HI.out.h).mono ?_; rintro e w2 ⟨rfl, hb2⟩; rw [hp'])
          go_roundw
          case rel => exact ⟨6, by omega, by go_num, hb.trans (hb2.mono (by omega)), fun j hj => (by
            rcases Nat.lt_or_ge j 5 with h3 | h3
            · exact HA.out j h3
            · have : j = 5 := by omega
              subst this; exact HP.out)⟩
          case measure => simp [intOf]
      · -- 6
        have g : wr.cell? ⟨w.heap.size + 1, 6, none⟩ = some (.func (.func 69) #[] #[]) := (hb.cell (p := ⟨w.heap.size + 1, 6, none⟩) (by show w.heap.size + 1 < _; omega)).trans (by simp)
        cases hp : chk B 6 with
        | false =>
          have HE := hid (show allTo (chk B) 7 = false from allTo_no (show 6 < 7 by omega) hp)
          have hp' : tisB B.tn B.ts B.now = false := hp
          go_wp2_with (go_at_call 69; refine (ticsFit_any B.now B.floor B.tn B.ts a1 a2 a3 B.on c1 B.hn c2 c3 wr lo hi hhw f3 f6 HI.out.t).mono ?_; rintro e w2 ⟨rfl, hb2⟩; rw [hp'])
          go_ret
          exact ⟨ret_bool HE.out.symm, hBw.trans (hb2.mono (by omega))⟩
        | true =>
          have HP := hid hp
          have hp' : tisB B.tn B.ts B.now = true := hp
          go_wp2_with (go_at_call 69; refine (ticsFit_any B.now B.floor B.tn B.ts a1 a2 a3 B.on c1 B.hn c2 c3 wr lo hi hhw f3 f6 HI.out.t).mono ?_; rintro e w2 ⟨rfl, hb2⟩; rw [hp'])
          go_roundw
          case rel => exact ⟨7, by omega, by go_num, hb.trans (hb2.mono (by omega)), fun j hj => (by
            rcases Nat.lt_or_ge j 6 with h3 | h3
            · exact HA.out j h3
            · have : j = 6 := by omega
              subst this; exact HP.out)⟩
          case measure => simp [intOf]
      · have HE := hid (show allTo (chk B) 7 = true from allTo_iff.2 HA.out)
        go_wp2
        go_ret
        exact ⟨ret_bool HE.out.symm, hBw⟩
end Go.Proofs.YtkfbclopkgnacaaGreatDoor
