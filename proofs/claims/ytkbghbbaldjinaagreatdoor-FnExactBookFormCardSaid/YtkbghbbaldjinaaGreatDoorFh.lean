import Derived.Test.YtkbghbbaldjinaaGreatDoorFg
namespace Go.Proofs.YtkbghbbaldjinaaGreatDoor
open Go.RowKit

theorem formO_succ (x : Bk) (k : Nat) : formO x (k + 1) = formO x k ++ (oLine (x.os k)).data.toList := rfl
theorem formH_succ (x : Bk) (k : Nat) : formH x (k + 1) = formH x k ++ (cLine (x.hs k)).data.toList := rfl
theorem formT_succ (x : Bk) (k : Nat) : formT x (k + 1) = formT x k ++ (tLine (x.ts k)).data.toList := rfl
theorem formS_no {x : Bk} (h : allTo (chk x) 7 = false) : formS x = ⟨#[]⟩ := by unfold formS; rw [h]; rfl
set_option maxRecDepth 100000 in
set_option maxHeartbeats 4000000 in
theorem specForm_any (x : Bk) (a1 a2 a3 : Option Addr) (c1 c2 c3 : Nat) (w : World) (lo hi : Nat) (hhi : hi ≤ w.heap.size) (hfit : BkFit x) (hin : BkIn w lo hi x a1 a2 a3) :
    Calls Tryz.prog 5 #[.agg #[.int .i64 x.now, .int .i64 x.floor, .slice a1 x.on c1, .slice a2 x.hn c2, .slice a3 x.tn c3]] w fun e w' => e = .returned (.string (formS x)) ∧ Below w.heap.size w w' := by
  have HIN := hid hin
  have hS := fun W h => specValid_any x a1 a2 a3 c1 c2 c3 W lo hi (Nat.le_trans hhi h) hfit
  have HS := hid hS
  clear hin hS
  cases hv : allTo (chk x) 7 with
  | false =>
    have HE := hid (formS_no hv)
    have HV := hid hv
    clear hv
    go_enter Tryz.func5, Tryz.ntmps5
    go_wp2_with (go_at_call 12; refine (HS.out _ (by simp) (HIN.out.below (below_alloc _ _) hhi)).mono ?_; rintro e w1 ⟨rfl, hb1⟩; rw [HV.out])
    go_ret
    exact ⟨by rw [HE.out]; rfl, (below_alloc w _).trans (hb1.mono (by simp))⟩
  | true =>
    have HBV := hid (valid_v hv)
    have HV := hid hv
    have ho := (valid_v hv).o
    have hh := (valid_v hv).h
    have ht := (valid_v hv).t
    clear hv
    go_enter Tryz.func5, Tryz.ntmps5
    go_wp2_with (go_at_call 12; refine (HS.out _ (by simp) (HIN.out.below (below_alloc _ _) hhi)).mono ?_; rintro e w1 ⟨rfl, hb1⟩; rw [HV.out])
    have z1 : w.heap.size < w1.heap.size := by have := hb1.size; simp at this; omega
    have hB1 : Below w.heap.size w w1 := (below_alloc w _).trans (hb1.mono (by simp))
    have q0 : w1.cell? ⟨w.heap.size, 0, none⟩ = some (.int .i64 (x.now.toNat : Int)) := by rw [hb1.cell (p := ⟨w.heap.size, 0, none⟩) (by simp), ← HBV.out.en]; simp
    have q1 : w1.cell? ⟨w.heap.size, 1, none⟩ = some (.int .i64 (x.floor.toNat : Int)) := by rw [hb1.cell (p := ⟨w.heap.size, 1, none⟩) (by simp), ← HBV.out.ef]; simp
    have q2 : w1.cell? ⟨w.heap.size, 2, none⟩ = some (.slice a1 x.on c1) := (hb1.cell (p := ⟨w.heap.size, 2, none⟩) (by simp)).trans (by simp)
    have q3 : w1.cell? ⟨w.heap.size, 3, none⟩ = some (.slice a2 x.hn c2) := (hb1.cell (p := ⟨w.heap.size, 3, none⟩) (by simp)).trans (by simp)
    have q4 : w1.cell? ⟨w.heap.size, 4, none⟩ = some (.slice a3 x.tn c3) := (hb1.cell (p := ⟨w.heap.size, 4, none⟩) (by simp)).trans (by simp)
    refine headReg _ _ _ _ _ _ _ _ _ _ _ _ _ _ _ _ _ _ _ _ _ _ _ _ _ _ _ _ _ _ _ _ _ _ _ _ _ _ _ _ _ _ _ _ _ _ _ _ _ _ _ _ _ _ _ _ _ _ _ _ _ _ _ _ _ _ _ _ _ _ _ _ _ _ _ _ _ _ _ _ _ _ _ _ _ _ _ _ _ _ _ _ _ _ _ (fun _ => undef) w.heap.size x.now.toNat x.floor.toNat w1 z1 q0 q1 HBV.out.ln HBV.out.lf (dS_size HBV.out.ln) (dS_size HBV.out.lf) _ ?_
    intro t v3 X hX hBL
    have Q2 := hid q2
    have Q3 := hid q3
    have Q4 := hid q4
    have HB1 := hid hB1
    clear q0 q1 q2 q3 q4 hb1 hB1 HS
    go_wp2
    go_loopw [3, 4] (fun v i wr => ∃ k : Nat, k ≤ x.on ∧ i = .int .i64 k ∧ BL wr w1.heap.size v (formO x k) ∧ Below w1.heap.size w1 wr) (fun _ i _ => x.on - (intOf i).toNat)
    case atStart => exact ⟨0, Nat.zero_le _, rfl, hBL, hX⟩
    case round =>
      obtain ⟨k, hk, rfl, hbl, hb⟩ := hrel
      clear hBL hX
      have p2 : wr.cell? ⟨w.heap.size, 2, none⟩ = some (.slice a1 x.on c1) := (hb.cell (p := ⟨w.heap.size, 2, none⟩) z1).trans Q2.out
      have zw := hb.size
      have zL := formO_len HBV.out k hk
      by_cases hkn : k < x.on
      · have hBw : Below w.heap.size w wr := HB1.out.trans (hb.mono (by omega))
        obtain ⟨b, off, ah, ch, rfl, e2, e3, e4, e5⟩ := HIN.out.o k hkn
        obtain ⟨d0, d1, d2, d3, d4, d5, d6⟩ := e4.below hBw (by omega)
        have ov := HBV.out.os k hkn
        have OV := hid ov
        have zo := objS_size ov.sm ov.lv ov.lb
        have HE5 := hid (e5.below hBw hhi)
        have HBL := hid hbl
        have HSU := hid (formO_succ x k)
        have zl := oLine_size ov
        clear e4 e5 hbl ov
        go_wp2_with (first
          | (go_at_call 14; refine (obj_any (x.os k) (x.os k).ver.toNat (x.os k).born.toNat ah ch _ lo hi (by omega) OV.out.lv OV.out.lb OV.out.ev OV.out.eb OV.out.sm HE5.out).mono ?_; rintro e Y ⟨rfl, hY⟩)
          | (at_builtin; go_must (refine wpListBL rfl _ _ rfl w1.heap.size _ (formO x k) (oLine (x.os k)) rfl rfl (HBL.out.grow hY) (by omega) (by have := hY.size; omega) ?_; intro v2 w2 h1 h2)))
        go_roundw
        case rel => exact ⟨k + 1, by omega, by go_num, by rw [HSU.out]; exact h1, (hb.trans (hY.mono (by omega))).trans h2⟩
        case measure => simp [intOf]; omega
      · have hkk : k = x.on := by omega
        subst hkk
        have HBL := hid hbl
        clear hbl
        go_wp2
        go_loopw [3, 5] (fun v i wr => ∃ k : Nat, k ≤ x.hn ∧ i = .int .i64 k ∧ BL wr w1.heap.size v (formH x k) ∧ Below w1.heap.size w1 wr) (fun _ i _ => x.hn - (intOf i).toNat)
        case atStart => exact ⟨0, Nat.zero_le _, rfl, HBL.out, hb⟩
        case round =>
          clear hb zw p2 hk hkn HBL zL
          obtain ⟨k, hk, rfl, hbl, hb⟩ := hrel
          have p3 : wr.cell? ⟨w.heap.size, 3, none⟩ = some (.slice a2 x.hn c2) := (hb.cell (p := ⟨w.heap.size, 3, none⟩) z1).trans Q3.out
          have zw := hb.size
          have zL := formH_len HBV.out k hk
          by_cases hkn : k < x.hn
          · have hBw : Below w.heap.size w wr := HB1.out.trans (hb.mono (by omega))
            obtain ⟨b, off, ah, ch, rfl, e2, e3, e4, e5⟩ := HIN.out.h k hkn
            obtain ⟨d0, d1, d2, d3, d4, d5, d6, d7, d8⟩ := e4.below hBw (by omega)
            have ov := HBV.out.hs k hkn
            have OV := hid ov
            have zo := objS_size ov.sm ov.lv ov.lb
            have HE5 := hid (e5.below hBw hhi)
            have HBL := hid hbl
            have HSU := hid (formH_succ x k)
            have zl := cLine_size ov
            clear e4 e5 hbl ov
            cases hg : (x.hs k).gone
            all_goals
              rw [hg] at d1
              have HL : Hid (cLine (x.hs k) = (⟨#[99, 104, 97, 110, 103, 101, 32]⟩ : ByteArray) ++ gS (x.hs k).gone ++ objS (x.hs k).ob (x.hs k).ob.ver.toNat (x.hs k).ob.born.toNat) := rfl
              rw [hg] at HL
              simp only [gS, if_true, Bool.false_eq_true, if_false] at HL
              go_wp2_with (first
                | (go_at_call 14; refine (obj_any (x.hs k).ob (x.hs k).ob.ver.toNat (x.hs k).ob.born.toNat ah ch _ lo hi (by omega) OV.out.lv OV.out.lb OV.out.ev OV.out.eb OV.out.sm HE5.out).mono ?_; rintro e Y ⟨rfl, hY⟩)
                | (at_builtin; go_must (refine wpListBL rfl _ _ rfl w1.heap.size _ (formH x k) (cLine (x.hs k)) rfl (by rw [HL.out]; rfl) (HBL.out.grow hY) (by omega) (by have := hY.size; omega) ?_; intro v2 w2 h1 h2)))
              go_roundw
              case rel => exact ⟨k + 1, by omega, by go_num, by rw [HSU.out]; exact h1, (hb.trans (hY.mono (by omega))).trans h2⟩
              case measure => simp [intOf]; omega
          · have hkk : k = x.hn := by omega
            subst hkk
            have HBL := hid hbl
            clear hbl
            go_wp2
            go_loopw [3, 7] (fun v i wr => ∃ k : Nat, k ≤ x.tn ∧ i = .int .i64 k ∧ BL wr w1.heap.size v (formT x k) ∧ Below w1.heap.size w1 wr) (fun _ i _ => x.tn - (intOf i).toNat)
            case atStart => exact ⟨0, Nat.zero_le _, rfl, HBL.out, hb⟩
            case round =>
              clear hb zw p3 hk hkn HBL zL
              obtain ⟨k, hk, rfl, hbl, hb⟩ := hrel
              have p4 : wr.cell? ⟨w.heap.size, 4, none⟩ = some (.slice a3 x.tn c3) := (hb.cell (p := ⟨w.heap.size, 4, none⟩) z1).trans Q4.out
              have zw := hb.size
              have zL := formT_len HBV.out k hk
              by_cases hkn : k < x.tn
              · have hBw : Below w.heap.size w wr := HB1.out.trans (hb.mono (by omega))
                obtain ⟨b, off, rfl, e2, e3, e4⟩ := HIN.out.t k hkn
                obtain ⟨d0, d1, d2, d3, d4⟩ := e4.below hBw (by omega)
                have ov := HBV.out.ts k hkn
                have HBL := hid hbl
                have HSU := hid (formT_succ x k)
                have OV := hid ov
                clear e4 hbl ov
                go_wp2_with fail
                refine tickReg _ _ _ _ _ _ _ _ _ _ _ _ _ _ _ _ _ _ _ _ _ _ _ _ _ _ _ _ _ _ _ _ _ _ _ _ _ _ _ _ _ _ _ _ _ _ _ _ _ _ _ _ _ _ _ _ _ _ _ _ _ _ _ _ _ _ _ _ _ _ _ _ _ _ _ _ _ _ _ _ (fun i => [u76, u77, u78, u79, u80, u81, u82, u83, u84, u85, u86, u87, u88, u89, u90, u91, u92, u93, u94, u95, u96, u97, u98, u99, u100].getD i undef) (x.ts k) wr.heap.size (x.ts k).num.toNat (x.ts k).code.toNat (x.ts k).ver.toNat _ _ (by simp) (by simp) (by rw [← OV.out.en]; simp) (by simp) (by rw [← OV.out.ec]; simp) (by rw [← OV.out.ev]; simp) OV.out.ln OV.out.lc OV.out.lv OV.out.c OV.out.p (dS_size OV.out.ln) (dS_size OV.out.lc) (dS_size OV.out.lv) (quS_size OV.out.p) w1.heap.size (formT x k) (by simp; omega) (HBL.out.grow (below_alloc _ _)) (by omega) (tLine (x.ts k)) rfl _ ?_
                rintro t v3 Y ⟨h1, h2⟩
                have HK3 := hid h1
                have HK4 := hid ((hb.trans ((below_alloc wr _).mono (by omega))).trans h2)
                clear h1 h2
                go_wp2
                go_roundw
                case rel => exact ⟨k + 1, by omega, by go_num, by rw [HSU.out]; exact HK3.out, HK4.out⟩
                case measure => simp [intOf]; omega
              · have hkk : k = x.tn := by omega
                subst hkk
                have hcv := hbl.conv
                obtain ⟨ad, cap, rfl⟩ := hbl.len
                have hBw : Below w.heap.size w wr := HB1.out.trans (hb.mono (by omega))
                by_cases hbig : 200000 < ((formT x x.tn).length : Int)
                · have HF : Hid (formS x = ⟨#[]⟩) := by unfold formS; rw [HV.out, if_pos rfl, if_pos hbig]; exact hid rfl
                  clear hcv
                  go_wp2
                  go_ret
                  exact ⟨by rw [HF.out]; rfl, hBw⟩
                · have HF : Hid (formS x = ⟨(formT x x.tn).toArray⟩) := by unfold formS; rw [HV.out, if_pos rfl, if_neg hbig]; exact hid rfl
                  rw [← HF.out] at hcv
                  go_wp2
                  go_ret
                  exact ⟨rfl, hBw⟩

end Go.Proofs.YtkbghbbaldjinaaGreatDoor
