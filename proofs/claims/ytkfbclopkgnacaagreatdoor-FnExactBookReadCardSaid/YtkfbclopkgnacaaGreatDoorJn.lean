import Derived.Test.YtkfbclopkgnacaaGreatDoorFg
import Derived.Test.YtkfbclopkgnacaaGreatDoorFq
import Derived.Test.YtkfbclopkgnacaaGreatDoorJm
namespace Go.Proofs.YtkfbclopkgnacaaGreatDoor
open Go.RowKit

theorem formO_succ (x : Bk) (k : Nat) : formO x (k + 1) = formO x k ++ (oLine (x.os k)).data.toList := rfl
theorem formH_succ (x : Bk) (k : Nat) : formH x (k + 1) = formH x k ++ (cLine (x.hs k)).data.toList := rfl
theorem formT_succ (x : Bk) (k : Nat) : formT x (k + 1) = formT x k ++ (tLine (x.ts k)).data.toList := rfl
theorem formS_no {x : Bk} (h : allTo (chk x) 7 = false) : formS x = ⟨#[]⟩ := by unfold formS; rw [h]; rfl
set_option maxRecDepth 100000 in
set_option maxHeartbeats 4000000 in
theorem specForm_any (x : Bk) (a1 a2 a3 : Option Addr) (c1 c2 c3 : Nat) (w : World) (lo hi : Nat) (hhi : hi ≤ w.heap.size) (hfit : BkFit x) (hin : BkIn w lo hi x a1 a2 a3) :
    Calls Tryz.prog 14 #[.agg #[.int .i64 x.now, .int .i64 x.floor, .slice a1 x.on c1, .slice a2 x.hn c2, .slice a3 x.tn c3]] w fun e w' => e = .returned (.string (formS x)) ∧ Below w.heap.size w w' := by
  have HIN := hid hin
  have hS := fun W h => specValid_any x a1 a2 a3 c1 c2 c3 W lo hi (Nat.le_trans hhi h) hfit
  have HS := hid hS
  clear hin hS
  cases hv : allTo (chk x) 7 with
  | false =>
    have HE := hid (formS_no hv)
    have HV := hid hv
    clear hv
    go_enter Tryz.func14, Tryz.ntmps14
    go_wp2_with (go_at_call 28; refine (HS.out _ (by simp) (HIN.out.below (below_alloc _ _) hhi)).mono ?_; rintro e w1 ⟨rfl, hb1⟩; rw [HV.out])
    go_ret
    exact ⟨by rw [HE.out]; rfl, (below_alloc w _).trans (hb1.mono (by simp))⟩
  | true =>
    have HBV := hid (valid_v hv)
    have HV := hid hv
    have ho := (valid_v hv).o
    have hh := (valid_v hv).h
    have ht := (valid_v hv).t
    clear hv
    go_enter Tryz.func14, Tryz.ntmps14
    go_wp2_with (go_at_call 28; refine (HS.out _ (by simp) (HIN.out.below (below_alloc _ _) hhi)).mono ?_; rintro e w1 ⟨rfl, hb1⟩; rw [HV.out])
    have z1 : w.heap.size < w1.heap.size := by have := hb1.size; simp at this; omega
    have hB1 : Below w.heap.size w w1 := (below_alloc w _).trans (hb1.mono (by simp))
    have q0 : w1.cell? ⟨w.heap.size, 0, none⟩ = some (.int .i64 (x.now.toNat : Int)) := by rw [hb1.cell (p := ⟨w.heap.size, 0, none⟩) (by simp), ← HBV.out.en]; simp
    have q1 : w1.cell? ⟨w.heap.size, 1, none⟩ = some (.int .i64 (x.floor.toNat : Int)) := by rw [hb1.cell (p := ⟨w.heap.size, 1, none⟩) (by simp), ← HBV.out.ef]; simp
    have q2 : w1.cell? ⟨w.heap.size, 2, none⟩ = some (.slice a1 x.on c1) := (hb1.cell (p := ⟨w.heap.size, 2, none⟩) (by simp)).trans (by simp)
    have q3 : w1.cell? ⟨w.heap.size, 3, none⟩ = some (.slice a2 x.hn c2) := (hb1.cell (p := ⟨w.heap.size, 3, none⟩) (by simp)).trans (by simp)
    have q4 : w1.cell? ⟨w.heap.size, 4, none⟩ = some (.slice a3 x.tn c3) := (hb1.cell (p := ⟨w.heap.size, 4, none⟩) (by simp)).trans (by simp)
    refine headReg _ _ _ _ _ _ _ _ _ _ _ _ _ _ _ _ _ _ _ _ _ _ _ _ _ _ _ _ _ _ _ _ _ _ _ _ _ _ _ _ _ _ _ _ _ _ _ _ _ _ _ _ _ _ _ _ _ _ _ _ _ _ _ _ _ _ _ _ _ _ _ _ _ _ _ _ _ _ _ _ _ _ _ _ _ _ _ _ _ _ _ _ _ _ _ (fun _ => undef) w.heap.size x.now.toNat x.floor.toNat w1 z1 q0 q1 HBV.out.ln HBV.out.lf (dS_size HBV.out.ln) (dS_size HBV.out.lf) _ ?_
    intro t v3 X hX hBL
    have Q2 := hid q2
    have Q3 := hid q3
    have Q4 := hid q4
    have HB1 := hid hB1
    clear q0 q1 q2 q3 q4 hb1 hB1 HS
    go_wp2
    go_loopw [3, 4] (fun v i wr => ∃ k : Nat, k ≤ x.on ∧ i = .int .i64 k ∧ BL wr w1.heap.size v (formO x k) ∧ Below w1.heap.size w1 wr) (fun _ i _ => x.on - (intOf i).toNat)
    case atStart => exact ⟨0, Nat.zero_le _, rfl, hBL, hX⟩
    case round =>
      obtain ⟨k, hk, rfl, hbl, hb⟩ := hrel
      clear hBL hX
      have p2 : wr.cell? ⟨w.heap.size, 2, none⟩ = some (.slice a1 x.on c1) := (hb.cell (p := ⟨w.heap.size, 2, none⟩) z1).trans Q2.out
      have zw := hb.size
      have zL := formO_len HBV.out k hk
      by_cases hkn : k < x.on
      · have hBw : Below w.heap.size w wr := HB1.out.trans (hb.mono (by omega))
        obtain ⟨b, off, ah, ch, rfl, e2, e3, e4, e5⟩ := HIN.out.o k hkn
        obtain ⟨d0, d1, d2, d3, d4, d5, d6⟩ := e4.below hBw (by omega)
        have ov := HBV.out.os k hkn
        have OV := hid ov
        have zo := objS_size ov.sm ov.lv ov.lb
        have HE5 := hid (e5.below hBw hhi)
        have HBL := hid hbl
        have HSU := hid (formO_succ x k)
        have zl := oLine_size ov
        clear e4 e5 hbl ov
        go_wp2_with (first
          | (go_at_call 29; refine (obj_any (x.os k) (x.os k).ver.toNat (x.os k).born.toNat ah ch _ lo hi (by omega) OV.out.lv OV.out.lb OV.out.ev OV.out.eb OV.out.sm HE5.out).mono ?_; rintro e Y ⟨rfl, hY⟩)
          | (at_builtin; go_must (refine wpListBL rfl _ _ rfl w1.heap.size _ (formO x k) (oLine (x.os k)) rfl rfl (HBL.out.grow hY) (by omega) (by have := hY.size; omega) ?_; intro v2 w2 h1 h2)))
        go_roundw
        case rel => exact ⟨k + 1, by omega, by go_num, by rw [HSU.out]; exact h1, (hb.trans (hY.mono (by omega))).trans h2⟩
        case measure => simp [intOf]; omega
      · have hkk : k = x.on := by omega
        subst hkk
        have HBL := hid hbl
        clear hbl
        go_wp2
        go_loopw [3, 5] (fun v i wr => ∃ k : Nat, k ≤ x.hn ∧ i = .int .i64 k ∧ BL wr w1.heap.size v (formH x k) ∧ Below w1.heap.size w1 wr) (fun _ i _ => x.hn - (intOf i).toNat)
        case atStart => exact ⟨0, Nat.zero_le _, rfl, HBL.out, hb⟩
        case round =>
          clear hb zw p2 hk hkn HBL zL
          obtain ⟨k, hk, rfl, hbl, hb⟩ := hrel
          have p3 : wr.cell? ⟨w.heap.size, 3, none⟩ = some (.slice a2 x.hn c2) := (hb.cell (p := ⟨w.heap.size, 3, none⟩) z1).trans Q3.out
          have zw := hb.size
          have zL := formH_len HBV.out k hk
          by_cases hkn : k < x.hn
          · have hBw : Below w.heap.size w wr := HB1.out.trans (hb.mono (by omega))
            obtain ⟨b, off, ah, ch, rfl, e2, e3, e4, e5⟩ := HIN.out.h k hkn
            obtain ⟨d0, d1, d2, d3, d4, d5, d6, d7, d8⟩ := e4.below hBw (by omega)
            have ov := HBV.out.hs k hkn
            have OV := hid ov
            have zo := objS_size ov.sm ov.lv ov.lb
            have HE5 := hid (e5.below hBw hhi)
            have HBL := hid hbl
            have HSU := hid (formH_succ x k)
            have zl := cLine_size ov
            clear e4 e5 hbl ov
            cases hg : (x.hs k).gone
            all_goals
              rw [hg] at d1
              have HL : Hid (cLine (x.hs k) = (⟨#[99, 104, 97, 110, 103, 101, 32]⟩ : ByteArray) ++ gS (x.hs k).gone ++ objS (x.hs k).ob (x.hs k).ob.ver.toNat (x.hs k).ob.born.toNat) := rfl
              rw [hg] at HL
              simp only [gS, if_true, Bool.false_eq_true, if_false] at HL
              go_wp2_with (first
                | (go_at_call 29; refine (obj_any (x.hs k).ob (x.hs k).ob.ver.toNat (x.hs k).ob.born.toNat ah ch _ lo hi (by omega) OV.out.lv OV.out.lb OV.out.ev OV.out.eb OV.out.sm HE5.out).mono ?_; rintro e Y ⟨rfl, hY⟩)
                | (at_builtin; go_must (refine wpListBL rfl _ _ rfl w1.heap.size _ (formH x k) (cLine (x.hs k)) rfl (by rw [HL.out]; rfl) (HBL.out.grow hY) (by omega) (by have := hY.size; omega) ?_; intro v2 w2 h1 h2)))
              go_roundw
              case rel => exact ⟨k + 1, by omega, by go_num, by rw [HSU.out]; exact h1, (hb.trans (hY.mono (by omega))).trans h2⟩
              case measure => simp [intOf]; omega
          · have hkk : k = x.hn := by omega
            subst hkk
            have HBL := hid hbl
            clear hbl
            go_wp2
            go_loopw [3, 7] (fun v i wr => ∃ k : Nat, k ≤ x.tn ∧ i = .int .i64 k ∧ BL wr w1.heap.size v (formT x k) ∧ Below w1.heap.size w1 wr) (fun _ i _ => x.tn - (intOf i).toNat)
            case atStart => exact ⟨0, Nat.zero_le _, rfl, HBL.out, hb⟩
            case round =>
              clear hb zw p3 hk hkn HBL zL
              obtain ⟨k, hk, rfl, hbl, hb⟩ := hrel
              have p4 : wr.cell? ⟨w.heap.size, 4, none⟩ = some (.slice a3 x.tn c3) := (hb.cell (p := ⟨w.heap.size, 4, none⟩) z1).trans Q4.out
              have zw := hb.size
              have zL := formT_len HBV.out k hk
              by_cases hkn : k < x.tn
              · have hBw : Below w.heap.size w wr := HB1.out.trans (hb.mono (by omega))
                obtain ⟨b, off, rfl, e2, e3, e4⟩ := HIN.out.t k hkn
                obtain ⟨d0, d1, d2, d3, d4⟩ := e4.below hBw (by omega)
                have ov := HBV.out.ts k hkn
                have HBL := hid hbl
                have HSU := hid (formT_succ x k)
                have OV := hid ov
                clear e4 hbl ov
                go_wp2_with fail
                refine tickReg _ _ _ _ _ _ _ _ _ _ _ _ _ _ _ _ _ _ _ _ _ _ _ _ _ _ _ _ _ _ _ _ _ _ _ _ _ _ _ _ _ _ _ _ _ _ _ _ _ _ _ _ _ _ _ _ _ _ _ _ _ _ _ _ _ _ _ _ _ _ _ _ _ _ _ _ _ _ _ _ (fun i => [u76, u77, u78, u79, u80, u81, u82, u83, u84, u85, u86, u87, u88, u89, u90, u91, u92, u93, u94, u95, u96, u97, u98, u99, u100].getD i undef) (x.ts k) wr.heap.size (x.ts k).num.toNat (x.ts k).code.toNat (x.ts k).ver.toNat _ _ (by simp) (by simp) (by rw [← OV.out.en]; simp) (by simp) (by rw [← OV.out.ec]; simp) (by rw [← OV.out.ev]; simp) OV.out.ln OV.out.lc OV.out.lv OV.out.c OV.out.p (dS_size OV.out.ln) (dS_size OV.out.lc) (dS_size OV.out.lv) (quS_size OV.out.p) w1.heap.size (formT x k) (by simp; omega) (HBL.out.grow (below_alloc _ _)) (by omega) (tLine (x.ts k)) rfl _ ?_
                rintro t v3 Y ⟨h1, h2⟩
                have HK3 := hid h1
                have HK4 := hid ((hb.trans ((below_alloc wr _).mono (by omega))).trans h2)
                clear h1 h2
                go_wp2
                go_roundw
                case rel => exact ⟨k + 1, by omega, by go_num, by rw [HSU.out]; exact HK3.out, HK4.out⟩
                case measure => simp [intOf]; omega
              · have hkk : k = x.tn := by omega
                subst hkk
                have hcv := hbl.conv
                obtain ⟨ad, cap, rfl⟩ := hbl.len
                have hBw : Below w.heap.size w wr := HB1.out.trans (hb.mono (by omega))
                by_cases hbig : 200000 < ((formT x x.tn).length : Int)
                · have HF : Hid (formS x = ⟨#[]⟩) := by unfold formS; rw [HV.out, if_pos rfl, if_pos hbig]; exact hid rfl
                  clear hcv
                  go_wp2
                  go_ret
                  exact ⟨by rw [HF.out]; rfl, hBw⟩
                · have HF : Hid (formS x = ⟨(formT x x.tn).toArray⟩) := by unfold formS; rw [HV.out, if_pos rfl, if_neg hbig]; exact hid rfl
                  rw [← HF.out] at hcv
                  go_wp2
                  go_ret
                  exact ⟨rfl, hBw⟩

end Go.Proofs.YtkfbclopkgnacaaGreatDoor
namespace Go.Proofs.YtkfbclopkgnacaaGreatDoor
open Go.RowKit
theorem SL.new1 (w : World) (o : Obj) (f0 : ByteArray) : SL ((w.alloc o).alloc (.cells #[.string f0] 9)) w.heap.size (.slice (some ⟨w.heap.size + 1, 0, none⟩) 1 1) [f0] := by
  have h := (SL.new (w.alloc o) [f0]).mono (base' := w.heap.size) (by simp)
  simpa [sCells] using h
theorem wr_fresh (w : World) : Wr w.heap.size w.heap.size [] (w.alloc (.cells #[.pointer none, .slice none 0 0] 71)) := Lib.fresh_isBuilder 71 5 w
theorem lines_ne {f : Nat → ByteArray} {l0 : List UInt8} (h : l0 ≠ []) : ∀ k, linesTo f l0 k ≠ []
  | 0 => h
  | k + 1 => by
    have := lines_ne (f := f) h k
    simp [linesTo, this]
theorem headS_ne (a b : Nat) : (headS a b).data.toList ≠ [] := by
  rw [← headS_l, lineS_l]
  simp
theorem formT_ne (x : Bk) (k : Nat) : formT x k ≠ [] := lines_ne (lines_ne (lines_ne (headS_ne _ _) _) _) _
set_option maxRecDepth 100000 in
set_option maxHeartbeats 4000000 in
theorem implForm_any (x : Bk) (a1 a2 a3 : Option Addr) (c1 c2 c3 : Nat) (w : World) (lo hi : Nat) (hhi : hi ≤ w.heap.size) (hfit : BkFit x) (hin : BkIn w lo hi x a1 a2 a3) (hT : Tab w) :
    Calls Tryz.prog 16 #[.agg #[.int .i64 x.now, .int .i64 x.floor, .slice a1 x.on c1, .slice a2 x.hn c2, .slice a3 x.tn c3]] w fun e w' => e = .returned (.string (formS x)) ∧ Below w.heap.size w w' := by
  have HIN := hid hin
  have hS := fun W h => implValid_any x a1 a2 a3 c1 c2 c3 W lo hi (Nat.le_trans hhi h) hfit
  have HS := hid hS
  have HT := hid hT
  clear hin hS hT
  cases hv : allTo (chk x) 7 with
  | false =>
    have HE := hid (formS_no hv)
    have HV := hid hv
    clear hv
    go_enter Tryz.func16, Tryz.ntmps16
    go_wp2_with (go_at_call 37; refine (HS.out _ (by simp) (HIN.out.below (below_alloc _ _) hhi)).mono ?_; rintro e w1 ⟨rfl, hb1⟩; rw [HV.out])
    go_ret
    exact ⟨by rw [HE.out]; rfl, (below_alloc w _).trans (hb1.mono (by simp))⟩
  | true =>
    have HBV := hid (valid_v hv)
    have HV := hid hv
    have ho := (valid_v hv).o
    have hh := (valid_v hv).h
    have ht := (valid_v hv).t
    clear hv
    go_enter Tryz.func16, Tryz.ntmps16
    go_wp2_with (go_at_call 37; refine (HS.out _ (by simp) (HIN.out.below (below_alloc _ _) hhi)).mono ?_; rintro e w1 ⟨rfl, hb1⟩; rw [HV.out])
    have z1 : w.heap.size < w1.heap.size := by have := hb1.size; simp at this; omega
    have hB1 : Below w.heap.size w w1 := (below_alloc w _).trans (hb1.mono (by simp))
    have q0 : w1.cell? ⟨w.heap.size, 0, none⟩ = some (.int .i64 (x.now.toNat : Int)) := by rw [hb1.cell (p := ⟨w.heap.size, 0, none⟩) (by simp), ← HBV.out.en]; simp
    have q1 : w1.cell? ⟨w.heap.size, 1, none⟩ = some (.int .i64 (x.floor.toNat : Int)) := by rw [hb1.cell (p := ⟨w.heap.size, 1, none⟩) (by simp), ← HBV.out.ef]; simp
    have q2 : w1.cell? ⟨w.heap.size, 2, none⟩ = some (.slice a1 x.on c1) := (hb1.cell (p := ⟨w.heap.size, 2, none⟩) (by simp)).trans (by simp)
    have q3 : w1.cell? ⟨w.heap.size, 3, none⟩ = some (.slice a2 x.hn c2) := (hb1.cell (p := ⟨w.heap.size, 3, none⟩) (by simp)).trans (by simp)
    have q4 : w1.cell? ⟨w.heap.size, 4, none⟩ = some (.slice a3 x.tn c3) := (hb1.cell (p := ⟨w.heap.size, 4, none⟩) (by simp)).trans (by simp)
    have ba := below_alloc w1 (.cells #[.pointer none, .slice none 0 0] 71)
    have HT1 := hid (HT.out.below (hB1.trans (ba.mono (by omega))))
    refine headImpl _ _ _ _ _ _ _ _ _ _ _ _ _ _ _ _ _ _ _ _ _ _ _ _ _ _ _ _ _ _ _ _ _ _ _ _ _ _ _ _ _ _ _ _ _ _ _ _ _ _ _ _ _ _ _ _ _ _ _ _ _ _ _ _ _ _ _ (fun _ => undef) w.heap.size x.now.toNat x.floor.toNat w1.heap.size _ (by simp; omega) ((ba.cell (p := ⟨w.heap.size, 0, none⟩) z1).trans q0) ((ba.cell (p := ⟨w.heap.size, 1, none⟩) z1).trans q1) HBV.out.ln HBV.out.lf (dS_size HBV.out.ln) (dS_size HBV.out.lf) w1.heap.size [] (wr_fresh w1) (by simp) (by simp) HT1.out _ ?_
    rintro t v3 X ⟨hW, hX0⟩
    have hX : Below w1.heap.size w1 X := ba.trans hX0
    have Q2 := hid q2
    have Q3 := hid q3
    have Q4 := hid q4
    have HB1 := hid hB1
    have HWX := hid hW
    have HX := hid hX
    have p2 : X.cell? ⟨w.heap.size, 2, none⟩ = some (.slice a1 x.on c1) := (hX.cell (p := ⟨w.heap.size, 2, none⟩) z1).trans q2
    clear q0 q1 q2 q3 q4 hb1 hB1 HS ba hX0 hW hX
    go_wp2
    go_loopw [24] (fun i wr => ∃ k : Nat, k ≤ x.on ∧ i = .int .i64 k ∧ Wr w1.heap.size w1.heap.size (formO x k) wr ∧ Below w1.heap.size w1 wr) (fun i _ => x.on - (intOf i).toNat)
    case atStart => exact ⟨0, Nat.zero_le _, rfl, HWX.out, HX.out⟩
    case round =>
      clear HWX HX p2
      obtain ⟨k, hk, rfl, hw, hb⟩ := hrel
      have zw := hb.size
      have zL := formO_len HBV.out k hk
      by_cases hkn : k < x.on
      · have hBw : Below w.heap.size w wr := HB1.out.trans (hb.mono (by omega))
        obtain ⟨b, off, ah, ch, rfl, e2, e3, e4, e5⟩ := HIN.out.o k hkn
        obtain ⟨d0, d1, d2, d3, d4, d5, d6⟩ := e4.below hBw (by omega)
        have OV := hid (HBV.out.os k hkn)
        have HE5 := hid (e5.below hBw hhi)
        have HTW := hid (HT.out.below hBw)
        have HW := hid hw
        have HSU := hid ((formO_succ x k).trans (by rw [← oLine_l]))
        have hba : ∀ o1 o2, Below wr.heap.size wr ((wr.alloc o1).alloc o2) := fun o1 o2 => (below_alloc wr o1).trans ((below_alloc _ o2).mono (by simp))
        clear e4 e5 hw
        go_wp2_with (go_at_call 40; refine (implObj_any w1.heap.size w1.heap.size (formO x k) (x.os k) OV.out ah ch _ wr.heap.size ⟨#[111, 98, 106, 101, 99, 116]⟩ [] _ lo hi (fun w2 h2 => HW.out.grow ((hba _ _).trans h2)) (by omega) (hba _ _).size (SL.new1 wr _ _) (HTW.out.below (hba _ _)) (HE5.out.below (hba _ _) (by omega)) (by omega) (by simp) (by intro s hs; simp only [List.mem_cons, List.not_mem_nil, or_false] at hs; rcases hs with rfl; decide) (by omega)).mono ?_; rintro e Y ⟨rfl, hY, hbY⟩)
        exact ⟨⟨k + 1, by omega, by go_num, by rw [HSU.out]; exact hY, (hb.trans ((hba _ _).mono (by omega))).trans hbY⟩, by simp [intOf]; omega⟩
      · have hkk : k = x.on := by omega
        subst hkk
        have p3 : wr.cell? ⟨w.heap.size, 3, none⟩ = some (.slice a2 x.hn c2) := (hb.cell (p := ⟨w.heap.size, 3, none⟩) z1).trans Q3.out
        have HW := hid hw
        clear hw
        go_wp2
        go_loopw [35] (fun i wr => ∃ k : Nat, k ≤ x.hn ∧ i = .int .i64 k ∧ Wr w1.heap.size w1.heap.size (formH x k) wr ∧ Below w1.heap.size w1 wr) (fun i _ => x.hn - (intOf i).toNat)
        case atStart => exact ⟨0, Nat.zero_le _, rfl, HW.out, hb⟩
        case round =>
          clear hb zw p3 hk hkn HW zL
          obtain ⟨k, hk, rfl, hw, hb⟩ := hrel
          have zw := hb.size
          have zL := formH_len HBV.out k hk
          by_cases hkn : k < x.hn
          · have hBw : Below w.heap.size w wr := HB1.out.trans (hb.mono (by omega))
            obtain ⟨b, off, ah, ch, rfl, e2, e3, e4, e5⟩ := HIN.out.h k hkn
            obtain ⟨d0, d1, d2, d3, d4, d5, d6, d7, d8⟩ := e4.below hBw (by omega)
            have OV := hid (HBV.out.hs k hkn)
            have HE5 := hid (e5.below hBw hhi)
            have HTW := hid (HT.out.below hBw)
            have HW := hid hw
            have HSU := hid (formH_succ x k)
            clear e4 e5 hw
            go_wp2_with fail
            refine chImpl _ _ _ _ _ _ _ _ _ _ _ _ _ _ _ _ _ _ _ _ _ _ _ _ _ _ _ _ _ _ _ _ _ _ _ _ _ _ _ _ _ _ _ _ _ _ _ _ _ _ _ _ _ _ _ _ _ _ _ _ _ _ _ _ _ _ _ _ (fun i => [u39, u40, u41, u42, u43, u44].getD i undef) (x.hs k) ah ch wr.heap.size w1.heap.size _ (by simp) ⟨by simp, by simp, by simp, by simp, by simp, by simp, by simp, by simp, by simp⟩ OV.out lo hi (HE5.out.below (below_alloc _ _) (by omega)) (by simp; omega) w1.heap.size (formH x k) (HW.out.grow (below_alloc _ _)) (by simp; omega) (by omega) (HTW.out.below (below_alloc _ _)) _ ?_
            rintro t v3 Y ⟨h1, h2⟩
            have HK3 := hid h1
            have HK4 := hid ((hb.trans ((below_alloc wr _).mono (by omega))).trans h2)
            clear h1 h2
            go_wp2
            exact ⟨⟨k + 1, by omega, by go_num, by rw [HSU.out]; exact HK3.out, HK4.out⟩, by simp [intOf]; omega⟩
          · have hkk : k = x.hn := by omega
            subst hkk
            have p4 : wr.cell? ⟨w.heap.size, 4, none⟩ = some (.slice a3 x.tn c3) := (hb.cell (p := ⟨w.heap.size, 4, none⟩) z1).trans Q4.out
            have HW := hid hw
            clear hw
            go_wp2
            go_loopw [50] (fun i wr => ∃ k : Nat, k ≤ x.tn ∧ i = .int .i64 k ∧ Wr w1.heap.size w1.heap.size (formT x k) wr ∧ Below w1.heap.size w1 wr) (fun i _ => x.tn - (intOf i).toNat)
            case atStart => exact ⟨0, Nat.zero_le _, rfl, HW.out, hb⟩
            case round =>
              clear hb zw p4 hk hkn HW zL
              obtain ⟨k, hk, rfl, hw, hb⟩ := hrel
              have zw := hb.size
              have zL := formT_len HBV.out k hk
              have hBw : Below w.heap.size w wr := HB1.out.trans (hb.mono (by omega))
              by_cases hkn : k < x.tn
              · obtain ⟨b, off, rfl, e2, e3, e4⟩ := HIN.out.t k hkn
                obtain ⟨d0, d1, d2, d3, d4⟩ := e4.below hBw (by omega)
                have OV := hid (HBV.out.ts k hkn)
                have HTW := hid (HT.out.below hBw)
                have HW := hid hw
                have HSU := hid (formT_succ x k)
                clear e4 hw
                go_wp2_with fail
                refine tickImpl _ _ _ _ _ _ _ _ _ _ _ _ _ _ _ _ _ _ _ _ _ _ _ _ _ _ _ _ _ _ _ _ _ _ _ _ _ _ _ _ _ _ _ _ _ _ _ _ _ _ _ _ _ _ _ _ _ _ _ (fun i => [u54, u55, u56, u57, u58, u59, u60, u61, u62, u63, u64, u65, u66, u67, u68].getD i undef) (x.ts k) wr.heap.size (x.ts k).num.toNat (x.ts k).code.toNat (x.ts k).ver.toNat w1.heap.size _ (by simp) (by simp) (by rw [← OV.out.en]; simp) (by simp) (by rw [← OV.out.ec]; simp) (by rw [← OV.out.ev]; simp) OV.out.ln OV.out.lc OV.out.lv OV.out.c OV.out.p (dS_size OV.out.ln) (dS_size OV.out.lc) (dS_size OV.out.lv) (quS_size OV.out.p) (hid rfl) (hid rfl) (hid rfl) w1.heap.size (formT x k) (HW.out.grow (below_alloc _ _)) (by simp; omega) (by omega) (HTW.out.below (below_alloc _ _)) _ ?_
                rintro t v3 Y ⟨h1, h2⟩
                have HK3 := hid h1
                have HK4 := hid ((hb.trans ((below_alloc wr _).mono (by omega))).trans h2)
                clear h1 h2
                go_wp2
                exact ⟨⟨k + 1, by omega, by go_num, by rw [HSU.out]; exact HK3.out, HK4.out⟩, by simp [intOf]; omega⟩
              · have hkk : k = x.tn := by omega
                subst hkk
                have HW := hid hw
                have hne : formT x x.tn ≠ [] := formT_ne x x.tn
                clear hw
                by_cases hbig : 200000 < ((formT x x.tn).length : Int)
                · have HF : Hid (formS x = ⟨#[]⟩) := by unfold formS; rw [HV.out, if_pos rfl, if_pos hbig]; exact hid rfl
                  go_wp2_with (go_at_call 43; refine (len_any _ _ _ _ HW.out).mono ?_; rintro e Y ⟨rfl, rfl⟩)
                  go_ret
                  exact ⟨by rw [HF.out]; rfl, hBw⟩
                · have HF : Hid (formS x = ⟨(formT x x.tn).toArray⟩) := by unfold formS; rw [HV.out, if_pos rfl, if_neg hbig]; exact hid rfl
                  go_wp2_with (first
                    | (go_at_call 43; refine (len_any _ _ _ _ HW.out).mono ?_; rintro e Y ⟨rfl, rfl⟩)
                    | (go_at_call 44; refine (string_any _ _ _ _ HW.out hne).mono ?_; rintro e Z ⟨rfl, hZ⟩))
                  go_ret
                  exact ⟨by rw [HF.out]; rfl, hBw.trans (hZ.mono (by omega))⟩
end Go.Proofs.YtkfbclopkgnacaaGreatDoor
namespace Go.Proofs.YtkfbclopkgnacaaGreatDoor
open Go.RowKit Go.Shelf
theorem ObsAt.isIn {w : World} {ad : Option Addr} {g n : Nat} {x : Nat → Ob} {A : Nat → Option Addr} {C hb : Nat → Nat} (h : ObsAt w ad g n x A C hb) {lo : Nat} (hlo : ∀ q, blkH g n (fun i => (x i).hn) hb q → lo ≤ q) : ObjsIn w lo w.heap.size ad n x := fun i hi => by
  obtain ⟨c, r, e⟩ := h.row (by omega)
  obtain ⟨a0, a1, a2, a3, a4, a5, a6⟩ := e i hi
  refine ⟨g, 0, A i, C i, h.addr (by omega), hlo g (Or.inl ⟨by omega, rfl⟩), r.lt, ?_, fun j hj => ?_⟩
  · rw [Nat.zero_add]
    exact ⟨(r.cell _ (by omega)).trans (congrArg some a0), (r.cell _ (by omega)).trans (congrArg some a1), (r.cell _ (by omega)).trans (congrArg some a2), (r.cell _ (by omega)).trans (congrArg some a3), (r.cell _ (by omega)).trans (congrArg some a4), (r.cell _ (by omega)).trans (congrArg some a5), (r.cell _ (by omega)).trans (congrArg some a6)⟩
  · obtain ⟨b, off, e1, e2, e3, e4, _⟩ := h.hold i hi j hj
    have hn0 : (x i).hn ≠ 0 := by omega
    have e5 : b = hb i := by omega
    exact ⟨b, off, e1, by rw [e5]; exact hlo _ (Or.inr ⟨i, hi, hn0, rfl⟩), by rw [e5]; exact h.hlt i hi hn0, e4⟩
theorem ChsAt.isIn {w : World} {ad : Option Addr} {g n : Nat} {x : Nat → Ch} {A : Nat → Option Addr} {C hb : Nat → Nat} (h : ChsAt w ad g n x A C hb) {lo : Nat} (hlo : ∀ q, blkH g n (fun i => (x i).ob.hn) hb q → lo ≤ q) : ChgsIn w lo w.heap.size ad n x := fun i hi => by
  obtain ⟨c, r, e⟩ := h.row (by omega)
  obtain ⟨a0, a1, a2, a3, a4, a5, a6, a7, a8⟩ := e i hi
  refine ⟨g, 0, A i, C i, h.addr (by omega), hlo g (Or.inl ⟨by omega, rfl⟩), r.lt, ?_, fun j hj => ?_⟩
  · rw [Nat.zero_add]
    exact ⟨(r.cell _ (by omega)).trans (congrArg some a0), (r.cell _ (by omega)).trans (congrArg some a1), (r.cell _ (by omega)).trans (congrArg some a2), (r.cell _ (by omega)).trans (congrArg some a3), (r.cell _ (by omega)).trans (congrArg some a4), (r.cell _ (by omega)).trans (congrArg some a5), (r.cell _ (by omega)).trans (congrArg some a6), (r.cell _ (by omega)).trans (congrArg some a7), (r.cell _ (by omega)).trans (congrArg some a8)⟩
  · obtain ⟨b, off, e1, e2, e3, e4, _⟩ := h.hold i hi j hj
    have hn0 : (x i).ob.hn ≠ 0 := by omega
    have e5 : b = hb i := by omega
    exact ⟨b, off, e1, by rw [e5]; exact hlo _ (Or.inr ⟨i, hi, hn0, rfl⟩), by rw [e5]; exact h.hlt i hi hn0, e4⟩
theorem TisAt.isIn {w : World} {ad : Option Addr} {g n : Nat} {x : Nat → Ti} (h : TisAt w ad g n x) {lo : Nat} (hlo : 0 < n → lo ≤ g) : TicsIn w lo w.heap.size ad n x := fun i hi => by
  obtain ⟨c, r, e⟩ := h.row (by omega)
  obtain ⟨a0, a1, a2, a3, a4⟩ := e i hi
  refine ⟨g, 0, h.addr (by omega), hlo (by omega), r.lt, ?_⟩
  rw [Nat.zero_add]
  exact ⟨(r.cell _ (by omega)).trans (congrArg some a0), (r.cell _ (by omega)).trans (congrArg some a1), (r.cell _ (by omega)).trans (congrArg some a2), (r.cell _ (by omega)).trans (congrArg some a3), (r.cell _ (by omega)).trans (congrArg some a4)⟩
theorem BkAt.isIn {w : World} {x : Bk} {p : Pl} (h : BkAt w x p) {lo : Nat} (hlo : ∀ q, blkB p x q → lo ≤ q) : BkIn w lo w.heap.size x p.a1 p.a2 p.a3 :=
  ⟨h.o.isIn (fun q hq => hlo q (Or.inl hq)), h.h.isIn (fun q hq => hlo q (Or.inr (Or.inl hq))), h.t.isIn (fun h0 => hlo _ (Or.inr (Or.inr ⟨h0, rfl⟩)))⟩
theorem blkH_congr {g n : Nat} {M M' hb : Nat → Nat} (e : ∀ i, i < n → M i = M' i) {q : Nat} (h : blkH g n M hb q) : blkH g n M' hb q := by
  rcases h with h | ⟨i, hi, h0, rfl⟩
  · exact Or.inl h
  · exact Or.inr ⟨i, hi, by rw [← e i hi]; exact h0, rfl⟩
theorem StrsOwn.congr {w : World} {lo hi : Nat} {ad : Option Addr} {n : Nat} {s t : Nat → ByteArray} (h : StrsOwn w lo hi ad n s) (e : ∀ i, i < n → s i = t i) : StrsOwn w lo hi ad n t := fun i hi => by
  rw [← e i hi]
  exact h i hi
theorem ObsAt.congr {w : World} {ad : Option Addr} {g n : Nat} {x y : Nat → Ob} {A : Nat → Option Addr} {C hb : Nat → Nat} (h : ObsAt w ad g n x A C hb) (e : ∀ i, i < n → ObE (x i) (y i)) : ObsAt w ad g n y A C hb := by
  refine ⟨h.addr, fun h0 => ?_, fun i hi => ?_, fun i hi h0 => h.hlt i hi (by rw [(e i hi).hn]; exact h0), ⟨fun i hi h0 => h.ap.ne i hi (by show (x i).hn ≠ 0; rw [(e i hi).hn]; exact h0), fun i j hi hj h0 h1 => h.ap.inj i j hi hj (by show (x i).hn ≠ 0; rw [(e i hi).hn]; exact h0) (by show (x j).hn ≠ 0; rw [(e j hj).hn]; exact h1)⟩⟩
  · obtain ⟨c, r, a⟩ := h.row h0
    refine ⟨c, r, fun i hi => ?_⟩
    obtain ⟨a0, a1, a2, a3, a4, a5, a6⟩ := a i hi
    have E := e i hi
    exact ⟨by rw [a0, E.k], by rw [a1, E.n], by rw [a2, E.v], by rw [a3, E.b], by rw [a4, E.t], by rw [a5, E.e], by rw [a6, E.hn]⟩
  · have E := e i hi
    have := (h.hold i hi).congr E.hs
    rw [E.hn] at this
    exact this
theorem ChsAt.congr {w : World} {ad : Option Addr} {g n : Nat} {x y : Nat → Ch} {A : Nat → Option Addr} {C hb : Nat → Nat} (h : ChsAt w ad g n x A C hb) (e : ∀ i, i < n → (x i).ver = (y i).ver ∧ (x i).gone = (y i).gone ∧ ObE (x i).ob (y i).ob) : ChsAt w ad g n y A C hb := by
  refine ⟨h.addr, fun h0 => ?_, fun i hi => ?_, fun i hi h0 => h.hlt i hi (by rw [(e i hi).2.2.hn]; exact h0), ⟨fun i hi h0 => h.ap.ne i hi (by show (x i).ob.hn ≠ 0; rw [(e i hi).2.2.hn]; exact h0), fun i j hi hj h0 h1 => h.ap.inj i j hi hj (by show (x i).ob.hn ≠ 0; rw [(e i hi).2.2.hn]; exact h0) (by show (x j).ob.hn ≠ 0; rw [(e j hj).2.2.hn]; exact h1)⟩⟩
  · obtain ⟨c, r, a⟩ := h.row h0
    refine ⟨c, r, fun i hi => ?_⟩
    obtain ⟨a0, a1, a2, a3, a4, a5, a6, a7, a8⟩ := a i hi
    obtain ⟨E1, E2, E⟩ := e i hi
    exact ⟨by rw [a0, E1], by rw [a1, E2], by rw [a2, E.k], by rw [a3, E.n], by rw [a4, E.v], by rw [a5, E.b], by rw [a6, E.t], by rw [a7, E.e], by rw [a8, E.hn]⟩
  · have E := (e i hi).2.2
    have := (h.hold i hi).congr E.hs
    rw [E.hn] at this
    exact this
theorem TisAt.congr {w : World} {ad : Option Addr} {g n : Nat} {x y : Nat → Ti} (h : TisAt w ad g n x) (e : ∀ i, i < n → x i = y i) : TisAt w ad g n y :=
  ⟨h.addr, fun h0 => by
    obtain ⟨c, r, a⟩ := h.row h0
    exact ⟨c, r, fun i hi => by rw [← e i hi]; exact a i hi⟩⟩
theorem BkE.blk1 {x B : Bk} (e : BkE x B) {p : Pl} {q : Nat} (h : blk1 p B q) : blk1 p x q := by
  unfold Go.Proofs.YtkfbclopkgnacaaGreatDoor.blk1 at h ⊢
  rw [e.on]
  exact blkH_congr (fun i hi => ((e.os i (by rw [e.on]; exact hi)).hn).symm) h
theorem BkE.blk2 {x B : Bk} (e : BkE x B) {p : Pl} {q : Nat} (h : blk2 p B q) : blk2 p x q := by
  unfold Go.Proofs.YtkfbclopkgnacaaGreatDoor.blk2 at h ⊢
  rw [e.hn]
  exact blkH_congr (fun i hi => ((e.hs i (by rw [e.hn]; exact hi)).2.2.hn).symm) h
theorem BkE.blk3 {x B : Bk} (e : BkE x B) {p : Pl} {q : Nat} (h : blk3 p B q) : blk3 p x q := by
  unfold Go.Proofs.YtkfbclopkgnacaaGreatDoor.blk3 at h ⊢
  rw [e.tn]
  exact h
theorem BkE.blkB {x B : Bk} (e : BkE x B) {p : Pl} {q : Nat} (h : blkB p B q) : blkB p x q := by
  rcases h with h | h | h
  · exact Or.inl (e.blk1 h)
  · exact Or.inr (Or.inl (e.blk2 h))
  · exact Or.inr (Or.inr (e.blk3 h))
theorem BkAt.congr {w : World} {x B : Bk} {p : Pl} (h : BkAt w x p) (e : BkE x B) : BkAt w B p :=
  ⟨by rw [← e.on]; exact h.o.congr e.os, by rw [← e.hn]; exact h.h.congr e.hs, by rw [← e.tn]; exact h.t.congr e.ts, fun k h1 h2 => h.d12 k (e.blk1 h1) (e.blk2 h2), fun k h1 h2 => h.d13 k (e.blk1 h1) (e.blk3 h2), fun k h1 h2 => h.d23 k (e.blk2 h1) (e.blk3 h2)⟩
theorem ObE.link {o p q : Ob} (h : ObE o p) (k : ObE o q) : ObE p q := ⟨h.k.symm.trans k.k, h.n.symm.trans k.n, h.v.symm.trans k.v, h.b.symm.trans k.b, h.t.symm.trans k.t, h.e.symm.trans k.e, h.hn.symm.trans k.hn, fun i hi => (h.hs i (by rw [h.hn]; exact hi)).symm.trans (k.hs i (by rw [h.hn]; exact hi))⟩
theorem BkE.link {x B B' : Bk} (h : BkE x B) (k : BkE x B') : BkE B B' := by
  refine ⟨h.now.symm.trans k.now, h.fl.symm.trans k.fl, h.on.symm.trans k.on, h.hn.symm.trans k.hn, h.tn.symm.trans k.tn, fun i hi => ?_, fun i hi => ?_, fun i hi => ?_⟩
  · rw [← h.on] at hi
    exact (h.os i hi).link (k.os i hi)
  · rw [← h.hn] at hi
    obtain ⟨a1, a2, a3⟩ := h.hs i hi
    obtain ⟨b1, b2, b3⟩ := k.hs i hi
    exact ⟨a1.symm.trans b1, a2.symm.trans b2, a3.link b3⟩
  · rw [← h.tn] at hi
    exact (h.ts i hi).symm.trans (k.ts i hi)
theorem BdTi.done {w : World} {base : Nat} {v : Value} {k : Nat} {x : Nat → Ti} (h : BdTi w base v k x) : ∃ ad cap g, v = .slice ad k cap ∧ TisAt w ad g k x ∧ (0 < k → v.ownBlock = some g) := by
  obtain ⟨c, r, hat⟩ := h
  rcases r.2 with ⟨rfl, rfl⟩ | ⟨g, cap, cur, rfl, h1, _⟩
  · exact ⟨none, 0, 0, rfl, ⟨fun h0 => absurd h0 (Nat.lt_irrefl _), fun h0 => absurd h0 (Nat.lt_irrefl _)⟩, fun h0 => absurd h0 (Nat.lt_irrefl _)⟩
  · exact ⟨_, cap, g, rfl, ⟨fun _ => rfl, fun _ => ⟨c, row_of_own r, hat⟩⟩, fun _ => rfl⟩
theorem blk_ow {ad : Option Addr} {g n cap : Nat} {M hb : Nat → Nat} {q : Nat} (ha : 0 < n → ad = some ⟨g, 0, none⟩) (h : blkH g n M hb q) : owB (.slice ad n cap) n M hb q := by
  rcases h with ⟨h0, rfl⟩ | h
  · left
    rw [ha h0]
    rfl
  · exact Or.inr h
theorem BdE.at {w : World} {base : Nat} {x : Bk} {v1 v2 v3 : Value} (h : BdE w base x v1 v2 v3) : ∃ (p : Pl) (c1 c2 c3 : Nat), v1 = .slice p.a1 x.on c1 ∧ v2 = .slice p.a2 x.hn c2 ∧ v3 = .slice p.a3 x.tn c3 ∧ BkAt w x p ∧ ∀ q, blkB p x q → base ≤ q := by
  obtain ⟨A1, C1, h1, A2, C2, h2, hB⟩ := h
  obtain ⟨a1, c1, g1, rfl, H1, B1⟩ := hB.o.done
  obtain ⟨a2, c2, g2, rfl, H2, B2⟩ := hB.h.done
  obtain ⟨a3, c3, g3, rfl, H3, B3⟩ := hB.t.done
  refine ⟨⟨a1, a2, a3, g1, g2, g3, A1, C1, h1, A2, C2, h2⟩, c1, c2, c3, rfl, rfl, rfl, ⟨H1, H2, H3, fun q k1 k2 => ?_, fun q k1 k2 => ?_, fun q k1 k2 => ?_⟩, fun q hq => ?_⟩
  · exact hB.d12 q (blk_ow H1.addr k1) (blk_ow H2.addr k2)
  · obtain ⟨k0, rfl⟩ := k2
    exact hB.d13 _ (blk_ow H1.addr k1) (B3 k0)
  · obtain ⟨k0, rfl⟩ := k2
    exact hB.d23 _ (blk_ow H2.addr k1) (B3 k0)
  · rcases hq with hq | hq | ⟨k0, rfl⟩
    · exact B1 q hq
    · exact B2 q hq
    · exact (hB.t.own (B3 k0)).1
theorem chk0 : allTo (chk bk0) 7 = true := by decide
theorem form0 : formS bk0 ≠ ⟨#[]⟩ := by
  intro h
  have e : formS bk0 = ⟨(formT bk0 0).toArray⟩ := by
    unfold formS
    rw [chk0, if_pos rfl, if_neg (by show ¬ (200000 < ((formT bk0 0).length : Int)); rw [show (formT bk0 0) = lnF (lns bk0) from form_lns bk0]; have h7 := dS_len 0; have h8 := nDigits_le7 (n := 0) (by omega); have e0 : (lnF (lns bk0)).length = 4 + (1 + (dS 0).data.toList.length + (1 + (dS 0).data.toList.length)) + 1 := (by simp [lnF, lns, lnsO, lnsH, lnsT, bk0, lnB, Ln.l, bkW, spL]; omega); rw [e0, pa_len]; omega)]
    rfl
  rw [e] at h
  have h2 := congrArg (fun b : ByteArray => b.data.toList) h
  rw [show (formT bk0 0) = lnF (lns bk0) from form_lns bk0] at h2
  simp [lnF, lns, Ln.l, lnB] at h2
theorem fit_of {x : Bk} (h : FitB x) (hc : x.on + x.hn + x.tn ≤ 1048577) : BkFit x := ⟨by omega, by omega, by omega, h.os, h.hs, h.ts⟩
theorem obFit_e {o p : Ob} (h : ObFit o) (e : ObE o p) : ObFit p := ⟨by rw [← e.k]; exact h.k, by rw [← e.n]; exact h.n, by rw [← e.t]; exact h.t, by rw [← e.hn]; exact h.h, fun i hi => by rw [← e.hs i (by rw [e.hn]; exact hi)]; exact h.s i (by rw [e.hn]; exact hi), by rw [← e.v]; exact h.v⟩
theorem fit_e {x B : Bk} (h : BkFit x) (e : BkE x B) : BkFit B :=
  ⟨by rw [← e.on]; exact h.o, by rw [← e.hn]; exact h.h, by rw [← e.tn]; exact h.t, fun i hi => obFit_e (h.os i (by rw [e.on]; exact hi)) (e.os i (by rw [e.on]; exact hi)), fun i hi => obFit_e (h.hs i (by rw [e.hn]; exact hi)) (e.hs i (by rw [e.hn]; exact hi)).2.2, fun i hi => by rw [← e.ts i (by rw [e.tn]; exact hi)]; exact h.ts i (by rw [e.tn]; exact hi)⟩
/-- what reading lines comes to, once it is known whether the text is a form -/
def RlO (s : ByteArray) (w : World) (e : Ending) (w' : World) : Prop :=
  ∃ (y : Bk) (d : Bool) (p : Pl) (c1 c2 c3 : Nat), e = .returned (.tuple #[.agg #[.int .i64 y.now, .int .i64 y.floor, .slice p.a1 y.on c1, .slice p.a2 y.hn c2, .slice p.a3 y.tn c3], .bool (!d)]) ∧ BkAt w' y p ∧ (∀ q, blkB p y q → w.heap.size ≤ q) ∧ Below w.heap.size w w' ∧ BkFit y ∧ ((∃ B, TolB s B) → d = false ∧ formS y = s) ∧ (formS y = s → TolB s y) ∧ (∀ B, TolB s B → BkE y B)
theorem RlR.out {s : ByteArray} {w w' : World} {e : Ending} (hs : (s.size : Int) ≤ 200000) (h : RlR s w e w') : RlO s w e w' := by
  obtain ⟨x, d, v1, v2, v3, rfl, hbd, hb, hz, hf, hc, hl, h0⟩ := h
  obtain ⟨p, c1, c2, c3, rfl, rfl, rfl, hat, hlo⟩ := hbd.at
  have hfit := fit_of hf (by omega)
  by_cases ht : ∃ B, TolB s B
  · obtain ⟨B, hB⟩ := ht
    obtain ⟨hd, he⟩ := hl B hB
    have hfm := hB.form hs
    refine ⟨B, d, p, c1, c2, c3, ?_, hat.congr he, fun q hq => ?_, hb, fit_e hfit he, fun _ => ⟨hd, hfm⟩, fun _ => hB, fun B' hB' => he.link (hl B' hB').2⟩
    · rw [he.now, he.fl, he.on, he.hn, he.tn]
    · have := hlo q (he.blkB hq)
      omega
  · refine ⟨x, d, p, c1, c2, c3, rfl, hat, fun q hq => ?_, hb, hfit, fun h => absurd h ht, fun h => ?_, fun B hB => absurd ⟨B, hB⟩ ht⟩
    · have := hlo q hq
      omega
    · by_cases hs0 : s = ⟨#[]⟩
      · rw [h0 hs0, hs0] at h
        exact absurd h form0
      · exact told_of h hs0
/-- what reading a book comes to -/
def ReR (s : ByteArray) (w : World) (e : Ending) (w' : World) : Prop :=
  Below w.heap.size w w' ∧ ((∃ (y : Bk) (p : Pl) (c1 c2 c3 : Nat), TolB s y ∧ (s.size : Int) ≤ 200000 ∧ e = .returned (.tuple #[.agg #[.int .i64 y.now, .int .i64 y.floor, .slice p.a1 y.on c1, .slice p.a2 y.hn c2, .slice p.a3 y.tn c3], .bool true]) ∧ BkAt w' y p ∧ (∀ q, blkB p y q → w.heap.size ≤ q) ∧ BkFit y ∧ (∀ B, TolB s B → BkE y B)) ∨ ((∀ B, (s.size : Int) ≤ 200000 → ¬ TolB s B) ∧ e = .returned (.tuple #[.agg #[.int .i64 0, .int .i64 0, .slice none 0 0, .slice none 0 0, .slice none 0 0], .bool false])))
theorem there_below {w w' : World} {b o n : Nat} (h : w.there b o n) (hb : Below w.heap.size w w') (hB : b < w.heap.size) : w'.there b o n := fun j hj =>
  ⟨by rw [hb.cell (p := ⟨b, o + j, none⟩) hB]; exact (h j hj).1, (hb.frozen (p := ⟨b, o + j, none⟩) hB).trans (h j hj).2⟩
theorem ReR.no {s : ByteArray} {w W : World} (hb : Below w.heap.size w W) (h : ∀ B, (s.size : Int) ≤ 200000 → ¬ TolB s B) : ReR s w (.returned (.tuple #[.agg #[.int .i64 0, .int .i64 0, .slice none 0 0, .slice none 0 0, .slice none 0 0], .bool false])) W := ⟨hb, Or.inr ⟨h, rfl⟩⟩
theorem eqOr (a b : ByteArray) : (a = b ∧ (a.toList == b.toList) = true) ∨ (¬ a = b ∧ (a.toList == b.toList) = false) := by
  by_cases h : a = b
  · exact Or.inl ⟨h, by subst h; simp⟩
  · exact Or.inr ⟨h, toListNe h⟩
set_option maxRecDepth 100000 in
set_option maxHeartbeats 8000000 in
theorem implRead_any (s : ByteArray) (hs : (s.size : Int) ≤ 1048576) (w : World) (hE : ErC w) (hT : Tab w) : Calls Tryz.prog 5 #[.string s] w fun e w' => ReR s w e w' := by
  have HT0 := hid (there_new w #[.int .i64 0, .int .i64 0, .slice none 0 0, .slice none 0 0, .slice none 0 0] 26)
  have HB0 : Hid (Below w.heap.size w (w.alloc (.cells #[.int .i64 0, .int .i64 0, .slice none 0 0, .slice none 0 0, .slice none 0 0] 26))) := hid (below_alloc' w _)
  by_cases hbig : (200000 : Int) < (s.size : Int)
  · have HN : Hid (∀ B, (s.size : Int) ≤ 200000 → ¬ TolB s B) := hid fun B h => by omega
    clear hE hT
    go_enter Tryz.func5, Tryz.ntmps5
    go_wp2_with ((with_reducible show wpList _ _ _ (⟨none, Op.store 26 (Operand.tmp 2) _, _, _, _, _⟩ :: _) _ _); go_must (refine wpList_store_new rfl 26 _ _ rfl w.heap.size [.int .i64 0, .int .i64 0, .slice none 0 0, .slice none 0 0, .slice none 0 0] (by simp [go_sem]) rfl HT0.out sz26 (by simp [Value.oneCell']) ?_; intro W2 hr2 hf2 hz2; have HR2 := hid hr2; have HF2 := hid hf2; clear hr2 hf2 hz2))
    refine bodyPost_ret (v := .tuple #[.agg #[.int .i64 0, .int .i64 0, .slice none 0 0, .slice none 0 0, .slice none 0 0], .bool false]) (results_cell_tmp (p := 2) (u := 3) rfl _ _ w.heap.size [.int .i64 0, .int .i64 0, .slice none 0 0, .slice none 0 0, .slice none 0 0] _ rfl HR2.out Tryz.underlying26 rfl sz26) rfl ?_
    exact ReR.no (HB0.out.trans (HF2.out.below (Nat.le_refl _) (by simp))) HN.out
  · have hs2 : (s.size : Int) ≤ 200000 := by omega
    have HC : Hid (Calls Tryz.prog 15 #[.string s] (w.alloc (.cells #[.int .i64 0, .int .i64 0, .slice none 0 0, .slice none 0 0, .slice none 0 0] 26)) fun e w' => RlO s (w.alloc (.cells #[.int .i64 0, .int .i64 0, .slice none 0 0, .slice none 0 0, .slice none 0 0] 26)) e w') := hid ((readLines_any s hs2 (w.alloc (.cells #[.int .i64 0, .int .i64 0, .slice none 0 0, .slice none 0 0, .slice none 0 0] 26)) (hE.below (below_alloc' w _))).mono fun e w' h => h.out hs2)
    have HT := hid hT
    clear hE hT
    have hz0 : (w.alloc (.cells #[.int .i64 0, .int .i64 0, .slice none 0 0, .slice none 0 0, .slice none 0 0] 26)).heap.size = w.heap.size + 1 := by simp
    generalize hU : w.alloc (.cells #[.int .i64 0, .int .i64 0, .slice none 0 0, .slice none 0 0, .slice none 0 0] 26) = U at *
    have HU := hid hU
    clear hU
    go_enter Tryz.func5, Tryz.ntmps5
    go_wp2_with (first
      | (go_at_call 15; go_must (rw [HU.out]; refine HC.out.mono ?_; rintro e w1 ⟨y, d, p, c1, c2, c3, rfl, hat, hlo, hb1, hfit, htl, htb, hte⟩; have HTE := hid hte; have HAT := hid hat; have HLO := hid hlo; have HB1 := hid hb1; have HFT := hid hfit; have HTL := hid htl; have HTB := hid htb; have HZ1 := hid hb1.size; have HTH1 := hid (there_below HT0.out hb1 (by omega)); have HNW := hid (there_new w1 #[.int .i64 0, .int .i64 0, .slice none 0 0, .slice none 0 0, .slice none 0 0] 26); clear hat hlo hb1 hfit htl htb hte HC))
      | ((with_reducible show wpList _ _ _ (⟨none, Op.store 26 (Operand.tmp 4) _, _, _, _, _⟩ :: _) _ _); go_must (refine wpList_store_new rfl 26 _ _ rfl w1.heap.size [.int .i64 y.now, .int .i64 y.floor, .slice p.a1 y.on c1, .slice p.a2 y.hn c2, .slice p.a3 y.tn c3] (by simp [go_sem]) rfl HNW.out sz26 (by simp [Value.oneCell']) ?_; intro W3 hr3 hf3 hz3; have HR3 := hid hr3; have HF3 := hid ((Fr.of_below (lo := w1.heap.size) (hi := w1.heap.size + 1) (below_alloc' w1 _)).trans hf3); have HZ3 := hid (show w1.heap.size + 1 ≤ W3.heap.size by rw [hz3]; simp); have k0 : W3.cell? ⟨w1.heap.size, 0, none⟩ = _ := hr3 0 _ rfl; have k1 : W3.cell? ⟨w1.heap.size, 1, none⟩ = _ := hr3 1 _ rfl; have k2 : W3.cell? ⟨w1.heap.size, 2, none⟩ = _ := hr3 2 _ rfl; have k3 : W3.cell? ⟨w1.heap.size, 3, none⟩ = _ := hr3 3 _ rfl; have k4 : W3.cell? ⟨w1.heap.size, 4, none⟩ = _ := hr3 4 _ rfl; have HAT3 := hid (HAT.out.fr (FrP.of_fr (P := fun q => q = w1.heap.size) HF3.out (fun k a b => by omega)) (fun k hk e => by have := HAT.out.blt hk; omega)); have HTH3 := hid (there_lo HTH1.out HF3.out (by have := HZ1.out; omega) (by have := HZ1.out; omega)); have HB3 := hid (HB0.out.trans ((HB1.out.mono (by omega)).trans (HF3.out.below (B := w.heap.size) (by have := HZ1.out; omega) (by have := HZ1.out; omega)))); clear hr3 hf3 hz3; cases d))
      | ((with_reducible show wpList _ _ _ (⟨none, Op.store 26 (Operand.tmp 2) _, _, _, _, _⟩ :: _) _ _); have _q := HF4; go_must (refine wpList_store_new rfl 26 _ _ rfl w.heap.size _ (by simp [go_sem]) rfl HTH4.out sz26 (by simp [Value.oneCell']) ?_; intro W5 hr5 hf5 hz5; have HR5 := hid hr5; have HF5 := hid hf5; clear hr5 hf5 hz5))
      | ((with_reducible show wpList _ _ _ (⟨none, Op.store 26 (Operand.tmp 2) _, _, _, _, _⟩ :: _) _ _); go_must (refine wpList_store_new rfl 26 _ _ rfl w.heap.size [.int .i64 0, .int .i64 0, .slice none 0 0, .slice none 0 0, .slice none 0 0] (by simp [go_sem]) rfl HTH3.out sz26 (by simp [Value.oneCell']) ?_; intro W5 hr5 hf5 hz5; have HR5 := hid hr5; have HF5 := hid hf5; clear hr5 hf5 hz5))
      | (go_at_call 16; go_must (refine (implForm_any y p.a1 p.a2 p.a3 c1 c2 c3 W3 w.heap.size W3.heap.size (Nat.le_refl _) HFT.out (HAT3.out.isIn (fun q hq => by have := HLO.out q hq; omega)) (HT.out.below HB3.out)).mono ?_; rintro e w4 ⟨rfl, hb4⟩; have HF4 := hid hb4; have HTH4 := hid (there_below HTH3.out hb4 (by have := HZ1.out; have := HZ3.out; omega)); have HR4 := hid (show w4.rangeAt w1.heap.size 0 [.int .i64 y.now, .int .i64 y.floor, .slice p.a1 y.on c1, .slice p.a2 y.hn c2, .slice p.a3 y.tn c3] from fun j v hv => by rw [hb4.cell (p := ⟨w1.heap.size, 0 + j, none⟩) (by have := HZ3.out; show w1.heap.size < _; omega)]; exact HR3.out j v hv); clear hb4; obtain ⟨F, hF⟩ : ∃ F, F = formS y := ⟨_, rfl⟩; rw [← hF]; have HFF := hid hF; clear hF; rcases eqOr F s with ⟨hFs, E⟩ | ⟨hFs, E⟩ <;> (have HFS := hid hFs; clear hFs)))
      | ((with_reducible show wpList _ _ _ (⟨some 24, Op.load 26 (Operand.tmp 4), _, _, _, _⟩ :: _) _ _); go_must (refine wpList_load_mid rfl 26 _ rfl w1.heap.size 0 (by simp [go_sem]) [.int .i64 y.now, .int .i64 y.floor, .slice p.a1 y.on c1, .slice p.a2 y.hn c2, .slice p.a3 y.tn c3] _ HR4.out Tryz.underlying26 rfl sz26 ?_)))
    · have hz3 := HZ3.out
      have hz4 := HF4.out.size
      have hz1 := HZ1.out
      refine bodyPost_ret (v := .tuple #[.agg #[.int .i64 y.now, .int .i64 y.floor, .slice p.a1 y.on c1, .slice p.a2 y.hn c2, .slice p.a3 y.tn c3], .bool true]) (results_cell_tmp (p := 2) (u := 3) rfl _ _ w.heap.size [.int .i64 y.now, .int .i64 y.floor, .slice p.a1 y.on c1, .slice p.a2 y.hn c2, .slice p.a3 y.tn c3] _ rfl HR5.out Tryz.underlying26 rfl sz26) rfl ?_
      exact ⟨HB3.out.trans ((HF4.out.mono (by omega)).trans (HF5.out.below (Nat.le_refl _) (by omega))), Or.inl ⟨y, p, c1, c2, c3, HTB.out (HFF.out.symm.trans HFS.out), hs2, rfl, (HAT3.out.grow HF4.out).fr (FrP.of_fr (P := fun q => q = w.heap.size) HF5.out (fun k a b => by omega)) (fun k hk e => by have := HLO.out k hk; omega), fun q hq => by have := HLO.out q hq; omega, HFT.out, HTE.out⟩⟩
    · have hz3 := HZ3.out
      have hz4 := HF4.out.size
      have hz1 := HZ1.out
      refine bodyPost_ret (v := .tuple #[.agg #[.int .i64 0, .int .i64 0, .slice none 0 0, .slice none 0 0, .slice none 0 0], .bool false]) (results_cell_tmp (p := 2) (u := 3) rfl _ _ w.heap.size [.int .i64 0, .int .i64 0, .slice none 0 0, .slice none 0 0, .slice none 0 0] _ rfl HR5.out Tryz.underlying26 rfl sz26) rfl ?_
      exact ReR.no (HB3.out.trans ((HF4.out.mono (by omega)).trans (HF5.out.below (Nat.le_refl _) (by omega)))) (fun B _ hB => HFS.out (HFF.out.trans (HTL.out ⟨B, hB⟩).2))
    · have hz3 := HZ3.out
      have hz1 := HZ1.out
      refine bodyPost_ret (v := .tuple #[.agg #[.int .i64 0, .int .i64 0, .slice none 0 0, .slice none 0 0, .slice none 0 0], .bool false]) (results_cell_tmp (p := 2) (u := 3) rfl _ _ w.heap.size [.int .i64 0, .int .i64 0, .slice none 0 0, .slice none 0 0, .slice none 0 0] _ rfl HR5.out Tryz.underlying26 rfl sz26) rfl ?_
      exact ReR.no (HB3.out.trans (HF5.out.below (Nat.le_refl _) (by omega))) (fun B _ hB => by have := (HTL.out ⟨B, hB⟩).1; cases this)
end Go.Proofs.YtkfbclopkgnacaaGreatDoor
