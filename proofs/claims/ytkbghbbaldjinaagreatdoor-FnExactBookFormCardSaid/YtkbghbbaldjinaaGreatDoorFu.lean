import Derived.Test.YtkbghbbaldjinaaGreatDoorFq
import Derived.Test.YtkbghbbaldjinaaGreatDoorFh
namespace Go.Proofs.YtkbghbbaldjinaaGreatDoor
open Go.RowKit
theorem SL.new1 (w : World) (o : Obj) (f0 : ByteArray) : SL ((w.alloc o).alloc (.cells #[.string f0] 9)) w.heap.size (.slice (some ⟨w.heap.size + 1, 0, none⟩) 1 1) [f0] := by
  have h := (SL.new (w.alloc o) [f0]).mono (base' := w.heap.size) (by simp)
  simpa [sCells] using h
theorem wr_fresh (w : World) : Wr w.heap.size w.heap.size [] (w.alloc (.cells #[.pointer none, .slice none 0 0] 59)) := Lib.fresh_isBuilder 59 5 w
theorem lines_ne {f : Nat → ByteArray} {l0 : List UInt8} (h : l0 ≠ []) : ∀ k, linesTo f l0 k ≠ []
  | 0 => h
  | k + 1 => by
    have := lines_ne (f := f) h k
    simp [linesTo, this]
theorem headS_ne (a b : Nat) : (headS a b).data.toList ≠ [] := by
  rw [← headS_l, lineS_l]
  simp
theorem formT_ne (x : Bk) (k : Nat) : formT x k ≠ [] := lines_ne (lines_ne (lines_ne (headS_ne _ _) _) _) _
set_option maxRecDepth 100000 in
set_option maxHeartbeats 4000000 in
theorem implForm_any (x : Bk) (a1 a2 a3 : Option Addr) (c1 c2 c3 : Nat) (w : World) (lo hi : Nat) (hhi : hi ≤ w.heap.size) (hfit : BkFit x) (hin : BkIn w lo hi x a1 a2 a3) (hT : Tab w) :
    Calls Tryz.prog 7 #[.agg #[.int .i64 x.now, .int .i64 x.floor, .slice a1 x.on c1, .slice a2 x.hn c2, .slice a3 x.tn c3]] w fun e w' => e = .returned (.string (formS x)) ∧ Below w.heap.size w w' := by
  have HIN := hid hin
  have hS := fun W h => implValid_any x a1 a2 a3 c1 c2 c3 W lo hi (Nat.le_trans hhi h) hfit
  have HS := hid hS
  have HT := hid hT
  clear hin hS hT
  cases hv : allTo (chk x) 7 with
  | false =>
    have HE := hid (formS_no hv)
    have HV := hid hv
    clear hv
    go_enter Tryz.func7, Tryz.ntmps7
    go_wp2_with (go_at_call 19; refine (HS.out _ (by simp) (HIN.out.below (below_alloc _ _) hhi)).mono ?_; rintro e w1 ⟨rfl, hb1⟩; rw [HV.out])
    go_ret
    exact ⟨by rw [HE.out]; rfl, (below_alloc w _).trans (hb1.mono (by simp))⟩
  | true =>
    have HBV := hid (valid_v hv)
    have HV := hid hv
    have ho := (valid_v hv).o
    have hh := (valid_v hv).h
    have ht := (valid_v hv).t
    clear hv
    go_enter Tryz.func7, Tryz.ntmps7
    go_wp2_with (go_at_call 19; refine (HS.out _ (by simp) (HIN.out.below (below_alloc _ _) hhi)).mono ?_; rintro e w1 ⟨rfl, hb1⟩; rw [HV.out])
    have z1 : w.heap.size < w1.heap.size := by have := hb1.size; simp at this; omega
    have hB1 : Below w.heap.size w w1 := (below_alloc w _).trans (hb1.mono (by simp))
    have q0 : w1.cell? ⟨w.heap.size, 0, none⟩ = some (.int .i64 (x.now.toNat : Int)) := by rw [hb1.cell (p := ⟨w.heap.size, 0, none⟩) (by simp), ← HBV.out.en]; simp
    have q1 : w1.cell? ⟨w.heap.size, 1, none⟩ = some (.int .i64 (x.floor.toNat : Int)) := by rw [hb1.cell (p := ⟨w.heap.size, 1, none⟩) (by simp), ← HBV.out.ef]; simp
    have q2 : w1.cell? ⟨w.heap.size, 2, none⟩ = some (.slice a1 x.on c1) := (hb1.cell (p := ⟨w.heap.size, 2, none⟩) (by simp)).trans (by simp)
    have q3 : w1.cell? ⟨w.heap.size, 3, none⟩ = some (.slice a2 x.hn c2) := (hb1.cell (p := ⟨w.heap.size, 3, none⟩) (by simp)).trans (by simp)
    have q4 : w1.cell? ⟨w.heap.size, 4, none⟩ = some (.slice a3 x.tn c3) := (hb1.cell (p := ⟨w.heap.size, 4, none⟩) (by simp)).trans (by simp)
    have ba := below_alloc w1 (.cells #[.pointer none, .slice none 0 0] 59)
    have HT1 := hid (HT.out.below (hB1.trans (ba.mono (by omega))))
    refine headImpl _ _ _ _ _ _ _ _ _ _ _ _ _ _ _ _ _ _ _ _ _ _ _ _ _ _ _ _ _ _ _ _ _ _ _ _ _ _ _ _ _ _ _ _ _ _ _ _ _ _ _ _ _ _ _ _ _ _ _ _ _ _ _ _ _ _ _ (fun _ => undef) w.heap.size x.now.toNat x.floor.toNat w1.heap.size _ (by simp; omega) ((ba.cell (p := ⟨w.heap.size, 0, none⟩) z1).trans q0) ((ba.cell (p := ⟨w.heap.size, 1, none⟩) z1).trans q1) HBV.out.ln HBV.out.lf (dS_size HBV.out.ln) (dS_size HBV.out.lf) w1.heap.size [] (wr_fresh w1) (by simp) (by simp) HT1.out _ ?_
    rintro t v3 X ⟨hW, hX0⟩
    have hX : Below w1.heap.size w1 X := ba.trans hX0
    have Q2 := hid q2
    have Q3 := hid q3
    have Q4 := hid q4
    have HB1 := hid hB1
    have HWX := hid hW
    have HX := hid hX
    have p2 : X.cell? ⟨w.heap.size, 2, none⟩ = some (.slice a1 x.on c1) := (hX.cell (p := ⟨w.heap.size, 2, none⟩) z1).trans q2
    clear q0 q1 q2 q3 q4 hb1 hB1 HS ba hX0 hW hX
    go_wp2
    go_loopw [24] (fun i wr => ∃ k : Nat, k ≤ x.on ∧ i = .int .i64 k ∧ Wr w1.heap.size w1.heap.size (formO x k) wr ∧ Below w1.heap.size w1 wr) (fun i _ => x.on - (intOf i).toNat)
    case atStart => exact ⟨0, Nat.zero_le _, rfl, HWX.out, HX.out⟩
    case round =>
      clear HWX HX p2
      obtain ⟨k, hk, rfl, hw, hb⟩ := hrel
      have zw := hb.size
      have zL := formO_len HBV.out k hk
      by_cases hkn : k < x.on
      · have hBw : Below w.heap.size w wr := HB1.out.trans (hb.mono (by omega))
        obtain ⟨b, off, ah, ch, rfl, e2, e3, e4, e5⟩ := HIN.out.o k hkn
        obtain ⟨d0, d1, d2, d3, d4, d5, d6⟩ := e4.below hBw (by omega)
        have OV := hid (HBV.out.os k hkn)
        have HE5 := hid (e5.below hBw hhi)
        have HTW := hid (HT.out.below hBw)
        have HW := hid hw
        have HSU := hid ((formO_succ x k).trans (by rw [← oLine_l]))
        have hba : ∀ o1 o2, Below wr.heap.size wr ((wr.alloc o1).alloc o2) := fun o1 o2 => (below_alloc wr o1).trans ((below_alloc _ o2).mono (by simp))
        clear e4 e5 hw
        go_wp2_with (go_at_call 22; refine (implObj_any w1.heap.size w1.heap.size (formO x k) (x.os k) OV.out ah ch _ wr.heap.size ⟨#[111, 98, 106, 101, 99, 116]⟩ [] _ lo hi (fun w2 h2 => HW.out.grow ((hba _ _).trans h2)) (by omega) (hba _ _).size (SL.new1 wr _ _) (HTW.out.below (hba _ _)) (HE5.out.below (hba _ _) (by omega)) (by omega) (by simp) (by intro s hs; simp only [List.mem_cons, List.not_mem_nil, or_false] at hs; rcases hs with rfl; decide) (by omega)).mono ?_; rintro e Y ⟨rfl, hY, hbY⟩)
        exact ⟨⟨k + 1, by omega, by go_num, by rw [HSU.out]; exact hY, (hb.trans ((hba _ _).mono (by omega))).trans hbY⟩, by simp [intOf]; omega⟩
      · have hkk : k = x.on := by omega
        subst hkk
        have p3 : wr.cell? ⟨w.heap.size, 3, none⟩ = some (.slice a2 x.hn c2) := (hb.cell (p := ⟨w.heap.size, 3, none⟩) z1).trans Q3.out
        have HW := hid hw
        clear hw
        go_wp2
        go_loopw [35] (fun i wr => ∃ k : Nat, k ≤ x.hn ∧ i = .int .i64 k ∧ Wr w1.heap.size w1.heap.size (formH x k) wr ∧ Below w1.heap.size w1 wr) (fun i _ => x.hn - (intOf i).toNat)
        case atStart => exact ⟨0, Nat.zero_le _, rfl, HW.out, hb⟩
        case round =>
          clear hb zw p3 hk hkn HW zL
          obtain ⟨k, hk, rfl, hw, hb⟩ := hrel
          have zw := hb.size
          have zL := formH_len HBV.out k hk
          by_cases hkn : k < x.hn
          · have hBw : Below w.heap.size w wr := HB1.out.trans (hb.mono (by omega))
            obtain ⟨b, off, ah, ch, rfl, e2, e3, e4, e5⟩ := HIN.out.h k hkn
            obtain ⟨d0, d1, d2, d3, d4, d5, d6, d7, d8⟩ := e4.below hBw (by omega)
            have OV := hid (HBV.out.hs k hkn)
            have HE5 := hid (e5.below hBw hhi)
            have HTW := hid (HT.out.below hBw)
            have HW := hid hw
            have HSU := hid (formH_succ x k)
            clear e4 e5 hw
            go_wp2_with fail
            refine chImpl _ _ _ _ _ _ _ _ _ _ _ _ _ _ _ _ _ _ _ _ _ _ _ _ _ _ _ _ _ _ _ _ _ _ _ _ _ _ _ _ _ _ _ _ _ _ _ _ _ _ _ _ _ _ _ _ _ _ _ _ _ _ _ _ _ _ _ _ (fun i => [u39, u40, u41, u42, u43, u44].getD i undef) (x.hs k) ah ch wr.heap.size w1.heap.size _ (by simp) ⟨by simp, by simp, by simp, by simp, by simp, by simp, by simp, by simp, by simp⟩ OV.out lo hi (HE5.out.below (below_alloc _ _) (by omega)) (by simp; omega) w1.heap.size (formH x k) (HW.out.grow (below_alloc _ _)) (by simp; omega) (by omega) (HTW.out.below (below_alloc _ _)) _ ?_
            rintro t v3 Y ⟨h1, h2⟩
            have HK3 := hid h1
            have HK4 := hid ((hb.trans ((below_alloc wr _).mono (by omega))).trans h2)
            clear h1 h2
            go_wp2
            exact ⟨⟨k + 1, by omega, by go_num, by rw [HSU.out]; exact HK3.out, HK4.out⟩, by simp [intOf]; omega⟩
          · have hkk : k = x.hn := by omega
            subst hkk
            have p4 : wr.cell? ⟨w.heap.size, 4, none⟩ = some (.slice a3 x.tn c3) := (hb.cell (p := ⟨w.heap.size, 4, none⟩) z1).trans Q4.out
            have HW := hid hw
            clear hw
            go_wp2
            go_loopw [50] (fun i wr => ∃ k : Nat, k ≤ x.tn ∧ i = .int .i64 k ∧ Wr w1.heap.size w1.heap.size (formT x k) wr ∧ Below w1.heap.size w1 wr) (fun i _ => x.tn - (intOf i).toNat)
            case atStart => exact ⟨0, Nat.zero_le _, rfl, HW.out, hb⟩
            case round =>
              clear hb zw p4 hk hkn HW zL
              obtain ⟨k, hk, rfl, hw, hb⟩ := hrel
              have zw := hb.size
              have zL := formT_len HBV.out k hk
              have hBw : Below w.heap.size w wr := HB1.out.trans (hb.mono (by omega))
              by_cases hkn : k < x.tn
              · obtain ⟨b, off, rfl, e2, e3, e4⟩ := HIN.out.t k hkn
                obtain ⟨d0, d1, d2, d3, d4⟩ := e4.below hBw (by omega)
                have OV := hid (HBV.out.ts k hkn)
                have HTW := hid (HT.out.below hBw)
                have HW := hid hw
                have HSU := hid (formT_succ x k)
                clear e4 hw
                go_wp2_with fail
                refine tickImpl _ _ _ _ _ _ _ _ _ _ _ _ _ _ _ _ _ _ _ _ _ _ _ _ _ _ _ _ _ _ _ _ _ _ _ _ _ _ _ _ _ _ _ _ _ _ _ _ _ _ _ _ _ _ _ _ _ _ _ (fun i => [u54, u55, u56, u57, u58, u59, u60, u61, u62, u63, u64, u65, u66, u67, u68].getD i undef) (x.ts k) wr.heap.size (x.ts k).num.toNat (x.ts k).code.toNat (x.ts k).ver.toNat w1.heap.size _ (by simp) (by simp) (by rw [← OV.out.en]; simp) (by simp) (by rw [← OV.out.ec]; simp) (by rw [← OV.out.ev]; simp) OV.out.ln OV.out.lc OV.out.lv OV.out.c OV.out.p (dS_size OV.out.ln) (dS_size OV.out.lc) (dS_size OV.out.lv) (quS_size OV.out.p) (hid rfl) (hid rfl) (hid rfl) w1.heap.size (formT x k) (HW.out.grow (below_alloc _ _)) (by simp; omega) (by omega) (HTW.out.below (below_alloc _ _)) _ ?_
                rintro t v3 Y ⟨h1, h2⟩
                have HK3 := hid h1
                have HK4 := hid ((hb.trans ((below_alloc wr _).mono (by omega))).trans h2)
                clear h1 h2
                go_wp2
                exact ⟨⟨k + 1, by omega, by go_num, by rw [HSU.out]; exact HK3.out, HK4.out⟩, by simp [intOf]; omega⟩
              · have hkk : k = x.tn := by omega
                subst hkk
                have HW := hid hw
                have hne : formT x x.tn ≠ [] := formT_ne x x.tn
                clear hw
                by_cases hbig : 200000 < ((formT x x.tn).length : Int)
                · have HF : Hid (formS x = ⟨#[]⟩) := by unfold formS; rw [HV.out, if_pos rfl, if_pos hbig]; exact hid rfl
                  go_wp2_with (go_at_call 25; refine (len_any _ _ _ _ HW.out).mono ?_; rintro e Y ⟨rfl, rfl⟩)
                  go_ret
                  exact ⟨by rw [HF.out]; rfl, hBw⟩
                · have HF : Hid (formS x = ⟨(formT x x.tn).toArray⟩) := by unfold formS; rw [HV.out, if_pos rfl, if_neg hbig]; exact hid rfl
                  go_wp2_with (first
                    | (go_at_call 25; refine (len_any _ _ _ _ HW.out).mono ?_; rintro e Y ⟨rfl, rfl⟩)
                    | (go_at_call 26; refine (string_any _ _ _ _ HW.out hne).mono ?_; rintro e Z ⟨rfl, hZ⟩))
                  go_ret
                  exact ⟨by rw [HF.out]; rfl, hBw.trans (hZ.mono (by omega))⟩
end Go.Proofs.YtkbghbbaldjinaaGreatDoor
