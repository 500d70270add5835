import Derived.Test.YtjepponnhieocaaHd
import Derived.Laws.StructEq
import Derived.Test.YtjepponnhieocaaGh
namespace Go.Proofs.Ytjepponnhieocaa
open Go.RowKit
theorem dk_sz55 : (Try.prog.info? 55).map (·.size) = some 3 := by kernel_rfl
/-- where recorder i's safe disk lies -/
theorem safe_at {w : World} {b o : Nat} {r : Rc} {A : RcA} (h : w.rangeAt b o (rcCs r A)) : w.rangeAt b (o + 3) [.int .i64 r.sf.pr, .int .i64 r.sf.kn, .slice A.sa r.sf.n A.sc] := fun j u hu => by
  have := h (3 + j) u (by
    match j, hu with
    | 0, hu => simpa using hu
    | 1, hu => simpa using hu
    | 2, hu => simpa using hu
    | j + 3, hu => simp at hu)
  rw [Nat.add_assoc]
  exact this
set_option maxRecDepth 100000 in
set_option maxHeartbeats 8000000 in
theorem specMajor_any (v : Rw) (V : RwA) (ix : Int) (w : World) (lo hi : Nat) (hhi : hi ≤ w.heap.size) (hl : v.n ≤ 5) (hsz : ∀ i, i < v.n → ((v.x i).sf.n : Int) ≤ 8796093022208) (hc : RwIn w lo hi v V) :
    Calls Try.prog 54 #[rwV v V, .int .i64 ix] w fun e w' => e = .returned (mjV (fst (hitS v.n v.x ix) v.n)) ∧ Below w.heap.size w w' := by
  have HC := hid hc
  have HSZ := hid hsz
  clear hc hsz
  have hB0 := below_alloc w (.cells (rwC v V) 26)
  have H0 := holds_new w (rwC v V) 26
  have hz0 : w.heap.size < (w.alloc (.cells (rwC v V) 26)).heap.size := by simp
  have HH := hid H0
  clear H0
  go_enter Try.func54, Try.ntmps54
  go_wp2
  generalize w.alloc (.cells (rwC v V) 26) = W at *
  go_loopw [6] (fun i wr => ∃ k : Nat, k ≤ v.n ∧ i = .int .i64 k ∧ Below W.heap.size W wr ∧ Hid (∀ j, j < k → hitS v.n v.x ix j = none)) (fun i _ => v.n - (intOf i).toNat)
  case atStart => exact ⟨0, Nat.zero_le _, rfl, Below.refl _ _, fun j hj => absurd hj (Nat.not_lt_zero _)⟩
  case round =>
    obtain ⟨k, hk, rfl, hb, HA⟩ := hrel
    have HB : Below w.heap.size w wr := hB0.trans (hb.mono hB0.size)
    obtain ⟨p0, p1, p2⟩ := holds3 (HH.out.below hb hz0)
    have hww : w.heap.size < wr.heap.size := by have := hb.size; omega
    clear p1 p2
    by_cases hkn : k < v.n
    · obtain ⟨b, off, e, hlo, hbh, hrx, hix⟩ := HC.out.rs k hkn
      rw [e] at p0
      have HR := hid (safe_at (rangeAt_same hrx (fun j => HB.cell (p := ⟨b, j, none⟩) (by show b < _; omega))))
      have HIX := hid (hix.below HB hhi)
      have hsn := HSZ.out k hkn
      have hw1 : hi ≤ wr.heap.size := Nat.le_trans hhi HB.size
      clear hrx hix e
      by_cases h1 : ix < 1
      · have HN := hid (show hitS v.n v.x ix k = none by
          unfold hitS
          rw [show stA v.x ix k = none from if_neg (fun h => by omega)])
        go_wp2_with ((with_reducible show wpList _ _ _ (⟨some 23, Op.load 55 _, _, _, _, _⟩ :: _) _ _); go_must (refine wpList_load_mid rfl 55 _ rfl b (off + k * 18 + 3) rfl [.int .i64 (v.x k).sf.pr, .int .i64 (v.x k).sf.kn, .slice (V.A k).sa (v.x k).sf.n (V.A k).sc] _ HR.out Try.underlying55 rfl dk_sz55 ?_))
        go_roundw
        case rel => exact ⟨k + 1, by omega, by go_num, hb.alloc hb.size _, fun j hj => by
          by_cases e : j = k
          · rw [e]; exact HN.out
          · exact HA.out j (by omega)⟩
        case measure => simp [intOf]; omega
      by_cases h2 : ((v.x k).sf.n : Int) < ix
      · have HN := hid (show hitS v.n v.x ix k = none by
          unfold hitS
          rw [show stA v.x ix k = none from if_neg (fun h => by omega)])
        go_wp2_with ((with_reducible show wpList _ _ _ (⟨some 23, Op.load 55 _, _, _, _, _⟩ :: _) _ _); go_must (refine wpList_load_mid rfl 55 _ rfl b (off + k * 18 + 3) rfl [.int .i64 (v.x k).sf.pr, .int .i64 (v.x k).sf.kn, .slice (V.A k).sa (v.x k).sf.n (V.A k).sc] _ HR.out Try.underlying55 rfl dk_sz55 ?_))
        go_roundw
        case rel => exact ⟨k + 1, by omega, by go_num, hb.alloc hb.size _, fun j hj => by
          by_cases e : j = k
          · rw [e]; exact HN.out
          · exact HA.out j (by omega)⟩
        case measure => simp [intOf]; omega
      obtain ⟨j, rfl⟩ : ∃ j : Nat, ix = (j : Int) + 1 := ⟨ix.toNat - 1, by omega⟩
      have hj : j < (v.x k).sf.n := by omega
      have hst : stA v.x ((j : Int) + 1) k = some ((v.x k).sf.s j) := by
        have e : ((j : Int) + 1).toNat - 1 = j := by omega
        have h : stA v.x ((j : Int) + 1) k = some ((v.x k).sf.s (((j : Int) + 1).toNat - 1)) := if_pos ⟨by omega, by omega⟩
        rw [e] at h
        exact h
      obtain ⟨b2, off2, e2, _, hb2, hcs⟩ := HIX.out.sf j hj
      obtain ⟨d0, d1⟩ := hcs
      have hb2w : b2 < wr.heap.size := by omega
      have HR2 : Hid (wr.rangeAt b (off + k * 18 + 3) [.int .i64 (v.x k).sf.pr, .int .i64 (v.x k).sf.kn, .slice (some ⟨b2, off2, none⟩) (v.x k).sf.n (V.A k).sc]) := by rw [← e2]; exact HR.out
      have r0 : ∀ o, (wr.alloc o).cell? ⟨b2, off2 + j * 2, none⟩ = some (.int .i64 ((v.x k).sf.s j).bal) := fun o => (World.cell?_alloc_past _ _ _ (by (try simp); omega)).trans d0
      clear e2 HIX HR
      by_cases h3 : ((v.x k).sf.s j).bal = 0
      · have HN := hid (show hitS v.n v.x ((j : Int) + 1) k = none by
          unfold hitS
          rw [hst]
          exact if_neg (fun h => h.1 h3))
        go_wp2_with ((with_reducible show wpList _ _ _ (⟨some 23, Op.load 55 _, _, _, _, _⟩ :: _) _ _); go_must (refine wpList_load_mid rfl 55 _ rfl b (off + k * 18 + 3) rfl [.int .i64 (v.x k).sf.pr, .int .i64 (v.x k).sf.kn, .slice (some ⟨b2, off2, none⟩) (v.x k).sf.n (V.A k).sc] _ HR2.out Try.underlying55 rfl dk_sz55 ?_))
        go_roundw
        case rel => exact ⟨k + 1, by omega, by go_num, hb.alloc hb.size _, fun j hj => by
          by_cases e : j = k
          · rw [e]; exact HN.out
          · exact HA.out j (by omega)⟩
        case measure => simp [intOf]; omega
      have SS := hid hst
      have HBAL := hid h3
      go_wp2_with ((with_reducible show wpList _ _ _ (⟨some 23, Op.load 55 _, _, _, _, _⟩ :: _) _ _); go_must (refine wpList_load_mid rfl 55 _ rfl b (off + k * 18 + 3) rfl [.int .i64 (v.x k).sf.pr, .int .i64 (v.x k).sf.kn, .slice (some ⟨b2, off2, none⟩) (v.x k).sf.n (V.A k).sc] _ HR2.out Try.underlying55 rfl dk_sz55 ?_))
      obtain ⟨U, hU⟩ : ∃ U, wr.alloc (.cells #[.int .i64 (v.x k).sf.pr, .int .i64 (v.x k).sf.kn, .slice (some ⟨b2, off2, none⟩) (v.x k).sf.n (V.A k).sc] 55) = U := ⟨_, rfl⟩
      have hUs : U.heap.size = wr.heap.size + 1 := by rw [← hU]; simp
      have hWU : Below W.heap.size W U := by rw [← hU]; exact hb.alloc hb.size _
      have uD : U.cell? ⟨wr.heap.size, 2, none⟩ = some (.slice (some ⟨b2, off2, none⟩) (v.x k).sf.n (V.A k).sc) := by rw [← hU]; simp
      have ud0 : U.cell? ⟨b2, off2 + j * 2, none⟩ = some (.int .i64 ((v.x k).sf.s j).bal) := by rw [← hU]; exact r0 _
      have ud1 : U.cell? ⟨b2, off2 + j * 2 + 1, none⟩ = some (.string ((v.x k).sf.s j).text) := by rw [← hU]; exact (World.cell?_alloc_past _ _ _ (by (try simp); omega)).trans d1
      have hwU : w.heap.size < U.heap.size := by omega
      rw [hU]
      clear hU r0 d0 d1 p0 HR2 hst h3 HB
      generalize (v.x k).sf.s j = s at *
      generalize wr.heap.size = g0 at *
      go_loopw [8, 9] (fun cv i wr => ∃ k2 : Nat, k2 ≤ v.n ∧ i = .int .i64 k2 ∧ cv = .int .i64 (cntS v.x ((j : Int) + 1) s k2 : Nat) ∧ Below U.heap.size U wr) (fun _ i _ => v.n - (intOf i).toNat)
      case atStart => exact ⟨0, Nat.zero_le _, rfl, rfl, Below.refl _ _⟩
      case round =>
        obtain ⟨k2, hk2, rfl, rfl, hbU⟩ := hrel
        have HBU : Below W.heap.size W wr := hWU.trans (hbU.mono hWU.size)
        have HB2 : Below w.heap.size w wr := hB0.trans (HBU.mono hB0.size)
        obtain ⟨p0, p1, p2⟩ := holds3 (HH.out.below HBU hz0)
        have zr := hbU.size
        have cD := (hbU.cell (p := ⟨g0, 2, none⟩) (by show g0 < _; omega)).trans uD
        have cd0 := (hbU.cell (p := ⟨b2, off2 + j * 2, none⟩) (by show b2 < _; omega)).trans ud0
        have cd1 := (hbU.cell (p := ⟨b2, off2 + j * 2 + 1, none⟩) (by show b2 < _; omega)).trans ud1
        clear p1 p2
        have hcl := cntS_le v.x ((j : Int) + 1) s k2
        have hst2 : cntS v.x ((j : Int) + 1) s (k2 + 1) = cntS v.x ((j : Int) + 1) s k2 + one v.x ((j : Int) + 1) s k2 := rfl
        have HST2 := hid hst2
        clear hst2
        by_cases hkn2 : k2 < v.n
        · obtain ⟨b3, off3, e3, _, hbh3, hrx3, hix3⟩ := HC.out.rs k2 hkn2
          rw [e3] at p0
          have HR3 := hid (safe_at (rangeAt_same hrx3 (fun j => HB2.cell (p := ⟨b3, j, none⟩) (by show b3 < _; omega))))
          have HIX3 := hid (hix3.below HB2 hhi)
          have hsn2 := HSZ.out k2 hkn2
          clear hrx3 hix3 e3
          by_cases h5 : ((j : Int) + 1) ≤ (v.x k2).sf.n
          · obtain ⟨b4, off4, e4, _, hb4, hcs4⟩ := HIX3.out.sf j (by omega)
            obtain ⟨m0, m1⟩ := hcs4
            have hb4w : b4 < wr.heap.size := by omega
            have HR4 : Hid (wr.rangeAt b3 (off3 + k2 * 18 + 3) [.int .i64 (v.x k2).sf.pr, .int .i64 (v.x k2).sf.kn, .slice (some ⟨b4, off4, none⟩) (v.x k2).sf.n (V.A k2).sc]) := by rw [← e4]; exact HR3.out
            have HSA := hid (show stA v.x ((j : Int) + 1) k2 = some ((v.x k2).sf.s j) by
              have e : ((j : Int) + 1).toNat - 1 = j := by omega
              have h : stA v.x ((j : Int) + 1) k2 = some ((v.x k2).sf.s (((j : Int) + 1).toNat - 1)) := if_pos ⟨by omega, h5⟩
              rw [e] at h
              exact h)
            clear e4 HIX3 HR3
            generalize (v.x k2).sf.s j = s2 at *
            go_wp2_with ((with_reducible show wpList _ _ _ (⟨some 55, Op.load 55 _, _, _, _, _⟩ :: _) _ _); go_must (refine wpList_load_mid rfl 55 _ rfl b3 (off3 + k2 * 18 + 3) rfl [.int .i64 (v.x k2).sf.pr, .int .i64 (v.x k2).sf.kn, .slice (some ⟨b4, off4, none⟩) (v.x k2).sf.n (V.A k2).sc] _ HR4.out Try.underlying55 rfl dk_sz55 ?_))
            obtain ⟨U2, hU2⟩ : ∃ U2, wr.alloc (.cells #[.int .i64 (v.x k2).sf.pr, .int .i64 (v.x k2).sf.kn, .slice (some ⟨b4, off4, none⟩) (v.x k2).sf.n (V.A k2).sc] 55) = U2 := ⟨_, rfl⟩
            have hB2U : Below wr.heap.size wr U2 := by rw [← hU2]; exact below_alloc _ _
            have hU2s : U2.heap.size = wr.heap.size + 1 := by rw [← hU2]; simp
            have k0 : U2.cell? ⟨wr.heap.size, 2, none⟩ = some (.slice (some ⟨b4, off4, none⟩) (v.x k2).sf.n (V.A k2).sc) := by rw [← hU2]; simp
            have rk := subcell k0 (by show wr.heap.size < _; omega)
            have rD := subcell ((hB2U.cell (p := ⟨g0, 2, none⟩) (by show g0 < _; omega)).trans cD) (by show g0 < _; omega)
            have r1 := subcell ((hB2U.cell (p := ⟨b2, off2 + j * 2, none⟩) (by show b2 < _; omega)).trans cd0) (by show b2 < _; omega)
            have r2 := subcell ((hB2U.cell (p := ⟨b2, off2 + j * 2 + 1, none⟩) (by show b2 < _; omega)).trans cd1) (by show b2 < _; omega)
            have r3 := subcell ((hB2U.cell (p := ⟨b4, off4 + j * 2, none⟩) (by show b4 < _; omega)).trans m0) (by show b4 < _; omega)
            have r4 := subcell ((hB2U.cell (p := ⟨b4, off4 + j * 2 + 1, none⟩) (by show b4 < _; omega)).trans m1) (by show b4 < _; omega)
            have hne : Nonempty (GW U2) := ⟨⟨U2, Below.refl _ _⟩⟩
            rw [hU2]
            clear hU2 k0 cD cd0 cd1 m0 m1 HR4 p0
            have hone : one v.x ((j : Int) + 1) s k2 = if sameS s2 s then 1 else 0 := by
              unfold one
              rw [HSA.out]
            have hsame : sameS s2 s = ((s2.bal == s.bal) && (s2.text.toList == s.text.toList)) := by
              rw [Bool.eq_iff_iff, sameS_iff]
              simp only [Bool.and_eq_true, beq_iff_eq]
              constructor
              · rintro rfl; exact ⟨rfl, rfl⟩
              · rintro ⟨h1, h2⟩
                obtain ⟨x1, x2⟩ := s2
                obtain ⟨y1, y2⟩ := s
                simp only at h1 h2
                have h3 : x2 = y2 := by
                  have h4 : x2.data.toList = y2.data.toList := by simpa [ByteArray.toList_eq] using h2
                  cases x2; cases y2
                  simp at h4
                  exact congrArg ByteArray.mk h4
                rw [h1, h3]
            have HONE := hid hone
            have HSAME := hid hsame
            clear hone hsame HSA
            cases hq1 : (s2.bal == s.bal) with
            | false =>
              have HO := hid (show one v.x ((j : Int) + 1) s k2 = 0 by rw [HONE.out, HSAME.out, hq1]; rfl)
              refine wp_region_grow (by kernel_rfl) (by kernel_rfl) ?_
              repeat (go_big_quiet_step (fail))
              refine wpQuiet_nil ?_
              rintro w2 ⟨u, hu⟩
              have hw2 : Below U2.heap.size U2 w2 := hu ▸ u.prop
              clear hu u rk rD r1 r2 r3 r4
              go_wp2
              go_roundw
              case rel => exact ⟨k2 + 1, by omega, by go_num, by rw [HST2.out, HO.out]; rfl, (hbU.trans (hB2U.mono hbU.size)).trans (hw2.mono (by omega))⟩
              case measure => simp [intOf]; omega
            | true =>
              cases hq2 : (s2.text.toList == s.text.toList) with
              | false =>
                have HO := hid (show one v.x ((j : Int) + 1) s k2 = 0 by rw [HONE.out, HSAME.out, hq1, hq2]; rfl)
                refine wp_region_grow (by kernel_rfl) (by kernel_rfl) ?_
                repeat (go_big_quiet_step (fail))
                refine wpQuiet_nil ?_
                rintro w2 ⟨u, hu⟩
                have hw2 : Below U2.heap.size U2 w2 := hu ▸ u.prop
                clear hu u rk rD r1 r2 r3 r4
                go_wp2
                go_roundw
                case rel => exact ⟨k2 + 1, by omega, by go_num, by rw [HST2.out, HO.out]; rfl, (hbU.trans (hB2U.mono hbU.size)).trans (hw2.mono (by omega))⟩
                case measure => simp [intOf]; omega
              | true =>
                have HO := hid (show one v.x ((j : Int) + 1) s k2 = 1 by rw [HONE.out, HSAME.out, hq1, hq2]; rfl)
                refine wp_region_grow (by kernel_rfl) (by kernel_rfl) ?_
                repeat (go_big_quiet_step (fail))
                refine wpQuiet_nil ?_
                rintro w2 ⟨u, hu⟩
                have hw2 : Below U2.heap.size U2 w2 := hu ▸ u.prop
                clear hu u rk rD r1 r2 r3 r4
                go_wp2
                go_roundw
                case rel => exact ⟨k2 + 1, by omega, by go_num, by rw [HST2.out, HO.out]; go_num, (hbU.trans (hB2U.mono hbU.size)).trans (hw2.mono (by omega))⟩
                case measure => simp [intOf]; omega
          · have ho : one v.x ((j : Int) + 1) s k2 = 0 := by
              unfold one
              rw [show stA v.x ((j : Int) + 1) k2 = none from if_neg (fun h => h5 h.2)]
            have HO := hid ho
            have h5a : decide (((j : Int) + 1) ≤ ((v.x k2).sf.n : Int)) = false := by simp; omega
            have h5b : decide ((j : Int) < ((v.x k2).sf.n : Int)) = false := by simp; omega
            clear ho HIX3
            go_wp2_with ((with_reducible show wpList _ _ _ (⟨some 55, Op.load 55 _, _, _, _, _⟩ :: _) _ _); go_must (refine wpList_load_mid rfl 55 _ rfl b3 (off3 + k2 * 18 + 3) rfl [.int .i64 (v.x k2).sf.pr, .int .i64 (v.x k2).sf.kn, .slice (V.A k2).sa (v.x k2).sf.n (V.A k2).sc] _ HR3.out Try.underlying55 rfl dk_sz55 ?_))
            obtain ⟨U2, hU2⟩ : ∃ U2, wr.alloc (.cells #[.int .i64 (v.x k2).sf.pr, .int .i64 (v.x k2).sf.kn, .slice (V.A k2).sa (v.x k2).sf.n (V.A k2).sc] 55) = U2 := ⟨_, rfl⟩
            have hB2U : Below wr.heap.size wr U2 := by rw [← hU2]; exact below_alloc _ _
            have hU2s : U2.heap.size = wr.heap.size + 1 := by rw [← hU2]; simp
            have k0 : U2.cell? ⟨wr.heap.size, 2, none⟩ = some (.slice (V.A k2).sa (v.x k2).sf.n (V.A k2).sc) := by rw [← hU2]; simp
            have rk := subcell k0 (by show wr.heap.size < _; omega)
            have hne : Nonempty (GW U2) := ⟨⟨U2, Below.refl _ _⟩⟩
            rw [hU2]
            clear hU2 k0 cD cd0 cd1 HR3 p0
            refine wp_region_grow (by kernel_rfl) (by kernel_rfl) ?_
            repeat (go_big_quiet_step (fail))
            refine wpQuiet_nil ?_
            rintro w2 ⟨u, hu⟩
            have hw2 : Below U2.heap.size U2 w2 := hu ▸ u.prop
            clear hu u rk
            go_wp2
            go_roundw
            case rel => exact ⟨k2 + 1, by omega, by go_num, by rw [HST2.out, HO.out]; rfl, (hbU.trans (hB2U.mono hbU.size)).trans (hw2.mono (by omega))⟩
            case measure => simp [intOf]; omega
        · obtain rfl : k2 = v.n := by omega
          have HHIT := hid (show hitS v.n v.x ((j : Int) + 1) k = if s.bal ≠ 0 ∧ v.n < 2 * cntS v.x ((j : Int) + 1) s v.n then some s.text else none by
            unfold hitS
            rw [SS.out])
          generalize cntS v.x ((j : Int) + 1) s v.n = cN at *
          by_cases h6 : v.n < 2 * cN
          · have HM1 := hid (show fst (hitS v.n v.x ((j : Int) + 1)) v.n = some s.text from fst_keep HA.out (by rw [HHIT.out]; exact if_pos ⟨HBAL.out, h6⟩) hkn)
            have h6a : decide ((v.n : Int) < 2 * (cN : Int)) = true := by simp; omega
            clear HHIT
            go_wp2
            refine bodyPost_ret (v := .tuple #[.string s.text, .bool true]) (by simp [results, Try.results54, go_sem]) rfl ⟨?_, HB2⟩
            rw [HM1.out]
            rfl
          · have HN := hid (show hitS v.n v.x ((j : Int) + 1) k = none by rw [HHIT.out]; exact if_neg (fun h => h6 h.2))
            have h6a : decide ((v.n : Int) < 2 * (cN : Int)) = false := by simp; omega
            clear HHIT
            go_wp2
            go_roundw
            case rel => exact ⟨k + 1, by omega, by go_num, HBU, fun q hq => by
              by_cases e : q = k
              · rw [e]; exact HN.out
              · exact HA.out q (by omega)⟩
            case measure => simp [intOf]; omega

    · have HM1 := hid (show fst (hitS v.n v.x ix) v.n = none from fst_no (fun j hj => HA.out j (by omega)))
      go_wp2
      refine bodyPost_ret (v := .tuple #[.string ⟨#[]⟩, .bool false]) (by simp [results, Try.results54, go_sem]) rfl ⟨?_, HB⟩
      rw [HM1.out]
      rfl
end Go.Proofs.Ytjepponnhieocaa
namespace Go.Proofs.Ytjepponnhieocaa
open Go.RowKit
/-- what RecMajor answers -/
def mjR (v : Rw) (ix : Int) : Option ByteArray := if rwB v then majI v.n v.x ix else none
theorem rwB_n5 {v : Rw} (h : rwB v = true) : v.n ≤ 5 := by
  simp only [rwB, rcsB, Bool.and_eq_true] at h
  have := h.1.1
  simp only [inB, Bool.and_eq_true, decide_eq_true_eq] at this
  omega
theorem rwB_rec {v : Rw} (h : rwB v = true) {i : Nat} (hi : i < v.n) : rcB (v.x i) = true := by
  simp only [rwB, rcsB, Bool.and_eq_true] at h
  have := allTo_iff.1 h.1.2 i hi
  simp only [rp1, Bool.and_eq_true] at this
  exact this.2.2
theorem rcB_safe {r : Rc} (h : rcB r = true) : slsB r.sf.n r.sf.s = true := by
  simp only [rcB, restB, Bool.and_eq_true] at h
  have h2 := h.2.2.1
  simp only [dkB, Bool.and_eq_true] at h2
  exact h2.2.1
theorem stA_ok {v : Rw} (h : rwB v = true) {ix : Int} {i : Nat} {s : Sl} (hi : i < v.n) (hs : stA v.x ix i = some s) : slB s = true := by
  have h1 := rcB_safe (rwB_rec h hi)
  simp only [slsB, Bool.and_eq_true] at h1
  unfold stA at hs
  split at hs
  · rename_i hr
    cases hs
    exact allTo_iff.1 h1.2 _ (by omega)
  · cases hs
theorem slB_key {s : Sl} (h : slB s = true) : SlKey s ∧ 0 ≤ s.bal := by
  simp only [slB, inB, Bool.and_eq_true, decide_eq_true_eq] at h
  obtain ⟨⟨h1, h2⟩, h3, _⟩ := h
  exact ⟨⟨⟨by omega, by omega⟩, by unfold maxLen; omega⟩, h1⟩
set_option maxRecDepth 100000 in
set_option maxHeartbeats 4000000 in
theorem implMajor_any (v : Rw) (V : RwA) (ix : Int) (w : World) (lo hi : Nat) (hhi : hi ≤ w.heap.size) (hf : RwFit v) (hw : ∀ i, i < v.n → RcNew (v.x i) (V.A i)) (hc : RwIn w lo hi v V) :
    Calls Try.prog 18 #[rwV v V, .int .i64 ix] w fun e w' => e = .returned (mjV (mjR v ix)) ∧ Below w.heap.size w w' := by
  have HC := hid hc
  have HF := hid hf
  have hB0 := below_alloc w (.cells (rwC v V) 26)
  have H0 := holds_new w (rwC v V) 26
  have hz0 : w.heap.size < (w.alloc (.cells (rwC v V) 26)).heap.size := by simp
  have hOK := hid (implWorld_any v V (w.alloc (.cells (rwC v V) 26)) lo hi (Nat.le_trans hhi hB0.size) hf hw (hc.below hB0 hhi))
  have HIN := hid (fun (h : rwB v = true) (X : World) (hB : Below w.heap.size w X) => majorAt_any v.n v.x V.A ix V.ra V.rc X lo hi (Nat.le_trans hhi hB.size) (rwB_n5 h) (fun i hi => (HF.out.x i hi).sf.n) (fun i s hi hs => (slB_key (stA_ok h hi hs)).1) (HC.out.below hB hhi).rs)
  obtain ⟨q0, q1, q2⟩ := holds3 H0
  clear hc hf hw
  cases hv : rwB v with
  | false =>
    have HE := hid (show mjR v ix = none by simp [mjR, hv])
    rw [hv] at hOK
    clear HIN
    go_enter Try.func18, Try.ntmps18
    go_wp2_with (go_at_call 16; go_must (refine hOK.out.mono ?_; rintro e w1 ⟨rfl, hb1⟩; have hB1 : Below w.heap.size w w1 := hB0.trans (hb1.mono hB0.size)))
    refine bodyPost_ret (v := .tuple #[.string ⟨#[]⟩, .bool false]) (by simp [results, Try.results18, go_sem]) rfl ⟨?_, hB1⟩
    rw [HE.out]
    rfl
  | true =>
    have HE := hid (show mjR v ix = majI v.n v.x ix by simp [mjR, hv])
    have HI2 := hid (HIN.out hv)
    rw [hv] at hOK
    clear HIN hv
    go_enter Try.func18, Try.ntmps18
    go_wp2_with (first | (go_at_call 16; go_must (refine hOK.out.mono ?_; rintro e w1 ⟨rfl, hb1⟩; have hB1 : Below w.heap.size w w1 := hB0.trans (hb1.mono hB0.size); obtain ⟨p0, p1, p2⟩ := holds3 (H0.below hb1 hz0))) | (go_at_call 55; go_must (refine (HI2.out w1 hB1).mono ?_; rintro e w2 ⟨rfl, hb2⟩; unfold mjV)))
    refine bodyPost_ret (v := mjV (majI v.n v.x ix)) (by simp [results, Try.results18, go_sem, mjV]) rfl ⟨?_, hB1.trans (hb2.mono hB1.size)⟩
    rw [HE.out]

set_option maxRecDepth 100000 in
set_option maxHeartbeats 4000000 in
theorem specMajorTop_any (v : Rw) (V : RwA) (ix : Int) (w : World) (lo hi : Nat) (hhi : hi ≤ w.heap.size) (hf : RwFit v) (hc : RwIn w lo hi v V) :
    Calls Try.prog 17 #[rwV v V, .int .i64 ix] w fun e w' => e = .returned (mjV (mjR v ix)) ∧ Below w.heap.size w w' := by
  have HC := hid hc
  have HF := hid hf
  have hB0 := below_alloc w (.cells (rwC v V) 26)
  have H0 := holds_new w (rwC v V) 26
  have hz0 : w.heap.size < (w.alloc (.cells (rwC v V) 26)).heap.size := by simp
  have hOK := hid (specWorld_any v V (w.alloc (.cells (rwC v V) 26)) lo hi (Nat.le_trans hhi hB0.size) hf (hc.below hB0 hhi))
  have HIN := hid (fun (h : rwB v = true) (X : World) (hB : Below w.heap.size w X) => (show Calls Try.prog 54 #[rwV v V, .int .i64 ix] X fun e w' => e = .returned (mjV (majI v.n v.x ix)) ∧ Below X.heap.size X w' from maj_eq (n := v.n) (x := v.x) (ix := ix) (fun i s hi hs => (slB_key (stA_ok h hi hs)).2) ▸ specMajor_any v V ix X lo hi (Nat.le_trans hhi hB.size) (rwB_n5 h) (fun i hi => (HF.out.x i hi).sf.n) (HC.out.below hB hhi)))
  obtain ⟨q0, q1, q2⟩ := holds3 H0
  clear hc hf
  cases hv : rwB v with
  | false =>
    have HE := hid (show mjR v ix = none by simp [mjR, hv])
    rw [hv] at hOK
    clear HIN
    go_enter Try.func17, Try.ntmps17
    go_wp2_with (go_at_call 14; go_must (refine hOK.out.mono ?_; rintro e w1 ⟨rfl, hb1⟩; have hB1 : Below w.heap.size w w1 := hB0.trans (hb1.mono hB0.size)))
    refine bodyPost_ret (v := .tuple #[.string ⟨#[]⟩, .bool false]) (by simp [results, Try.results17, go_sem]) rfl ⟨?_, hB1⟩
    rw [HE.out]
    rfl
  | true =>
    have HE := hid (show mjR v ix = majI v.n v.x ix by simp [mjR, hv])
    have HI2 := hid (HIN.out hv)
    rw [hv] at hOK
    clear HIN hv
    go_enter Try.func17, Try.ntmps17
    go_wp2_with (first | (go_at_call 14; go_must (refine hOK.out.mono ?_; rintro e w1 ⟨rfl, hb1⟩; have hB1 : Below w.heap.size w w1 := hB0.trans (hb1.mono hB0.size); obtain ⟨p0, p1, p2⟩ := holds3 (H0.below hb1 hz0))) | (go_at_call 54; go_must (refine (HI2.out w1 hB1).mono ?_; rintro e w2 ⟨rfl, hb2⟩; unfold mjV)))
    refine bodyPost_ret (v := mjV (majI v.n v.x ix)) (by simp [results, Try.results17, go_sem, mjV]) rfl ⟨?_, hB1.trans (hb2.mono hB1.size)⟩
    rw [HE.out]
end Go.Proofs.Ytjepponnhieocaa
