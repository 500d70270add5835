import Derived.Test.YtcmimbohmninkaaGreatDoorPe
namespace Go.Proofs.YtcmimbohmninkaaGreatDoor
open Go.RowKit
set_option maxRecDepth 100000 in
set_option maxHeartbeats 8000000 in
theorem unquote_any (s : ByteArray) (hs : (s.size : Int) ≤ 1048576) (w : World) :
    Calls Tryz.prog 10 #[.string s] w fun e w' => ∃ r q : ByteArray, e = .returned (.tuple #[.string r, .string q]) ∧ r.size ≤ s.size + 2 ∧ (∀ te, s = quS te → r = te) ∧ Below w.heap.size w w' := by
  obtain ⟨i0, hi0, hz0, hz1, hz2⟩ := info_parts Tryz.info5
  have OW0 := hid (show OwnB (w.alloc (.cells #[] 5)) w.heap.size (.slice (some ⟨w.heap.size, 0, none⟩) 0 0) [] from World.ownsRow_made (base := w.heap.size) (e := 5) (size := 1) w #[] 0 (Nat.le_refl _) (by unfold maxLen; omega) rfl)
  go_enter Tryz.func10, Tryz.ntmps10
  go_wp2
  go_loopw [4, 5] (fun v i wr => ∃ (k : Nat) (l : List UInt8), 1 ≤ k ∧ k ≤ s.size + 2 ∧ l.length ≤ k ∧ i = .int .i64 k ∧ OwnB wr w.heap.size v l ∧ Below w.heap.size w wr ∧ Hid (UqAt s k l)) (fun _ i _ => s.size + 3 - (intOf i).toNat)
  case atStart => exact ⟨1, [], by omega, by omega, by simp, rfl, OW0.out, below_alloc _ _, hid (UqAt.start s)⟩
  case round =>
    obtain ⟨k, l, hk1, hk, hll, rfl, hown, hb, HU⟩ := hrel
    by_cases hks : k < s.size
    · have HB := hid (byteAt_eq s k hks)
      by_cases h34 : s[k] = 34
      · have hb34 : (s[k].toNat : Int) = 34 := by rw [h34]; rfl
        have hb34b : ((s[k].toNat : Int) == 34) = true := by simp [hb34]
        clear hb34
        have HE := hid (UqAt.ends HU.out (by rw [HB.out]; exact h34))
        have HCV := hid (fun X (hX : Below wr.heap.size wr X) => (hown.below hX).conv0)
        clear hown HU
        go_wp2_with fail
        refine uqReg6 _ _ _ _ _ _ _ _ _ _ _ _ _ _ _ _ _ _ _ _ _ _ _ _ _ _ _ _ _ _ _ _ _ _ _ _ _ _ _ _ _ _ _ _ _ _ _ _ _ _ _ _ _ _ _ _ _ _ _ _ _ _ _ _ _ _ _ _ _ _ _ _ _ s _ l k wr hks hs HCV.out _ ?_
        rintro t v3 X ⟨rfl, e6, hbX⟩
        rw [e6]
        have hBX : Below w.heap.size w X := hb.trans (hbX.mono hb.size)
        clear HCV
        go_wp2
        refine bodyPost_ret (v := .tuple #[.string ⟨l.toArray⟩, .string (s.extract (k + 1) s.size)]) (results_tmp2 (t := 2) (u := 3) rfl _ _ _) rfl ?_
        exact ⟨_, _, rfl, by rw [ba_len]; omega, HE.out, hBX⟩
      · have hb34 : ¬ ((s[k].toNat : Int) = 34) := u8_34 h34
        have hb34b : ((s[k].toNat : Int) == 34) = false := by simpa using hb34
        have HN34 := hid (show byteAt s k ≠ 34 by rw [HB.out]; exact h34)
        by_cases hx : byteAt s k = 92 ∧ k + 2 < s.size ∧ 0 ≤ hexZ (byteAt s (k + 1)).toNat ∧ 0 ≤ hexZ (byteAt s (k + 2)).toNat
        · obtain ⟨x1, x2, x3, x4⟩ := hx
          have y3 := hexZ_le (byteAt s (k + 1)).toNat
          have y4 := hexZ_le (byteAt s (k + 2)).toNat
          obtain ⟨bb, hbb⟩ : ∃ bb : UInt8, 16 * hexZ (byteAt s (k + 1)).toNat + hexZ (byteAt s (k + 2)).toNat = (bb.toNat : Int) := ⟨UInt8.ofNat (16 * hexZ (byteAt s (k + 1)).toNat + hexZ (byteAt s (k + 2)).toNat).toNat, by rw [UInt8.toNat_ofNat']; omega⟩
          have HX1 := hid (UqAt.esc HU.out x1 hbb)
          have HBB := hid hbb
          have HO := hid hown
          have hb92 : (s[k].toNat : Int) = 92 := by
            rw [HB.out] at x1
            rw [x1]
            rfl
          have hb92b : ((s[k].toNat : Int) == 92) = true := by simp [hb92]
          clear hb92
          have E1 := byteAt_eq s (k + 1) (by omega)
          have E2 := byteAt_eq s (k + 2) (by omega)
          have z3 : 0 ≤ hexZ s[k + 1].toNat := by rw [← E1]; exact x3
          have z4 : 0 ≤ hexZ s[k + 2].toNat := by rw [← E2]; exact x4
          have XX := hid (And.intro x3 (And.intro x4 (And.intro y3 y4)))
          clear hown hbb HU x1 x3 x4 y3 y4 E1 E2 HB HN34
          go_wp2_with (go_at_call 17; refine (hexN_any _ (UInt8.toNat_lt _) _).mono ?_; rintro e w1 ⟨rfl, hw1⟩; rw [hw1]; clear hw1)
          refine uqReg8 _ _ _ _ _ _ _ _ _ _ _ _ _ _ _ _ _ _ _ _ _ _ _ _ _ _ _ _ _ _ _ _ _ _ _ _ _ _ _ _ _ _ _ _ _ _ _ _ _ _ _ _ _ _ _ _ _ _ _ _ _ _ _ _ _ _ _ _ _ _ _ _ _ s _ l k bb wr w.heap.size hb.size x2 hs XX.out.1 XX.out.2.2.1 XX.out.2.1 XX.out.2.2.2 HBB.out (by omega) HO.out _ ?_
          rintro t v3 X ⟨O3, hbX⟩
          have hBX : Below w.heap.size w X := hb.trans hbX
          have HO3 := hid O3
          clear O3 HO
          go_wp2
          go_roundw
          case rel => exact ⟨k + 3, l ++ [bb], by omega, by omega, by simp; omega, by go_num, HO3.out, hBX, HX1⟩
          case measure => simp [intOf]; omega
        · have HX1 := hid (show UqAt s (k + 1) (l ++ [s[k]]) by rw [← HB.out]; exact UqAt.plain HU.out HN34.out hx)
          have HO := hid (hown.alloc (.cells #[.int .u8 (s[k].toNat : Int)] 5))
          clear hown HU
          by_cases h92 : s[k] = 92
          · have hb92 : (s[k].toNat : Int) = 92 := by rw [h92]; rfl
            have hb92b : ((s[k].toNat : Int) == 92) = true := by simp [hb92]
            clear hb92
            by_cases h2 : k + 2 < s.size
            · have E1 := byteAt_eq s (k + 1) (by omega)
              have E2 := byteAt_eq s (k + 2) (by omega)
              by_cases h3 : 0 ≤ hexZ (byteAt s (k + 1)).toNat
              · have h4 : ¬ 0 ≤ hexZ (byteAt s (k + 2)).toNat := fun h4 => hx ⟨by rw [HB.out]; exact h92, h2, h3, h4⟩
                rw [E1] at h3
                rw [E2] at h4
                clear hx HB HN34 E1 E2 h92
                go_wp2_with (first | (go_at_call 17; refine (hexN_any _ (UInt8.toNat_lt _) _).mono ?_; rintro e w1 ⟨rfl, hw1⟩; rw [hw1]; clear hw1) | (with_reducible show wpList _ _ _ (⟨some 73, _, _, _, _, _⟩ :: _) _ _); go_must (refine wpList_append_own _ rfl _ _ 48 rfl w.heap.size 5 i0 (.int .u8 0) 1 1 Tryz.underlying48 hi0 hz0 hz1 hz2 rfl (by decide) _ _ _ rfl HO.out ⟨wr.heap.size, 0, none⟩ 1 1 (Lib.byteCells [s[k]]) rfl rfl (news_alloc wr _ 5) (by simp [Lib.byteCells, Value.oneCell']) (by unfold maxLen; omega) (by omega) (by have := hb.size; simp; omega) ?_; intro v2 w2 hown2 hgrow2 _))
                have B2 := below_app (hb.alloc hb.size _) (Nat.le_refl _) (by have := hb.size; simp; omega) HO.out hgrow2
                have O2 : OwnB w2 w.heap.size v2 (l ++ [s[k]]) := OwnB.app hown2
                go_roundw
                case rel => exact ⟨k + 1, l ++ [s[k]], by omega, by omega, by simp; omega, by go_num, O2, B2, HX1⟩
                case measure => simp [intOf]; omega
              · rw [E1] at h3
                clear hx HB HN34 E1 E2 h92
                go_wp2_with (first | (go_at_call 17; refine (hexN_any _ (UInt8.toNat_lt _) _).mono ?_; rintro e w1 ⟨rfl, hw1⟩; rw [hw1]; clear hw1) | (with_reducible show wpList _ _ _ (⟨some 73, _, _, _, _, _⟩ :: _) _ _); go_must (refine wpList_append_own _ rfl _ _ 48 rfl w.heap.size 5 i0 (.int .u8 0) 1 1 Tryz.underlying48 hi0 hz0 hz1 hz2 rfl (by decide) _ _ _ rfl HO.out ⟨wr.heap.size, 0, none⟩ 1 1 (Lib.byteCells [s[k]]) rfl rfl (news_alloc wr _ 5) (by simp [Lib.byteCells, Value.oneCell']) (by unfold maxLen; omega) (by omega) (by have := hb.size; simp; omega) ?_; intro v2 w2 hown2 hgrow2 _))
                have B2 := below_app (hb.alloc hb.size _) (Nat.le_refl _) (by have := hb.size; simp; omega) HO.out hgrow2
                have O2 : OwnB w2 w.heap.size v2 (l ++ [s[k]]) := OwnB.app hown2
                go_roundw
                case rel => exact ⟨k + 1, l ++ [s[k]], by omega, by omega, by simp; omega, by go_num, O2, B2, HX1⟩
                case measure => simp [intOf]; omega
            · clear hx HB HN34 h92
              go_wp2_with (at_builtin; go_must (refine wpList_append_own _ rfl _ _ 48 rfl w.heap.size 5 i0 (.int .u8 0) 1 1 Tryz.underlying48 hi0 hz0 hz1 hz2 rfl (by decide) _ _ _ rfl HO.out ⟨wr.heap.size, 0, none⟩ 1 1 (Lib.byteCells [s[k]]) rfl rfl (news_alloc wr _ 5) (by simp [Lib.byteCells, Value.oneCell']) (by unfold maxLen; omega) (by omega) (by have := hb.size; simp; omega) ?_; intro v2 w2 hown2 hgrow2 _))
              have B2 := below_app (hb.alloc hb.size _) (Nat.le_refl _) (by have := hb.size; simp; omega) HO.out hgrow2
              have O2 : OwnB w2 w.heap.size v2 (l ++ [s[k]]) := OwnB.app hown2
              go_roundw
              case rel => exact ⟨k + 1, l ++ [s[k]], by omega, by omega, by simp; omega, by go_num, O2, B2, HX1⟩
              case measure => simp [intOf]; omega
          · have hb92 : ¬ ((s[k].toNat : Int) = 92) := u8_92 h92
            have hb92b : ((s[k].toNat : Int) == 92) = false := by simpa using hb92
            clear hx HB HN34
            go_wp2_with (at_builtin; go_must (refine wpList_append_own _ rfl _ _ 48 rfl w.heap.size 5 i0 (.int .u8 0) 1 1 Tryz.underlying48 hi0 hz0 hz1 hz2 rfl (by decide) _ _ _ rfl HO.out ⟨wr.heap.size, 0, none⟩ 1 1 (Lib.byteCells [s[k]]) rfl rfl (news_alloc wr _ 5) (by simp [Lib.byteCells, Value.oneCell']) (by unfold maxLen; omega) (by omega) (by have := hb.size; simp; omega) ?_; intro v2 w2 hown2 hgrow2 _))
            have B2 := below_app (hb.alloc hb.size _) (Nat.le_refl _) (by have := hb.size; simp; omega) HO.out hgrow2
            have O2 : OwnB w2 w.heap.size v2 (l ++ [s[k]]) := OwnB.app hown2
            go_roundw
            case rel => exact ⟨k + 1, l ++ [s[k]], by omega, by omega, by simp; omega, by go_num, O2, B2, HX1⟩
            case measure => simp [intOf]; omega
    · have HE := hid (show ∀ te, s = quS te → (⟨l.toArray⟩ : ByteArray) = te from fun te e => (UqAt.over HU.out hks te e).elim)
      have hcv := hown.conv0
      clear hown HU
      go_wp2
      refine bodyPost_ret (v := .tuple #[.string ⟨l.toArray⟩, .string ⟨#[]⟩]) (results_tmp2 (t := 2) (u := 3) rfl _ _ _) rfl ?_
      exact ⟨_, _, rfl, by rw [ba_len]; omega, HE.out, hb⟩
end Go.Proofs.YtcmimbohmninkaaGreatDoor
