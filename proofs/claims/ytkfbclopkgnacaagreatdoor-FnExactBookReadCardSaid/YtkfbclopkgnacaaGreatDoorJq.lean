import Derived.Test.YtkfbclopkgnacaaGreatDoorPe
import Derived.Test.YtkfbclopkgnacaaGreatDoorJn
namespace Go.Proofs.YtkfbclopkgnacaaGreatDoor
open Go.RowKit
set_option maxRecDepth 100000 in
set_option maxHeartbeats 8000000 in
theorem unquote_any (s : ByteArray) (hs : (s.size : Int) ≤ 1048576) (w : World) :
    Calls Tryz.prog 13 #[.string s] w fun e w' => ∃ r q : ByteArray, e = .returned (.tuple #[.string r, .string q]) ∧ (r.size ≤ s.size + 2 ∧ q.size ≤ s.size) ∧ (∀ te q2, s = quS te ++ q2 → r = te ∧ q = q2) ∧ Below w.heap.size w w' := by
  obtain ⟨i0, hi0, hz0, hz1, hz2⟩ := info_parts Tryz.info5
  have OW0 := hid (show OwnB (w.alloc (.cells #[] 5)) w.heap.size (.slice (some ⟨w.heap.size, 0, none⟩) 0 0) [] from World.ownsRow_made (base := w.heap.size) (e := 5) (size := 1) w #[] 0 (Nat.le_refl _) (by unfold maxLen; omega) rfl)
  go_enter Tryz.func13, Tryz.ntmps13
  go_wp2
  go_loopw [4, 5] (fun v i wr => ∃ (k : Nat) (l : List UInt8), 1 ≤ k ∧ k ≤ s.size + 2 ∧ l.length ≤ k ∧ i = .int .i64 k ∧ OwnB wr w.heap.size v l ∧ Below w.heap.size w wr ∧ Hid (UqAt s k l)) (fun _ i _ => s.size + 3 - (intOf i).toNat)
  case atStart => exact ⟨1, [], by omega, by omega, by simp, rfl, OW0.out, below_alloc _ _, hid (UqAt.start s)⟩
  case round =>
    obtain ⟨k, l, hk1, hk, hll, rfl, hown, hb, HU⟩ := hrel
    by_cases hks : k < s.size
    · have HB := hid (byteAt_eq s k hks)
      by_cases h34 : s[k] = 34
      · have hb34 : (s[k].toNat : Int) = 34 := by rw [h34]; rfl
        have hb34b : ((s[k].toNat : Int) == 34) = true := by simp [hb34]
        clear hb34
        have HE := hid (UqAt.ends HU.out (by rw [HB.out]; exact h34))
        have HCV := hid (fun X (hX : Below wr.heap.size wr X) => (hown.below hX).conv0)
        clear hown HU
        go_wp2_with fail
        refine uqReg6 _ _ _ _ _ _ _ _ _ _ _ _ _ _ _ _ _ _ _ _ _ _ _ _ _ _ _ _ _ _ _ _ _ _ _ _ _ _ _ _ _ _ _ _ _ _ _ _ _ _ _ _ _ _ _ _ _ _ _ _ _ _ _ _ _ _ _ _ _ _ _ _ _ s _ l k wr hks hs HCV.out _ ?_
        rintro t v3 X ⟨rfl, e6, hbX⟩
        rw [e6]
        have hBX : Below w.heap.size w X := hb.trans (hbX.mono hb.size)
        clear HCV
        go_wp2
        refine bodyPost_ret (v := .tuple #[.string ⟨l.toArray⟩, .string (s.extract (k + 1) s.size)]) (results_tmp2 (t := 2) (u := 3) rfl _ _ _) rfl ?_
        exact ⟨_, _, rfl, ⟨by rw [ba_len]; omega, by rw [ext_size _ _ _ (Nat.le_refl _)]; omega⟩, HE.out, hBX⟩
      · have hb34 : ¬ ((s[k].toNat : Int) = 34) := u8_34 h34
        have hb34b : ((s[k].toNat : Int) == 34) = false := by simpa using hb34
        have HN34 := hid (show byteAt s k ≠ 34 by rw [HB.out]; exact h34)
        by_cases hx : byteAt s k = 92 ∧ k + 2 < s.size ∧ 0 ≤ hexZ (byteAt s (k + 1)).toNat ∧ 0 ≤ hexZ (byteAt s (k + 2)).toNat
        · obtain ⟨x1, x2, x3, x4⟩ := hx
          have y3 := hexZ_le (byteAt s (k + 1)).toNat
          have y4 := hexZ_le (byteAt s (k + 2)).toNat
          obtain ⟨bb, hbb⟩ : ∃ bb : UInt8, 16 * hexZ (byteAt s (k + 1)).toNat + hexZ (byteAt s (k + 2)).toNat = (bb.toNat : Int) := ⟨UInt8.ofNat (16 * hexZ (byteAt s (k + 1)).toNat + hexZ (byteAt s (k + 2)).toNat).toNat, by rw [UInt8.toNat_ofNat']; omega⟩
          have HX1 := hid (UqAt.esc HU.out x1 hbb)
          have HBB := hid hbb
          have HO := hid hown
          have hb92 : (s[k].toNat : Int) = 92 := by
            rw [HB.out] at x1
            rw [x1]
            rfl
          have hb92b : ((s[k].toNat : Int) == 92) = true := by simp [hb92]
          clear hb92
          have E1 := byteAt_eq s (k + 1) (by omega)
          have E2 := byteAt_eq s (k + 2) (by omega)
          have z3 : 0 ≤ hexZ s[k + 1].toNat := by rw [← E1]; exact x3
          have z4 : 0 ≤ hexZ s[k + 2].toNat := by rw [← E2]; exact x4
          have XX := hid (And.intro x3 (And.intro x4 (And.intro y3 y4)))
          clear hown hbb HU x1 x3 x4 y3 y4 E1 E2 HB HN34
          go_wp2_with (go_at_call 27; refine (hexN_any _ (UInt8.toNat_lt _) _).mono ?_; rintro e w1 ⟨rfl, hw1⟩; rw [hw1]; clear hw1)
          refine uqReg8 _ _ _ _ _ _ _ _ _ _ _ _ _ _ _ _ _ _ _ _ _ _ _ _ _ _ _ _ _ _ _ _ _ _ _ _ _ _ _ _ _ _ _ _ _ _ _ _ _ _ _ _ _ _ _ _ _ _ _ _ _ _ _ _ _ _ _ _ _ _ _ _ _ s _ l k bb wr w.heap.size hb.size x2 hs XX.out.1 XX.out.2.2.1 XX.out.2.1 XX.out.2.2.2 HBB.out (by omega) HO.out _ ?_
          rintro t v3 X ⟨O3, hbX⟩
          have hBX : Below w.heap.size w X := hb.trans hbX
          have HO3 := hid O3
          clear O3 HO
          go_wp2
          go_roundw
          case rel => exact ⟨k + 3, l ++ [bb], by omega, by omega, by simp; omega, by go_num, HO3.out, hBX, HX1⟩
          case measure => simp [intOf]; omega
        · have HX1 := hid (show UqAt s (k + 1) (l ++ [s[k]]) by rw [← HB.out]; exact UqAt.plain HU.out HN34.out hx)
          have HO := hid (hown.alloc (.cells #[.int .u8 (s[k].toNat : Int)] 5))
          clear hown HU
          by_cases h92 : s[k] = 92
          · have hb92 : (s[k].toNat : Int) = 92 := by rw [h92]; rfl
            have hb92b : ((s[k].toNat : Int) == 92) = true := by simp [hb92]
            clear hb92
            by_cases h2 : k + 2 < s.size
            · have E1 := byteAt_eq s (k + 1) (by omega)
              have E2 := byteAt_eq s (k + 2) (by omega)
              by_cases h3 : 0 ≤ hexZ (byteAt s (k + 1)).toNat
              · have h4 : ¬ 0 ≤ hexZ (byteAt s (k + 2)).toNat := fun h4 => hx ⟨by rw [HB.out]; exact h92, h2, h3, h4⟩
                rw [E1] at h3
                rw [E2] at h4
                clear hx HB HN34 E1 E2 h92
                go_wp2_with (first | (go_at_call 27; refine (hexN_any _ (UInt8.toNat_lt _) _).mono ?_; rintro e w1 ⟨rfl, hw1⟩; rw [hw1]; clear hw1) | (with_reducible show wpList _ _ _ (⟨some 73, _, _, _, _, _⟩ :: _) _ _); go_must (refine wpList_append_own _ rfl _ _ 54 rfl w.heap.size 5 i0 (.int .u8 0) 1 1 Tryz.underlying54 hi0 hz0 hz1 hz2 rfl (by decide) _ _ _ rfl HO.out ⟨wr.heap.size, 0, none⟩ 1 1 (Lib.byteCells [s[k]]) rfl rfl (news_alloc wr _ 5) (by simp [Lib.byteCells, Value.oneCell']) (by unfold maxLen; omega) (by omega) (by have := hb.size; simp; omega) ?_; intro v2 w2 hown2 hgrow2 _))
                have B2 := below_app (hb.alloc hb.size _) (Nat.le_refl _) (by have := hb.size; simp; omega) HO.out hgrow2
                have O2 : OwnB w2 w.heap.size v2 (l ++ [s[k]]) := OwnB.app hown2
                go_roundw
                case rel => exact ⟨k + 1, l ++ [s[k]], by omega, by omega, by simp; omega, by go_num, O2, B2, HX1⟩
                case measure => simp [intOf]; omega
              · rw [E1] at h3
                clear hx HB HN34 E1 E2 h92
                go_wp2_with (first | (go_at_call 27; refine (hexN_any _ (UInt8.toNat_lt _) _).mono ?_; rintro e w1 ⟨rfl, hw1⟩; rw [hw1]; clear hw1) | (with_reducible show wpList _ _ _ (⟨some 73, _, _, _, _, _⟩ :: _) _ _); go_must (refine wpList_append_own _ rfl _ _ 54 rfl w.heap.size 5 i0 (.int .u8 0) 1 1 Tryz.underlying54 hi0 hz0 hz1 hz2 rfl (by decide) _ _ _ rfl HO.out ⟨wr.heap.size, 0, none⟩ 1 1 (Lib.byteCells [s[k]]) rfl rfl (news_alloc wr _ 5) (by simp [Lib.byteCells, Value.oneCell']) (by unfold maxLen; omega) (by omega) (by have := hb.size; simp; omega) ?_; intro v2 w2 hown2 hgrow2 _))
                have B2 := below_app (hb.alloc hb.size _) (Nat.le_refl _) (by have := hb.size; simp; omega) HO.out hgrow2
                have O2 : OwnB w2 w.heap.size v2 (l ++ [s[k]]) := OwnB.app hown2
                go_roundw
                case rel => exact ⟨k + 1, l ++ [s[k]], by omega, by omega, by simp; omega, by go_num, O2, B2, HX1⟩
                case measure => simp [intOf]; omega
            · clear hx HB HN34 h92
              go_wp2_with (at_builtin; go_must (refine wpList_append_own _ rfl _ _ 54 rfl w.heap.size 5 i0 (.int .u8 0) 1 1 Tryz.underlying54 hi0 hz0 hz1 hz2 rfl (by decide) _ _ _ rfl HO.out ⟨wr.heap.size, 0, none⟩ 1 1 (Lib.byteCells [s[k]]) rfl rfl (news_alloc wr _ 5) (by simp [Lib.byteCells, Value.oneCell']) (by unfold maxLen; omega) (by omega) (by have := hb.size; simp; omega) ?_; intro v2 w2 hown2 hgrow2 _))
              have B2 := below_app (hb.alloc hb.size _) (Nat.le_refl _) (by have := hb.size; simp; omega) HO.out hgrow2
              have O2 : OwnB w2 w.heap.size v2 (l ++ [s[k]]) := OwnB.app hown2
              go_roundw
              case rel => exact ⟨k + 1, l ++ [s[k]], by omega, by omega, by simp; omega, by go_num, O2, B2, HX1⟩
              case measure => simp [intOf]; omega
          · have hb92 : ¬ ((s[k].toNat : Int) = 92) := u8_92 h92
            have hb92b : ((s[k].toNat : Int) == 92) = false := by simpa using hb92
            clear hx HB HN34
            go_wp2_with (at_builtin; go_must (refine wpList_append_own _ rfl _ _ 54 rfl w.heap.size 5 i0 (.int .u8 0) 1 1 Tryz.underlying54 hi0 hz0 hz1 hz2 rfl (by decide) _ _ _ rfl HO.out ⟨wr.heap.size, 0, none⟩ 1 1 (Lib.byteCells [s[k]]) rfl rfl (news_alloc wr _ 5) (by simp [Lib.byteCells, Value.oneCell']) (by unfold maxLen; omega) (by omega) (by have := hb.size; simp; omega) ?_; intro v2 w2 hown2 hgrow2 _))
            have B2 := below_app (hb.alloc hb.size _) (Nat.le_refl _) (by have := hb.size; simp; omega) HO.out hgrow2
            have O2 : OwnB w2 w.heap.size v2 (l ++ [s[k]]) := OwnB.app hown2
            go_roundw
            case rel => exact ⟨k + 1, l ++ [s[k]], by omega, by omega, by simp; omega, by go_num, O2, B2, HX1⟩
            case measure => simp [intOf]; omega
    · have HE := hid (show ∀ te q2, s = quS te ++ q2 → (⟨l.toArray⟩ : ByteArray) = te ∧ (⟨#[]⟩ : ByteArray) = q2 from fun te q2 e => (UqAt.over HU.out hks te q2 e).elim)
      have hcv := hown.conv0
      clear hown HU
      go_wp2
      refine bodyPost_ret (v := .tuple #[.string ⟨l.toArray⟩, .string ⟨#[]⟩]) (results_tmp2 (t := 2) (u := 3) rfl _ _ _) rfl ?_
      exact ⟨_, _, rfl, ⟨by rw [ba_len]; omega, Nat.zero_le _⟩, HE.out, hb⟩
end Go.Proofs.YtkfbclopkgnacaaGreatDoor
namespace Go.Proofs.YtkfbclopkgnacaaGreatDoor
open Go.RowKit Go.Shelf
set_option maxRecDepth 100000 in
set_option maxHeartbeats 4000000 in
theorem wordsN_any (kk : Nat) (hk0 : 1 ≤ kk) (hkk : kk ≤ 7) (s0 : ByteArray) (hs0 : (s0.size : Int) ≤ 1048576) (w : World) :
    Calls Tryz.prog 10 #[.string s0, .int .i64 kk] w fun e w' => ∃ g cap, e = .returned (.tuple #[.slice (some ⟨g, 0, none⟩) kk cap, .string (rN s0 kk)]) ∧ (∀ j, j < kk → w'.cell? ⟨g, j, none⟩ = some (.string (wH (rN s0 j)))) ∧ g < w'.heap.size ∧ Below w.heap.size w w' := by
  obtain ⟨i0, hi0, hi1, hi2, hi3⟩ := info_parts Tryz.info9
  have OW0 := hid (World.ownsRow_made (base := w.heap.size) (e := 9) (size := 1) w #[] 0 (Nat.le_refl _) (by unfold maxLen; omega) rfl)
  go_enter Tryz.func10, Tryz.ntmps10
  go_wp2
  go_loopw [0, 6, 7] (fun sv v i wr => ∃ k : Nat, k ≤ kk ∧ sv = .string (rN s0 k) ∧ i = .int .i64 k ∧ Below w.heap.size w wr ∧ wr.ownsRow w.heap.size 9 1 v k (sC ((List.range k).map fun j => wH (rN s0 j)))) (fun _ _ i _ => kk - (intOf i).toNat)
  case atStart => exact ⟨0, Nat.zero_le _, rfl, rfl, below_alloc _ _, OW0.out⟩
  case round =>
    obtain ⟨k, hk, rfl, rfl, hb, own⟩ := hrel
    have OWN := hid own
    clear own
    by_cases hk7 : k < kk
    · have hsz : ((rN s0 k).size : Int) ≤ 1048576 := by have := rN_size s0 k; omega
      have HRN := hid (show rN s0 (k + 1) = wR (rN s0 k) from rfl)
      generalize hsk : rN s0 k = s at *
      have HSK := hid hsk
      clear hsk
      go_wp2
      go_loop [8] (fun n => ∃ m : Nat, m ≤ s.size ∧ n = .int .i64 m ∧ Hid (∀ j, j < m → byteAt s j ≠ 32)) (fun n => s.size - (intOf n).toNat)
      case atStart => exact ⟨0, Nat.zero_le _, rfl, hid (fun j hj => absurd hj (Nat.not_lt_zero _))⟩
      case round =>
        obtain ⟨m, hm, rfl, HA⟩ := hrel
        by_cases hms : m < s.size
        · have HB := hid (byteAt_eq s m hms)
          by_cases h32 : s[m] = 32
          · have hend : IsEnd s m := ⟨hm, HA.out, fun _ => by rw [HB.out]; exact h32⟩
            have HWE := hid (wE_eq hend)
            have HH := hid (show wH (rN s0 k) = s.extract 0 m by rw [HSK.out]; unfold wH; rw [HWE.out])
            have RNX := hid (show Value.string (s.extract (m + 1) s.size) = Value.string (rN s0 (k + 1)) from str_val (by rw [HRN.out]; unfold wR wS; rw [HWE.out, if_pos hms]))
            have hb32 : (s[m].toNat : Int) = 32 := by rw [h32]; rfl
            have h32b : ((s[m].toNat : Int) == 32) = true := by simp [hb32]
            clear hend
            have own5 := OWN.out.alloc (.cells #[.string (s.extract 0 m)] 9)
            have NW := news_alloc wr [.string (s.extract 0 m)] 9
            go_wp2_with ((with_reducible show wpList _ _ _ (⟨some 32, _, _, _, _, _⟩ :: _) _ _); go_must (refine wpList_append_own_at _ rfl _ _ 32 rfl w.heap.size 9 i0 _ 1 16 Tryz.underlying32 hi0 hi1 hi2 hi3 rfl (by decide) _ k _ rfl own5 ⟨wr.heap.size, 0, none⟩ 1 1 [.string (s.extract 0 m)] rfl rfl NW (by simp [Value.oneCell']) (by unfold maxLen; omega) (by omega) (by simp; have := hb.size; omega) ?_; intro v6 w6 own6 grow6 nil6 at6; have HO6 := hid own6; have HG6 := hid grow6; clear own6 grow6 nil6 at6 own5 NW))
            go_roundw
            case rel =>
              refine ⟨k + 1, by omega, RNX.out, by go_num, (hb.alloc hb.size _).grown HG6.out (by simp; have := hb.size; omega) (fun r e => (OWN.out.lt r e).1), ?_⟩
              rw [List.range_succ, List.map_append, List.map_cons, List.map_nil, sC_snoc', HH.out]
              exact HO6.out
            case measure => simp [intOf]; omega
          · have HN := hid (show ∀ j, j < m + 1 → byteAt s j ≠ 32 from fun j hj => by
              by_cases e : j = m
              · rw [e, HB.out]; exact h32
              · exact HA.out j (by omega))
            have hb32 : ¬ ((s[m].toNat : Int) = 32) := fun e => h32 (by
              have e2 : s[m].toNat = 32 := by omega
              exact UInt8.toNat_inj.1 e2)
            have h32b : ((s[m].toNat : Int) == 32) = false := by simpa using hb32
            go_wp2
            go_round
            case rel => exact ⟨m + 1, by omega, by go_num, HN⟩
            case measure => simp [intOf]; omega
        · obtain rfl : m = s.size := by omega
          have hend : IsEnd s s.size := ⟨hm, HA.out, fun h => absurd h (Nat.lt_irrefl _)⟩
          have HWE := hid (wE_eq hend)
          have HH := hid (show wH (rN s0 k) = s by
            rw [HSK.out]; unfold wH; rw [HWE.out]
            refine pa_ext ?_
            rw [pa_extract, List.drop_zero, List.take_of_length_le (by rw [pa_len]; omega)])
          have RNX := hid (show Value.string ByteArray.empty = Value.string (rN s0 (k + 1)) from str_val (by
            rw [HRN.out]; unfold wR wS; rw [HWE.out, if_neg (Nat.lt_irrefl _)]
            refine pa_ext ?_
            rw [pa_extract, Nat.sub_self, List.take_zero]
            rfl))
          clear hend
          have own5 := OWN.out.alloc (.cells #[.string s] 9)
          have NW := news_alloc wr [.string s] 9
          go_wp2_with ((with_reducible show wpList _ _ _ (⟨some 32, _, _, _, _, _⟩ :: _) _ _); go_must (refine wpList_append_own_at _ rfl _ _ 32 rfl w.heap.size 9 i0 _ 1 16 Tryz.underlying32 hi0 hi1 hi2 hi3 rfl (by decide) _ k _ rfl own5 ⟨wr.heap.size, 0, none⟩ 1 1 [.string s] rfl rfl NW (by simp [Value.oneCell']) (by unfold maxLen; omega) (by omega) (by simp; have := hb.size; omega) ?_; intro v6 w6 own6 grow6 nil6 at6; have HO6 := hid own6; have HG6 := hid grow6; clear own6 grow6 nil6 at6 own5 NW))
          go_roundw
          case rel =>
            refine ⟨k + 1, by omega, RNX.out, by go_num, (hb.alloc hb.size _).grown HG6.out (by simp; have := hb.size; omega) (fun r e => (OWN.out.lt r e).1), ?_⟩
            rw [List.range_succ, List.map_append, List.map_cons, List.map_nil, sC_snoc', HH.out]
            exact HO6.out
          case measure => simp [intOf]; omega
    · obtain rfl : kk = k := by omega
      obtain ⟨g', cap', cur, e', l1, l2, l3, _⟩ := OWN.out.2.resolve_left (fun h => by omega)
      subst e'
      have HL := hid (OWN.out.lt g' rfl).2
      have HCE := hid (show ∀ j, j < kk → wr.cell? ⟨g', j, none⟩ = some (.string (wH (rN s0 j))) from fun j hj => by
        rw [OWN.out.cellAt j (by omega)]
        simp [sC, hj])
      clear l1 l2
      go_wp2
      refine bodyPost_ret (v := .tuple #[.slice (some ⟨g', 0, none⟩) kk cap', .string (rN s0 kk)]) (by simp [results, Tryz.results10, go_sem]) rfl ?_
      exact ⟨g', cap', rfl, HCE.out, HL.out, hb⟩
/-- a text, cut at each byte b -/
def cutG (b : UInt8) : List ByteArray → List UInt8 → List UInt8 → List ByteArray
  | out, cur, [] => out ++ [⟨cur.toArray⟩]
  | out, cur, c :: t => if c = b then cutG b (out ++ [⟨cur.toArray⟩]) [] t else cutG b out (cur ++ [c]) t
theorem cutG_pre (b : UInt8) : ∀ (l : List UInt8) (out : List ByteArray) (cur m : List UInt8), (∀ c ∈ l, c ≠ b) → cutG b out cur (l ++ m) = cutG b out (cur ++ l) m
  | [], out, cur, m, _ => by simp
  | c :: l, out, cur, m, h => by
    rw [List.cons_append, cutG, if_neg (h c (by simp)), cutG_pre b l out (cur ++ [c]) m (fun d hd => h d (by simp [hd]))]
    simp
theorem cutG_at (b : UInt8) (out : List ByteArray) (cur m : List UInt8) : cutG b out cur (b :: m) = cutG b (out ++ [⟨cur.toArray⟩]) [] m := by rw [cutG, if_pos rfl]
set_option maxRecDepth 100000 in
set_option maxHeartbeats 4000000 in
theorem cut_any (s : ByteArray) (b : UInt8) (hs : (s.size : Int) ≤ 1048576) (w : World) :
    Calls Tryz.prog 9 #[.string s, .int .u8 (b.toNat : Int)] w fun e w' => ∃ (v : Value) (xs : List ByteArray), e = .returned v ∧ w'.ownsRow w.heap.size 9 1 v xs.length (sC xs) ∧ xs = cutG b [] [] s.data.toList ∧ (xs.length ≤ s.size + 1 ∧ ∀ x ∈ xs, x.size ≤ s.size) ∧ Below w.heap.size w w' := by
  obtain ⟨i0, hi0, hi1, hi2, hi3⟩ := info_parts Tryz.info9
  have OW0 := hid (World.ownsRow_made (base := w.heap.size) (e := 9) (size := 1) w #[] 0 (Nat.le_refl _) (by unfold maxLen; omega) rfl)
  go_enter Tryz.func9, Tryz.ntmps9
  go_wp2
  go_loopw [5, 6, 7] (fun v f i wr => ∃ (p k : Nat) (l : List ByteArray), p ≤ k ∧ k ≤ s.size ∧ l.length ≤ k ∧ f = .int .i64 p ∧ i = .int .i64 k ∧ Hid (wr.ownsRow w.heap.size 9 1 v l.length (sC l)) ∧ Hid (Below w.heap.size w wr) ∧ Hid (cutG b [] [] s.data.toList = cutG b l ((s.data.toList.drop p).take (k - p)) (s.data.toList.drop k)) ∧ Hid (∀ x ∈ l, x.size ≤ s.size)) (fun _ _ i _ => s.size - (intOf i).toNat)
  case atStart => exact ⟨0, 0, [], by omega, by omega, by simp, rfl, rfl, OW0, hid (below_alloc' _ _), hid (by simp), hid (fun x hx => absurd hx (by simp))⟩
  case round =>
    obtain ⟨p, k, l, hpk, hk, hlk, rfl, rfl, HO, HB, HC, HX⟩ := hrel
    clear OW0
    have hsl : (s.extract p k).size ≤ s.size := by rw [ext_size _ _ _ hk]; omega
    by_cases hks : k < s.size
    · have HKL : Hid (s.data.toList.drop k = s[k] :: s.data.toList.drop (k + 1)) := hid (by
        rw [List.drop_eq_getElem_cons (by rw [pa_len]; exact hks)]
        rfl)
      by_cases hb : s[k] = b
      · have hbb : ((s[k].toNat : Int) == (b.toNat : Int)) = true := by rw [hb]; simp
        have own5 := HO.out.alloc (.cells #[.string (s.extract p k)] 9)
        have NW := news_alloc wr [.string (s.extract p k)] 9
        have HCX : Hid (cutG b [] [] s.data.toList = cutG b (l ++ [s.extract p k]) [] (s.data.toList.drop (k + 1))) := hid (by
          rw [HC.out, HKL.out, hb, cutG_at]
          congr 1
          rw [show (⟨((s.data.toList.drop p).take (k - p)).toArray⟩ : ByteArray) = s.extract p k from pa_ext (by rw [pa_extract])])
        clear hb
        have hbs := HB.out.size
        go_wp2_with (at_builtin; go_must (refine wpList_append_own _ rfl _ _ 32 rfl w.heap.size 9 i0 (.string ⟨#[]⟩) 1 16 Tryz.underlying32 hi0 hi1 hi2 hi3 rfl (by decide) _ _ _ rfl own5 ⟨wr.heap.size, 0, none⟩ 1 1 [.string (s.extract p k)] rfl rfl NW (by simp [Value.oneCell']) (by unfold maxLen; omega) (by omega) (by simp; omega) ?_; intro v6 w6 own6 grow6 _; have HO6 := hid own6; have HG6 := hid grow6; clear own6 grow6 own5 NW))
        go_roundw
        case rel =>
          refine ⟨k + 1, k + 1, l ++ [s.extract p k], by omega, by omega, by simp; omega, by go_num, by go_num, hid (by rw [sC_snoc', List.length_append]; exact HO6.out), hid ((HB.out.alloc hbs _).grown HG6.out (by simp; omega) (fun r e => (HO.out.lt r e).1)), hid (by rw [HCX.out]; simp), hid (fun x hx => ?_)⟩
          rcases List.mem_append.1 hx with hx | hx
          · exact HX.out x hx
          · rw [List.mem_singleton.1 hx]; exact hsl
        case measure => simp [intOf]; omega
      · have hbb : ((s[k].toNat : Int) == (b.toNat : Int)) = false := by
          simp only [beq_eq_false_iff_ne, ne_eq]
          intro e
          exact hb (UInt8.toNat_inj.1 (by omega))
        have HCX : Hid (cutG b [] [] s.data.toList = cutG b l ((s.data.toList.drop p).take (k + 1 - p)) (s.data.toList.drop (k + 1))) := hid (by
          rw [HC.out, HKL.out, cutG, if_neg hb]
          congr 1
          rw [show k + 1 - p = (k - p) + 1 by omega, List.take_add_one, List.getElem?_drop, show p + (k - p) = k by omega, List.getElem?_eq_getElem (by rw [pa_len]; exact hks)]
          rfl)
        clear hb
        go_wp2
        go_roundw
        case rel => exact ⟨p, k + 1, l, by omega, by omega, by omega, rfl, by go_num, HO, HB, HCX, HX⟩
        case measure => simp [intOf]; omega
    · have hke : k = s.size := by omega
      have own5 := HO.out.alloc (.cells #[.string (s.extract p s.size)] 9)
      have NW := news_alloc wr [.string (s.extract p s.size)] 9
      have HCX : Hid (l ++ [s.extract p s.size] = cutG b [] [] s.data.toList) := hid (by
        rw [HC.out, hke, show s.data.toList.drop s.size = [] from List.drop_eq_nil_of_le (by rw [pa_len]; exact Nat.le_refl _), cutG]
        rw [show (⟨((s.data.toList.drop p).take (s.size - p)).toArray⟩ : ByteArray) = s.extract p s.size from pa_ext (by rw [pa_extract])])
      have hsl2 : (s.extract p s.size).size ≤ s.size := by rw [ext_size _ _ _ (Nat.le_refl _)]; omega
      have hbs := HB.out.size
      go_wp2_with (at_builtin; go_must (refine wpList_append_own _ rfl _ _ 32 rfl w.heap.size 9 i0 (.string ⟨#[]⟩) 1 16 Tryz.underlying32 hi0 hi1 hi2 hi3 rfl (by decide) _ _ _ rfl own5 ⟨wr.heap.size, 0, none⟩ 1 1 [.string (s.extract p s.size)] rfl rfl NW (by simp [Value.oneCell']) (by unfold maxLen; omega) (by omega) (by simp; omega) ?_; intro v6 w6 own6 grow6 _; have HO6 := hid own6; have HG6 := hid grow6; clear own6 grow6 own5 NW))
      go_ret
      refine ⟨_, l ++ [s.extract p s.size], rfl, by rw [sC_snoc', List.length_append]; exact HO6.out, HCX.out, ⟨by simp; omega, fun x hx => ?_⟩, (HB.out.alloc hbs _).grown HG6.out (by simp; omega) (fun r e => (HO.out.lt r e).1)⟩
      rcases List.mem_append.1 hx with hx | hx
      · exact HX.out x hx
      · rw [List.mem_singleton.1 hx]; exact hsl2
/-- texts with a space between them -/
def jn : List ByteArray → List UInt8 | [] => [] | x :: zs => x.data.toList ++ spL zs
theorem spL_jn (x : ByteArray) (zs : List ByteArray) : spL (x :: zs) = 32 :: jn (x :: zs) := rfl
theorem jn_cons2 (x y : ByteArray) (zs : List ByteArray) : jn (x :: y :: zs) = x.data.toList ++ 32 :: jn (y :: zs) := rfl
theorem cutG_jn : ∀ (zs : List ByteArray) (x : ByteArray) (out : List ByteArray) (cur : List UInt8), (∀ y ∈ x :: zs, ∀ c ∈ y.data.toList, c ≠ 32) → cutG 32 out cur (jn (x :: zs)) = out ++ (⟨(cur ++ x.data.toList).toArray⟩ :: zs)
  | [], x, out, cur, h => by
    show cutG 32 out cur (x.data.toList ++ []) = _
    rw [cutG_pre 32 _ _ _ _ (h x (by simp)), cutG]
  | y :: zs, x, out, cur, h => by
    rw [jn_cons2, cutG_pre 32 _ _ _ _ (h x (by simp)), cutG_at, cutG_jn zs y _ [] (fun z hz => h z (by simp at hz ⊢; exact Or.inr hz))]
    simp
theorem cutG_lns (l : List Ln) : ∀ (out : List ByteArray), (∀ n ∈ l, ∀ c ∈ n.l, c ≠ 10) → cutG 10 out [] (lnF l) = out ++ (l.map (fun n => (⟨n.l.toArray⟩ : ByteArray)) ++ [⟨#[]⟩]) := by
  induction l with
  | nil => intro out _; simp [lnF, cutG]
  | cons n l ih =>
    intro out h
    rw [lnF_cons, cutG_pre 10 _ _ _ _ (h n (by simp)), cutG_at, ih _ (fun m hm => h m (by simp [hm]))]
    simp
theorem wd_last {s x : ByteArray} (h : s.data.toList = jn [x]) (hx : Wrd x.data.toList) : wH s = x ∧ wR s = ⟨#[]⟩ := by
  have e : s = x := pa_ext (by rw [h]; simp [jn, spL])
  subst e
  have hE : IsEnd s s.size := ⟨Nat.le_refl _, fun j hj => (hx.ne _ (by rw [byteAt_list, List.getElem?_eq_getElem (by rw [pa_len]; exact hj)]; exact List.getElem_mem _)).1, fun h => absurd h (Nat.lt_irrefl _)⟩
  unfold wH wR wS
  rw [wE_eq hE, if_neg (Nat.lt_irrefl _)]
  exact ⟨pa_ext (by simp), pa_ext (by simp)⟩
theorem noSp_wrd {x : ByteArray} (hx : Wrd x.data.toList) : NoSp x := fun j hj => (hx.ne _ (by rw [byteAt_list, List.getElem?_eq_getElem (by rw [pa_len]; exact hj)]; exact List.getElem_mem _)).1
theorem wd_step {s x : ByteArray} {zs : List ByteArray} (h : s.data.toList = jn (x :: zs)) (hx : Wrd x.data.toList) : wH s = x ∧ (wR s).data.toList = jn zs := by
  cases zs with
  | nil =>
    obtain ⟨h1, h2⟩ := wd_last h hx
    exact ⟨h1, by rw [h2]; rfl⟩
  | cons y zs =>
    have e : s = x ++ (⟨#[32]⟩ : ByteArray) ++ ⟨(jn (y :: zs)).toArray⟩ := pa_ext (by rw [h, jn_cons2, pa_append, pa_append]; simp)
    rw [e, wH_app (noSp_wrd hx), wR_app (noSp_wrd hx)]
    exact ⟨rfl, rfl⟩
end Go.Proofs.YtkfbclopkgnacaaGreatDoor
namespace Go.Proofs.YtkfbclopkgnacaaGreatDoor
open Go.RowKit Go.Shelf
/-- what reading a number comes to -/
def NuT (s : ByteArray) (r : Int) : Prop := (-1 ≤ r ∧ r ≤ 9999999) ∧ ∀ m : Nat, m ≤ 9999999 → s = dS m → r = m
theorem there_setCells {b : Nat} : ∀ (vs : List Value) (o : Nat) (w : World) {c n : Nat}, w.there c 0 n → (w.setCells b o vs).there c 0 n
  | [], _, _, _, _, h => h
  | v :: r, o, w, _, _, h => there_setCells r (o + 1) (w.setCell ⟨b, o, none⟩ v) (there_set h)
def roG (g cap wz : Nat) (w0 w1 w2 w3 w4 : ByteArray) : Nat → Value → World → Prop
  | 0, v, _ => v = (.slice (some ⟨g, 0, none⟩) 5 cap)
  | 1, v, _ => v = .pointer (some ⟨g, 0, none⟩)
  | 2, v, _ => v = .string w0
  | 3, v, _ => v = (.slice (some ⟨g, 0, none⟩) 5 cap)
  | 4, v, _ => v = .pointer (some ⟨g, 1, none⟩)
  | 5, v, _ => v = .string w1
  | 6, v, _ => v = (.slice (some ⟨g, 0, none⟩) 5 cap)
  | 7, v, _ => v = .pointer (some ⟨g, 2, none⟩)
  | 8, v, _ => v = .string w2
  | 9, v, _ => ∃ r : Int, v = .int .i64 r ∧ NuT w2 r
  | 10, v, _ => v = (.slice (some ⟨g, 0, none⟩) 5 cap)
  | 11, v, _ => v = .pointer (some ⟨g, 3, none⟩)
  | 12, v, _ => v = .string w3
  | 13, v, _ => ∃ r : Int, v = .int .i64 r ∧ NuT w3 r
  | 14, v, _ => v = (.slice (some ⟨g, 0, none⟩) 5 cap)
  | 15, v, _ => v = .pointer (some ⟨g, 4, none⟩)
  | 16, v, _ => v = .string w4
  | 17, v, _ => v = .bool (w4.toList == [101, 110, 100, 105, 110, 103])
  | 18, v, _ => ∃ r2 r3 : Int, v = .agg #[.string w0, .string w1, .int .i64 r2, .int .i64 r3, .string ⟨#[]⟩, .bool (w4.toList == [101, 110, 100, 105, 110, 103]), .slice none 0 0] ∧ NuT w2 r2 ∧ NuT w3 r3
  | 19, v, X => ∃ B : Nat, v = .pointer (some ⟨B, 0, none⟩) ∧ wz ≤ B ∧ B < X.heap.size ∧ X.there B 0 7
  | _, _, _ => True
set_option maxRecDepth 100000 in
set_option maxHeartbeats 4000000 in
theorem roReg2 (p0 p1 p2 p4 p5 p6 p7 p8 p9 p10 p11 p12 p13 p14 p15 p16 p17 p18 p19 p20 p21 p22 p23 p24 p25 p26 p27 p28 p29 p30 p31 p32 p33 p34 p35 p36 p37 p38 p39 p40 p41 p42 p43 p44 p45 p46 : Value) (g cap : Nat) (w0 w1 w2 w3 w4 : ByteArray) (W : World) (hgW : g < W.heap.size) (c0 : W.cell? ⟨g, 0, none⟩ = some (.string w0)) (c1 : W.cell? ⟨g, 1, none⟩ = some (.string w1)) (c2 : W.cell? ⟨g, 2, none⟩ = some (.string w2)) (c3 : W.cell? ⟨g, 3, none⟩ = some (.string w3)) (c4 : W.cell? ⟨g, 4, none⟩ = some (.string w4)) (hw2 : (w2.size : Int) ≤ 1048576) (hw3 : (w3.size : Int) ≤ 1048576) (Q : Exit → Act → World → Prop)
    (hQ : ∀ (t : Nat → Value) (r2 r3 : Int) (B : Nat) (Y : World), t 19 = .pointer (some ⟨B, 0, none⟩) → W.heap.size ≤ B → B < Y.heap.size → Y.there B 0 7 → Y.rangeAt B 0 [.string w0, .string w1, .int .i64 r2, .int .i64 r3, .string ⟨#[]⟩, .bool (w4.toList == [101, 110, 100, 105, 110, 103]), .slice none 0 0] → NuT w2 r2 → NuT w3 r3 → Below W.heap.size W Y → Q .normal ⟨#[p0, p1, p2, (.slice (some ⟨g, 0, none⟩) 5 cap), p4, t 19, p6, p7, p8, p9, p10, p11, p12, t 0, t 1, t 2, t 3, t 4, t 5, t 6, t 7, t 8, t 9, t 10, t 11, t 12, t 13, t 14, t 15, t 16, t 17, t 18, p32, p33, p34, p35, p36, p37, p38, p39, p40, p41, p42, p43, p44, p45, p46], []⟩ Y) :
    Code.wp Tryz.prog (Code.region 2 #[{ dst := some 13, op := Op.move (Operand.tmp 3), type := 32, pos := "l9_book_form.go:123", after := #[], guard := none }, { dst := some 14, op := Op.indexAddr 32 (Operand.tmp 13) (Operand.const (Value.int IntKind.i64 0)), type := 0, pos := "l9_book_form.go:123", after := #[{ on := 0, ground := Ground.data }], guard := none }, { dst := some 15, op := Op.load 9 (Operand.tmp 14), type := 9, pos := "l9_book_form.go:123", after := #[{ on := 1, ground := Ground.data }], guard := none }, { dst := some 16, op := Op.move (Operand.tmp 3), type := 32, pos := "l9_book_form.go:123", after := #[], guard := none }, { dst := some 17, op := Op.indexAddr 32 (Operand.tmp 16) (Operand.const (Value.int IntKind.i64 1)), type := 0, pos := "l9_book_form.go:123", after := #[{ on := 3, ground := Ground.data }], guard := none }, { dst := some 18, op := Op.load 9 (Operand.tmp 17), type := 9, pos := "l9_book_form.go:123", after := #[{ on := 4, ground := Ground.data }], guard := none }, { dst := some 19, op := Op.move (Operand.tmp 3), type := 32, pos := "l9_book_form.go:123", after := #[], guard := none }, { dst := some 20, op := Op.indexAddr 32 (Operand.tmp 19) (Operand.const (Value.int IntKind.i64 2)), type := 0, pos := "l9_book_form.go:123", after := #[{ on := 6, ground := Ground.data }], guard := none }, { dst := some 21, op := Op.load 9 (Operand.tmp 20), type := 9, pos := "l9_book_form.go:123", after := #[{ on := 7, ground := Ground.data }], guard := none }, { dst := some 22, op := Op.call { callee := Callee.value (Operand.func 11), args := #[Operand.tmp 21], argTypes := #[9] }, type := 3, pos := "l9_book_form.go:123", after := #[{ on := 8, ground := Ground.data }], guard := none }, { dst := some 23, op := Op.move (Operand.tmp 3), type := 32, pos := "l9_book_form.go:123", after := #[], guard := none }, { dst := some 24, op := Op.indexAddr 32 (Operand.tmp 23) (Operand.const (Value.int IntKind.i64 3)), type := 0, pos := "l9_book_form.go:123", after := #[{ on := 10, ground := Ground.data }], guard := none }, { dst := some 25, op := Op.load 9 (Operand.tmp 24), type := 9, pos := "l9_book_form.go:123", after := #[{ on := 11, ground := Ground.data }], guard := none }, { dst := some 26, op := Op.call { callee := Callee.value (Operand.func 11), args := #[Operand.tmp 25], argTypes := #[9] }, type := 3, pos := "l9_book_form.go:123", after := #[{ on := 12, ground := Ground.data }, { on := 9, ground := Ground.chain }], guard := none }, { dst := some 27, op := Op.move (Operand.tmp 3), type := 32, pos := "l9_book_form.go:123", after := #[], guard := none }, { dst := some 28, op := Op.indexAddr 32 (Operand.tmp 27) (Operand.const (Value.int IntKind.i64 4)), type := 0, pos := "l9_book_form.go:123", after := #[{ on := 14, ground := Ground.data }], guard := none }, { dst := some 29, op := Op.load 9 (Operand.tmp 28), type := 9, pos := "l9_book_form.go:123", after := #[{ on := 15, ground := Ground.data }], guard := none }, { dst := some 30, op := Op.binOp BinOp.eql 9 (Operand.tmp 29) (Operand.const (Value.string { data := #[101, 110, 100, 105, 110, 103] })) 9, type := 4, pos := "l9_book_form.go:123", after := #[{ on := 16, ground := Ground.data }], guard := none }, { dst := some 31, op := Op.build 38 #[(0, Operand.tmp 15), (1, Operand.tmp 18), (2, Operand.tmp 22), (3, Operand.tmp 26), (5, Operand.tmp 30)], type := 38, pos := "l9_book_form.go:123", after := #[{ on := 2, ground := Ground.data }, { on := 5, ground := Ground.data }, { on := 9, ground := Ground.data }, { on := 13, ground := Ground.data }, { on := 17, ground := Ground.data }], guard := none }, { dst := some 5, op := Op.alloc 38, type := 0, pos := "l9_book_form.go:123", after := #[], guard := none }, { dst := none, op := Op.store 38 (Operand.tmp 5) (Operand.tmp 31), type := 0, pos := "l9_book_form.go:123", after := #[{ on := 19, ground := Ground.data }, { on := 18, ground := Ground.data }, { on := 13, ground := Ground.chain }, { on := 0, ground := Ground.phase }, { on := 1, ground := Ground.phase }, { on := 2, ground := Ground.phase }, { on := 3, ground := Ground.phase }, { on := 4, ground := Ground.phase }, { on := 5, ground := Ground.phase }, { on := 6, ground := Ground.phase }, { on := 7, ground := Ground.phase }, { on := 8, ground := Ground.phase }, { on := 9, ground := Ground.phase }, { on := 10, ground := Ground.phase }, { on := 11, ground := Ground.phase }, { on := 12, ground := Ground.phase }, { on := 13, ground := Ground.phase }, { on := 14, ground := Ground.phase }, { on := 15, ground := Ground.phase }, { on := 16, ground := Ground.phase }, { on := 17, ground := Ground.phase }, { on := 18, ground := Ground.phase }, { on := 19, ground := Ground.phase }], guard := none }] true) Q ⟨#[p0, p1, p2, (.slice (some ⟨g, 0, none⟩) 5 cap), p4, p5, p6, p7, p8, p9, p10, p11, p12, p13, p14, p15, p16, p17, p18, p19, p20, p21, p22, p23, p24, p25, p26, p27, p28, p29, p30, p31, p32, p33, p34, p35, p36, p37, p38, p39, p40, p41, p42, p43, p44, p45, p46], []⟩ W := by
  refine regionH (by kernel_rfl) 20 (fun t : Nat → Value => #[p0, p1, p2, (.slice (some ⟨g, 0, none⟩) 5 cap), p4, t 19, p6, p7, p8, p9, p10, p11, p12, t 0, t 1, t 2, t 3, t 4, t 5, t 6, t 7, t 8, t 9, t 10, t 11, t 12, t 13, t 14, t 15, t 16, t 17, t 18, p32, p33, p34, p35, p36, p37, p38, p39, p40, p41, p42, p43, p44, p45, p46]) (fun i => match i with | 0 => p13 | 1 => p14 | 2 => p15 | 3 => p16 | 4 => p17 | 5 => p18 | 6 => p19 | 7 => p20 | 8 => p21 | 9 => p22 | 10 => p23 | 11 => p24 | 12 => p25 | 13 => p26 | 14 => p27 | 15 => p28 | 16 => p29 | 17 => p30 | 18 => p31 | _ => p5) (roG g cap W.heap.size w0 w1 w2 w3 w4)
    (fun (A : Act) (Y : World) => ∃ (t : Nat → Value) (r2 r3 : Int) (B : Nat), A = ⟨#[p0, p1, p2, (.slice (some ⟨g, 0, none⟩) 5 cap), p4, t 19, p6, p7, p8, p9, p10, p11, p12, t 0, t 1, t 2, t 3, t 4, t 5, t 6, t 7, t 8, t 9, t 10, t 11, t 12, t 13, t 14, t 15, t 16, t 17, t 18, p32, p33, p34, p35, p36, p37, p38, p39, p40, p41, p42, p43, p44, p45, p46], []⟩ ∧ t 19 = .pointer (some ⟨B, 0, none⟩) ∧ W.heap.size ≤ B ∧ B < Y.heap.size ∧ Y.there B 0 7 ∧ Y.rangeAt B 0 [.string w0, .string w1, .int .i64 r2, .int .i64 r3, .string ⟨#[]⟩, .bool (w4.toList == [101, 110, 100, 105, 110, 103]), .slice none 0 0] ∧ NuT w2 r2 ∧ NuT w3 r3 ∧ Below W.heap.size W Y)
    rfl (by kernel_rfl) (by kernel_rfl) ?_ rfl ?_ ?_ ?_
  · intro i v X Y hi h hb
    rcases (show i = 0 ∨ i = 1 ∨ i = 2 ∨ i = 3 ∨ i = 4 ∨ i = 5 ∨ i = 6 ∨ i = 7 ∨ i = 8 ∨ i = 9 ∨ i = 10 ∨ i = 11 ∨ i = 12 ∨ i = 13 ∨ i = 14 ∨ i = 15 ∨ i = 16 ∨ i = 17 ∨ i = 18 ∨ i = 19 by omega) with rfl | rfl | rfl | rfl | rfl | rfl | rfl | rfl | rfl | rfl | rfl | rfl | rfl | rfl | rfl | rfl | rfl | rfl | rfl | rfl
    · exact h
    · exact h
    · exact h
    · exact h
    · exact h
    · exact h
    · exact h
    · exact h
    · exact h
    · exact h
    · exact h
    · exact h
    · exact h
    · exact h
    · exact h
    · exact h
    · exact h
    · exact h
    · exact h
    · obtain ⟨B, e, z1, z2, th⟩ := h
      exact ⟨B, e, z1, Nat.lt_of_lt_of_le z2 hb.size, there_below th hb z2⟩
  · intro i hi t X K hb hg hK
    rcases (show i = 0 ∨ i = 1 ∨ i = 2 ∨ i = 3 ∨ i = 4 ∨ i = 5 ∨ i = 6 ∨ i = 7 ∨ i = 8 ∨ i = 9 ∨ i = 10 ∨ i = 11 ∨ i = 12 ∨ i = 13 ∨ i = 14 ∨ i = 15 ∨ i = 16 ∨ i = 17 ∨ i = 18 ∨ i = 19 by omega) with rfl | rfl | rfl | rfl | rfl | rfl | rfl | rfl | rfl | rfl | rfl | rfl | rfl | rfl | rfl | rfl | rfl | rfl | rfl | rfl
    · have h := hK ((.slice (some ⟨g, 0, none⟩) 5 cap)) X rfl (Below.refl _ _)
      refine wpOp_of rfl rfl ?_
      clear hK hg
      go_simp
      simpa [updT] using h
    · have e0 : t 0 = (.slice (some ⟨g, 0, none⟩) 5 cap) := hg 0 ⟨_, rfl, ⟨0, .data⟩, by simp, rfl, rfl⟩
      have h := hK (.pointer (some ⟨g, 0, none⟩)) X rfl (Below.refl _ _)
      refine wpOp_of rfl rfl ?_
      clear hK hg
      go_simp
      simpa [updT, e0] using h
    · have e1 : t 1 = .pointer (some ⟨g, 0, none⟩) := hg 1 ⟨_, rfl, ⟨1, .data⟩, by simp, rfl, rfl⟩
      have c : X.cell? ⟨g, 0, none⟩ = some (.string w0) := (hb.cell (p := ⟨g, 0, none⟩) hgW).trans c0
      have h := hK (.string w0) X rfl (Below.refl _ _)
      refine wpOp_of rfl rfl ?_
      clear hK hg
      go_simp
      simpa [updT, e1] using h
    · have h := hK ((.slice (some ⟨g, 0, none⟩) 5 cap)) X rfl (Below.refl _ _)
      refine wpOp_of rfl rfl ?_
      clear hK hg
      go_simp
      simpa [updT] using h
    · have e3 : t 3 = (.slice (some ⟨g, 0, none⟩) 5 cap) := hg 3 ⟨_, rfl, ⟨3, .data⟩, by simp, rfl, rfl⟩
      have h := hK (.pointer (some ⟨g, 1, none⟩)) X rfl (Below.refl _ _)
      refine wpOp_of rfl rfl ?_
      clear hK hg
      go_simp
      simpa [updT, e3] using h
    · have e4 : t 4 = .pointer (some ⟨g, 1, none⟩) := hg 4 ⟨_, rfl, ⟨4, .data⟩, by simp, rfl, rfl⟩
      have c : X.cell? ⟨g, 1, none⟩ = some (.string w1) := (hb.cell (p := ⟨g, 1, none⟩) hgW).trans c1
      have h := hK (.string w1) X rfl (Below.refl _ _)
      refine wpOp_of rfl rfl ?_
      clear hK hg
      go_simp
      simpa [updT, e4] using h
    · have h := hK ((.slice (some ⟨g, 0, none⟩) 5 cap)) X rfl (Below.refl _ _)
      refine wpOp_of rfl rfl ?_
      clear hK hg
      go_simp
      simpa [updT] using h
    · have e6 : t 6 = (.slice (some ⟨g, 0, none⟩) 5 cap) := hg 6 ⟨_, rfl, ⟨6, .data⟩, by simp, rfl, rfl⟩
      have h := hK (.pointer (some ⟨g, 2, none⟩)) X rfl (Below.refl _ _)
      refine wpOp_of rfl rfl ?_
      clear hK hg
      go_simp
      simpa [updT, e6] using h
    · have e7 : t 7 = .pointer (some ⟨g, 2, none⟩) := hg 7 ⟨_, rfl, ⟨7, .data⟩, by simp, rfl, rfl⟩
      have c : X.cell? ⟨g, 2, none⟩ = some (.string w2) := (hb.cell (p := ⟨g, 2, none⟩) hgW).trans c2
      have h := hK (.string w2) X rfl (Below.refl _ _)
      refine wpOp_of rfl rfl ?_
      clear hK hg
      go_simp
      simpa [updT, e7] using h
    · have e8 : t 8 = .string w2 := hg 8 ⟨_, rfl, ⟨8, .data⟩, by simp, rfl, rfl⟩
      refine wpOp_of rfl rfl ?_
      go_simp
      go_at_call 11
      refine (number_any w2 hw2 X).mono ?_
      rintro e Y ⟨r, rfl, h1, h2, h3⟩
      have h := hK (.int .i64 r) Y ⟨r, rfl, h1, h2⟩ h3
      simpa [updT, e8] using h
    · have h := hK ((.slice (some ⟨g, 0, none⟩) 5 cap)) X rfl (Below.refl _ _)
      refine wpOp_of rfl rfl ?_
      clear hK hg
      go_simp
      simpa [updT] using h
    · have e10 : t 10 = (.slice (some ⟨g, 0, none⟩) 5 cap) := hg 10 ⟨_, rfl, ⟨10, .data⟩, by simp, rfl, rfl⟩
      have h := hK (.pointer (some ⟨g, 3, none⟩)) X rfl (Below.refl _ _)
      refine wpOp_of rfl rfl ?_
      clear hK hg
      go_simp
      simpa [updT, e10] using h
    · have e11 : t 11 = .pointer (some ⟨g, 3, none⟩) := hg 11 ⟨_, rfl, ⟨11, .data⟩, by simp, rfl, rfl⟩
      have c : X.cell? ⟨g, 3, none⟩ = some (.string w3) := (hb.cell (p := ⟨g, 3, none⟩) hgW).trans c3
      have h := hK (.string w3) X rfl (Below.refl _ _)
      refine wpOp_of rfl rfl ?_
      clear hK hg
      go_simp
      simpa [updT, e11] using h
    · have e12 : t 12 = .string w3 := hg 12 ⟨_, rfl, ⟨12, .data⟩, by simp, rfl, rfl⟩
      refine wpOp_of rfl rfl ?_
      go_simp
      go_at_call 11
      refine (number_any w3 hw3 X).mono ?_
      rintro e Y ⟨r, rfl, h1, h2, h3⟩
      have h := hK (.int .i64 r) Y ⟨r, rfl, h1, h2⟩ h3
      simpa [updT, e12] using h
    · have h := hK ((.slice (some ⟨g, 0, none⟩) 5 cap)) X rfl (Below.refl _ _)
      refine wpOp_of rfl rfl ?_
      clear hK hg
      go_simp
      simpa [updT] using h
    · have e14 : t 14 = (.slice (some ⟨g, 0, none⟩) 5 cap) := hg 14 ⟨_, rfl, ⟨14, .data⟩, by simp, rfl, rfl⟩
      have h := hK (.pointer (some ⟨g, 4, none⟩)) X rfl (Below.refl _ _)
      refine wpOp_of rfl rfl ?_
      clear hK hg
      go_simp
      simpa [updT, e14] using h
    · have e15 : t 15 = .pointer (some ⟨g, 4, none⟩) := hg 15 ⟨_, rfl, ⟨15, .data⟩, by simp, rfl, rfl⟩
      have c : X.cell? ⟨g, 4, none⟩ = some (.string w4) := (hb.cell (p := ⟨g, 4, none⟩) hgW).trans c4
      have h := hK (.string w4) X rfl (Below.refl _ _)
      refine wpOp_of rfl rfl ?_
      clear hK hg
      go_simp
      simpa [updT, e15] using h
    · have e16 : t 16 = .string w4 := hg 16 ⟨_, rfl, ⟨16, .data⟩, by simp, rfl, rfl⟩
      have h := hK (.bool (w4.toList == [101, 110, 100, 105, 110, 103])) X rfl (Below.refl _ _)
      refine wpOp_of rfl rfl ?_
      clear hK hg
      go_simp
      simpa [updT, e16] using h
    · have e2 : t 2 = .string w0 := hg 2 ⟨_, rfl, ⟨2, .data⟩, by simp, rfl, rfl⟩
      have e5 : t 5 = .string w1 := hg 5 ⟨_, rfl, ⟨5, .data⟩, by simp, rfl, rfl⟩
      obtain ⟨r2, f2, k2⟩ := hg 9 ⟨_, rfl, ⟨9, .data⟩, by simp, rfl, rfl⟩
      obtain ⟨r3, f3, k3⟩ := hg 13 ⟨_, rfl, ⟨13, .data⟩, by simp, rfl, rfl⟩
      have e17 : t 17 = .bool (w4.toList == [101, 110, 100, 105, 110, 103]) := hg 17 ⟨_, rfl, ⟨17, .data⟩, by simp, rfl, rfl⟩
      have h := hK (.agg #[.string w0, .string w1, .int .i64 r2, .int .i64 r3, .string ⟨#[]⟩, .bool (w4.toList == [101, 110, 100, 105, 110, 103]), .slice none 0 0]) X ⟨r2, r3, rfl, k2, k3⟩ (Below.refl _ _)
      refine wpOp_of rfl rfl ?_
      clear hK hg
      go_simp
      simpa [updT, e2, e5, f2, f3, e17] using h
    · have h := hK (.pointer (some ⟨X.heap.size, 0, none⟩)) (X.alloc (.cells #[.string ⟨#[]⟩, .string ⟨#[]⟩, .int .i64 0, .int .i64 0, .string ⟨#[]⟩, .bool false, .slice none 0 0] 38)) ⟨X.heap.size, rfl, hb.size, by simp, there_new X _ _⟩ (below_alloc' X _)
      refine wpOp_of rfl rfl ?_
      clear hK hg
      go_simp
      simpa [updT] using h
  · intro t X K hb hg hK
    obtain ⟨r2, r3, e18, k2, k3⟩ := hg 18 (by omega)
    obtain ⟨B, e19, z1, z2, th⟩ := hg 19 (by omega)
    have h := hK ⟨#[p0, p1, p2, (.slice (some ⟨g, 0, none⟩) 5 cap), p4, t 19, p6, p7, p8, p9, p10, p11, p12, t 0, t 1, t 2, t 3, t 4, t 5, t 6, t 7, t 8, t 9, t 10, t 11, t 12, t 13, t 14, t 15, t 16, t 17, t 18, p32, p33, p34, p35, p36, p37, p38, p39, p40, p41, p42, p43, p44, p45, p46], []⟩ (X.setCells B 0 [.string w0, .string w1, .int .i64 r2, .int .i64 r3, .string ⟨#[]⟩, .bool (w4.toList == [101, 110, 100, 105, 110, 103]), .slice none 0 0]) ⟨t, r2, r3, B, rfl, e19, z1, by rw [size_setCells]; exact z2, there_setCells _ _ _ th, World.rangeAt_setCells_same _ _ _ _ th, k2, k3, hb.trans ((fr_setCells B [.string w0, .string w1, .int .i64 r2, .int .i64 r3, .string ⟨#[]⟩, .bool (w4.toList == [101, 110, 100, 105, 110, 103]), .slice none 0 0] 0 X).below (by omega) (by have := hb.size; omega))⟩
    exact wpOp_of rfl rfl (wp_store_mid 38 _ _ rfl B 0 #[.string w0, .string w1, .int .i64 r2, .int .i64 r3, .string ⟨#[]⟩, .bool (w4.toList == [101, 110, 100, 105, 110, 103]), .slice none 0 0] e19 e18 th sz38 (by simp [Value.oneCell']) h)
  · rintro A Y ⟨t, r2, r3, B, rfl, h1, h2, h3, h4, h5, h6, h7, h8⟩
    exact hQ t r2 r3 B Y h1 h2 h3 h4 h5 h6 h7 h8
end Go.Proofs.YtkfbclopkgnacaaGreatDoor
namespace Go.Proofs.YtkfbclopkgnacaaGreatDoor
open Go.RowKit Go.Shelf
theorem range_setL {W : World} {B : Nat} {cs : List Value} (h : W.rangeAt B 0 cs) (k : Nat) (hk : k < cs.length) (u : Value) : (W.setCell ⟨B, k, none⟩ u).rangeAt B 0 (cs.set k u) := by
  intro j v hv
  rw [Nat.zero_add]
  have hj : j < cs.length := by
    have := (List.getElem?_eq_some_iff.1 hv).1
    simpa using this
  by_cases e : j = k
  · subst e
    rw [List.getElem?_set_self hj] at hv
    cases hv
    have := h j cs[j] (List.getElem?_eq_getElem hj)
    rw [Nat.zero_add] at this
    exact World.cell?_setCell_same _ _ _ this
  · rw [List.getElem?_set_ne (fun e2 => e e2.symm)] at hv
    rw [World.cell?_setCell_other _ _ _ _ (fun e2 => e (by injection e2 with _ e3; exact e3.symm))]
    have := h j v hv
    rw [Nat.zero_add] at this
    exact this
theorem range_below {w w' : World} {b : Nat} {cs : List Value} (h : w.rangeAt b 0 cs) (hb : Below w.heap.size w w') (hB : b < w.heap.size) : w'.rangeAt b 0 cs := fun j v hv => by
  rw [hb.cell (p := ⟨b, 0 + j, none⟩) hB]
  exact h j v hv
/-- what spec's reading of an object comes to -/
def ObS (s : ByteArray) (o : Ob) : Prop := (ObFit o ∧ o.hn ≤ s.size + 1) ∧ ∀ o0, ObT o0 → s.data.toList = jn (obW o0) → ObE o o0
theorem wH_size (s : ByteArray) : (wH s).size ≤ s.size := by
  have h := (wE_is s).1
  unfold wH
  rw [ext_size _ _ _ h]
  omega
/-- what was read behind the words: a text in quotes, and what was cut -/
def HoT (q : ByteArray) (xs : List ByteArray) : Prop := (q.size = 0 → xs = []) ∧ (0 < q.size → xs = cutG 32 [] [] (q.extract 1 q.size).data.toList)
theorem obS_of {s te q : ByteArray} {xs : List ByteArray} {r2 r3 : Int} (hs : (s.size : Int) ≤ 1048576) (h2 : NuT (wH (rN s 2)) r2) (h3 : NuT (wH (rN s 3)) r3) (hu : (te.size ≤ (rN s 5).size + 2 ∧ q.size ≤ (rN s 5).size) ∧ ∀ te' q2, rN s 5 = quS te' ++ q2 → te = te' ∧ q = q2) (hx : HoT q xs) (hxs : xs.length ≤ q.size + 1 ∧ ∀ x ∈ xs, x.size ≤ q.size) : ObS s (obOf (wH (rN s 0)) (wH (rN s 1)) r2 r3 (wH (rN s 4)) te xs) := by
  have z := fun k => Nat.le_trans (wH_size (rN s k)) (rN_size s k)
  have z5 := rN_size s 5
  have z0 := z 0
  have z1 := z 1
  refine ⟨⟨⟨?_, ?_, ?_, ?_, fun i hi => ?_, wf_of (v := r2) ⟨by have := h2.1.1; omega, by have := h2.1.2; omega⟩⟩, ?_⟩, fun o0 ho e0 => ?_⟩
  · show (((wH (rN s 0))).size : Int) ≤ _; omega
  · show (((wH (rN s 1))).size : Int) ≤ _; omega
  · show (te.size : Int) ≤ _; have := hu.1.1; omega
  · show (xs.length : Int) ≤ _; have := hu.1.2; omega
  · have hi' : i < xs.length := hi
    show ((xs.getD i ⟨#[]⟩).size : Int) ≤ _
    have := hxs.2 xs[i] (List.getElem_mem hi')
    have := hu.1.2
    rw [List.getD_eq_getElem?_getD, List.getElem?_eq_getElem hi']
    simp only [Option.getD_some]
    omega
  · show xs.length ≤ _; have := hu.1.2; omega
  · obtain ⟨a0, b0⟩ := wd_step (s := rN s 0) e0 (wrd_name ho.k)
    obtain ⟨a1, b1⟩ := wd_step (s := rN s 1) b0 (wrd_name ho.n)
    obtain ⟨a2, b2⟩ := wd_step (s := rN s 2) b1 (wrd_dec _)
    obtain ⟨a3, b3⟩ := wd_step (s := rN s 3) b2 (wrd_dec _)
    obtain ⟨a4, b4⟩ := wd_step (s := rN s 4) b3 (wrd_end o0.ending)
    have e5 : rN s 5 = quS o0.text ++ ⟨(spL (hol o0)).toArray⟩ := pa_ext (by
      rw [pa_append]
      exact b4)
    obtain ⟨t1, t2⟩ := hu.2 _ _ e5
    have k2 := h2.2 o0.ver.toNat (by have := ho.lv; omega) a2
    have k3 := h3.2 o0.born.toNat (by have := ho.lb; omega) a3
    have hh : xs = hol o0 := by
      cases hl : hol o0 with
      | nil =>
        rw [hl] at t2
        exact hx.1 (by rw [t2]; rfl)
      | cons y zs =>
        rw [hl, spL_jn] at t2
        have hz : 0 < q.size := by rw [t2]; simp [ByteArray.size]
        rw [hx.2 hz]
        have eq : (q.extract 1 q.size).data.toList = jn (y :: zs) := by
          rw [pa_extract, ← pa_len, t2]
          simp
        rw [eq, cutG_jn zs y [] [] (fun z hz c hc => by
          have hm : z ∈ hol o0 := by rw [hl]; exact hz
          obtain ⟨i, hi, rfl⟩ := List.mem_map.1 hm
          exact ((wrd_name (ho.h i (List.mem_range.1 hi))).ne c hc).1)]
        simp
    refine ⟨a0, a1, by rw [ho.v]; exact k2, by rw [ho.b]; exact k3, t1, by show (((wH (rN s 4))).toList == [101, 110, 100, 105, 110, 103]) = _; rw [a4]; exact ending_is _, by show xs.length = _; rw [hh]; simp [hol], fun i hi => ?_⟩
    have hi' : i < o0.hn := by
      have : i < xs.length := hi
      rw [hh] at this
      simpa [hol] using this
    show xs.getD i ⟨#[]⟩ = _
    rw [hh]
    simp [hol, hi']
def OsG (s : ByteArray) (w : World) (e : Ending) (w' : World) : Prop :=
  ∃ (o : Ob) (ad : Option Addr) (cap b' : Nat), e = .returned (.agg #[.string o.kind, .string o.name, .int .i64 o.ver, .int .i64 o.born, .string o.text, .bool o.ending, .slice ad o.hn cap]) ∧ StrsOwn w' b' (b' + 1) ad o.hn o.hs ∧ (o.hn ≠ 0 → w.heap.size ≤ b' ∧ b' < w'.heap.size) ∧ Below w.heap.size w w' ∧ ObS s o
set_option maxRecDepth 100000 in
set_option maxHeartbeats 8000000 in
theorem readObj_any (s : ByteArray) (hs : (s.size : Int) ≤ 1048576) (w : World) : Calls Tryz.prog 12 #[.string s] w fun e w' => OsG s w e w' := by
  have HB0 : Hid (∀ o, Below w.heap.size w (w.alloc o)) := hid fun o => below_alloc' w o
  have HW := hid (fun o => wordsN_any 5 (by omega) (by omega) s hs (w.alloc o))
  have HT0 := hid (there_new w #[.string ⟨#[]⟩, .string ⟨#[]⟩, .int .i64 0, .int .i64 0, .string ⟨#[]⟩, .bool false, .slice none 0 0] 38)
  have hz5 := rN_size s 5
  have zz := fun k => Nat.le_trans (wH_size (rN s k)) (rN_size s k)
  have zz2 := zz 2
  have zz3 := zz 3
  clear zz
  go_enter Tryz.func12, Tryz.ntmps12
  go_wp2_with (go_at_call 10; go_must (refine (HW.out _).mono ?_; rintro e w1 ⟨g, cap, rfl, hc, hgl, hb1⟩; have HC := hid hc; have HB1 := hid ((HB0.out _).trans (hb1.mono (by simp))); have HZ1 := hid (show w.heap.size + 1 ≤ w1.heap.size by have := hb1.size; simpa using this); have HTH1 := hid (there_below HT0.out hb1 (by simp)); clear hc hb1 HW))
  refine roReg2 _ _ _ _ _ _ _ _ _ _ _ _ _ _ _ _ _ _ _ _ _ _ _ _ _ _ _ _ _ _ _ _ _ _ _ _ _ _ _ _ _ _ _ _ _ _ g cap _ _ _ _ _ w1 hgl (HC.out 0 (by omega)) (HC.out 1 (by omega)) (HC.out 2 (by omega)) (HC.out 3 (by omega)) (HC.out 4 (by omega)) (by omega) (by omega) _ ?_
  intro t r2 r3 B Y e19 hB1 hB2 thB rgB hn2 hn3 hbY
  rw [e19]
  have HTB := hid thB
  have HRB := hid rgB
  have HN2 := hid hn2
  have HN3 := hid hn3
  have HBY := hid (HB1.out.trans (hbY.mono (by have := HZ1.out; omega)))
  have HTY := hid (there_below HTH1.out hbY (by have := HZ1.out; omega))
  have HZY := hid hbY.size
  clear thB rgB hn2 hn3 hbY e19
  have HU := hid (unquote_any (rN s 5) (by omega))
  go_wp2_with (first
    | (go_at_call 13; have _q := HU; go_must (refine (HU.out _).mono ?_; rintro e w3 ⟨te, q, rfl, hq1, hq2, hb3⟩; have HQ := hid (And.intro hq1 hq2); have HB3 := hid hb3; have HR4 : Hid ((w3.setCell ⟨B, 4, none⟩ (.string te)).rangeAt B 0 [.string (wH (rN s 0)), .string (wH (rN s 1)), .int .i64 r2, .int .i64 r3, .string te, .bool ((wH (rN s 4)).toList == [101, 110, 100, 105, 110, 103]), .slice none 0 0]) := hid (range_setL (range_below HRB.out hb3 hB2) 4 (by simp) _); have HT4 : Hid ((w3.setCell ⟨B, 4, none⟩ (.string te)).there B 0 7) := hid (there_set (there_below HTB.out hb3 hB2)); have HTW4 : Hid ((w3.setCell ⟨B, 4, none⟩ (.string te)).there w.heap.size 0 7) := hid (there_set (there_below HTY.out hb3 (by have := HZ1.out; have := HZY.out; omega))); have HZ3 := hid hb3.size; have HF4 : Hid (Below w.heap.size w (w3.setCell ⟨B, 4, none⟩ (.string te))) := hid ((HBY.out.trans (hb3.mono (by have := HZ1.out; have := HZY.out; omega))).setCell (p := ⟨B, 4, none⟩) (by show w.heap.size ≤ B; have := HZ1.out; omega) _); have k4 : w3.cell? ⟨B, 4, none⟩ = some (.string ⟨#[]⟩) := (range_below HRB.out hb3 hB2) 4 _ rfl; have f4 : w3.frozen? ⟨B, 4, none⟩ = false := ((there_below HTB.out hb3 hB2) 4 (by omega)).2; have hqz := hq1.2; clear hq1 hq2 hb3 HU HRB HTB HTY; rcases Nat.eq_zero_or_pos q.size with hz0 | hz0))
    | (go_at_call 9; go_must (refine (cut_any (q.extract 1 q.size) 32 (by rw [ext_size _ _ _ (Nat.le_refl _)]; omega) _).mono ?_; rintro e w5 ⟨v, xs, rfl, hown, hxs, hxz, hb5⟩; obtain ⟨ad, cp, b', rfl, hs5, hl5⟩ := strs_of_row hown; have HXS := hid hxs; have HXZ := hid hxz; have HS5 := hid hs5; have HL5 := hid hl5; have hzB : B < (w3.setCell ⟨B, 4, none⟩ (.string te)).heap.size := (by rw [World.size_setCell]; have := HZ3.out; omega); have hzw : w.heap.size < (w3.setCell ⟨B, 4, none⟩ (.string te)).heap.size := (by rw [World.size_setCell]; have := HZ3.out; have := HZ1.out; have := HZY.out; omega); have HR6 : Hid ((w5.setCell ⟨B, 6, none⟩ (.slice ad xs.length cp)).rangeAt B 0 [.string (wH (rN s 0)), .string (wH (rN s 1)), .int .i64 r2, .int .i64 r3, .string te, .bool ((wH (rN s 4)).toList == [101, 110, 100, 105, 110, 103]), .slice ad xs.length cp]) := hid (range_setL (range_below HR4.out hb5 hzB) 6 (by simp) _); have HTW6 : Hid ((w5.setCell ⟨B, 6, none⟩ (.slice ad xs.length cp)).there w.heap.size 0 7) := hid (there_set (there_below HTW4.out hb5 hzw)); have HB5 := hid hb5; have k6 : w5.cell? ⟨B, 6, none⟩ = some (.slice none 0 0) := (range_below HR4.out hb5 hzB) 6 _ rfl; have f6 : w5.frozen? ⟨B, 6, none⟩ = false := ((there_below HT4.out hb5 hzB) 6 (by omega)).2; clear hown hxs hxz hs5 hl5 hb5))
    | ((with_reducible show wpList _ _ _ (⟨_, Op.load 38 (Operand.tmp 5), _, _, _, _⟩ :: _) _ _); have _q := HR6; go_must (refine wpList_load_mid rfl 38 _ rfl B 0 (by simp [go_sem]) _ _ HR6.out Tryz.underlying38 rfl sz38 ?_))
    | ((with_reducible show wpList _ _ _ (⟨_, Op.load 38 (Operand.tmp 5), _, _, _, _⟩ :: _) _ _); go_must (refine wpList_load_mid rfl 38 _ rfl B 0 (by simp [go_sem]) _ _ HR4.out Tryz.underlying38 rfl sz38 ?_))
    | ((with_reducible show wpList _ _ _ (⟨none, Op.store 38 (Operand.tmp 2) _, _, _, _, _⟩ :: _) _ _); have _q := HTW6; go_must (refine wpList_store_new rfl 38 _ _ rfl w.heap.size [.string (wH (rN s 0)), .string (wH (rN s 1)), .int .i64 r2, .int .i64 r3, .string te, .bool ((wH (rN s 4)).toList == [101, 110, 100, 105, 110, 103]), .slice ad xs.length cp] (by simp [go_sem]) rfl HTW6.out sz38 (by simp [Value.oneCell']) ?_; intro W8 hr8 hf8 hz8; have HR8 := hid hr8; have HF8 := hid hf8; have HZ8 := hid hz8; clear hr8 hf8 hz8))
    | ((with_reducible show wpList _ _ _ (⟨none, Op.store 38 (Operand.tmp 2) _, _, _, _, _⟩ :: _) _ _); go_must (refine wpList_store_new rfl 38 _ _ rfl w.heap.size [.string (wH (rN s 0)), .string (wH (rN s 1)), .int .i64 r2, .int .i64 r3, .string te, .bool ((wH (rN s 4)).toList == [101, 110, 100, 105, 110, 103]), .slice none 0 0] (by simp [go_sem]) rfl HTW4.out sz38 (by simp [Value.oneCell']) ?_; intro W8 hr8 hf8 hz8; have HR8 := hid hr8; have HF8 := hid hf8; have HZ8 := hid hz8; clear hr8 hf8 hz8)))
  · refine bodyPost_ret (v := .agg #[.string (wH (rN s 0)), .string (wH (rN s 1)), .int .i64 r2, .int .i64 r3, .string te, .bool ((wH (rN s 4)).toList == [101, 110, 100, 105, 110, 103]), .slice none 0 0]) (results_cell_mid (p := 2) rfl _ _ w.heap.size [.string (wH (rN s 0)), .string (wH (rN s 1)), .int .i64 r2, .int .i64 r3, .string te, .bool ((wH (rN s 4)).toList == [101, 110, 100, 105, 110, 103]), .slice none 0 0] _ rfl HR8.out Tryz.underlying38 rfl sz38) rfl ?_
    exact ⟨obOf (wH (rN s 0)) (wH (rN s 1)) r2 r3 (wH (rN s 4)) te [], none, 0, 0, rfl, fun i hi => absurd hi (Nat.not_lt_zero _), fun h => absurd rfl h, HF4.out.trans (HF8.out.below (Nat.le_refl _) (by rw [World.size_setCell]; have := HZ3.out; have := HZ1.out; have := HZY.out; omega)), obS_of hs HN2.out HN3.out HQ.out ⟨fun _ => rfl, fun h => by omega⟩ ⟨Nat.zero_le _, fun x hx => absurd hx (by simp)⟩⟩
  · have hz3 := HZ3.out
    have hz1 := HZ1.out
    have hzY := HZY.out
    have hz5 := HB5.out.size
    rw [World.size_setCell] at hz5
    refine bodyPost_ret (v := .agg #[.string (wH (rN s 0)), .string (wH (rN s 1)), .int .i64 r2, .int .i64 r3, .string te, .bool ((wH (rN s 4)).toList == [101, 110, 100, 105, 110, 103]), .slice ad xs.length cp]) (results_cell_mid (p := 2) rfl _ _ w.heap.size [.string (wH (rN s 0)), .string (wH (rN s 1)), .int .i64 r2, .int .i64 r3, .string te, .bool ((wH (rN s 4)).toList == [101, 110, 100, 105, 110, 103]), .slice ad xs.length cp] _ rfl HR8.out Tryz.underlying38 rfl sz38) rfl ?_
    have hF6 : Fr B (B + 1) w5 (w5.setCell ⟨B, 6, none⟩ (.slice ad xs.length cp)) := (Fr.refl _ _ _).setCell (p := ⟨B, 6, none⟩) (Nat.le_refl _) (Nat.lt_succ_self _) _
    have hL : xs.length ≠ 0 → w3.heap.size ≤ b' ∧ b' < w5.heap.size := fun h0 => by
      have := HL5.out h0
      rw [World.size_setCell] at this
      exact this
    refine ⟨obOf (wH (rN s 0)) (wH (rN s 1)) r2 r3 (wH (rN s 4)) te xs, ad, cp, b', rfl, (HS5.out.frR hF6 (fun h0 => ⟨(hL h0).2, by have := (hL h0).1; omega⟩)).frR HF8.out (fun h0 => ⟨by rw [World.size_setCell]; exact (hL h0).2, by have := (hL h0).1; omega⟩), fun h0 => ⟨by have := (hL h0).1; omega, by rw [HZ8.out, World.size_setCell]; exact (hL h0).2⟩, ?_, obS_of hs HN2.out HN3.out HQ.out ⟨fun h => by omega, fun _ => HXS.out⟩ ?_⟩
    · exact (HF4.out.trans ((HB5.out.mono (by rw [World.size_setCell]; omega)).trans ((hF6.below (B := w.heap.size) (by omega) (by omega)).trans (HF8.out.below (Nat.le_refl _) (by rw [World.size_setCell]; omega)))))
    · have h1 := HXZ.out.1
      rw [ext_size _ _ _ (Nat.le_refl _)] at h1
      exact ⟨by omega, fun x hx => by have := HXZ.out.2 x hx; rw [ext_size _ _ _ (Nat.le_refl _)] at this; omega⟩
end Go.Proofs.YtkfbclopkgnacaaGreatDoor
