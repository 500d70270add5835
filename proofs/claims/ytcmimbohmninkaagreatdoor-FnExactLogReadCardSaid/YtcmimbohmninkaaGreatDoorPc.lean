import Derived.Test.YtcmimbohmninkaaGreatDoorPb
namespace Go.Proofs.YtcmimbohmninkaaGreatDoor
open Go.RowKit
theorem sC_snoc' (l : List ByteArray) (s : ByteArray) : sC (l ++ [s]) = sC l ++ [.string s] := by simp [sC]
theorem str_val {a b : ByteArray} (h : a = b) : Value.string a = Value.string b := by rw [h]
set_option maxRecDepth 100000 in
set_option maxHeartbeats 4000000 in
theorem words_any (s0 : ByteArray) (hs0 : (s0.size : Int) ≤ 1048576) (w : World) :
    Calls Tryz.prog 9 #[.string s0, .int .i64 7] w fun e w' => ∃ g cap, e = .returned (.tuple #[.slice (some ⟨g, 0, none⟩) 7 cap, .string (rN s0 7)]) ∧ (∀ j, j < 7 → w'.cell? ⟨g, j, none⟩ = some (.string (wH (rN s0 j)))) ∧ g < w'.heap.size ∧ Below w.heap.size w w' := by
  obtain ⟨i0, hi0, hi1, hi2, hi3⟩ := info_parts Tryz.info9
  have OW0 := hid (World.ownsRow_made (base := w.heap.size) (e := 9) (size := 1) w #[] 0 (Nat.le_refl _) (by unfold maxLen; omega) rfl)
  go_enter Tryz.func9, Tryz.ntmps9
  go_wp2
  go_loopw [0, 6, 7] (fun sv v i wr => ∃ k : Nat, k ≤ 7 ∧ sv = .string (rN s0 k) ∧ i = .int .i64 k ∧ Below w.heap.size w wr ∧ wr.ownsRow w.heap.size 9 1 v k (sC ((List.range k).map fun j => wH (rN s0 j)))) (fun _ _ i _ => 7 - (intOf i).toNat)
  case atStart => exact ⟨0, Nat.zero_le _, rfl, rfl, below_alloc _ _, OW0.out⟩
  case round =>
    obtain ⟨k, hk, rfl, rfl, hb, own⟩ := hrel
    have OWN := hid own
    clear own
    by_cases hk7 : k < 7
    · have hsz : ((rN s0 k).size : Int) ≤ 1048576 := by have := rN_size s0 k; omega
      have HRN := hid (show rN s0 (k + 1) = wR (rN s0 k) from rfl)
      generalize hsk : rN s0 k = s at *
      have HSK := hid hsk
      clear hsk
      go_wp2
      go_loop [8] (fun n => ∃ m : Nat, m ≤ s.size ∧ n = .int .i64 m ∧ Hid (∀ j, j < m → byteAt s j ≠ 32)) (fun n => s.size - (intOf n).toNat)
      case atStart => exact ⟨0, Nat.zero_le _, rfl, hid (fun j hj => absurd hj (Nat.not_lt_zero _))⟩
      case round =>
        obtain ⟨m, hm, rfl, HA⟩ := hrel
        by_cases hms : m < s.size
        · have HB := hid (byteAt_eq s m hms)
          by_cases h32 : s[m] = 32
          · have hend : IsEnd s m := ⟨hm, HA.out, fun _ => by rw [HB.out]; exact h32⟩
            have HWE := hid (wE_eq hend)
            have HH := hid (show wH (rN s0 k) = s.extract 0 m by rw [HSK.out]; unfold wH; rw [HWE.out])
            have RNX := hid (show Value.string (s.extract (m + 1) s.size) = Value.string (rN s0 (k + 1)) from str_val (by rw [HRN.out]; unfold wR wS; rw [HWE.out, if_pos hms]))
            have hb32 : (s[m].toNat : Int) = 32 := by rw [h32]; rfl
            have h32b : ((s[m].toNat : Int) == 32) = true := by simp [hb32]
            clear hend
            have own5 := OWN.out.alloc (.cells #[.string (s.extract 0 m)] 9)
            have NW := news_alloc wr [.string (s.extract 0 m)] 9
            go_wp2_with ((with_reducible show wpList _ _ _ (⟨some 32, _, _, _, _, _⟩ :: _) _ _); go_must (refine wpList_append_own_at _ rfl _ _ 33 rfl w.heap.size 9 i0 _ 1 16 Tryz.underlying33 hi0 hi1 hi2 hi3 rfl (by decide) _ k _ rfl own5 ⟨wr.heap.size, 0, none⟩ 1 1 [.string (s.extract 0 m)] rfl rfl NW (by simp [Value.oneCell']) (by unfold maxLen; omega) (by omega) (by simp; have := hb.size; omega) ?_; intro v6 w6 own6 grow6 nil6 at6; have HO6 := hid own6; have HG6 := hid grow6; clear own6 grow6 nil6 at6 own5 NW))
            go_roundw
            case rel =>
              refine ⟨k + 1, by omega, RNX.out, by go_num, (hb.alloc hb.size _).grown HG6.out (by simp; have := hb.size; omega) (fun r e => (OWN.out.lt r e).1), ?_⟩
              rw [List.range_succ, List.map_append, List.map_cons, List.map_nil, sC_snoc', HH.out]
              exact HO6.out
            case measure => simp [intOf]; omega
          · have HN := hid (show ∀ j, j < m + 1 → byteAt s j ≠ 32 from fun j hj => by
              by_cases e : j = m
              · rw [e, HB.out]; exact h32
              · exact HA.out j (by omega))
            have hb32 : ¬ ((s[m].toNat : Int) = 32) := fun e => h32 (by
              have e2 : s[m].toNat = 32 := by omega
              exact UInt8.toNat_inj.1 e2)
            have h32b : ((s[m].toNat : Int) == 32) = false := by simpa using hb32
            go_wp2
            go_round
            case rel => exact ⟨m + 1, by omega, by go_num, HN⟩
            case measure => simp [intOf]; omega
        · obtain rfl : m = s.size := by omega
          have hend : IsEnd s s.size := ⟨hm, HA.out, fun h => absurd h (Nat.lt_irrefl _)⟩
          have HWE := hid (wE_eq hend)
          have HH := hid (show wH (rN s0 k) = s by
            rw [HSK.out]; unfold wH; rw [HWE.out]
            refine pa_ext ?_
            rw [pa_extract, List.drop_zero, List.take_of_length_le (by rw [pa_len]; omega)])
          have RNX := hid (show Value.string ByteArray.empty = Value.string (rN s0 (k + 1)) from str_val (by
            rw [HRN.out]; unfold wR wS; rw [HWE.out, if_neg (Nat.lt_irrefl _)]
            refine pa_ext ?_
            rw [pa_extract, Nat.sub_self, List.take_zero]
            rfl))
          clear hend
          have own5 := OWN.out.alloc (.cells #[.string s] 9)
          have NW := news_alloc wr [.string s] 9
          go_wp2_with ((with_reducible show wpList _ _ _ (⟨some 32, _, _, _, _, _⟩ :: _) _ _); go_must (refine wpList_append_own_at _ rfl _ _ 33 rfl w.heap.size 9 i0 _ 1 16 Tryz.underlying33 hi0 hi1 hi2 hi3 rfl (by decide) _ k _ rfl own5 ⟨wr.heap.size, 0, none⟩ 1 1 [.string s] rfl rfl NW (by simp [Value.oneCell']) (by unfold maxLen; omega) (by omega) (by simp; have := hb.size; omega) ?_; intro v6 w6 own6 grow6 nil6 at6; have HO6 := hid own6; have HG6 := hid grow6; clear own6 grow6 nil6 at6 own5 NW))
          go_roundw
          case rel =>
            refine ⟨k + 1, by omega, RNX.out, by go_num, (hb.alloc hb.size _).grown HG6.out (by simp; have := hb.size; omega) (fun r e => (OWN.out.lt r e).1), ?_⟩
            rw [List.range_succ, List.map_append, List.map_cons, List.map_nil, sC_snoc', HH.out]
            exact HO6.out
          case measure => simp [intOf]; omega
    · obtain rfl : k = 7 := by omega
      obtain ⟨g', cap', cur, e', l1, l2, l3, _⟩ := OWN.out.2.resolve_left (fun h => by omega)
      subst e'
      have HL := hid (OWN.out.lt g' rfl).2
      have HCE := hid (show ∀ j, j < 7 → wr.cell? ⟨g', j, none⟩ = some (.string (wH (rN s0 j))) from fun j hj => by
        rw [OWN.out.cellAt j (by omega)]
        simp [sC, hj])
      clear l1 l2
      go_wp2
      refine bodyPost_ret (v := .tuple #[.slice (some ⟨g', 0, none⟩) 7 cap', .string (rN s0 7)]) (by simp [results, Tryz.results9, go_sem]) rfl ?_
      exact ⟨g', cap', rfl, HCE.out, HL.out, hb⟩
end Go.Proofs.YtcmimbohmninkaaGreatDoor
