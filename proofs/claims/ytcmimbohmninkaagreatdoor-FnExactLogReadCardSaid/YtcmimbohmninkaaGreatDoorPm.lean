import Derived.Test.YtcmimbohmninkaaGreatDoorPl
import Derived.Test.YtcmimbohmninkaaGreatDoorFs
import Derived.Lib.IndexLaws
namespace Go.Proofs.YtcmimbohmninkaaGreatDoor
open Go.RowKit
theorem index_sp {s : ByteArray} (h : wE s < s.size) : Lib.indexB s ⟨#[32]⟩ = (wE s : Int) := by
  have e1 : Lib.indexB s ⟨#[32]⟩ = Lib.indexByte s.data.toList 32 := Lib.index_one _ _
  rw [e1]
  have hW := wE_is s
  have hat : s.data.toList[wE s]? = some 32 := by
    have := hW.2.2 h
    rw [byteAt_list, List.getElem?_eq_getElem (by rw [pa_len]; exact h)] at this
    rw [List.getElem?_eq_getElem (by rw [pa_len]; exact h)]
    exact congrArg some this
  have hge := Lib.indexByte_ge s.data.toList 32
  by_cases hm : Lib.indexByte s.data.toList 32 = -1
  · exact absurd hat (Lib.indexByte_none hm _)
  · obtain ⟨o, ho⟩ : ∃ o : Nat, Lib.indexByte s.data.toList 32 = o := ⟨(Lib.indexByte s.data.toList 32).toNat, by omega⟩
    obtain ⟨k1, k2⟩ := Lib.indexByte_some ho
    have hol : o < s.size := by
      rcases Nat.lt_or_ge o s.size with h | h
      · exact h
      · rw [List.getElem?_eq_none (by rw [pa_len]; exact h)] at k1
        cases k1
    have hend : IsEnd s o := ⟨by omega, fun j hj e => k2 j hj (by
      rw [byteAt_list, List.getElem?_eq_getElem (by rw [pa_len]; omega)] at e
      rw [List.getElem?_eq_getElem (by rw [pa_len]; omega)]
      exact congrArg some e), fun _ => by rw [byteAt_list, k1]; rfl⟩
    rw [ho, wE_eq hend]
theorem split_told (s : ByteArray) : ∀ n j, (∀ k, j ≤ k → k < j + n → wE (rN s k) < (rN s k).size) → Lib.splitB ⟨#[32]⟩ 0 n (rN s j) = (List.range n).map (fun i => wH (rN s (j + i))) ++ [rN s (j + n)]
  | 0, j, _ => rfl
  | n + 1, j, h => by
    have h0 := h j (Nat.le_refl _) (by omega)
    rw [Lib.splitB_hit _ _ _ _ _ (index_sp h0)]
    have e1 : (rN s j).extract 0 (wE (rN s j) + 0) = wH (rN s j) := rfl
    have e2 : (rN s j).extract (wE (rN s j) + (⟨#[32]⟩ : ByteArray).size) (rN s j).size = rN s (j + 1) := by
      show _ = wR (rN s j)
      unfold wR wS
      rw [if_pos h0]
      rfl
    rw [e1, e2, split_told s n (j + 1) (fun k h1 h2 => h k (by omega) (by omega)), List.range_succ_eq_map, List.map_cons, List.map_map]
    have e3 : ((fun i => wH (rN s (j + i))) ∘ Nat.succ) = fun i => wH (rN s (j + 1 + i)) := by
      funext i
      show wH (rN s (j + (i + 1))) = _
      rw [show j + (i + 1) = j + 1 + i by omega]
    rw [e3, show j + (n + 1) = j + 1 + n by omega]
    rfl
theorem split_sizes (sep : ByteArray) : ∀ (k : Nat) (s x : ByteArray), x ∈ Lib.splitB sep 0 k s → x.size ≤ s.size
  | 0, s, x, h => by
    rw [Lib.splitB_zero, List.mem_singleton] at h
    rw [h]
    exact Nat.le_refl _
  | k + 1, s, x, h => by
    rcases Lib.indexB_cases s sep with e | ⟨i, e, hi⟩
    · rw [Lib.splitB_miss _ _ _ _ e, List.mem_singleton] at h
      rw [h]
      exact Nat.le_refl _
    · rw [Lib.splitB_hit _ _ _ _ _ e, List.mem_cons] at h
      rcases h with h | h
      · rw [h, ext_size _ _ _ (by omega)]
        omega
      · have := split_sizes sep k _ x h
        rw [ext_size _ _ _ (Nat.le_refl _)] at this
        omega
end Go.Proofs.YtcmimbohmninkaaGreatDoor
