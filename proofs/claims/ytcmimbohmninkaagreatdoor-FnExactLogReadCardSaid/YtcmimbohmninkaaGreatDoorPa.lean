import Derived.Test.YtcmimbohmninkaaGreatDoorLf
namespace Go.Proofs.YtcmimbohmninkaaGreatDoor
open Go.RowKit
theorem pa_append (a b : ByteArray) : (a ++ b).data.toList = a.data.toList ++ b.data.toList := by simp
theorem pa_ext {a b : ByteArray} (h : a.data.toList = b.data.toList) : a = b := by
  cases a; cases b
  simp only at h
  rw [Array.toList_inj.1 h]
theorem pa_len (a : ByteArray) : a.data.toList.length = a.size := by rw [Array.length_toList]; rfl
theorem pa_extract (a : ByteArray) (i j : Nat) : (a.extract i j).data.toList = (a.data.toList.drop i).take (j - i) := by
  rw [ByteArray.data_extract, Array.toList_extract, List.extract_eq_take_drop]
theorem byteAt_list (s : ByteArray) (i : Nat) : byteAt s i = (s.data.toList)[i]?.getD 0 := by
  unfold byteAt
  split
  · rename_i h
    rw [List.getElem?_eq_getElem (by rw [pa_len]; exact h)]
    rfl
  · rename_i h
    rw [List.getElem?_eq_none (by rw [pa_len]; omega)]
    rfl
/-- where the first word of a text ends -/
def IsEnd (s : ByteArray) (n : Nat) : Prop := n ≤ s.size ∧ (∀ j, j < n → byteAt s j ≠ 32) ∧ (n < s.size → byteAt s n = 32)
theorem isEnd_unique {s : ByteArray} {n m : Nat} (h : IsEnd s n) (k : IsEnd s m) : n = m := by
  rcases Nat.lt_trichotomy n m with e | e | e
  · exact absurd (h.2.2 (by have := k.1; omega)) (k.2.1 n e)
  · exact e
  · exact absurd (k.2.2 (by have := h.1; omega)) (h.2.1 m e)
theorem isEnd_from (s : ByteArray) : ∀ d n, n + d = s.size → (∀ j, j < n → byteAt s j ≠ 32) → ∃ m, IsEnd s m
  | 0, n, hd, h => ⟨n, by omega, h, fun hn => by omega⟩
  | d + 1, n, hd, h => by
    by_cases e : byteAt s n = 32
    · exact ⟨n, by omega, h, fun _ => e⟩
    · refine isEnd_from s d (n + 1) (by omega) (fun j hj => ?_)
      by_cases ej : j = n
      · rw [ej]; exact e
      · exact h j (by omega)
theorem isEnd_exists (s : ByteArray) : ∃ m, IsEnd s m := isEnd_from s s.size 0 (by omega) (fun j hj => absurd hj (Nat.not_lt_zero _))
noncomputable def wE (s : ByteArray) : Nat := Classical.choose (isEnd_exists s)
theorem wE_is (s : ByteArray) : IsEnd s (wE s) := Classical.choose_spec (isEnd_exists s)
theorem wE_eq {s : ByteArray} {n : Nat} (h : IsEnd s n) : wE s = n := isEnd_unique (wE_is s) h
/-- the first word, and what stands behind it -/
noncomputable def wH (s : ByteArray) : ByteArray := s.extract 0 (wE s)
noncomputable def wS (s : ByteArray) : Nat := if wE s < s.size then wE s + 1 else wE s
noncomputable def wR (s : ByteArray) : ByteArray := s.extract (wS s) s.size
noncomputable def rN (s : ByteArray) : Nat → ByteArray | 0 => s | k + 1 => wR (rN s k)
theorem wS_le (s : ByteArray) : wS s ≤ s.size := by
  unfold wS
  have := (wE_is s).1
  split <;> omega
theorem ext_size (s : ByteArray) (i j : Nat) (h : j ≤ s.size) : (s.extract i j).size = j - i := by
  have := congrArg List.length (pa_extract s i j)
  rw [pa_len, List.length_take, List.length_drop, pa_len] at this
  omega
theorem wR_size (s : ByteArray) : (wR s).size ≤ s.size := by
  unfold wR
  rw [ext_size _ _ _ (Nat.le_refl _)]
  omega
theorem rN_size (s : ByteArray) : ∀ k, (rN s k).size ≤ s.size
  | 0 => Nat.le_refl _
  | k + 1 => Nat.le_trans (wR_size _) (rN_size s k)
/-- a text without a space -/
def NoSp (a : ByteArray) : Prop := ∀ j, j < a.size → byteAt a j ≠ 32
theorem isEnd_app {a t : ByteArray} (h : NoSp a) : IsEnd (a ++ (⟨#[32]⟩ : ByteArray) ++ t) a.size := by
  have e : (a ++ (⟨#[32]⟩ : ByteArray) ++ t).data.toList = a.data.toList ++ (32 :: t.data.toList) := by
    rw [pa_append, pa_append]
    simp
  have hz : (a ++ (⟨#[32]⟩ : ByteArray) ++ t).size = a.size + 1 + t.size := by
    have := congrArg List.length e
    rw [pa_len, List.length_append, List.length_cons, pa_len, pa_len] at this
    omega
  refine ⟨by omega, fun j hj => ?_, fun _ => ?_⟩
  · have := h j hj
    rw [byteAt_list] at this ⊢
    rw [e, List.getElem?_append_left (by rw [pa_len]; exact hj)]
    exact this
  · rw [byteAt_list, e, List.getElem?_append_right (by rw [pa_len]; exact Nat.le_refl _), pa_len, Nat.sub_self]
    rfl
theorem size_app (a t : ByteArray) : (a ++ (⟨#[32]⟩ : ByteArray) ++ t).size = a.size + 1 + t.size := by
  rw [ByteArray.size_append, ByteArray.size_append]
  rfl
theorem wH_app {a t : ByteArray} (h : NoSp a) : wH (a ++ (⟨#[32]⟩ : ByteArray) ++ t) = a := by
  unfold wH
  rw [wE_eq (isEnd_app h)]
  refine pa_ext ?_
  rw [pa_extract, pa_append, pa_append, List.drop_zero, Nat.sub_zero, List.append_assoc, List.take_append_of_le_length (by rw [pa_len]; exact Nat.le_refl _), List.take_of_length_le (by rw [pa_len]; exact Nat.le_refl _)]
theorem wR_app {a t : ByteArray} (h : NoSp a) : wR (a ++ (⟨#[32]⟩ : ByteArray) ++ t) = t := by
  unfold wR wS
  rw [wE_eq (isEnd_app h), size_app, if_pos (by omega)]
  refine pa_ext ?_
  rw [pa_extract, pa_append]
  have e : (a ++ (⟨#[32]⟩ : ByteArray)).data.toList.length = a.size + 1 := by
    rw [pa_len, ByteArray.size_append]
    rfl
  rw [List.drop_append_of_le_length (by omega), List.drop_of_length_le (by omega), List.nil_append, List.take_of_length_le (by rw [pa_len]; omega)]
theorem wE_lt_app {a t : ByteArray} (h : NoSp a) : wE (a ++ (⟨#[32]⟩ : ByteArray) ++ t) = a.size := wE_eq (isEnd_app h)
/-- a form, from its end on -/
def fT (cl ki na ho te : ByteArray) (nn oo ss : Nat) : Nat → ByteArray
  | 7 => quS te
  | 6 => ho ++ (⟨#[32]⟩ : ByteArray) ++ quS te
  | 5 => dS ss ++ (⟨#[32]⟩ : ByteArray) ++ (ho ++ (⟨#[32]⟩ : ByteArray) ++ quS te)
  | 4 => na ++ (⟨#[32]⟩ : ByteArray) ++ (dS ss ++ (⟨#[32]⟩ : ByteArray) ++ (ho ++ (⟨#[32]⟩ : ByteArray) ++ quS te))
  | 3 => ki ++ (⟨#[32]⟩ : ByteArray) ++ (na ++ (⟨#[32]⟩ : ByteArray) ++ (dS ss ++ (⟨#[32]⟩ : ByteArray) ++ (ho ++ (⟨#[32]⟩ : ByteArray) ++ quS te)))
  | 2 => dS oo ++ (⟨#[32]⟩ : ByteArray) ++ (ki ++ (⟨#[32]⟩ : ByteArray) ++ (na ++ (⟨#[32]⟩ : ByteArray) ++ (dS ss ++ (⟨#[32]⟩ : ByteArray) ++ (ho ++ (⟨#[32]⟩ : ByteArray) ++ quS te))))
  | 1 => dS nn ++ (⟨#[32]⟩ : ByteArray) ++ (dS oo ++ (⟨#[32]⟩ : ByteArray) ++ (ki ++ (⟨#[32]⟩ : ByteArray) ++ (na ++ (⟨#[32]⟩ : ByteArray) ++ (dS ss ++ (⟨#[32]⟩ : ByteArray) ++ (ho ++ (⟨#[32]⟩ : ByteArray) ++ quS te)))))
  | _ => cl ++ (⟨#[32]⟩ : ByteArray) ++ (dS nn ++ (⟨#[32]⟩ : ByteArray) ++ (dS oo ++ (⟨#[32]⟩ : ByteArray) ++ (ki ++ (⟨#[32]⟩ : ByteArray) ++ (na ++ (⟨#[32]⟩ : ByteArray) ++ (dS ss ++ (⟨#[32]⟩ : ByteArray) ++ (ho ++ (⟨#[32]⟩ : ByteArray) ++ quS te))))))
/-- its fields but the last -/
def fF (cl ki na ho : ByteArray) (nn oo ss : Nat) : Nat → ByteArray
  | 0 => cl
  | 1 => dS nn
  | 2 => dS oo
  | 3 => ki
  | 4 => na
  | 5 => dS ss
  | _ => ho
theorem formS_fT (cl ki na ho te : ByteArray) (nn oo ss : Nat) : formS cl ki na ho te nn oo ss = fT cl ki na ho te nn oo ss 0 := by
  refine pa_ext ?_
  unfold formS fT
  simp only [pa_append, List.append_assoc]
theorem fT_step (cl ki na ho te : ByteArray) (nn oo ss : Nat) (k : Nat) (hk : k < 7) : fT cl ki na ho te nn oo ss k = fF cl ki na ho nn oo ss k ++ (⟨#[32]⟩ : ByteArray) ++ fT cl ki na ho te nn oo ss (k + 1) := by
  rcases (show k = 0 ∨ k = 1 ∨ k = 2 ∨ k = 3 ∨ k = 4 ∨ k = 5 ∨ k = 6 by omega) with rfl | rfl | rfl | rfl | rfl | rfl | rfl <;> rfl
/-- where a form is read: its words, and the rest -/
theorem rN_form {cl ki na ho te : ByteArray} {nn oo ss : Nat} (h : ∀ k, k < 7 → NoSp (fF cl ki na ho nn oo ss k)) : ∀ k, k ≤ 7 → rN (formS cl ki na ho te nn oo ss) k = fT cl ki na ho te nn oo ss k
  | 0, _ => formS_fT _ _ _ _ _ _ _ _
  | k + 1, hk => by
    show wR (rN _ k) = _
    rw [rN_form h k (by omega), fT_step _ _ _ _ _ _ _ _ k (by omega), wR_app (h k (by omega))]
theorem wK_form {cl ki na ho te : ByteArray} {nn oo ss : Nat} (h : ∀ k, k < 7 → NoSp (fF cl ki na ho nn oo ss k)) (k : Nat) (hk : k < 7) : wH (rN (formS cl ki na ho te nn oo ss) k) = fF cl ki na ho nn oo ss k ∧ wE (rN (formS cl ki na ho te nn oo ss) k) < (rN (formS cl ki na ho te nn oo ss) k).size := by
  rw [rN_form h k (by omega), fT_step _ _ _ _ _ _ _ _ k hk]
  exact ⟨wH_app (h k hk), by rw [wE_lt_app (h k hk), size_app]; omega⟩
theorem dg_ne (u k : Nat) : Lib.dg u k ≠ 32 := by
  unfold Lib.dg
  intro e
  have h := congrArg UInt8.toNat e
  rw [UInt8.toNat_ofNat'] at h
  have : u / 10 ^ k % 10 < 10 := Nat.mod_lt _ (by omega)
  have e32 : (32 : UInt8).toNat = 32 := rfl
  omega
theorem noSp_dec (n : Nat) : NoSp (dS n) := fun j hj => by
  rw [byteAt_list]
  show ((Lib.decDigits n).toArray.toList[j]?).getD 0 ≠ 32
  have hj' : j < Lib.nDigits n := by
    have : (dS n).size = (Lib.decDigits n).length := by simp [dS, ByteArray.size]
    rw [this, Lib.decDigits_length] at hj
    exact hj
  simp only []
  rw [Lib.decDigits_eq, List.getElem?_map, List.getElem?_range hj']
  exact dg_ne _ _
theorem noSp_name {s : ByteArray} (h : nameB s = true) : NoSp s := fun j hj e => by
  unfold nameB at h
  rw [Bool.and_eq_true] at h
  have := allTo_iff.1 h.2 j hj
  rw [e] at this
  exact absurd this (by decide)
end Go.Proofs.YtcmimbohmninkaaGreatDoor
