import Derived.Test.YtcmimbohmninkaaGreatDoorPd
namespace Go.Proofs.YtcmimbohmninkaaGreatDoor
open Go.RowKit
theorem qTo_pre (te : ByteArray) : ∀ n j, j < n → ∃ r, qTo te n = qTo te j ++ qB (byteAt te j) ++ r
  | 0, j, h => absurd h (Nat.not_lt_zero _)
  | n + 1, j, h => by
    by_cases e : j = n
    · subst e
      exact ⟨[], by simp [qTo]⟩
    · obtain ⟨r, hr⟩ := qTo_pre te n j (by omega)
      exact ⟨r ++ qB (byteAt te n), by rw [qTo, hr]; simp⟩
theorem quS_pre (te : ByteArray) (j : Nat) (h : j < te.size) : ∃ r, (quS te).data.toList = qTo te j ++ (qB (byteAt te j) ++ (r ++ [34])) := by
  obtain ⟨r, hr⟩ := qTo_pre te te.size j h
  refine ⟨r, ?_⟩
  show (quL te).toArray.toList = _
  unfold quL
  rw [hr]
  simp
theorem at_behind {s : ByteArray} {a b : List UInt8} (e : s.data.toList = a ++ b) (i : Nat) : byteAt s (a.length + i) = b[i]?.getD 0 := by
  rw [byteAt_list, e, List.getElem?_append_right (by omega), Nat.add_sub_cancel_left]
theorem quS_end (te : ByteArray) : byteAt (quS te) (qTo te te.size).length = 34 ∧ (qTo te te.size).length + 1 = (quS te).size := by
  have e : (quS te).data.toList = qTo te te.size ++ [34] := rfl
  refine ⟨at_behind e 0, ?_⟩
  have := congrArg List.length e
  rw [pa_len, List.length_append] at this
  simpa using this.symm
theorem qTo_mono (te : ByteArray) (j : Nat) (h : j ≤ te.size) : (qTo te j).length < (quS te).size := by
  by_cases e : j = te.size
  · have := (quS_end te).2
    rw [e]
    omega
  · obtain ⟨r, hr⟩ := quS_pre te j (by omega)
    have := congrArg List.length hr
    rw [pa_len, List.length_append, List.length_append, List.length_append] at this
    simp at this
    omega
theorem hex_digs : ∀ x : Fin 16, hexZ (byteAt digs x.val).toNat = (x.val : Int) := by decide
theorem hexZ_le (x : Nat) : hexZ x ≤ 15 := by
  unfold hexZ
  split
  · omega
  · split <;> omega
theorem plain_ne {b : UInt8} (h : plainB b = true) : b ≠ 34 ∧ b ≠ 92 := by
  refine ⟨fun e => ?_, fun e => ?_⟩ <;> · subst e; revert h; decide
theorem quS_plain {te : ByteArray} {j : Nat} (h : j < te.size) (hp : plainB (byteAt te j) = true) : byteAt (quS te) (qTo te j).length = byteAt te j ∧ (qTo te (j + 1)).length = (qTo te j).length + 1 := by
  obtain ⟨r, hr⟩ := quS_pre te j h
  rw [qB_yes hp] at hr
  refine ⟨at_behind hr 0, ?_⟩
  rw [qTo, qB_yes hp]
  simp
theorem quS_esc {te : ByteArray} {j : Nat} (h : j < te.size) (hp : plainB (byteAt te j) = false) : byteAt (quS te) (qTo te j).length = 92 ∧ hexZ (byteAt (quS te) ((qTo te j).length + 1)).toNat = ((byteAt te j).toNat / 16 : Nat) ∧ hexZ (byteAt (quS te) ((qTo te j).length + 2)).toNat = ((byteAt te j).toNat % 16 : Nat) ∧ (qTo te j).length + 2 < (quS te).size ∧ (qTo te (j + 1)).length = (qTo te j).length + 3 := by
  obtain ⟨r, hr⟩ := quS_pre te j h
  rw [qB_no hp] at hr
  have hlt := UInt8.toNat_lt (byteAt te j)
  have h1 : byteAt (quS te) ((qTo te j).length + 1) = byteAt digs ((byteAt te j).toNat / 16) := at_behind hr 1
  have h2 : byteAt (quS te) ((qTo te j).length + 2) = byteAt digs ((byteAt te j).toNat % 16) := at_behind hr 2
  refine ⟨at_behind hr 0, ?_, ?_, ?_, ?_⟩
  · rw [h1]
    exact hex_digs ⟨(byteAt te j).toNat / 16, by omega⟩
  · rw [h2]
    exact hex_digs ⟨(byteAt te j).toNat % 16, by omega⟩
  · have := congrArg List.length hr
    rw [pa_len] at this
    simp at this
    omega
  · rw [qTo, qB_no hp]
    simp
/-- where the reading of a text in quotes stands -/
def UqAt (s : ByteArray) (k : Nat) (l : List UInt8) : Prop := ∀ te, s = quS te → ∃ j, j ≤ te.size ∧ k = (qTo te j).length ∧ l = te.data.toList.take j
theorem take_snoc (te : ByteArray) (j : Nat) (h : j < te.size) : te.data.toList.take (j + 1) = te.data.toList.take j ++ [byteAt te j] := by
  rw [List.take_add_one, List.getElem?_eq_getElem (by rw [pa_len]; exact h), byteAt_list, List.getElem?_eq_getElem (by rw [pa_len]; exact h)]
  rfl
theorem UqAt.start (s : ByteArray) : UqAt s 1 [] := fun te _ => ⟨0, Nat.zero_le _, rfl, by simp⟩
theorem UqAt.over {s : ByteArray} {k : Nat} {l : List UInt8} (h : UqAt s k l) (hk : ¬ k < s.size) (te : ByteArray) (e : s = quS te) : False := by
  obtain ⟨j, hj, hk2, _⟩ := h te e
  have := qTo_mono te j hj
  rw [e] at hk
  omega
theorem UqAt.ends {s : ByteArray} {k : Nat} {l : List UInt8} (h : UqAt s k l) (hk : byteAt s k = 34) (te : ByteArray) (e : s = quS te) : (⟨l.toArray⟩ : ByteArray) = te := by
  obtain ⟨j, hj, hk2, hl⟩ := h te e
  by_cases hje : j = te.size
  · refine pa_ext ?_
    show l.toArray.toList = _
    rw [hl, hje, List.take_of_length_le (by rw [pa_len]; exact Nat.le_refl _)]
  · rw [e, hk2] at hk
    cases hp : plainB (byteAt te j) with
    | true =>
      rw [(quS_plain (by omega) hp).1] at hk
      exact absurd hk (plain_ne hp).1
    | false =>
      rw [(quS_esc (by omega) hp).1] at hk
      exact absurd hk (by decide)
theorem UqAt.esc {s : ByteArray} {k : Nat} {l : List UInt8} {bb : UInt8} (h : UqAt s k l) (hk : byteAt s k = 92) (hbb : 16 * hexZ (byteAt s (k + 1)).toNat + hexZ (byteAt s (k + 2)).toNat = (bb.toNat : Int)) : UqAt s (k + 3) (l ++ [bb]) := by
  intro te e
  obtain ⟨j, hj, hk2, hl⟩ := h te e
  subst e hk2
  by_cases hje : j = te.size
  · rw [hje, (quS_end te).1] at hk
    exact absurd hk (by decide)
  · have hj2 : j < te.size := by omega
    cases hp : plainB (byteAt te j) with
    | true =>
      rw [(quS_plain hj2 hp).1] at hk
      exact absurd hk (plain_ne hp).2
    | false =>
      obtain ⟨_, e1, e2, _, e3⟩ := quS_esc hj2 hp
      rw [e1, e2] at hbb
      have hb : bb = byteAt te j := by
        refine UInt8.toNat_inj.1 ?_
        omega
      exact ⟨j + 1, by omega, e3.symm, by rw [take_snoc te j hj2, hl, hb]⟩
theorem UqAt.plain {s : ByteArray} {k : Nat} {l : List UInt8} (h : UqAt s k l) (hk : byteAt s k ≠ 34) (hx : ¬ (byteAt s k = 92 ∧ k + 2 < s.size ∧ 0 ≤ hexZ (byteAt s (k + 1)).toNat ∧ 0 ≤ hexZ (byteAt s (k + 2)).toNat)) : UqAt s (k + 1) (l ++ [byteAt s k]) := by
  intro te e
  obtain ⟨j, hj, hk2, hl⟩ := h te e
  subst e hk2
  by_cases hje : j = te.size
  · rw [hje] at hk
    exact absurd (quS_end te).1 hk
  · have hj2 : j < te.size := by omega
    cases hp : plainB (byteAt te j) with
    | true =>
      obtain ⟨e1, e2⟩ := quS_plain hj2 hp
      exact ⟨j + 1, by omega, e2.symm, by rw [take_snoc te j hj2, hl, e1]⟩
    | false =>
      obtain ⟨e0, e1, e2, e3, _⟩ := quS_esc hj2 hp
      exact absurd ⟨e0, e3, by rw [e1]; omega, by rw [e2]; omega⟩ hx
theorem u8_ne {b : UInt8} {n : Nat} (hn : n < 256) (h : ¬ b = UInt8.ofNat n) : ((b.toNat : Int) == (n : Int)) = false := by
  have : ¬ b.toNat = n := fun e => h (UInt8.toNat_inj.1 (by rw [e, UInt8.toNat_ofNat']; omega))
  simp
  omega
theorem u8_34 {b : UInt8} (h : ¬ b = 34) : ¬ ((b.toNat : Int) = 34) := fun e => h (by
  have e2 : b.toNat = 34 := by omega
  exact UInt8.toNat_inj.1 e2)
theorem u8_92 {b : UInt8} (h : ¬ b = 92) : ¬ ((b.toNat : Int) = 92) := fun e => h (by
  have e2 : b.toNat = 92 := by omega
  exact UInt8.toNat_inj.1 e2)
theorem ba_len (l : List UInt8) : (⟨l.toArray⟩ : ByteArray).size = l.length := List.size_toArray
theorem ba0 : (⟨([] : List UInt8).toArray⟩ : ByteArray) = ByteArray.empty := rfl
theorem OwnB.conv0 {W : World} {base : Nat} {v : Value} {l : List UInt8} (h : OwnB W base v l) : (convert 48 9 v).run Tryz.prog W = .ok (.string ⟨l.toArray⟩) W := by
  by_cases h0 : l = []
  · subst h0
    rcases h.2 with ⟨hv, _⟩ | ⟨g, cap, cur, hv, _⟩
    · subst hv
      simp [convert, Conv.bytesToString, go_sem]
      rfl
    · subst hv
      refine run_convert_bytes_back (P := Tryz.prog) W 48 9 5 ⟨g, 0, none⟩ cap [] Tryz.underlying48 Tryz.underlying5 Tryz.underlying9 ?_
      intro i hi
      exact absurd hi (Nat.not_lt_zero _)
  · exact OwnB.conv h h0
end Go.Proofs.YtcmimbohmninkaaGreatDoor
