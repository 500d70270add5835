import Derived.Test.YtcmimbohmninkaaGreatDoorPk
import Derived.Test.YtcmimbohmninkaaGreatDoorFu
namespace Go.Proofs.YtcmimbohmninkaaGreatDoor
open Go.RowKit
theorem pu_snoc (c : UInt8) (hc : 48 ≤ c.toNat ∧ c.toNat ≤ 57) : ∀ (l : List UInt8) (acc u : Nat), Lib.parseUint10 acc l = .ok u → u < 1000000000000000 → Lib.parseUint10 acc (l ++ [c]) = .ok (u * 10 + (c.toNat - 48))
  | [], acc, u, h, hu => by
    simp only [Lib.parseUint10] at h
    injection h with h
    subst h
    simp only [List.nil_append, Lib.parseUint10]
    rw [if_pos hc, if_neg (by omega), if_neg (by omega)]
  | d :: r, acc, u, h, hu => by
    simp only [Lib.parseUint10] at h
    simp only [List.cons_append, Lib.parseUint10]
    split at h
    · rename_i hd
      rw [if_pos hd]
      split at h
      · cases h
      · rename_i h1
        rw [if_neg h1]
        split at h
        · cases h
        · rename_i h2
          rw [if_neg h2]
          exact pu_snoc c hc r _ u h hu
    · cases h
theorem pu_dec : ∀ m : Nat, m < 1000000000000000 → Lib.parseUint10 0 (Lib.decDigits m) = .ok m := by
  intro m
  induction m using Nat.strongRecOn with
  | ind m ih =>
    intro hm
    by_cases h : m < 10
    · rw [Lib.decDigits, dif_pos h]
      have e : (UInt8.ofNat (48 + m)).toNat = 48 + m := by rw [UInt8.toNat_ofNat']; omega
      simp only [Lib.parseUint10, e]
      rw [if_pos (by omega), if_neg (by omega), if_neg (by omega)]
      congr 1
      omega
    · rw [Lib.decDigits, dif_neg h]
      have e : (UInt8.ofNat (48 + m % 10)).toNat = 48 + m % 10 := by rw [UInt8.toNat_ofNat']; omega
      rw [pu_snoc _ (by rw [e]; omega) _ _ _ (ih (m / 10) (by omega) (by omega)) (by omega), e]
      congr 1
      omega
theorem atoi_dec (m : Nat) (hm : m < 1000000000000000) : Lib.atoiAll (dS m).data.toList = .ok (m : Int) := by
  have hp := Lib.nDigits_pos m
  have hs := dS_len m
  have h0 := dS_at m 0 (by omega)
  rw [byteAt_list] at h0
  have hpu : Lib.parseUint10 0 (dS m).data.toList = .ok m := pu_dec m hm
  cases hl : (dS m).data.toList with
  | nil =>
    have := pa_len (dS m)
    rw [hl] at this
    simp at this
    omega
  | cons c r =>
    rw [hl] at h0 hpu
    have hc : c.toNat = 48 + m / 10 ^ ((dS m).size - 1 - 0) % 10 := h0
    have hmod : m / 10 ^ ((dS m).size - 1 - 0) % 10 < 10 := Nat.mod_lt _ (by omega)
    have h43 : c.toNat ≠ 43 := by omega
    have h45 : c.toNat ≠ 45 := by omega
    have hpm : Lib.parseMag (c :: r) = .ok m := by
      unfold Lib.parseMag
      rw [if_neg (by simp)]
      exact hpu
    unfold Lib.atoiAll
    simp only [h43, h45, or_self, if_false, hpm, false_and, not_false_eq_true, true_and]
    rw [if_neg (by omega)]
/-- a value that tells of an error -/
def ErrV (v : Value) : Prop := v = .nilIface ∨ ∃ t p, v = .iface t p
theorem atoi_any (s : ByteArray) (hs : (s.size : Int) ≤ 1048576) (e8 e9 : Value) (w : World) (h8 : w.cell? ⟨8, 0, none⟩ = some e8) (v8 : ErrV e8) (h9 : w.cell? ⟨9, 0, none⟩ = some e9) (v9 : ErrV e9) :
    Calls Tryz.prog 55 #[.string s] w fun e w' => ∃ v err, e = .returned (.tuple #[.int .i64 v, err]) ∧ ErrV err ∧ (∀ m : Nat, m ≤ 1000000 → s = dS m → v = m ∧ err = .nilIface) ∧ Below w.heap.size w w' := by
  cases ha : Lib.atoiAll s.data.toList with
  | ok v =>
    refine (Tryz.strconv_Atoi_ok s (by omega) v ha w).mono ?_
    rintro e w1 ⟨rfl, hw⟩
    refine ⟨v, .nilIface, rfl, Or.inl rfl, fun m hm e => ⟨?_, rfl⟩, ?_⟩
    · rw [e, atoi_dec m (by omega)] at ha
      injection ha with ha
      exact ha.symm
    · rcases hw with rfl | ⟨t, rfl⟩
      · exact Below.refl _ _
      · exact Lib.bytesWorld_below _ _ _
  | «syntax» =>
    refine (Tryz.strconv_Atoi_syntax s (by omega) ha e8 w h8 v8).mono ?_
    rintro e w1 ⟨n, rfl, _, _, hb⟩
    refine ⟨0, _, rfl, Or.inr ⟨_, _, rfl⟩, fun m hm e => ?_, hb⟩
    rw [e, atoi_dec m (by omega)] at ha
    cases ha
  | range =>
    refine (Tryz.strconv_Atoi_range s (by omega) ha e9 w h9 v9).mono ?_
    rintro e w1 ⟨n, rfl, _, _, hb⟩
    refine ⟨_, _, rfl, Or.inr ⟨_, _, rfl⟩, fun m hm e => ?_, hb⟩
    rw [e, atoi_dec m (by omega)] at ha
    cases ha
set_option maxRecDepth 100000 in
set_option maxHeartbeats 1000000 in
theorem number2_any (g b o : Nat) (f : ByteArray) (hf : (f.size : Int) ≤ 1048576) (u : Value) (e8 e9 : Value) (w : World) (h8 : w.cell? ⟨8, 0, none⟩ = some e8) (v8 : ErrV e8) (h9 : w.cell? ⟨9, 0, none⟩ = some e9) (v9 : ErrV e9)
    (hg : g < w.heap.size) (hb : b < w.heap.size) (h0 : w.cell? ⟨g, 0, none⟩ = some (.pointer (some ⟨b, o, none⟩))) (h1 : w.cell? ⟨b, o, none⟩ = some u) (h2 : w.frozen? ⟨b, o, none⟩ = false) :
    Calls Tryz.prog 54 #[.string f, .pointer (some ⟨g, 0, none⟩)] w fun e w' => ∃ (v : Int) (err : Value) (w1 : World), e = .returned err ∧ ErrV err ∧ (∀ m : Nat, m ≤ 1000000 → f = dS m → v = m ∧ err = .nilIface) ∧ Below w.heap.size w w1 ∧ w' = w1.setCell ⟨b, o, none⟩ (.int .i64 v) := by
  have HA := hid (atoi_any f hf e8 e9 w h8 v8 h9 v9)
  clear h8 v8 h9 v9
  go_enter Tryz.func54, Tryz.ntmps54
  go_wp2_with (go_at_call 55; go_must (refine HA.out.mono ?_; rintro e w1 ⟨v, err, rfl, he, hm, hb1⟩; have HE := hid he; have HM := hid hm; have HB := hid hb1; have k0 := (hb1.cell (p := ⟨g, 0, none⟩) hg).trans h0; have k1 := (hb1.cell (p := ⟨b, o, none⟩) hb).trans h1; have k2 := (hb1.frozen (p := ⟨b, o, none⟩) hb).trans h2; clear he hm hb1))
  go_ret
  exact ⟨v, err, w1, rfl, HE.out, HM.out, HB.out, rfl⟩
end Go.Proofs.YtcmimbohmninkaaGreatDoor
