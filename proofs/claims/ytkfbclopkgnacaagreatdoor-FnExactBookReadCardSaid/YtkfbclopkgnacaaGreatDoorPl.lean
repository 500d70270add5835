import Derived.Test.YtkfbclopkgnacaaGreatDoorPb
import Derived.Lib.AtoiAllCases
namespace Go.Proofs.YtkfbclopkgnacaaGreatDoor
open Go.RowKit
def hdW (w : World) (b o : Nat) (f : ByteArray) : World := if f = ⟨#[42]⟩ then w else w.setCell ⟨b, o, none⟩ (.string f)
/-- a reader: what is left, and whether something was amiss -/
structure RdAt (w : World) (R : Nat) (s : ByteArray) (b : Bool) : Prop where
  c0 : w.cell? ⟨R, 0, none⟩ = some (.string s)
  c1 : w.cell? ⟨R, 1, none⟩ = some (.bool b)
  f0 : w.frozen? ⟨R, 0, none⟩ = false
  f1 : w.frozen? ⟨R, 1, none⟩ = false
theorem RdAt.rest {w : World} {R : Nat} {s : ByteArray} {b : Bool} (h : RdAt w R s b) (t : ByteArray) : RdAt (w.setCell ⟨R, 0, none⟩ (.string t)) R t b :=
  ⟨World.cell?_setCell_same _ _ _ h.c0, (World.cell?_setCell_other _ _ _ _ (by intro e; cases e)).trans h.c1, by simpa using h.f0, by simpa using h.f1⟩
theorem RdAt.amiss {w : World} {R : Nat} {s : ByteArray} {b : Bool} (h : RdAt w R s b) (d : Bool) : RdAt (w.setCell ⟨R, 1, none⟩ (.bool d)) R s d :=
  ⟨(World.cell?_setCell_other _ _ _ _ (by intro e; cases e)).trans h.c0, World.cell?_setCell_same _ _ _ h.c1, by simpa using h.f0, by simpa using h.f1⟩
/-- so many bytes that come next -/
def nxS (s : ByteArray) (k : Nat) : ByteArray := if s.size < k then ⟨#[]⟩ else s.extract 0 k
def nxR (s : ByteArray) (k : Nat) : ByteArray := if s.size < k then s else s.extract k s.size
def nxA (s : ByteArray) (b : Bool) (k : Nat) : Bool := if s.size < k then true else b
set_option maxRecDepth 100000 in
set_option maxHeartbeats 1000000 in
theorem next_any (R : Nat) (s : ByteArray) (b : Bool) (k : Nat) (_hk : k ≤ 1048576) (_hs : (s.size : Int) ≤ 1048576) (w : World) (h : RdAt w R s b) :
    Calls Tryz.prog 57 #[.pointer (some ⟨R, 0, none⟩), .int .i64 k] w fun e w' => e = .returned (.string (nxS s k)) ∧ RdAt w' R (nxR s k) (nxA s b k) ∧ Fr R (R + 1) w w' := by
  have c0 := h.c0
  have c1 := h.c1
  have f0 := h.f0
  have f1 := h.f1
  by_cases hl : s.size < k
  · have H1 := hid (h.amiss true)
    rw [show nxS s k = ⟨#[]⟩ from if_pos hl, show nxR s k = s from if_pos hl, show nxA s b k = true from if_pos hl]
    clear h
    go_enter Tryz.func57, Tryz.ntmps57
    go_wp2
    go_ret
    exact ⟨rfl, H1.out, (Fr.refl R (R + 1) w).setCell (p := ⟨R, 1, none⟩) (Nat.le_refl _) (Nat.lt_succ_self _) _⟩
  · have H1 := hid (h.rest (s.extract k s.size))
    rw [show nxS s k = s.extract 0 k from if_neg hl, show nxR s k = s.extract k s.size from if_neg hl, show nxA s b k = b from if_neg hl]
    clear h
    have hi : (k : Int) ≤ (s.size : Int) := by omega
    go_enter Tryz.func57, Tryz.ntmps57
    go_wp2
    go_ret
    exact ⟨rfl, H1.out, (Fr.refl R (R + 1) w).setCell (p := ⟨R, 0, none⟩) (Nat.le_refl _) (Nat.lt_succ_self _) _⟩
end Go.Proofs.YtkfbclopkgnacaaGreatDoor
namespace Go.Proofs.YtkfbclopkgnacaaGreatDoor
open Go.RowKit
/-- whether a text opens with a byte -/
def qpB (c : UInt8) (s : ByteArray) : Bool := decide (1 ≤ s.size) && decide (s.extract 0 1 = ⟨#[c]⟩)
def qpR (c : UInt8) (s : ByteArray) : ByteArray := if qpB c s = true then s.extract 1 s.size else s
set_option maxRecDepth 100000 in
set_option maxHeartbeats 1000000 in
theorem hasPre_any (c : UInt8) (s : ByteArray) (hs : (s.size : Int) ≤ 1048576) (w : World) :
    Calls Tryz.prog 122 #[.string s, .string ⟨#[c]⟩] w fun e w' => e = .returned (.bool (qpB c s)) ∧ w' = w := by
  by_cases h1 : 1 ≤ s.size
  · by_cases h2 : s.extract 0 1 = ⟨#[c]⟩
    · have HB := hid (show qpB c s = true by simp [qpB, h1, h2])
      have he : ((s.extract 0 1).toList == [c]) = true := by rw [h2]; simp
      clear h2
      go_enter Tryz.func122, Tryz.ntmps122
      go_wp2
      go_ret
      exact ⟨by rw [HB.out]; rfl, rfl⟩
    · have HB := hid (show qpB c s = false by simp [qpB, h2])
      have he : ((s.extract 0 1).toList == [c]) = false := by
        have := toListNe h2
        simpa using this
      clear h2
      go_enter Tryz.func122, Tryz.ntmps122
      go_wp2
      go_ret
      exact ⟨by rw [HB.out]; rfl, rfl⟩
  · have HB := hid (show qpB c s = false by simp [qpB, h1])
    go_enter Tryz.func122, Tryz.ntmps122
    go_wp2
    go_ret
    exact ⟨by rw [HB.out]; rfl, rfl⟩
theorem qpB_size {c : UInt8} {s : ByteArray} (h : qpB c s = true) : 1 ≤ s.size := by
  simp only [qpB, Bool.and_eq_true, decide_eq_true_eq] at h
  exact h.1
set_option maxRecDepth 100000 in
set_option maxHeartbeats 1000000 in
theorem cutPre2_any (c : UInt8) (s : ByteArray) (hs : (s.size : Int) ≤ 1048576) (w : World) :
    Calls Tryz.prog 91 #[.string s, .string ⟨#[c]⟩] w fun e w' => e = .returned (.tuple #[.string (qpR c s), .bool (qpB c s)]) ∧ w' = w := by
  have HH := hid (hasPre_any c s hs)
  cases hq : qpB c s with
  | false =>
    have HR := hid (show qpR c s = s from if_neg (by rw [hq]; decide))
    rw [hq] at HH
    clear hq
    go_enter Tryz.func91, Tryz.ntmps91
    go_wp2_with (go_at_call 122; go_must (refine (HH.out _).mono ?_; rintro e w1 ⟨rfl, hw1⟩; rw [hw1]; clear hw1))
    refine bodyPost_ret (v := .tuple #[.string s, .bool false]) (results_tmp2 (t := 4) (u := 5) rfl _ _ _) rfl ?_
    exact ⟨by rw [HR.out], rfl⟩
  | true =>
    have HR := hid (show qpR c s = s.extract 1 s.size from if_pos hq)
    have h1 := qpB_size hq
    rw [hq] at HH
    clear hq
    go_enter Tryz.func91, Tryz.ntmps91
    go_wp2_with (go_at_call 122; go_must (refine (HH.out _).mono ?_; rintro e w1 ⟨rfl, hw1⟩; rw [hw1]; clear hw1))
    refine bodyPost_ret (v := .tuple #[.string (s.extract 1 s.size), .bool true]) (results_tmp2 (t := 4) (u := 5) rfl _ _ _) rfl ?_
    exact ⟨by rw [HR.out], rfl⟩
set_option maxRecDepth 100000 in
set_option maxHeartbeats 1000000 in
theorem cutPre_any (c : UInt8) (s : ByteArray) (hs : (s.size : Int) ≤ 1048576) (w : World) :
    Calls Tryz.prog 62 #[.string s, .string ⟨#[c]⟩] w fun e w' => e = .returned (.tuple #[.string (qpR c s), .bool (qpB c s)]) ∧ w' = w := by
  have HH := hid (cutPre2_any c s hs)
  obtain ⟨r, hr⟩ : ∃ r, qpR c s = r := ⟨_, rfl⟩
  obtain ⟨q, hq⟩ : ∃ q, qpB c s = q := ⟨_, rfl⟩
  rw [hr, hq] at HH ⊢
  clear hr hq
  go_enter Tryz.func62, Tryz.ntmps62
  go_wp2_with (go_at_call 91; go_must (refine (HH.out _).mono ?_; rintro e w1 ⟨rfl, hw1⟩; rw [hw1]; clear hw1))
  refine bodyPost_ret (v := .tuple #[.string r, .bool q]) (results_tmp2 (t := 4) (u := 5) rfl _ _ _) rfl ?_
  exact ⟨rfl, rfl⟩
set_option maxRecDepth 100000 in
set_option maxHeartbeats 1000000 in
theorem hasPre2_any (c : UInt8) (s : ByteArray) (hs : (s.size : Int) ≤ 1048576) (w : World) :
    Calls Tryz.prog 90 #[.string s, .string ⟨#[c]⟩] w fun e w' => e = .returned (.bool (qpB c s)) ∧ w' = w := by
  have HH := hid (hasPre_any c s hs)
  obtain ⟨q, hq⟩ : ∃ q, qpB c s = q := ⟨_, rfl⟩
  rw [hq] at HH ⊢
  clear hq
  go_enter Tryz.func90, Tryz.ntmps90
  go_wp2_with (go_at_call 122; go_must (refine (HH.out _).mono ?_; rintro e w1 ⟨rfl, hw1⟩; rw [hw1]; clear hw1))
  go_ret
  exact ⟨rfl, rfl⟩
set_option maxRecDepth 100000 in
set_option maxHeartbeats 1000000 in
theorem take_any (R : Nat) (c : UInt8) (s : ByteArray) (b : Bool) (hs : (s.size : Int) ≤ 1048576) (w : World) (h : RdAt w R s b) :
    Calls Tryz.prog 36 #[.pointer (some ⟨R, 0, none⟩), .string ⟨#[c]⟩] w fun e w' => e = .returned (.tuple #[]) ∧ RdAt w' R (qpR c s) (b || !qpB c s) ∧ Fr R (R + 1) w w' := by
  have HH := hid (cutPre_any c s hs)
  have c0 := h.c0
  have H1 := hid ((h.rest (qpR c s)).amiss (b || !qpB c s))
  have d1 := (h.rest (qpR c s)).c1
  have g1 := (h.rest (qpR c s)).f1
  have f0 := h.f0
  obtain ⟨r, hr⟩ : ∃ r, qpR c s = r := ⟨_, rfl⟩
  rw [hr] at HH H1 d1 g1 ⊢
  clear hr h
  have FR := hid (fun u v => (((Fr.refl R (R + 1) w).setCell (p := ⟨R, 0, none⟩) (Nat.le_refl _) (Nat.lt_succ_self _) u)).setCell (p := ⟨R, 1, none⟩) (Nat.le_refl _) (Nat.lt_succ_self _) v)
  obtain ⟨q, hq⟩ : ∃ q, qpB c s = q := ⟨_, rfl⟩
  rw [hq] at HH H1 ⊢
  clear hq
  cases b <;> cases q
  all_goals
    go_enter Tryz.func36, Tryz.ntmps36
    go_wp2_with (go_at_call 62; go_must (refine (HH.out _).mono ?_; rintro e w1 ⟨rfl, hw1⟩; rw [hw1]; clear hw1))
    exact bodyPost_end (results_none rfl _ _ _) rfl ⟨rfl, H1.out, FR.out _ _⟩
end Go.Proofs.YtkfbclopkgnacaaGreatDoor
namespace Go.Proofs.YtkfbclopkgnacaaGreatDoor
open Go.RowKit
theorem pu_snoc (c : UInt8) (hc : 48 ≤ c.toNat ∧ c.toNat ≤ 57) : ∀ (l : List UInt8) (acc u : Nat), Lib.parseUint10 acc l = .ok u → u < 1000000000000000 → Lib.parseUint10 acc (l ++ [c]) = .ok (u * 10 + (c.toNat - 48))
  | [], acc, u, h, hu => by
    simp only [Lib.parseUint10] at h
    injection h with h
    subst h
    simp only [List.nil_append, Lib.parseUint10]
    rw [if_pos hc, if_neg (by omega), if_neg (by omega)]
  | d :: r, acc, u, h, hu => by
    simp only [Lib.parseUint10] at h
    simp only [List.cons_append, Lib.parseUint10]
    split at h
    · rename_i hd
      rw [if_pos hd]
      split at h
      · cases h
      · rename_i h1
        rw [if_neg h1]
        split at h
        · cases h
        · rename_i h2
          rw [if_neg h2]
          exact pu_snoc c hc r _ u h hu
    · cases h
theorem pu_dec : ∀ m : Nat, m < 1000000000000000 → Lib.parseUint10 0 (Lib.decDigits m) = .ok m := by
  intro m
  induction m using Nat.strongRecOn with
  | ind m ih =>
    intro hm
    by_cases h : m < 10
    · rw [Lib.decDigits, dif_pos h]
      have e : (UInt8.ofNat (48 + m)).toNat = 48 + m := by rw [UInt8.toNat_ofNat']; omega
      simp only [Lib.parseUint10, e]
      rw [if_pos (by omega), if_neg (by omega), if_neg (by omega)]
      congr 1
      omega
    · rw [Lib.decDigits, dif_neg h]
      have e : (UInt8.ofNat (48 + m % 10)).toNat = 48 + m % 10 := by rw [UInt8.toNat_ofNat']; omega
      rw [pu_snoc _ (by rw [e]; omega) _ _ _ (ih (m / 10) (by omega) (by omega)) (by omega), e]
      congr 1
      omega
theorem atoi_dec (m : Nat) (hm : m < 1000000000000000) : Lib.atoiAll (dS m).data.toList = .ok (m : Int) := by
  have hp := Lib.nDigits_pos m
  have hs := dS_len m
  have h0 := dS_at m 0 (by omega)
  rw [byteAt_list] at h0
  have hpu : Lib.parseUint10 0 (dS m).data.toList = .ok m := pu_dec m hm
  cases hl : (dS m).data.toList with
  | nil =>
    have := pa_len (dS m)
    rw [hl] at this
    simp at this
    omega
  | cons c r =>
    rw [hl] at h0 hpu
    have hc : c.toNat = 48 + m / 10 ^ ((dS m).size - 1 - 0) % 10 := h0
    have hmod : m / 10 ^ ((dS m).size - 1 - 0) % 10 < 10 := Nat.mod_lt _ (by omega)
    have h43 : c.toNat ≠ 43 := by omega
    have h45 : c.toNat ≠ 45 := by omega
    have hpm : Lib.parseMag (c :: r) = .ok m := by
      unfold Lib.parseMag
      rw [if_neg (by simp)]
      exact hpu
    unfold Lib.atoiAll
    simp only [h43, h45, or_self, if_false, hpm, false_and, not_false_eq_true, true_and]
    rw [if_neg (by omega)]
theorem atoiSat_in (l : List UInt8) : -9223372036854775808 ≤ Lib.atoiSat l ∧ Lib.atoiSat l ≤ 9223372036854775807 := by
  unfold Lib.atoiSat
  split <;> omega
/-- a value that tells of an error -/
def ErrV (v : Value) : Prop := v = .nilIface ∨ ∃ t p, v = .iface t p
theorem atoi_any (s : ByteArray) (hs : (s.size : Int) ≤ 1048576) (e8 e9 : Value) (w : World) (h8 : w.cell? ⟨1, 0, none⟩ = some e8) (v8 : ErrV e8) (h9 : w.cell? ⟨2, 0, none⟩ = some e9) (v9 : ErrV e9) :
    Calls Tryz.prog 58 #[.string s] w fun e w' => ∃ v err, e = .returned (.tuple #[.int .i64 v, err]) ∧ (-9223372036854775808 ≤ v ∧ v ≤ 9223372036854775807) ∧ ErrV err ∧ (∀ m : Nat, m ≤ 1000000 → s = dS m → v = m ∧ err = .nilIface) ∧ Below w.heap.size w w' := by
  cases ha : Lib.atoiAll s.data.toList with
  | ok v =>
    refine (Tryz.strconv_Atoi_ok s (by omega) v ha w).mono ?_
    rintro e w1 ⟨rfl, hw⟩
    refine ⟨v, .nilIface, rfl, Lib.atoiAll_bounds ha, Or.inl rfl, fun m hm e => ⟨?_, rfl⟩, ?_⟩
    · rw [e, atoi_dec m (by omega)] at ha
      injection ha with ha
      exact ha.symm
    · rcases hw with rfl | ⟨t, rfl⟩
      · exact Below.refl _ _
      · exact Lib.bytesWorld_below _ _ _
  | «syntax» =>
    refine (Tryz.strconv_Atoi_syntax s (by omega) ha e8 w h8 v8).mono ?_
    rintro e w1 ⟨n, rfl, _, _, hb⟩
    refine ⟨0, _, rfl, by omega, Or.inr ⟨_, _, rfl⟩, fun m hm e => ?_, hb⟩
    rw [e, atoi_dec m (by omega)] at ha
    cases ha
  | range =>
    refine (Tryz.strconv_Atoi_range s (by omega) ha e9 w h9 v9).mono ?_
    rintro e w1 ⟨n, rfl, _, _, hb⟩
    refine ⟨_, _, rfl, atoiSat_in _, Or.inr ⟨_, _, rfl⟩, fun m hm e => ?_, hb⟩
    rw [e, atoi_dec m (by omega)] at ha
    cases ha
end Go.Proofs.YtkfbclopkgnacaaGreatDoor
