import Derived.Test.YtkfbclopkgnacaaGreatDoorM
import Derived.Lib.ItoaNum
import Derived.Deep.RegionWith
namespace Go.Proofs.YtkfbclopkgnacaaGreatDoor
open Go.RowKit
theorem byte_conv (W : World) (b : Nat) (x : Int) (hx0 : 0 ≤ x) (hx1 : x < 256) (hc : W.cell? ⟨b, 0, none⟩ = some (.int .u8 x)) : (convert 54 9 (Value.slice (some ⟨b, 0, none⟩) 1 1)).run Tryz.prog W = .ok (.string ⟨#[UInt8.ofNat x.toNat]⟩) W := by
  have := run_convert_bytes_back (P := Tryz.prog) W 54 9 5 ⟨b, 0, none⟩ 1 [UInt8.ofNat x.toNat] Tryz.underlying54 Tryz.underlying5 Tryz.underlying9 (by
    intro i hi
    have : i = 0 := by simpa using hi
    subst this
    have e : ((⟨b, 0, none⟩ : Addr).add 0) = ⟨b, 0, none⟩ := by simp [Addr.add]
    rw [e, hc]
    simp
    omega)
  simpa using this
theorem wrap_i64_le {x : Int} (h0 : 0 ≤ x) (h1 : x ≤ 9223372036854775807) : IntKind.i64.wrap x = x := by
  have e : x % 2 ^ 64 = x := Int.emod_eq_of_lt h0 (by omega)
  simp only [IntKind.wrap, IntKind.bits, e]
  rw [if_neg (by simp; intro _; omega)]
theorem wrap_u8_le {x : Int} (h0 : 0 ≤ x) (h1 : x ≤ 255) : IntKind.u8.wrap x = x := by
  have e : x % 2 ^ 8 = x := Int.emod_eq_of_lt h0 (by omega)
  simp only [IntKind.wrap, IntKind.bits, e]
  rw [if_neg (by simp [IntKind.signed])]
theorem nDigits_le (u : Nat) : Lib.nDigits u ≤ u + 1 := by
  induction u using Nat.strongRecOn with
  | ind u ih =>
    by_cases h : u < 10
    · rw [Lib.nDigits_small h]; omega
    · rw [Lib.nDigits_big h]
      have := ih (u / 10) (by omega)
      omega
theorem dec_size (q : Nat) : (⟨(Lib.decDigits q).toArray⟩ : ByteArray).size ≤ q + 1 := by
  have := nDigits_le q
  have e : (⟨(Lib.decDigits q).toArray⟩ : ByteArray).size = (Lib.decDigits q).length := by simp [ByteArray.size]
  rw [e, Lib.decDigits_length]
  exact this
theorem dec_wrap {n q : Nat} (hn : (n : Int) ≤ 4611686018427387904) (e : q = n / 10) : IntKind.i64.wrap ((n : Int) / 10) = (q : Int) := by
  subst e
  rw [wrap_i64_ediv _ _ (by omega) (by omega) (by omega)]
  omega
theorem dec_rem {n r : Nat} (e : r = n % 10) : (n : Int).tmod 10 = (r : Int) := by
  subst e
  rw [Int.tmod_eq_emod_of_nonneg (by omega)]
  omega
theorem str_add (a b : List UInt8) : (⟨a.toArray⟩ : ByteArray) ++ ⟨b.toArray⟩ = ⟨(a ++ b).toArray⟩ := by
  apply ByteArray.ext
  simp
set_option maxRecDepth 100000 in
set_option maxHeartbeats 1000000 in
theorem dec_any : ∀ (n : Nat) (_ : (n : Int) ≤ 4611686018427387904) (w : World),
    Calls Tryz.prog 26 #[.int .i64 n] w fun e w' => e = .returned (.string ⟨(Lib.decDigits n).toArray⟩) ∧ Below w.heap.size w w' := by
  intro n
  induction n using Nat.strongRecOn with
  | ind n ih =>
  intro hn w
  go_enter Tryz.func26, Tryz.ntmps26
  by_cases h : n < 10
  · have hcv := byte_conv (w.alloc (.cells #[.int .u8 (48 + (n : Int))] 5)) w.heap.size (48 + (n : Int)) (by omega) (by omega) (by simp)
    have e : (48 + (n : Int)).toNat = 48 + n := by omega
    obtain ⟨y, hy⟩ : ∃ y : UInt8, y = UInt8.ofNat (48 + n) := ⟨_, rfl⟩
    rw [e, ← hy] at hcv
    have HY := hid (Lib.decDigits_one h)
    rw [← hy] at HY
    clear hy e
    go_wp2
    go_ret
    exact ⟨by rw [HY.out]; rfl, (Below.refl _ _).alloc (Nat.le_refl _) _⟩
  · have h1 : ¬ (n : Int) < 10 := by omega
    obtain ⟨q, hq⟩ : ∃ q : Nat, q = n / 10 := ⟨_, rfl⟩
    obtain ⟨r, hr⟩ : ∃ r : Nat, r = n % 10 := ⟨_, rfl⟩
    have hr10 : r < 10 := by omega
    have hw := dec_wrap hn hq
    have hm := dec_rem hr
    have hqn : q < n := by omega
    have hD : Lib.decDigits n = Lib.decDigits q ++ [UInt8.ofNat (48 + r)] := by rw [Lib.decDigits, dif_neg h, hq, hr]
    obtain ⟨y, hy⟩ : ∃ y : UInt8, y = UInt8.ofNat (48 + r) := ⟨_, rfl⟩
    rw [← hy] at hD
    have hcv : ∀ (W : World) (b : Nat), W.cell? ⟨b, 0, none⟩ = some (.int .u8 (48 + (r : Int))) → (convert 54 9 (Value.slice (some ⟨b, 0, none⟩) 1 1)).run Tryz.prog W = .ok (.string ⟨#[y]⟩) W := fun W b hc => by
      have := byte_conv W b (48 + (r : Int)) (by omega) (by omega) hc
      rwa [show (48 + (r : Int)).toNat = 48 + r by omega, ← hy] at this
    have hw2 : IntKind.i64.wrap (48 + (r : Int)) = 48 + (r : Int) := wrap_i64_le (by omega) (by omega)
    have hw3 : IntKind.u8.wrap (48 + (r : Int)) = 48 + (r : Int) := wrap_u8_le (by omega) (by omega)
    have HD := hid hD
    have hq2 : (q : Int) ≤ 4611686018427387904 := by omega
    obtain ⟨s, hs⟩ : ∃ s : ByteArray, s = ⟨(Lib.decDigits q).toArray⟩ := ⟨_, rfl⟩
    have hss : (s.size : Int) ≤ (q : Int) + 1 := by rw [hs]; have := dec_size q; omega
    have HIH := hid (ih q hqn hq2)
    rw [← hs] at HIH
    have HS := hid hs
    clear hs
    clear hD hq hr ih hqn h hy
    go_wp2_with fail
    go_region_with (first | (go_at_call 26; go_must (refine (HIH.out _).mono ?_; rintro e w1 ⟨rfl, hb1⟩; first | (have c1 : w1.cell? ⟨w.heap.size, 0, none⟩ = some (.int .u8 (48 + (r : Int))) := by (rw [hb1.cell (p := ⟨w.heap.size, 0, none⟩) (by simp)]; simp; done)) | skip)))
    all_goals
      have hB : Below w.heap.size w w1 := by
        first
        | exact ((Below.refl w.heap.size w).drew).trans (hb1.mono (by simp))
        | exact (((Below.refl w.heap.size w).alloc (Nat.le_refl _) _).drew).trans (hb1.mono (by simp))
      go_wp2
      go_ret
      refine ⟨?_, ?_⟩
      · rw [HD.out, ← str_add, ← HS.out]; rfl
      · first
        | exact hB
        | exact hB.alloc hB.size _
end Go.Proofs.YtkfbclopkgnacaaGreatDoor
