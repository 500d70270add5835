import Derived.Test.YtkfbclopkgnacaaGreatDoorPb
import Derived.Shelf.Strconv.Lower
import Derived.Lib.Strings
import Derived.Lib.Walk
import Derived.Lib.ConvBytes
import Derived.Lib.Hide
import Derived.Laws.Strings3
import Derived.Laws.Closers25
import Derived.Laws.Closers25b
import Derived.WalkKit
import Derived.BigCall
import Derived.BigGuard
namespace Go.Proofs.YtkfbclopkgnacaaGreatDoor
open Go.Shelf Go.RowKit
/-- a letter with the bit 32 set -/
def orB (c : Nat) : Int := bits .or .u8 (c : Int) 32
theorem orB_six : ∀ x : Fin 6, orB (97 + x.val) = ((97 + x.val : Nat) : Int) := by decide
theorem orB_hex (y : Nat) (h0 : 97 ≤ y) (h1 : y ≤ 102) : orB y = (y : Int) := by
  have := orB_six ⟨y - 97, by omega⟩
  simp only [] at this
  rw [show 97 + (y - 97) = y by omega] at this
  exact this
theorem orB_us : bits .or .u8 95 32 = 127 := by decide
theorem hexZ_dig {c : Nat} (h : 48 ≤ c ∧ c ≤ 57) : hexZ c = (c : Int) - 48 := if_pos h
theorem hexZ_let {c : Nat} (h : 97 ≤ c ∧ c ≤ 102) : hexZ c = (c : Int) - 87 := by
  unfold hexZ
  rw [if_neg (by omega), if_pos h]
theorem hexZ_no {c : Nat} (h : ¬ (48 ≤ c ∧ c ≤ 57)) (h2 : ¬ (97 ≤ c ∧ c ≤ 102)) : hexZ c = -1 := by
  unfold hexZ
  rw [if_neg h, if_neg h2]
/-- what was read of two digits, k of them being read -/
def PuAt (c0 c1 : Nat) (k : Nat) (a : Int) : Prop :=
  (k = 0 ∧ a = 0) ∨ (k = 1 ∧ 0 ≤ a ∧ a ≤ 15 ∧ (0 ≤ hexZ c0 → a = hexZ c0)) ∨ (k = 2 ∧ 0 ≤ a ∧ a ≤ 255 ∧ (0 ≤ hexZ c0 → 0 ≤ hexZ c1 → a = 16 * hexZ c0 + hexZ c1))
def PuNo (c0 c1 : Nat) : Prop := 0 ≤ hexZ c0 → 0 ≤ hexZ c1 → False
theorem PuAt.more {c0 c1 k : Nat} {a d : Int} (h : PuAt c0 c1 k a) (hk : k < 2) (d0 : 0 ≤ d) (d1 : d ≤ 15) (hd : 0 ≤ hexZ (if k = 0 then c0 else c1) → d = hexZ (if k = 0 then c0 else c1)) : PuAt c0 c1 (k + 1) (a * 16 + d) := by
  rcases h with ⟨rfl, rfl⟩ | ⟨rfl, h0, h1, h2⟩ | ⟨rfl, _⟩
  · exact .inr (.inl ⟨rfl, by omega, by omega, fun e => by have := hd e; simp at this; omega⟩)
  · exact .inr (.inr ⟨rfl, by omega, by omega, fun e e2 => by have h3 := h2 e; have h4 := hd e2; simp at h4; omega⟩)
  · omega
theorem puNo {c0 c1 k : Nat} (_hk : k < 2) (hd : hexZ (if k = 0 then c0 else c1) = -1) : PuNo c0 c1 := by
  intro h0 h1
  by_cases e : k = 0
  · rw [if_pos e] at hd; omega
  · rw [if_neg e] at hd; omega
/-- what comes of reading two digits -/
def PuR (c0 c1 : Nat) (t5 t167 : Nat) (t : ByteArray) (w : World) (e : Ending) (w' : World) : Prop :=
  ∃ (n : Int) (v : Value), e = .returned (.tuple #[.int .u64 n, v]) ∧ 0 ≤ n ∧ n ≤ 255 ∧ (v = .nilIface ∨ v = .iface t167 (.int .i64 2)) ∧ (0 ≤ hexZ c0 → 0 ≤ hexZ c1 → v = .nilIface ∧ n = 16 * hexZ c0 + hexZ c1) ∧ w' = Lib.bytesWorld w t5 t
theorem PuNo.out {c0 c1 t5 t167 : Nat} {t : ByteArray} {w : World} (h : PuNo c0 c1) : PuR c0 c1 t5 t167 t w (.returned (.tuple #[.int .u64 0, .iface t167 (.int .i64 2)])) (Lib.bytesWorld w t5 t) :=
  ⟨0, _, rfl, by omega, by omega, .inr rfl, fun a b => (h a b).elim, rfl⟩
theorem PuAt.out {c0 c1 t5 t167 : Nat} {t : ByteArray} {w : World} {a : Int} (h : PuAt c0 c1 2 a) : PuR c0 c1 t5 t167 t w (.returned (.tuple #[.int .u64 a, .nilIface])) (Lib.bytesWorld w t5 t) := by
  rcases h with ⟨h, _⟩ | ⟨h, _⟩ | ⟨_, h0, h1, h2⟩
  · omega
  · omega
  · exact ⟨a, _, rfl, h0, h1, .inl rfl, fun x y => ⟨rfl, h2 x y⟩, rfl⟩
set_option maxHeartbeats 32000000 in
set_option maxRecDepth 100000 in
theorem parse16_in {P : Program} {ρ : Ren} (L : Lays.n287 P ρ) (t : ByteArray) (hn2 : t.size = 2) (w : World) :
    Calls P (ρ.f 287) #[.string t, .int .i64 16, .int .i64 8] w fun e w' => PuR (t.data.toList.getD 0 0).toNat (t.data.toList.getD 1 0).toNat (ρ.t 5) (ρ.t 167) t w e w' := by
  have mixed := L.mixed
  have t9 := L.t9; have a9 := L.a9; have z9 := L.z9; have v9 := L.v9
  have t3 := L.t3; have a3 := L.a3; have z3 := L.z3; have v3 := L.v3
  have t53 := L.t53; have a53 := L.a53; have z53 := L.z53; have v53 := L.v53
  have t75 := L.t75; have a75 := L.a75; have z75 := L.z75; have v75 := L.v75
  have t4 := L.t4; have a4 := L.a4; have z4 := L.z4; have v4 := L.v4
  have t167 := L.t167; have a167 := L.a167; have z167 := L.z167; have v167 := L.v167
  have t5 := L.t5; have a5 := L.a5; have z5 := L.z5; have v5 := L.v5
  have t46 := L.t46; have a46 := L.a46; have z46 := L.z46; have v46 := L.v46
  have t37 := L.t37; have a37 := L.a37; have z37 := L.z37; have v37 := L.v37
  have t0 := L.t0; have a0 := L.a0; have z0 := L.z0; have v0 := L.v0
  have e321 : ∀ args w, (callFunc (ρ.f 321) args).run P w = .ok (.enter (ρ.f 321) args) w := enters_of L.f321 (by kernel_rfl) rfl
  have hemp : t.toList.isEmpty = false := by
    rw [← decide_eq_emptyBytes]
    exact decide_eq_false (fun h => by rw [h] at hn2; exact absurd hn2 (by decide))
  have hcv := Lib.run_convert_string_bytes (P := P) w (ρ.t 9) (ρ.t 37) (ρ.t 5) t (u := .string) L.t9 L.t37 L.t5
  have hB : ∀ j, j < t.size → (Lib.bytesWorld w (ρ.t 5) t).cell? ⟨w.heap.size, j, none⟩ = some (.int .u8 (t.data.toList.getD j 0).toNat) := fun j hj => Lib.bytesWorld_cell w (ρ.t 5) t j hj
  have HO : Hid (∀ c0 c1, PuNo c0 c1 → PuR c0 c1 (ρ.t 5) (ρ.t 167) t w (.returned (.tuple #[.int .u64 0, .iface (ρ.t 167) (.int .i64 2)])) (Lib.bytesWorld w (ρ.t 5) t)) := hid fun _ _ h => h.out
  have HY : Hid (∀ c0 c1 a, PuAt c0 c1 2 a → PuR c0 c1 (ρ.t 5) (ρ.t 167) t w (.returned (.tuple #[.int .u64 a, .nilIface])) (Lib.bytesWorld w (ρ.t 5) t)) := hid fun _ _ _ h => h.out
  obtain ⟨W1, hW1⟩ : ∃ W1, W1 = Lib.bytesWorld w (ρ.t 5) t := ⟨_, rfl⟩
  rw [← hW1] at hcv hB HO HY
  clear hW1
  obtain ⟨c0, hc0⟩ : ∃ c0, c0 = t.data.toList.getD 0 0 := ⟨_, rfl⟩
  obtain ⟨c1, hc1⟩ : ∃ c1, c1 = t.data.toList.getD 1 0 := ⟨_, rfl⟩
  have hB2 : ∀ j, j < 2 → W1.cell? ⟨w.heap.size, j, none⟩ = some (.int .u8 ((if j = 0 then c0 else c1).toNat : Int)) := by
    intro j hj
    rw [hB j (by omega), hc0, hc1]
    by_cases e : j = 0
    · subst e; rfl
    · have e1 : j = 1 := by omega
      subst e1; rfl
  clear hB
  rw [← hc0, ← hc1]
  clear hc0 hc1
  have hmv : IntKind.u64.wrap (IntKind.u64.wrap 256 - 1) = 255 := by
    rw [IntKind.wrap_u64, IntKind.wrap_u64]
    decide
  have hsz : (t.size : Int) = 2 := by omega
  clear hn2
  go_enter L.f287, Body.n287_ntmps ρ
  go_wp2
  go_loop [12, 13, 101] (fun vu vn vi => ∃ (k : Nat) (a : Int), vu = .bool false ∧ vn = .int .u64 a ∧ vi = .int .i64 k ∧ k ≤ 2 ∧ Hid (PuAt c0.toNat c1.toNat k a))
    (fun _ _ vi => 2 - (intOf vi).toNat)
  case atStart => exact ⟨0, 0, rfl, rfl, rfl, by omega, hid (.inl ⟨rfl, rfl⟩)⟩
  case round =>
    obtain ⟨k, a, rfl, rfl, rfl, hk, hh⟩ := hrel
    by_cases hkn : k < 2
    · have hc := hB2 k hkn
      have a0 : 0 ≤ a := by rcases hh.out with ⟨_, h⟩ | ⟨_, h, _⟩ | ⟨_, h, _⟩ <;> omega
      have a1 : a ≤ 15 := by rcases hh.out with ⟨_, h⟩ | ⟨_, _, h, _⟩ | ⟨h, _⟩ <;> omega
      have HM : Hid (∀ d : Int, 0 ≤ d → d ≤ 15 → (0 ≤ hexZ (if k = 0 then c0.toNat else c1.toNat) → d = hexZ (if k = 0 then c0.toNat else c1.toNat)) → PuAt c0.toNat c1.toNat (k + 1) (a * 16 + d)) := hid fun d d0 d1 hd => hh.out.more hkn d0 d1 hd
      have HN : Hid (hexZ (if k = 0 then c0.toNat else c1.toNat) = -1 → PuNo c0.toNat c1.toNat) := hid fun h => puNo hkn h
      have hif : (if k = 0 then c0 else c1).toNat = if k = 0 then c0.toNat else c1.toNat := by split <;> rfl
      rw [← hif] at HM HN
      clear hif hB2 hh
      obtain ⟨x, hx⟩ : ∃ x, x = if k = 0 then c0 else c1 := ⟨_, rfl⟩
      rw [← hx] at HM HN hc
      clear hx
      obtain ⟨y, hy⟩ : ∃ y : Nat, y = x.toNat := ⟨_, rfl⟩
      have hy2 : y < 256 := by rw [hy]; exact x.toNat_lt
      rw [← hy] at HM HN hc
      clear hy
      by_cases hdig : 48 ≤ y ∧ y ≤ 57
      · obtain ⟨hd0, hd1⟩ := hdig
        have H2 : Hid (PuAt c0.toNat c1.toNat (k + 1) (a * 16 + ((y : Int) - 48))) := hid (HM.out _ (by omega) (by omega) fun _ => (hexZ_dig ⟨hd0, hd1⟩).symm)
        clear HM HN
        have b1 : a * 16 + ((y : Int) - 48) ≤ 255 := by omega
        go_wp2
        refine ⟨⟨k + 1, a * 16 + ((y : Int) - 48), rfl, (by first | rfl | (congr 1; omega)), (by first | rfl | (congr 1; omega)), by omega, H2⟩, by simp [intOf]; omega⟩
      · by_cases h95 : y = 95
        · subst h95
          have HO2 := HO.out _ _ (HN.out (hexZ_no (by omega) (by omega)))
          clear HM HN HO HY hdig
          have hlow : ∀ W, Calls P (ρ.f 321) #[.int .u8 95] W fun e w' => e = .returned (.int .u8 127) ∧ w' = W := fun W => by rw [← orB_us]; exact Any.internal_strconv_lower { L with } _ _
          go_wp2_with (go_at_fn (ρ.f 321); refine (hlow _).mono ?_; rintro e w' ⟨rfl, rfl⟩)
          all_goals go_ret2
          all_goals exact HO2
        have h95z : ¬ (y : Int) = 95 := by omega
        clear h95
        have hv0 := bits_lo_u8 .or (y : Int) 32
        have hv1 := bits_hi_u8 .or (y : Int) 32
        have hhex : Hid (97 ≤ y → y ≤ 102 → bits .or .u8 (y : Int) 32 = (y : Int)) := hid fun h1 h2 => orB_hex y h1 h2
        have hzn : Hid (¬ (97 ≤ y ∧ y ≤ 102) → hexZ y = -1) := hid fun h => hexZ_no hdig h
        obtain ⟨z, hz⟩ : ∃ z, z = bits .or .u8 (y : Int) 32 := ⟨_, rfl⟩
        have hlow : ∀ W, Calls P (ρ.f 321) #[.int .u8 (y : Int)] W fun e w' => e = .returned (.int .u8 z) ∧ w' = W := fun W => by rw [hz]; exact Any.internal_strconv_lower { L with } _ _
        rw [← hz] at hv0 hv1 hhex
        clear hz
        by_cases hin : 97 ≤ z ∧ z ≤ 102
        · obtain ⟨hz0, hz1⟩ := hin
          have H2 : Hid (PuAt c0.toNat c1.toNat (k + 1) (a * 16 + (z - 87))) := hid (HM.out _ (by omega) (by omega) fun h => by
            by_cases hl : 97 ≤ y ∧ y ≤ 102
            · rw [hexZ_let hl, hhex.out hl.1 hl.2]
            · rw [hzn.out hl] at h
              omega)
          clear HM HN hhex hzn
          have b1 : a * 16 + (z - 87) ≤ 255 := by omega
          go_wp2_with (go_at_fn (ρ.f 321); refine (hlow _).mono ?_; rintro e w' ⟨rfl, rfl⟩)
          all_goals refine ⟨⟨k + 1, a * 16 + (z - 87), rfl, (by first | rfl | (congr 1; omega)), (by first | rfl | (congr 1; omega)), by omega, H2⟩, by simp [intOf]; omega⟩
        · have HO2 := HO.out _ _ (HN.out (hzn.out fun hl => by have := hhex.out hl.1 hl.2; omega))
          clear HM HN hhex hzn HO HY
          by_cases hup : z ≤ 122 ∧ 97 ≤ z
          · obtain ⟨hu0, hu1⟩ := hup
            have hg : 103 ≤ z := by omega
            clear hin
            go_wp2_with (go_at_fn (ρ.f 321); refine (hlow _).mono ?_; rintro e w' ⟨rfl, rfl⟩)
            all_goals go_ret2
            all_goals exact HO2
          · clear hin
            go_wp2_with (go_at_fn (ρ.f 321); refine (hlow _).mono ?_; rintro e w' ⟨rfl, rfl⟩)
            all_goals go_ret2
            all_goals exact HO2
    · have hkk : k = 2 := by omega
      subst hkk
      have HY2 := HY.out _ _ _ hh.out
      clear hh HO HY hB2
      go_wp2
      go_ret2
      exact HY2
end Go.Proofs.YtkfbclopkgnacaaGreatDoor
