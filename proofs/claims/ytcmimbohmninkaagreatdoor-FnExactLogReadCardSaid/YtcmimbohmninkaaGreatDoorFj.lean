import Derived.Test.YtcmimbohmninkaaGreatDoorFb
import Derived.Laws.BitsLemmas
namespace Go.Proofs.YtcmimbohmninkaaGreatDoor
open Go.RowKit
theorem plain_cases {x : Nat} (h : (decide (32 ≤ (x : Int)) && decide ((x : Int) ≤ 126) && !decide ((x : Int) = 34) && !decide ((x : Int) = 92)) = false) :
    (x : Int) < 32 ∨ (32 ≤ (x : Int) ∧ (126 < (x : Int) ∨ ((x : Int) ≤ 126 ∧ (((x : Int) != 34) = false ∨ (((x : Int) != 34) = true ∧ ((x : Int) != 92) = false))))) := by
  simp only [Bool.and_eq_false_iff, decide_eq_false_iff_not, Bool.not_eq_false', decide_eq_true_eq] at h
  by_cases h1 : (x : Int) < 32
  · exact Or.inl h1
  · refine Or.inr ⟨by omega, ?_⟩
    by_cases h2 : 126 < (x : Int)
    · exact Or.inl h2
    · refine Or.inr ⟨by omega, ?_⟩
      by_cases h3 : (x : Int) = 34
      · exact Or.inl (by simp [h3])
      · refine Or.inr ⟨by simpa using h3, ?_⟩
        have : (x : Int) = 92 := by omega
        simp [this]
set_option maxRecDepth 100000 in
set_option maxHeartbeats 1000000 in
theorem isPlain_any (b : UInt8) (w : World) : Calls Tryz.prog 72 #[.int .u8 (b.toNat : Int)] w fun e w' => e = .returned (.bool (plainB b)) ∧ w' = w := by
  obtain ⟨x, hx⟩ : ∃ x : Nat, b.toNat = x := ⟨_, rfl⟩
  cases hp : plainB b with
  | true =>
    have hp2 := hp
    simp only [plainB, Bool.and_eq_true, decide_eq_true_eq, Bool.not_eq_true', decide_eq_false_iff_not] at hp2
    obtain ⟨⟨⟨p1, p2⟩, p3⟩, p4⟩ := hp2
    rw [hx] at p1 p2 p3 p4 ⊢
    have q3 : ((x : Int) != 34) = true := by simpa using p3
    have q4 : ((x : Int) != 92) = true := by simpa using p4
    clear hp hx p3 p4
    go_enter Tryz.func72, Tryz.ntmps72
    go_wp2
    go_ret
    exact ⟨rfl, rfl⟩
  | false =>
    unfold plainB at hp
    rw [hx] at hp ⊢
    have hc := plain_cases hp
    clear hp hx
    rcases hc with h1 | ⟨h1, h2 | ⟨h2, h3 | ⟨h3, h4⟩⟩⟩
    all_goals
      go_enter Tryz.func72, Tryz.ntmps72
      go_wp2
      go_ret
      exact ⟨rfl, rfl⟩
set_option maxRecDepth 100000 in
set_option maxHeartbeats 2000000 in
theorem implQuote_any (s : ByteArray) (w : World) (hs : (s.size : Int) ≤ 1099511627776) :
    Calls Tryz.prog 59 #[.string s] w fun e w' => e = .returned (.string ⟨(quL s).toArray⟩) ∧ Below w.heap.size w w' := by
  obtain ⟨i0, hi0, hz0, hz1, hz2⟩ := info_parts Tryz.info5
  go_enter Tryz.func59, Tryz.ntmps59
  go_wp2
  go_loopw [3, 9] (fun v i wr => ∃ k : Nat, k ≤ s.size ∧ i = .int .i64 k ∧ OwnB wr w.heap.size v (qTo s k) ∧ Below w.heap.size w wr) (fun _ i _ => s.size - (intOf i).toNat)
  case atStart => exact ⟨0, Nat.zero_le _, rfl, World.ownsRow_lit w #[.int .u8 34] 1 (Nat.le_refl _) (by unfold maxLen; omega) rfl, (Below.refl _ _).alloc (Nat.le_refl _) _⟩
  case round =>
    obtain ⟨k, hk, rfl, hown, hb⟩ := hrel
    by_cases hkn : k < s.size
    · have HB := hid (byteAt_eq s k hkn)
      have hl := qTo_len s k
      obtain ⟨L, hL⟩ : ∃ L, qTo s k = L := ⟨_, rfl⟩
      cases hp : plainB (byteAt s k) with
      | true =>
        have STEP := hid (show qTo s (k + 1) = qTo s k ++ [s[k]] by rw [qTo, qB_yes hp, HB.out])
        rw [hL] at hown hl STEP
        have HP := hid (HB.out ▸ hp)
        have HO := hid (hown.alloc (.cells #[.int .u8 (s[k].toNat : Int)] 5))
        clear hown hL hp HB
        go_wp2_with (first
          | (go_at_call 72; refine (isPlain_any s[k] _).mono ?_; rintro e w1 ⟨rfl, rfl⟩; rw [HP.out])
          | (at_builtin; go_must (refine wpList_append_own _ rfl _ _ 48 rfl w.heap.size 5 i0 (.int .u8 0) 1 1 Tryz.underlying48 hi0 hz0 hz1 hz2 rfl (by decide) _ _ _ rfl HO.out ⟨w1.heap.size, 0, none⟩ 1 1 (Lib.byteCells [s[k]]) rfl rfl (news_alloc w1 _ 5) (by simp [Lib.byteCells, Value.oneCell']) (by unfold maxLen; omega) (by omega) (by have := hb.size; simp; omega) ?_; intro v2 w2 hown2 hgrow2 _)))
        have B2 := below_app (hb.alloc hb.size _) (Nat.le_refl _) (by have := hb.size; simp; omega) HO.out hgrow2
        have O2 : OwnB w2 w.heap.size v2 (L ++ [s[k]]) := OwnB.app hown2
        exact ⟨⟨k + 1, by omega, by go_num, by rw [STEP.out]; exact O2, B2⟩, by simp [intOf]; omega⟩
      | false =>
        have STEP := hid (show qTo s (k + 1) = qTo s k ++ [92, byteAt digs (s[k].toNat / 16), byteAt digs (s[k].toNat % 16)] by rw [qTo, qB_no hp, HB.out])
        rw [hL] at hown hl STEP
        have hx := s[k].toNat_lt
        have HP := hid (HB.out ▸ hp)
        obtain ⟨d1, hd1⟩ : ∃ d, byteAt digs (s[k].toNat / 16) = d := ⟨_, rfl⟩
        obtain ⟨d2, hd2⟩ : ∃ d, byteAt digs (s[k].toNat % 16) = d := ⟨_, rfl⟩
        rw [hd1, hd2] at STEP
        have HO := hid (hown.alloc (.cells #[.int .u8 92, .int .u8 (d1.toNat : Int), .int .u8 (d2.toNat : Int)] 5)).drew
        clear hown hL hp HB
        go_wp2_with (go_at_call 72; refine (isPlain_any s[k] _).mono ?_; rintro e w1 ⟨rfl, rfl⟩; rw [HP.out])
        obtain ⟨x, hxe⟩ : ∃ x : Nat, s[k].toNat = x := ⟨_, rfl⟩
        obtain ⟨q, hq⟩ : ∃ q : Nat, q = x / 16 := ⟨_, rfl⟩
        obtain ⟨r, hr⟩ : ∃ r : Nat, r = x % 16 := ⟨_, rfl⟩
        have hq16 : q < 16 := by omega
        have hr16 : r < 16 := by omega
        have g1 := digs_at q hq16
        have g2 := digs_at r hr16
        rw [hq, ← hxe, hd1, hxe, ← hq] at g1
        rw [hr, ← hxe, hd2, hxe, ← hr] at g2
        have k1 : (x : Int) / 16 = (q : Int) := by omega
        have k2 : (x : Int) / 2 ^ 4 = (q : Int) := by omega
        have k3 : bits BinOp.and IntKind.u8 (x : Int) 15 = (r : Int) := (u8_and15 (x := (x : Int)) (by omega) (by omega)).trans (by omega)
        clear hq hr hd1 hd2
        go_region_law (refine stepB rfl (.tmp 21) (.tmp 28) rfl w.heap.size _ L [92, d1, d2] w1.heap.size rfl rfl HO.out (news_alloc w1 (Lib.byteCells [92, d1, d2]) 5) (by simp; omega) (by have := hb.size; simp; omega) ?_; intro v2 w2 O2 b2)
        all_goals
          have B2 : Below w.heap.size w w2 := ((hb.alloc hb.size _).drew).trans b2
          go_wp2
          exact ⟨⟨k + 1, by omega, by go_num, by rw [STEP.out]; exact O2, B2⟩, by simp [intOf]; omega⟩
    · have hks : k = s.size := by omega
      subst hks
      have hl := qTo_len s s.size
      have STEP := hid (show quL s = qTo s s.size ++ [34] from rfl)
      obtain ⟨L, hL⟩ : ∃ L, qTo s s.size = L := ⟨_, rfl⟩
      rw [hL] at hown hl STEP
      have HO := hid (hown.alloc (.cells #[.int .u8 34] 5))
      clear hown hL
      go_wp2_with (at_builtin; go_must (refine wpList_append_own _ rfl _ _ 48 rfl w.heap.size 5 i0 (.int .u8 0) 1 1 Tryz.underlying48 hi0 hz0 hz1 hz2 rfl (by decide) _ _ _ rfl HO.out ⟨wr.heap.size, 0, none⟩ 1 1 (Lib.byteCells [34]) rfl rfl (news_alloc wr _ 5) (by simp [Lib.byteCells, Value.oneCell']) (by unfold maxLen; omega) (by omega) (by have := hb.size; simp; omega) ?_; intro v2 w2 hown2 hgrow2 _))
      have B2 := below_app (hb.alloc hb.size _) (Nat.le_refl _) (by have := hb.size; simp; omega) HO.out hgrow2
      have O2 : OwnB w2 w.heap.size v2 (L ++ [34]) := OwnB.app hown2
      have hcv := OwnB.conv O2 (by simp)
      rw [← STEP.out] at hcv
      clear hown2 hgrow2 O2 HO STEP
      rw [hcv]
      simp only [Result.andThen]
      rw [Oper.upon_value]
      go_wp2
      go_ret
      exact ⟨rfl, B2⟩
end Go.Proofs.YtcmimbohmninkaaGreatDoor
