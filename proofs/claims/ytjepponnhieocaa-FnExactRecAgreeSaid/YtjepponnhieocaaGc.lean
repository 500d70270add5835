import Derived.Test.YtjepponnhieocaaC
namespace Go.Proofs.Ytjepponnhieocaa
open Go.RowKit
theorem Try.info82 : (Try.prog.info? 82).map (fun i => (i.zero, i.size, i.bytes)) = some (some (.agg #[.int .i64 0, .string ByteArray.empty]), 2, 24) := by kernel_rfl
set_option maxRecDepth 100000 in
set_option maxHeartbeats 1000000 in
theorem szFx_any (x : Sl) (left : Int) (w : World) (h0 : 0 ≤ left) (h1 : left ≤ 1048576) (hf : SlFit x) :
    Calls Try.prog 87 #[slV x, .int .i64 left] w fun e w' => e = .returned (.int .i64 (szOut left (szSl x))) ∧ Below w.heap.size w w' := by
  obtain ⟨f1⟩ := hf
  unfold szSl
  go_enter Try.func87, Try.ntmps87
  go_wp2
  · go_ret
    exact ⟨ret_int (szOut_no (by omega)).symm, (Below.refl _ _).alloc (Nat.le_refl _) _⟩
  · go_ret
    exact ⟨ret_int (by rw [szOut_yes (by omega)]), (Below.refl _ _).alloc (Nat.le_refl _) _⟩
set_option maxRecDepth 100000 in
set_option maxHeartbeats 1000000 in
theorem szFxs_any (n : Nat) (x : Nat → Sl) (ad : Option Addr) (cap : Nat) (left : Int) (w : World) (lo hi : Nat) (hhi : hi ≤ w.heap.size) (hl : (n : Int) ≤ 8796093022208) (h0 : 0 ≤ left) (h1 : left ≤ 1048576) (hf : ∀ i, i < n → SlFit (x i))
    (hc : SlsIn w lo hi ad n x) :
    Calls Try.prog 45 #[.slice ad n cap, .int .i64 left] w fun e w' => e = .returned (.int .i64 (szOut left (szSls n x))) ∧ Below w.heap.size w w' := by
  by_cases hlt : left - n < 0
  · go_enter Try.func45, Try.ntmps45
    go_wp2
    go_ret
    exact ⟨ret_int (szOut_no (by unfold szSls; omega)).symm, Below.refl _ _⟩
  · go_enter Try.func45, Try.ntmps45
    go_wp2
    go_loopw [1, 5] (fun t i wr => ∃ k : Nat, k ≤ n ∧ i = .int .i64 k ∧ t = .int .i64 (left - n - (sumTo (fun i => szSl (x i)) k : Nat)) ∧ 0 ≤ left - n - (sumTo (fun i => szSl (x i)) k : Nat) ∧ Below w.heap.size w wr) (fun _ i _ => n - (intOf i).toNat)
    case atStart => exact ⟨0, Nat.zero_le _, rfl, by simp [sumTo], by simp [sumTo]; omega, Below.refl _ _⟩
    case round =>
      obtain ⟨k, hk, rfl, rfl, hnn, hb⟩ := hrel
      have hst : sumTo (fun i => szSl (x i)) (k+1) = sumTo (fun i => szSl (x i)) k + szSl (x k) := rfl
      have hmo : k < n → sumTo (fun i => szSl (x i)) (k+1) ≤ sumTo (fun i => szSl (x i)) n := fun h => sumTo_mono _ h
      generalize hq : sumTo (fun i => szSl (x i)) k = q at *
      generalize hq1 : sumTo (fun i => szSl (x i)) (k+1) = q1 at *
      by_cases hkn : k < n
      · obtain ⟨b, off, rfl, hlo, hbh, hcx⟩ := hc k hkn
        have hmo := hmo hkn
        have hfk := hf k hkn
        have HS : Hid (q1 = q + szSl (x k)) := hst
        have HQ : Hid (sumTo (fun i => szSl (x i)) (k+1) = q1) := hq1
        clear hst hq hq1 hc hf
        have hcell : ∀ j, wr.cell? ⟨b, off + k * 2 + j, none⟩ = w.cell? ⟨b, off + k * 2 + j, none⟩ := fun j => hb.cell (p := ⟨b, off + k * 2 + j, none⟩) (by show b < _; omega)
        have hcell0 : wr.cell? ⟨b, off + k * 2, none⟩ = w.cell? ⟨b, off + k * 2, none⟩ := hb.cell (p := ⟨b, off + k * 2, none⟩) (by show b < _; omega)
        obtain ⟨d0, d1⟩ := hcx
        rw [← hcell] at d1
        rw [← hcell0] at d0
        clear hcell hcell0
        generalize x k = y at *
        clear hmo
        rename_i hmo
        go_wp2_with (go_at_call 87; refine (szFx_any y _ wr (by omega) (by omega) hfk).mono ?_; rintro e w1 ⟨rfl, hb1⟩)
        · go_ret
          refine ⟨ret_int (szOut_no ?_).symm, hb.trans (hb1.mono hb.size)⟩
          have := HS.out
          have := szOut_lt (by assumption)
          have := hmo hkn
          unfold szSls; omega
        · have hs := HS.out
          obtain ⟨g1, g2⟩ := szOut_ge (by assumption)
          go_roundw
          case rel => exact ⟨k + 1, by omega, by go_num, by rw [HQ.out, g2]; apply congrArg; omega, by rw [HQ.out]; omega, hb.trans (hb1.mono hb.size)⟩
          case measure => simp [intOf]; omega
      · have : k = n := by omega
        subst this
        clear hc hf hst hmo hq1
        have HQ : Hid (sumTo (fun i => szSl (x i)) k = q) := hq
        clear hq
        go_wp2
        go_ret
        refine ⟨ret_int ?_, hb⟩
        have := HQ.out
        rw [szOut_yes (by unfold szSls; omega)]
        unfold szSls; omega
set_option maxRecDepth 100000 in
set_option maxHeartbeats 1000000 in
theorem toFx_any (x : Sl) (w : World) :
    Calls Try.prog 95 #[slV x] w fun e w' => e = .returned (slV x) ∧ Below w.heap.size w w' := by
  go_enter Try.func95, Try.ntmps95
  go_wp2
  refine bodyPost_ret (v := slV x) (by simp [results, Try.results95, go_sem]) rfl ⟨rfl, ?_⟩
  exact ((((Below.refl _ _).alloc (Nat.le_refl _) _).alloc (by simp) _).alloc (by simp; omega) _)
set_option maxRecDepth 100000 in
set_option maxHeartbeats 1000000 in
theorem toFxs_any (n : Nat) (x : Nat → Sl) (ad : Option Addr) (cap : Nat) (w : World) (lo hi : Nat) (hhi : hi ≤ w.heap.size) (hl : (n : Int) ≤ 1099511627776) (hc : SlsIn w lo hi ad n x) :
    Calls Try.prog 50 #[.slice ad n cap] w fun e w' => e = .returned (.slice (some ⟨w.heap.size, 0, none⟩) n n) ∧ SlsOwnAt w' w.heap.size n n x ∧ Below w.heap.size w w' := by
  obtain ⟨i0, hi0, hz0, hz1, hz2⟩ := info_parts Try.info82
  go_enter Try.func50, Try.ntmps50
  go_wp2_with (first
    | (at_make; refine wpList_make_full _ rfl _ _ 24 rfl w.heap.size 82 i0 _ 2 Try.underlying24 hi0 hz0 hz1 .i64 .i64 _ _ n rfl rfl (by omega) (by omega) (by rw [hz2]; omega) (by unfold maxLen; omega) (by omega) ?_; intro w1 hown1 hgrow1)
    )
  have r1 : SlsOwnAt w1 w.heap.size 0 n x := ⟨room_made hown1, fun _ h => absurd h (Nat.not_lt_zero _)⟩
  have hb1 : Below w.heap.size w w1 := (Below.refl _ _).grown hgrow1 (Nat.le_refl _) (by simp)
  clear hown1 hgrow1 hi0 hz0 hz1 hz2
  go_loopw [4] (fun i wr => ∃ k : Nat, k ≤ n ∧ i = .int .i64 k ∧ Below w.heap.size w wr ∧ SlsOwnAt wr w.heap.size k n x) (fun i _ => n - (intOf i).toNat)
  case atStart => exact ⟨0, Nat.zero_le _, rfl, hb1, r1⟩
  case round =>
    obtain ⟨k, hk, rfl, hb, ho⟩ := hrel
    clear r1 hb1
    by_cases hkn : k < n
    · obtain ⟨b, off, rfl, hlo, hbh, hcx⟩ := hc k hkn
      obtain ⟨d0, d1⟩ := hcx.below hb (by omega)
      clear hc hcx
      have HO := hid ho
      have hrm := ho.room
      clear ho
      go_wp2_with (fail)
      refine (toFx_any (x k) wr).mono ?_
      rintro e w1 ⟨rfl, hb1⟩
      have R := HO.out.step hkn hb1
      have HR := hid R
      have HB := hid ((hb.trans (hb1.mono hb.size)).trans ((fr_setCells w.heap.size [Value.int .i64 (x k).bal, .string (x k).text] (k * 2) w1).below (Nat.le_refl _) (hb.trans (hb1.mono hb.size)).size))
      have hrm1 := hrm.below hb1 hrm.lt
      obtain ⟨_, q0⟩ := hrm1.has (k * 2) (by omega)
      obtain ⟨_, q1⟩ := hrm1.has (k * 2 + 1) (by omega)
      have qf := hrm1.free
      clear hrm hrm1 R HO d0 d1
      go_wp2
      go_roundw
      case rel => exact ⟨k + 1, by omega, by go_num, HB.out, HR.out⟩
      case measure => simp [intOf]; omega
    · have : k = n := by omega
      subst this
      have HO := hid ho
      clear hc ho
      go_wp2
      go_ret
      exact ⟨rfl, HO.out, hb⟩
set_option maxRecDepth 100000 in
set_option maxHeartbeats 1000000 in
theorem eqFx_any (x : Sl) (w : World) :
    Calls Try.prog 82 #[slV x, slV x] w fun e w' => e = .returned (.bool true) ∧ Below w.heap.size w w' := by
  go_enter Try.func82, Try.ntmps82
  go_wp2
  go_ret
  exact ⟨rfl, ((below_alloc _ _).alloc (by simp) _)⟩
set_option maxRecDepth 100000 in
set_option maxHeartbeats 1000000 in
theorem eqFxs_any (n : Nat) (x : Nat → Sl) (ad ad2 : Option Addr) (cap cap2 : Nat) (w : World) (lo hi lo2 hi2 : Nat) (hh : hi ≤ w.heap.size) (hh2 : hi2 ≤ w.heap.size) (hl : (n : Int) ≤ 140737488355328)
    (hc : SlsIn w lo hi ad n x) (hc2 : SlsIn w lo2 hi2 ad2 n x) :
    Calls Try.prog 36 #[.slice ad n cap, .slice ad2 n cap2] w fun e w' => e = .returned (.bool true) ∧ Below w.heap.size w w' := by
  go_enter Try.func36, Try.ntmps36
  go_wp2
  go_loopw [5] (fun i wr => ∃ k : Nat, k ≤ n ∧ i = .int .i64 k ∧ Below w.heap.size w wr) (fun i _ => n - (intOf i).toNat)
  case atStart => exact ⟨0, Nat.zero_le _, rfl, Below.refl _ _⟩
  case round =>
    obtain ⟨k, hk, rfl, hb⟩ := hrel
    by_cases hkn : k < n
    · obtain ⟨b, off, rfl, hlo, hbh, hcx⟩ := hc k hkn
      obtain ⟨b2, off2, rfl, hlo2, hbh2, hcx2⟩ := hc2 k hkn
      obtain ⟨d0, d1⟩ := hcx.below hb (by omega)
      obtain ⟨e0, e1⟩ := hcx2.below hb (by omega)
      clear hc hc2 hcx hcx2
      generalize x k = y at *
      go_wp2
      go_region_with (go_at_call 82; refine (eqFx_any y _).mono ?_; rintro e w1 ⟨rfl, hb1⟩)
      all_goals
        go_wp2
        go_roundw
        case rel => exact ⟨k + 1, by omega, by go_num, hb.drew.trans (hb1.mono hb.size)⟩
        case measure => simp [intOf]; omega
    · have : k = n := by omega
      subst this
      clear hc hc2
      go_wp2
      go_ret
      exact ⟨rfl, hb⟩
end Go.Proofs.Ytjepponnhieocaa
