import Derived.Test.YtjepponnhieocaaGa
namespace Go.Proofs.Ytjepponnhieocaa
open Go.RowKit
theorem rcs_sz50 : (Try.prog.info? 50).map (·.size) = some 18 := by kernel_rfl
theorem rcs_sz58 : (Try.prog.info? 58).map (·.size) = some 18 := by kernel_rfl
def szRcs (n : Nat) (x : Nat → Rc) : Nat := n + sumTo (fun i => szRc (x i)) n
set_option maxRecDepth 100000 in
set_option maxHeartbeats 2000000 in
theorem szRcs_any (n : Nat) (x : Nat → Rc) (A : Nat → RcA) (ad : Option Addr) (cap : Nat) (left : Int) (w : World) (lo hi : Nat) (hhi : hi ≤ w.heap.size) (hl : (n : Int) ≤ 8796093022208) (h0 : 0 ≤ left) (h1 : left ≤ 1048576) (hf : ∀ i, i < n → RcFit (x i))
    (hc : RcsIn w lo hi ad n x A) :
    Calls Try.prog 43 #[.slice ad n cap, .int .i64 left] w fun e w' => e = .returned (.int .i64 (szOut left (szRcs n x))) ∧ Below w.heap.size w w' := by
  by_cases hlt : left - n < 0
  · go_enter Try.func43, Try.ntmps43
    go_wp2
    go_ret
    exact ⟨ret_int (szOut_no (by unfold szRcs; omega)).symm, Below.refl _ _⟩
  · go_enter Try.func43, Try.ntmps43
    go_wp2
    go_loopw [1, 5] (fun t i wr => ∃ k : Nat, k ≤ n ∧ i = .int .i64 k ∧ t = .int .i64 (left - n - (sumTo (fun i => szRc (x i)) k : Nat)) ∧ 0 ≤ left - n - (sumTo (fun i => szRc (x i)) k : Nat) ∧ Below w.heap.size w wr) (fun _ i _ => n - (intOf i).toNat)
    case atStart => exact ⟨0, Nat.zero_le _, rfl, by simp [sumTo], by simp [sumTo]; omega, Below.refl _ _⟩
    case round =>
      obtain ⟨k, hk, rfl, rfl, hnn, hb⟩ := hrel
      have hst : sumTo (fun i => szRc (x i)) (k+1) = sumTo (fun i => szRc (x i)) k + szRc (x k) := rfl
      have hmo : k < n → sumTo (fun i => szRc (x i)) (k+1) ≤ sumTo (fun i => szRc (x i)) n := fun h => sumTo_mono _ h
      generalize hq : sumTo (fun i => szRc (x i)) k = q at *
      generalize hq1 : sumTo (fun i => szRc (x i)) (k+1) = q1 at *
      by_cases hkn : k < n
      · obtain ⟨b, off, rfl, hlo, hbh, hrx, hix⟩ := hc k hkn
        have hmo := hmo hkn
        have hfk := hf k hkn
        have HS : Hid (q1 = q + szRc (x k)) := hst
        have HQ : Hid (sumTo (fun i => szRc (x i)) (k+1) = q1) := hq1
        clear hst hq hq1 hc hf
        have HR := hid (rangeAt_same hrx (fun j => hb.cell (p := ⟨b, j, none⟩) (by show b < _; omega)))
        have HI := hid (hix.below hb hhi)
        clear hrx hix
        generalize A k = ak at *
        generalize x k = y at *
        clear hmo
        rename_i hmo
        go_wp2_with (first | ((with_reducible show wpList _ _ _ (⟨some 21, Op.load 50 _, _, _, _, _⟩ :: _) _ _); go_must (refine wpList_load_mid rfl 50 _ rfl b (off + k * 18) rfl (rcCs y ak) _ HR.out Try.underlying50 rfl rcs_sz50 ?_)) | (go_at_call 21; go_must (refine (szRc_any y ak _ wr (by omega) (by omega) lo hi (Nat.le_trans hhi hb.size) hfk HI.out).mono ?_; rintro e w1 ⟨rfl, hb1⟩)))
        · go_ret
          refine ⟨ret_int (szOut_no ?_).symm, hb.trans (hb1.mono hb.size)⟩
          have := HS.out
          have := szOut_lt (by assumption)
          have := hmo hkn
          unfold szRcs; omega
        · have hs := HS.out
          obtain ⟨g1, g2⟩ := szOut_ge (by assumption)
          go_roundw
          case rel => exact ⟨k + 1, by omega, by go_num, by rw [HQ.out, g2]; apply congrArg; omega, by rw [HQ.out]; omega, hb.trans (hb1.mono hb.size)⟩
          case measure => simp [intOf]; omega
      · have : k = n := by omega
        subst this
        clear hc hf hst hmo hq1
        have HQ : Hid (sumTo (fun i => szRc (x i)) k = q) := hq
        clear hq
        go_wp2
        go_ret
        refine ⟨ret_int ?_, hb⟩
        have := HQ.out
        rw [szOut_yes (by unfold szRcs; omega)]
        unfold szRcs; omega
theorem rcs_info58 : (Try.prog.info? 58).map (fun i => (i.zero, i.size, i.bytes)) = some (some (.agg #[.int .i64 0, .int .i64 0, .bool false, .int .i64 0, .int .i64 0, .slice none 0 0, .int .i64 0, .int .i64 0, .slice none 0 0, .slice none 0 0, .slice none 0 0, .bool false, .bool false, .int .i64 0, .slice none 0 0, .slice none 0 0, .slice none 0 0, .int .i64 0]), 18, 248) := by kernel_rfl
/-- of n recorders in block g the first k are there, their lists in blocks behind it -/
structure RcsOwn (w : World) (g k n : Nat) (x : Nat → Rc) (A : Nat → RcA) : Prop where
  room : Room w g (n * 18)
  at_ : ∀ i, i < k → w.rangeAt g (i * 18) (rcCs (x i) (A i)) ∧ RcIn w (g + 1) w.heap.size (x i) (A i) ∧ RcNew (x i) (A i)
theorem RcsOwn.step {wr w1 : World} {g k n : Nat} {x : Nat → Rc} {A : Nat → RcA} {a : RcA} (h : RcsOwn wr g k n x A) (hk : k < n) (hb : Below wr.heap.size wr w1) (hi : RcIn w1 wr.heap.size w1.heap.size (x k) a) (hn : RcNew (x k) a) :
    RcsOwn (w1.setCells g (k * 18) (rcCs (x k) a)) g (k + 1) n x (fun i => if i = k then a else A i) := by
  have hg := h.room.lt
  have hR := h.room.below hb hg
  have hin := World.cell?_setCells_in g (rcCs (x k) a) (k * 18) w1 (fun j hj => by
    obtain ⟨u, hu⟩ := hR.has (k * 18 + j) (by have : (rcCs (x k) a).length = 18 := rfl; omega)
    rw [hu]; rfl)
  have hF := fr_setCells g (rcCs (x k) a) (k * 18) w1
  have hsz : (w1.setCells g (k * 18) (rcCs (x k) a)).heap.size = w1.heap.size := size_setCells _ _ _ _
  have hgs := hb.size
  refine ⟨hR.setCells _ (by have : (rcCs (x k) a).length = 18 := rfl; omega), fun i hi' => ?_⟩
  by_cases e : i < k
  · simp only [if_neg (show ¬ i = k by omega)]
    obtain ⟨c1, c2, c3⟩ := h.at_ i e
    refine ⟨fun j v hv => ?_, ?_, c3⟩
    · have hj : j < 18 := by
        have := (List.getElem?_eq_some_iff.1 hv).1
        exact this
      have hne : (⟨g, i * 18 + j, none⟩ : Addr).block = g → True := fun _ => trivial
      rw [World.cell?_setCells_out g _ (k * 18) w1 _ (fun _ _ => Or.inl (by show i * 18 + j < k * 18; omega)), hb.cell (p := ⟨g, i * 18 + j, none⟩) hg]
      exact c1 j v hv
    · rw [hsz]
      exact (((c2.same (Below.same hb (Nat.le_refl _))).widen (Nat.le_refl _) hgs)).same (hF.same (Nat.le_refl _) (Or.inr (Nat.le_refl _)))
  · have : i = k := by omega
    subst this
    simp only [if_true]
    refine ⟨fun j v hv => ?_, ?_, hn⟩
    · have hj := (List.getElem?_eq_some_iff.1 hv).1
      have := hin j hj
      rw [this, ← List.getElem?_eq_getElem hj]
      exact hv
    · rw [hsz]
      exact (hi.widen (by omega) (Nat.le_refl _)).same (hF.same (Nat.le_refl _) (Or.inr (Nat.le_refl _)))
theorem RcsOwn.isIn {w : World} {g n : Nat} {x : Nat → Rc} {A : Nat → RcA} (h : RcsOwn w g n n x A) {lo : Nat} (hlo : lo ≤ g) : RcsIn w lo w.heap.size (some ⟨g, 0, none⟩) n x A := fun i hi => by
  obtain ⟨c1, c2, _⟩ := h.at_ i hi
  exact ⟨g, 0, rfl, hlo, h.room.lt, by rw [Nat.zero_add]; exact c1, c2.widen (by omega) (Nat.le_refl _)⟩
theorem RcsOwn.start {w1 : World} {g n : Nat} (x : Nat → Rc) (A : Nat → RcA) (h : Room w1 g (n * 18)) : RcsOwn w1 g 0 n x A := ⟨h, fun _ h => absurd h (Nat.not_lt_zero _)⟩
set_option maxRecDepth 100000 in
set_option maxHeartbeats 2000000 in
theorem toRcs_any (n : Nat) (x : Nat → Rc) (A : Nat → RcA) (ad : Option Addr) (cap : Nat) (w : World) (lo hi : Nat) (hhi : hi ≤ w.heap.size) (hl : (n : Int) ≤ 1048576) (hf : ∀ i, i < n → RcSmall (x i)) (hc : RcsIn w lo hi ad n x A) :
    Calls Try.prog 48 #[.slice ad n cap] w fun e w' => ∃ A', e = .returned (.slice (some ⟨w.heap.size, 0, none⟩) n n) ∧ RcsOwn w' w.heap.size n n x A' ∧ Below w.heap.size w w' := by
  obtain ⟨i0, hi0, hz0, hz1, hz2⟩ := info_parts rcs_info58
  go_enter Try.func48, Try.ntmps48
  go_wp2_with (first
    | (at_make; refine wpList_make_full _ rfl _ _ 22 rfl w.heap.size 58 i0 _ 18 Try.underlying22 hi0 hz0 hz1 .i64 .i64 _ _ n rfl rfl (by omega) (by omega) (by rw [hz2]; omega) (by unfold maxLen; omega) (by omega) ?_; intro w1 hown1 hgrow1)
    )
  have r1 := RcsOwn.start x A (room_made hown1)
  have hb1 : Below w.heap.size w w1 := (Below.refl _ _).grown hgrow1 (Nat.le_refl _) (by simp)
  clear hown1 hgrow1 hi0 hz0 hz1 hz2
  go_loopw [4] (fun i wr => ∃ k : Nat, k ≤ n ∧ i = .int .i64 k ∧ Below w.heap.size w wr ∧ ∃ A', RcsOwn wr w.heap.size k n x A') (fun i _ => n - (intOf i).toNat)
  case atStart => exact ⟨0, Nat.zero_le _, rfl, hb1, _, r1⟩
  case round =>
    obtain ⟨k, hk, rfl, hb, A', ho⟩ := hrel
    clear r1 hb1
    by_cases hkn : k < n
    · obtain ⟨b, off, rfl, hlo, hbh, hrx, hix⟩ := hc k hkn
      have hfk := hf k hkn
      have HR := hid (rangeAt_same hrx (fun j => hb.cell (p := ⟨b, j, none⟩) (by show b < _; omega)))
      have HI := hid (hix.below hb hhi)
      clear hrx hix hc hf
      have HO := hid ho
      have hrm := hid ho.room
      clear ho
      have HST := hid (fun (w1 : World) (a : RcA) (hb1 : Below wr.heap.size wr w1) (hi : RcIn w1 wr.heap.size w1.heap.size (x k) a) (hn : RcNew (x k) a) => HO.out.step hkn hb1 hi hn)
      clear HO
      go_wp2_with (first | ((with_reducible show wpList _ _ _ (⟨some 19, Op.load 50 _, _, _, _, _⟩ :: _) _ _); go_must (refine wpList_load_mid rfl 50 _ rfl b (off + k * 18) rfl (rcCs (x k) (A k)) _ HR.out Try.underlying50 rfl rcs_sz50 ?_)))
      refine (toRc_any (x k) (A k) wr lo hi (Nat.le_trans hhi hb.size) hfk HI.out).mono ?_
      rintro e w1 ⟨a, m1, m2, m3, m4, m5, m6, rfl, hn, hown, hb1⟩
      have HRT := hid (HST.out w1 a hb1 hown.isIn hn)
      have HB := hid ((hb.trans (hb1.mono hb.size)).trans ((fr_setCells w.heap.size (rcCs (x k) a) (k * 18) w1).below (Nat.le_refl _) (hb.trans (hb1.mono hb.size)).size))
      have hrm1 := hrm.out.below hb1 hrm.out.lt
      have HT : Hid (w1.there w.heap.size (k * 18) 18) := hid (fun j hj => by
        obtain ⟨u, hu⟩ := hrm1.has (k * 18 + j) (by omega)
        exact ⟨by rw [hu]; rfl, hrm1.free _⟩)
      clear hrm hrm1 HST HR HI hown hn
      go_wp2_with (first | ((with_reducible show wpList _ _ _ (⟨none, Op.store 58 _ _, _, _, _, _⟩ :: _) _ _); go_must (refine wpList_store_mid rfl 58 _ _ rfl w.heap.size (k * 18) (rcC (x k) a) (by simp [go_sem]) rfl HT.out rcs_sz58 (by simp [Value.oneCell']) ?_)))
      go_roundw
      case rel => exact ⟨k + 1, by omega, by go_num, HB.out, _, HRT.out⟩
      case measure => simp [intOf]; omega
    · have : k = n := by omega
      subst this
      have HO := hid ho
      clear hc hf ho
      go_wp2
      go_ret
      exact ⟨A', rfl, HO.out, hb⟩
end Go.Proofs.Ytjepponnhieocaa
