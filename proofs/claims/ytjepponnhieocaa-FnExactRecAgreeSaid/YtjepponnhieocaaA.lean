import Derived.Test.YtjepponnhieocaaRows
import Derived.WalkKit
import Derived.WalkSpells
import Derived.WalkLawsBesides
namespace Go.Proofs.Ytjepponnhieocaa
open Go.RowKit
theorem hid {p : Prop} (h : p) : Hid p := h
/-- the n strings at ad, in blocks lo .. hi -/
def StrsIn (w : World) (lo hi : Nat) (ad : Option Addr) (n : Nat) (s : Nat → ByteArray) : Prop :=
  ∀ i, i < n → ∃ b off, ad = some ⟨b, off, none⟩ ∧ lo ≤ b ∧ b < hi ∧ w.cell? ⟨b, off + i, none⟩ = some (.string (s i))
def StrsOwn (w : World) (lo hi : Nat) (ad : Option Addr) (n : Nat) (s : Nat → ByteArray) : Prop :=
  ∀ i, i < n → ∃ b off, ad = some ⟨b, off, none⟩ ∧ lo ≤ b ∧ b < hi ∧ w.cell? ⟨b, off + i, none⟩ = some (.string (s i)) ∧ w.frozen? ⟨b, off + i, none⟩ = false
theorem Try.info9 : (Try.prog.info? 9).map (fun i => (i.zero, i.size, i.bytes)) = some (some (.string ByteArray.empty), 1, 16) := by kernel_rfl

theorem toStrs_rel {w' : World} {g n : Nat} {base : Nat} {xs : List Value}
    (ho : w'.ownsRow base 9 1 (.slice (some ⟨g, 0, none⟩) n n) n xs) :
    (∀ j, j < n → ∃ u, w'.cell? ⟨g, j, none⟩ = some u) ∧ (∀ j, w'.frozen? ⟨g, j, none⟩ = false) ∧ g < w'.heap.size := by
  refine ⟨fun j hj => ?_, fun j => ho.frozenAt j, ?_⟩
  · rw [ho.cellAt j (by omega)]
    have : j < xs.length := by rw [ho.1]; omega
    exact ⟨xs[j], by simp [this]⟩
  · rcases ho.2 with ⟨h, _⟩ | ⟨g', cap, cur, h, _, hh, _⟩
    · simp at h
    · simp only [Value.slice.injEq, Option.some.injEq, Addr.mk.injEq, and_true, true_and] at h
      obtain ⟨rfl, rfl⟩ := h
      exact (Array.getElem?_eq_some_iff.1 hh).1

theorem toStrs_step {w wr : World} {n k : Nat} {s : Nat → ByteArray} (hb : Below w.heap.size w wr) (hsz : w.heap.size < wr.heap.size) (hce : ∀ j, j < n → ∃ u, wr.cell? ⟨w.heap.size, j, none⟩ = some u)
    (hfr : ∀ j, wr.frozen? ⟨w.heap.size, j, none⟩ = false) (hd : ∀ j, j < k → wr.cell? ⟨w.heap.size, j, none⟩ = some (.string (s j))) (hk : k < n) :
    let w2 := wr.setCell ⟨w.heap.size, k, none⟩ (.string (s k))
    Below w.heap.size w w2 ∧ w.heap.size < w2.heap.size ∧ (∀ j, j < n → ∃ u, w2.cell? ⟨w.heap.size, j, none⟩ = some u) ∧ (∀ j, w2.frozen? ⟨w.heap.size, j, none⟩ = false) ∧ ∀ j, j < k + 1 → w2.cell? ⟨w.heap.size, j, none⟩ = some (.string (s j)) := by
  refine ⟨hb.setCell (Nat.le_refl _) _, by simpa [World.setCell] using hsz, fun j hj => ?_, fun j => by rw [World.frozen?_setCell]; exact hfr j, fun j hj => ?_⟩
  · obtain ⟨u, hu⟩ := hce j hj
    exact cell?_setCell_some hu
  · obtain ⟨u, hu⟩ := hce k hk
    by_cases e : j = k
    · subst e; exact World.cell?_setCell_same _ _ _ hu
    · rw [World.cell?_setCell_other _ _ _ _ (fun h => e (by cases h; rfl))]
      exact hd j (by omega)
set_option maxRecDepth 100000 in
set_option maxHeartbeats 400000 in
theorem toStrs_any (n : Nat) (s : Nat → ByteArray) (ad : Option Addr) (cap : Nat) (w : World) (lo hi : Nat) (hhi : hi ≤ w.heap.size) (hl : (n : Int) ≤ 8796093022208)
    (hc : StrsIn w lo hi ad n s) :
    Calls Try.prog 66 #[.slice ad n cap] w fun e w' => ∃ ad' cap', e = .returned (.slice ad' n cap') ∧ StrsOwn w' w.heap.size w'.heap.size ad' n s ∧ Below w.heap.size w w' := by
  obtain ⟨i0, hi0, hz0, hz1, hz2⟩ := info_parts Try.info9
  go_enter Try.func66, Try.ntmps66
  go_wp2_with (first
    | (at_make; refine wpList_make_full _ rfl _ _ 46 rfl w.heap.size 9 i0 (.string ByteArray.empty) 1 Try.underlying46 hi0 hz0 hz1 .i64 .i64 _ _ n rfl rfl (by omega) (by omega) (by rw [hz2]; omega) (by unfold maxLen; omega) (by omega) ?_; intro w1 hown1 hgrow1)
    )
  obtain ⟨r1, r2, r3⟩ := toStrs_rel hown1
  have hb1 : Below w.heap.size w w1 := (Below.refl _ _).grown hgrow1 (Nat.le_refl _) (by simp)
  clear hown1 hgrow1 hi0 hz0 hz1 hz2
  go_loopw [4] (fun i wr => ∃ k : Nat, k ≤ n ∧ i = .int .i64 k ∧ Below w.heap.size w wr ∧ w.heap.size < wr.heap.size ∧ (∀ j, j < n → ∃ u, wr.cell? ⟨w.heap.size, j, none⟩ = some u) ∧ (∀ j, wr.frozen? ⟨w.heap.size, j, none⟩ = false) ∧ ∀ j, j < k → wr.cell? ⟨w.heap.size, j, none⟩ = some (.string (s j))) (fun i _ => n - (intOf i).toNat)
  case atStart => exact ⟨0, Nat.zero_le _, rfl, hb1, r3, r1, r2, fun j hj => absurd hj (Nat.not_lt_zero _)⟩
  case round =>
    obtain ⟨k, hk, rfl, hb, hsz, hce, hfr, hdone⟩ := hrel
    clear r1 r2 r3 hb1
    by_cases hkn : k < n
    · obtain ⟨b, off, rfl, hlo, hbh, hcx⟩ := hc k hkn
      have hcx' : wr.cell? ⟨b, off + k, none⟩ = some (.string (s k)) := (hb.cell (p := ⟨b, off + k, none⟩) (by show b < _; omega)).trans hcx
      obtain ⟨u, hu⟩ := hce k hkn
      have hfk := hfr k
      have R := toStrs_step (s := s) hb hsz hce hfr hdone hkn
      clear hc hcx hce hfr hdone
      have HR := hid R
      clear R
      go_wp2
      go_roundw
      case rel => exact ⟨k + 1, by omega, by go_num, HR.out⟩
      case measure => simp [intOf]; omega
    · have : k = n := by omega
      subst this
      have HR := hid (And.intro hsz (And.intro hfr hdone))
      clear hc hce hfr hdone
      go_wp2
      go_ret
      exact ⟨_, _, rfl, fun i hi => ⟨_, 0, rfl, Nat.le_refl _, HR.out.1, by simpa using HR.out.2.2 i hi, by simpa using HR.out.2.1 i⟩, hb⟩
def sumTo (f : Nat → Nat) : Nat → Nat | 0 => 0 | k + 1 => sumTo f k + f k
theorem sumTo_mono (f : Nat → Nat) {k n : Nat} (h : k ≤ n) : sumTo f k ≤ sumTo f n := by
  induction n with
  | zero => have : k = 0 := by omega
            subst this; exact Nat.le_refl _
  | succ m ih => rcases Nat.lt_or_ge m k with h1 | h1
                 · have : k = m + 1 := by omega
                   subst this; exact Nat.le_refl _
                 · exact Nat.le_trans (ih h1) (by simp [sumTo])
def szStrs (n : Nat) (s : Nat → ByteArray) : Nat := n + sumTo (fun i => (s i).size) n
def szOut (left : Int) (s : Nat) : Int := if (s : Int) ≤ left then left - s else -1
theorem szOut_no {left : Int} {s : Nat} (h : left < s) : szOut left s = -1 := if_neg (by omega)
theorem szOut_yes {left : Int} {s : Nat} (h : (s : Int) ≤ left) : szOut left s = left - s := if_pos h
theorem ret_int {k : IntKind} {a b : Int} (h : a = b) : Ending.returned (.int k a) = .returned (.int k b) := by rw [h]
set_option maxRecDepth 100000 in
set_option maxHeartbeats 400000 in
theorem szStrs_any (n : Nat) (s : Nat → ByteArray) (ad : Option Addr) (cap : Nat) (left : Int) (w : World) (hl : (n : Int) ≤ 140737488355328) (h0 : 0 ≤ left) (h1 : left ≤ 1048576) (hm : ∀ i, i < n → ((s i).size : Int) ≤ 140737488355328)
    (lo hi : Nat) (hc : StrsIn w lo hi ad n s) :
    Calls Try.prog 61 #[.slice ad n cap, .int .i64 left] w fun e w' => e = .returned (.int .i64 (szOut left (szStrs n s))) ∧ w' = w := by
  by_cases hlt : left - n < 0
  · go_enter Try.func61, Try.ntmps61
    go_wp2
    go_ret
    refine ⟨ret_int ?_, rfl⟩
    rw [szOut_no (by unfold szStrs; omega)]
  · go_enter Try.func61, Try.ntmps61
    go_wp2
    go_loop [1, 5] (fun t i => ∃ k : Nat, k ≤ n ∧ i = .int .i64 k ∧ t = .int .i64 (left - n - (sumTo (fun i => (s i).size) k : Nat)) ∧ 0 ≤ left - n - (sumTo (fun i => (s i).size) k : Nat)) (fun _ i => n - (intOf i).toNat)
    case atStart => exact ⟨0, Nat.zero_le _, rfl, by simp [sumTo], by simp [sumTo]; omega⟩
    case round =>
      obtain ⟨k, hk, rfl, rfl, hnn⟩ := hrel
      have hst : sumTo (fun i => (s i).size) (k+1) = sumTo (fun i => (s i).size) k + (s k).size := rfl
      have hmo : k < n → sumTo (fun i => (s i).size) (k+1) ≤ sumTo (fun i => (s i).size) n := fun h => sumTo_mono _ h
      generalize hq : sumTo (fun i => (s i).size) k = q at *
      generalize hq1 : sumTo (fun i => (s i).size) (k+1) = q1 at *
      by_cases hkn : k < n
      · obtain ⟨b, off, ha, hlo, hbh, hcx⟩ := hc k hkn
        have hmx := hm k hkn
        have hmo := hmo hkn
        generalize hs : s k = sk at *
        have HS : Hid (q1 = q + sk.size) := hst
        have HQ : Hid (sumTo (fun i => (s i).size) (k+1) = q1) := hq1
        have HA : Hid (ad = some ⟨b, off, none⟩) := ha
        clear hst hq hq1 hs hc hm 
        subst ha
        clear HA
        go_wp2
        · go_ret
          refine ⟨ret_int ?_, rfl⟩
          have := HS.out
          rw [szOut_no (by unfold szStrs; omega)]
        · have hs := HS.out
          go_round
          case rel => exact ⟨k + 1, by omega, by go_num, by rw [HQ.out]; apply congrArg; omega, by rw [HQ.out]; omega⟩
          case measure => simp [intOf]; omega
      · have : k = n := by omega
        subst this
        clear hc hm hst hmo hq1
        have HQ : Hid (sumTo (fun i => (s i).size) k = q) := hq
        clear hq
        go_wp2
        go_ret
        refine ⟨ret_int ?_, rfl⟩
        have := HQ.out
        rw [szOut_yes (by unfold szStrs; omega)]
        unfold szStrs; omega
end Go.Proofs.Ytjepponnhieocaa
