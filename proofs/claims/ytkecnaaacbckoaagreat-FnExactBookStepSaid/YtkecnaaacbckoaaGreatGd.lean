import Derived.Test.YtkecnaaacbckoaaGreatGb
import Derived.Test.YtkecnaaacbckoaaGreatP
namespace Go.Proofs.YtkecnaaacbckoaaGreat
open Go.RowKit
def atTi (c : Nat → Value) (i : Nat) (y : Ti) : Prop := c (i * 5) = .string y.client ∧ c (i * 5 + 1) = .int .i64 y.num ∧ c (i * 5 + 2) = .string y.print ∧ c (i * 5 + 3) = .int .i64 y.code ∧ c (i * 5 + 4) = .int .i64 y.ver
theorem atTi_set {c : Nat → Value} {i : Nat} {y : Ti} (h : atTi c i y) {k o : Nat} (hik : ¬ i = k) (h1 : k * 5 ≤ o) (h2 : o < k * 5 + 5) (v : Value) : atTi (setF c o v) i y := by
  obtain ⟨a0, a1, a2, a3, a4⟩ := h
  exact ⟨(if_neg (by omega)).trans a0, (if_neg (by omega)).trans a1, (if_neg (by omega)).trans a2, (if_neg (by omega)).trans a3, (if_neg (by omega)).trans a4⟩
def mkTi (m : Nat) (_ : Ti) : Ti := ⟨mt m, (m : Int) + 1, mt (m + 2), (m : Int) + 3, (m : Int) + 4⟩
def mkTis (k0 : Nat) (x : Nat → Ti) : Nat → Nat | 0 => k0 | n + 1 => mkTis k0 x n + 5
theorem mkTis_mono (k0 : Nat) (x : Nat → Ti) {k n : Nat} (h : k ≤ n) : mkTis k0 x k ≤ mkTis k0 x n := by
  induction n with
  | zero => have : k = 0 := by omega
            subst this; exact Nat.le_refl _
  | succ m ih => rcases Nat.lt_or_ge m k with h1 | h1
                 · have : k = m + 1 := by omega
                   subst this; exact Nat.le_refl _
                 · exact Nat.le_trans (ih h1) (by simp only [mkTis]; omega)
theorem mkTis_pos (k0 : Nat) (x : Nat → Ti) (k : Nat) (h : 1 ≤ k0) : 1 ≤ mkTis k0 x k := Nat.le_trans h (mkTis_mono k0 x (Nat.zero_le k))
def ykTi (k0 : Nat) (x : Nat → Ti) (k i : Nat) : Ti := if i < k then mkTi (mkTis k0 x i) (x i) else x i
theorem ykTi_zero (k0 : Nat) (x : Nat → Ti) : ykTi k0 x 0 = x := funext fun i => if_neg (Nat.not_lt_zero i)
theorem ykTi_lt {k0 : Nat} {x : Nat → Ti} {k i : Nat} (h : i < k) : ykTi k0 x k i = mkTi (mkTis k0 x i) (x i) := if_pos h
theorem ykTi_ge {k0 : Nat} {x : Nat → Ti} {k i : Nat} (h : k ≤ i) : ykTi k0 x k i = x i := if_neg (by omega)
theorem ykTi_ne {k0 : Nat} {x : Nat → Ti} {k i : Nat} (h : ¬ i = k) : ykTi k0 x (k + 1) i = ykTi k0 x k i := by
  unfold ykTi
  by_cases h1 : i < k
  · rw [if_pos h1, if_pos (by omega)]
  · rw [if_neg h1, if_neg (by omega)]
structure TisAt (w : World) (ad : Option Addr) (g n : Nat) (x : Nat → Ti) : Prop where
  addr : 0 < n → ad = some ⟨g, 0, none⟩
  row : 0 < n → ∃ c, RowF w g (n * 5) c ∧ ∀ i, i < n → atTi c i (x i)
theorem TisAt.fr {w w' : World} {ad : Option Addr} {g n : Nat} {x : Nat → Ti} {P : Nat → Prop} (h : TisAt w ad g n x) (hf : FrP P w w') (hp : ∀ k, (fun k => 0 < n ∧ k = g) k → ¬ P k) : TisAt w' ad g n x :=
  ⟨h.addr, fun h0 => by obtain ⟨c, r, e⟩ := h.row h0; exact ⟨c, r.fr hf (hp g (⟨h0, rfl⟩)), e⟩⟩
theorem TisAt.grow {w w' : World} {ad : Option Addr} {g n : Nat} {x : Nat → Ti} (h : TisAt w ad g n x) (hf : Below w.heap.size w w') : TisAt w' ad g n x := h.fr (FrP.of_below (P := fun _ => False) hf) (fun _ _ h => h)
set_option maxRecDepth 100000 in
set_option maxHeartbeats 2000000 in
theorem markTis_own (ad : Option Addr) (g n : Nat) (x : Nat → Ti) (cap k0 : Nat) (w : World) (hl : (n : Int) ≤ 1048576) (hk1 : 1 ≤ (k0 : Int)) (hk2 : (mkTis k0 x n : Int) ≤ 1073741824) (hc : TisAt w ad g n x) :
    Calls Tryz.prog 52 #[.slice ad n cap, .int .i64 k0] w fun e w' => e = .returned (.int .i64 (mkTis k0 x n)) ∧ TisAt w' ad g n (ykTi k0 x n) ∧ FrP (fun k => 0 < n ∧ k = g) w w' := by
  go_enter Tryz.func52, Tryz.ntmps52
  go_wp2
  go_loopw [1, 5] (fun t i wr => ∃ k : Nat, k ≤ n ∧ i = .int .i64 k ∧ t = .int .i64 (mkTis k0 x k) ∧ FrP (fun k => 0 < n ∧ k = g) w wr ∧ TisAt wr ad g n (ykTi k0 x k)) (fun _ i _ => n - (intOf i).toNat)
  case atStart => exact ⟨0, Nat.zero_le _, rfl, rfl, FrP.refl _ _, by rw [ykTi_zero]; exact hc⟩
  case round =>
    obtain ⟨k, hk, rfl, rfl, hfr, ho⟩ := hrel
    clear hc
    by_cases hkn : k < n
    · have hmo := mkTis_mono k0 x (k := k + 1) (n := n) (by omega)
      have hm1 := mkTis_pos k0 x k (by omega)
      have hms : mkTis k0 x (k + 1) = mkTis k0 x k + 5 := rfl
      have HM : Hid (mkTis k0 x (k + 1) = mkTis k0 x k + 5) := hms
      have hm : mkTis k0 x k + 5 ≤ 1073741824 := by omega
      clear hmo hms
      obtain ⟨m, hme⟩ : ∃ m, mkTis k0 x k = m := ⟨_, rfl⟩
      rw [hme] at hm1 hm HM ⊢
      have HME := hid hme
      clear hme
      obtain rfl := ho.addr (by omega)
      obtain ⟨c, r0, hat⟩ := ho.row (by omega)
      have HO := hid ho
      have HAT := hid hat
      have hfr' := hid hfr
      clear ho hat hfr
      have f0 : FrP (fun q => q = g) wr wr := FrP.refl _ _
      go_wp2_with fail
      refine (markText_at _ (m + 0) (by omega) _ (by omega) (by omega)).mono ?_
      rintro e w1 ⟨rfl, b1⟩
      have r1 := r0.below b1 (by first | exact r0.lt | (simp only [World.size_setCell]; exact r0.lt))
      have f1 := f0.trans (FrP.of_below b1)
      clear r0 f0 b1
      have q0 := r1.cell (k * 5) (by omega)
      have q1 := r1.cell (k * 5 + 1) (by omega)
      have qf1 := r1.free
      go_wp2_with fail
      refine (markText_at _ (m + 2) (by omega) _ (by omega) (by omega)).mono ?_
      rintro e w2 ⟨rfl, b2⟩
      have r2 := ((r1.set (o := k * 5) (by omega) _).set (o := k * 5 + 1) (by omega) _).below b2 (by first | exact r1.lt | (simp only [World.size_setCell]; exact r1.lt))
      have f2 := ((f1.setCell (p := ⟨g, k * 5, none⟩) rfl _).setCell (p := ⟨g, k * 5 + 1, none⟩) rfl _).trans (FrP.of_below b2)
      clear q0 q1 qf1 r1 f1 b2
      have q2 := r2.cell (k * 5 + 2) (by omega)
      have q3 := r2.cell (k * 5 + 3) (by omega)
      have q4 := r2.cell (k * 5 + 4) (by omega)
      have qf2 := r2.free
      go_wp2
      go_roundw
      case rel =>
        refine ⟨k + 1, by omega, by go_num, by rw [HM.out]; apply congrArg; omega, hfr'.out.trans (FrP.mono (((f2.setCell (p := ⟨g, k * 5 + 2, none⟩) rfl _).setCell (p := ⟨g, k * 5 + 3, none⟩) rfl _).setCell (p := ⟨g, k * 5 + 4, none⟩) rfl _) (fun q hq => ⟨by omega, hq⟩)), fun _ => rfl, fun _ => ⟨_, (((r2.set (o := k * 5 + 2) (by omega) _).set (o := k * 5 + 3) (by omega) _).set (o := k * 5 + 4) (by omega) _), fun i hi => ?_⟩⟩
        by_cases e : i = k
        · subst e
          rw [ykTi_lt (Nat.lt_succ_self i), HME.out]
          refine ⟨?_, ?_, ?_, ?_, ?_⟩
          all_goals first | (simp [setF, mkTi]; done) | (simp [setF, mkTi]; omega) | (simp [setF, mkTi]; exact rem3 (by omega))
        · rw [ykTi_ne e]
          exact (atTi_set (atTi_set (atTi_set (atTi_set (atTi_set (HAT.out i hi) e (k := k) (by omega) (by omega) _) e (k := k) (by omega) (by omega) _) e (k := k) (by omega) (by omega) _) e (k := k) (by omega) (by omega) _) e (k := k) (by omega) (by omega) _)
      case measure => simp [intOf]; omega
    · have : k = n := by omega
      subst this
      have HO := hid ho
      clear ho
      go_wp2
      go_ret
      exact ⟨rfl, HO.out, hfr⟩
end Go.Proofs.YtkecnaaacbckoaaGreat
