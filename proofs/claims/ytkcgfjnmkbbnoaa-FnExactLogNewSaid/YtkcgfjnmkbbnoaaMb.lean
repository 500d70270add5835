import Derived.Test.YtkcgfjnmkbbnoaaMa
namespace Go.Proofs.Ytkcgfjnmkbbnoaa
open Go.RowKit
/-- the mark of a slot -/
def slM (m : Nat) : Sl := ⟨m, mt (m + 1)⟩
def atSl (c : Nat → Value) (i : Nat) (y : Sl) : Prop := c (i * 2) = .int .i64 y.bal ∧ c (i * 2 + 1) = .string y.text
theorem atSl_set {c : Nat → Value} {i : Nat} {y : Sl} (h : atSl c i y) {k o : Nat} (hik : ¬ i = k) (h1 : k * 2 ≤ o) (h2 : o < k * 2 + 2) (v : Value) : atSl (setF c o v) i y := by
  obtain ⟨a0, a1⟩ := h
  exact ⟨(if_neg (by omega)).trans a0, (if_neg (by omega)).trans a1⟩
def mkSl (m : Nat) (_ : Sl) : Sl := slM m
def mkSls (k0 : Nat) (x : Nat → Sl) : Nat → Nat | 0 => k0 | n + 1 => mkSls k0 x n + 2
theorem mkSls_mono (k0 : Nat) (x : Nat → Sl) {k n : Nat} (h : k ≤ n) : mkSls k0 x k ≤ mkSls k0 x n := by
  induction n with
  | zero => have : k = 0 := by omega
            subst this; exact Nat.le_refl _
  | succ m ih => rcases Nat.lt_or_ge m k with h1 | h1
                 · have : k = m + 1 := by omega
                   subst this; exact Nat.le_refl _
                 · exact Nat.le_trans (ih h1) (by simp only [mkSls]; omega)
theorem mkSls_pos (k0 : Nat) (x : Nat → Sl) (k : Nat) (h : 1 ≤ k0) : 1 ≤ mkSls k0 x k := Nat.le_trans h (mkSls_mono k0 x (Nat.zero_le k))
def ykSl (k0 : Nat) (x : Nat → Sl) (k i : Nat) : Sl := if i < k then mkSl (mkSls k0 x i) (x i) else x i
theorem ykSl_zero (k0 : Nat) (x : Nat → Sl) : ykSl k0 x 0 = x := funext fun i => if_neg (Nat.not_lt_zero i)
theorem ykSl_lt {k0 : Nat} {x : Nat → Sl} {k i : Nat} (h : i < k) : ykSl k0 x k i = mkSl (mkSls k0 x i) (x i) := if_pos h
theorem ykSl_ge {k0 : Nat} {x : Nat → Sl} {k i : Nat} (h : k ≤ i) : ykSl k0 x k i = x i := if_neg (by omega)
theorem ykSl_ne {k0 : Nat} {x : Nat → Sl} {k i : Nat} (h : ¬ i = k) : ykSl k0 x (k + 1) i = ykSl k0 x k i := by
  unfold ykSl
  by_cases h1 : i < k
  · rw [if_pos h1, if_pos (by omega)]
  · rw [if_neg h1, if_neg (by omega)]
structure SlsAt (w : World) (ad : Option Addr) (g n : Nat) (x : Nat → Sl) : Prop where
  addr : 0 < n → ad = some ⟨g, 0, none⟩
  row : 0 < n → ∃ c, RowF w g (n * 2) c ∧ ∀ i, i < n → atSl c i (x i)
theorem SlsAt.fr {w w' : World} {ad : Option Addr} {g n : Nat} {x : Nat → Sl} {P : Nat → Prop} (h : SlsAt w ad g n x) (hf : FrP P w w') (hp : ∀ k, (fun k => 0 < n ∧ k = g) k → ¬ P k) : SlsAt w' ad g n x :=
  ⟨h.addr, fun h0 => by obtain ⟨c, r, e⟩ := h.row h0; exact ⟨c, r.fr hf (hp g (⟨h0, rfl⟩)), e⟩⟩
theorem SlsAt.grow {w w' : World} {ad : Option Addr} {g n : Nat} {x : Nat → Sl} (h : SlsAt w ad g n x) (hf : Below w.heap.size w w') : SlsAt w' ad g n x := h.fr (FrP.of_below (P := fun _ => False) hf) (fun _ _ h => h)
set_option maxRecDepth 100000 in
set_option maxHeartbeats 2000000 in
theorem markSls_own (ad : Option Addr) (g n : Nat) (x : Nat → Sl) (cap k0 : Nat) (w : World) (hl : (n : Int) ≤ 1073741824) (hk1 : 1 ≤ (k0 : Int)) (hk2 : (mkSls k0 x n : Int) ≤ 1073741824) (hc : SlsAt w ad g n x) :
    Calls Try.prog 42 #[.slice ad n cap, .int .i64 k0] w fun e w' => e = .returned (.int .i64 (mkSls k0 x n)) ∧ SlsAt w' ad g n (ykSl k0 x n) ∧ FrP (fun k => 0 < n ∧ k = g) w w' := by
  go_enter Try.func42, Try.ntmps42
  go_wp2
  go_loopw [1, 5] (fun t i wr => ∃ k : Nat, k ≤ n ∧ i = .int .i64 k ∧ t = .int .i64 (mkSls k0 x k) ∧ FrP (fun k => 0 < n ∧ k = g) w wr ∧ SlsAt wr ad g n (ykSl k0 x k)) (fun _ i _ => n - (intOf i).toNat)
  case atStart => exact ⟨0, Nat.zero_le _, rfl, rfl, FrP.refl _ _, by rw [ykSl_zero]; exact hc⟩
  case round =>
    obtain ⟨k, hk, rfl, rfl, hfr, ho⟩ := hrel
    clear hc
    by_cases hkn : k < n
    · have hmo := mkSls_mono k0 x (k := k + 1) (n := n) (by omega)
      have hm1 := mkSls_pos k0 x k (by omega)
      have hms : mkSls k0 x (k + 1) = mkSls k0 x k + 2 := rfl
      have HM : Hid (mkSls k0 x (k + 1) = mkSls k0 x k + 2) := hms
      have hm : mkSls k0 x k + 2 ≤ 1073741824 := by omega
      clear hmo hms
      obtain ⟨m, hme⟩ : ∃ m, mkSls k0 x k = m := ⟨_, rfl⟩
      rw [hme] at hm1 hm HM ⊢
      have HME := hid hme
      clear hme
      obtain rfl := ho.addr (by omega)
      obtain ⟨c, r0, hat⟩ := ho.row (by omega)
      have HO := hid ho
      have HAT := hid hat
      have hfr' := hid hfr
      clear ho hat hfr
      have f0 : FrP (fun q => q = g) wr wr := FrP.refl _ _
      have q0 := r0.cell (k * 2) (by omega)
      have qf0 := r0.free
      go_wp2_with fail
      refine (markText_at _ (m + 1) (by omega) _ (by omega) (by omega)).mono ?_
      rintro e w1 ⟨rfl, b1⟩
      have r1 := (r0.set (o := k * 2) (by omega) _).below b1 (by first | exact r0.lt | (simp only [World.size_setCell]; exact r0.lt))
      have f1 := (f0.setCell (p := ⟨g, k * 2, none⟩) rfl _).trans (FrP.of_below b1)
      clear q0 qf0 r0 f0 b1
      have q1 := r1.cell (k * 2 + 1) (by omega)
      have qf1 := r1.free
      go_wp2
      go_roundw
      case rel =>
        refine ⟨k + 1, by omega, by go_num, by rw [HM.out]; apply congrArg; omega, hfr'.out.trans (FrP.mono (f1.setCell (p := ⟨g, k * 2 + 1, none⟩) rfl _) (fun q hq => ⟨by omega, hq⟩)), fun _ => rfl, fun _ => ⟨_, (r1.set (o := k * 2 + 1) (by omega) _), fun i hi => ?_⟩⟩
        by_cases e : i = k
        · subst e
          rw [ykSl_lt (Nat.lt_succ_self i), HME.out]
          refine ⟨?_, ?_⟩
          all_goals first | (simp [setF, mkSl, slM]; done) | (simp [setF, mkSl, slM]; omega) | (simp [setF, mkSl, slM]; exact rem3 (by omega))
        · rw [ykSl_ne e]
          exact (atSl_set (atSl_set (HAT.out i hi) e (k := k) (by omega) (by omega) _) e (k := k) (by omega) (by omega) _)
      case measure => simp [intOf]; omega
    · have : k = n := by omega
      subst this
      have HO := hid ho
      clear ho
      go_wp2
      go_ret
      exact ⟨rfl, HO.out, hfr⟩
theorem mkSls_eq (k0 : Nat) (x : Nat → Sl) : ∀ n, mkSls k0 x n = k0 + 2 * n
  | 0 => rfl
  | n + 1 => by rw [mkSls, mkSls_eq k0 x n]; omega
theorem SlsAt.congr {w : World} {ad : Option Addr} {g n : Nat} {x y : Nat → Sl} (h : SlsAt w ad g n x) (e : ∀ i, i < n → x i = y i) : SlsAt w ad g n y :=
  ⟨h.addr, fun h0 => by obtain ⟨c, r, a⟩ := h.row h0; exact ⟨c, r, fun i hi => e i hi ▸ a i hi⟩⟩
theorem SlsAt.frP {w w' : World} {ad : Option Addr} {g n : Nat} {x : Nat → Sl} {P : Nat → Prop} (h : SlsAt w ad g n x) (hf : FrP P w w') (hn : n ≠ 0 → ¬ P g ∧ g < w.heap.size) : SlsAt w' ad g n x :=
  h.fr hf (fun k hk => by obtain ⟨h0, rfl⟩ := hk; exact (hn (by omega)).1)
theorem ykSl_at {k0 : Nat} {x : Nat → Sl} {n i : Nat} (h : i < n) : ykSl k0 x n i = slM (k0 + 2 * i) := by rw [ykSl_lt h, mkSls_eq]; rfl
theorem markSls_in (n : Nat) (s : Nat → Sl) (ad : Option Addr) (cap : Nat) (k : Int) (m : Nat) (hk : k = m) (w : World) (b : Nat) (_hlt : n ≠ 0 → b < w.heap.size) (hl : (n : Int) ≤ 1073741824) (hk1 : 1 ≤ k) (hk2 : k + 2 * n ≤ 1073741824)
    (hc : SlsAt w ad b n s) :
    Calls Try.prog 42 #[.slice ad n cap, .int .i64 k] w fun e w' => e = .returned (.int .i64 (k + 2 * n)) ∧ SlsAt w' ad b n (fun i => slM (m + 2 * i)) ∧ FrP (fun q => n ≠ 0 ∧ q = b) w w' := by
  subst hk
  refine (markSls_own ad b n s cap m w hl hk1 (by rw [mkSls_eq]; omega) hc).mono fun e w' ⟨e1, e2, e3⟩ => ⟨?_, e2.congr (fun i hi => ykSl_at hi), e3.mono (fun q hq => ⟨by omega, hq.2⟩)⟩
  rw [e1, mkSls_eq]
  exact congrArg (fun z => Ending.returned (Value.int .i64 z)) (by omega)
end Go.Proofs.Ytkcgfjnmkbbnoaa
