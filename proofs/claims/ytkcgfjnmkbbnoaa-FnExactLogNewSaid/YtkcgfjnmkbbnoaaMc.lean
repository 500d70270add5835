import Derived.Test.YtkcgfjnmkbbnoaaMb
namespace Go.Proofs.Ytkcgfjnmkbbnoaa
open Go.RowKit
theorem after6 {w0 w1 : World} {g m : Nat} {c : Nat → Value} {o0 o1 o2 o3 o4 o5 : Nat} {v0 v1 v2 v3 v4 v5 : Value} (b : Below ((((((w0.setCell ⟨g, o0, none⟩ v0).setCell ⟨g, o1, none⟩ v1).setCell ⟨g, o2, none⟩ v2).setCell ⟨g, o3, none⟩ v3).setCell ⟨g, o4, none⟩ v4).setCell ⟨g, o5, none⟩ v5).heap.size ((((((w0.setCell ⟨g, o0, none⟩ v0).setCell ⟨g, o1, none⟩ v1).setCell ⟨g, o2, none⟩ v2).setCell ⟨g, o3, none⟩ v3).setCell ⟨g, o4, none⟩ v4).setCell ⟨g, o5, none⟩ v5) w1) (r : RowF w0 g m c) (h : o0 < m ∧ o1 < m ∧ o2 < m ∧ o3 < m ∧ o4 < m ∧ o5 < m) : RowF w1 g m (setF (setF (setF (setF (setF (setF c o0 v0) o1 v1) o2 v2) o3 v3) o4 v4) o5 v5) ∧ FrP (fun q => q = g) w0 w1 := by
  obtain ⟨h0, h1, h2, h3, h4, h5⟩ := h
  have r6 := (((((r.set h0 v0).set h1 v1).set h2 v2).set h3 v3).set h4 v4).set h5 v5
  have f6 := ((((((FrP.refl (fun q => q = g) w0).setCell (p := ⟨g, o0, none⟩) rfl v0).setCell (p := ⟨g, o1, none⟩) rfl v1).setCell (p := ⟨g, o2, none⟩) rfl v2).setCell (p := ⟨g, o3, none⟩) rfl v3).setCell (p := ⟨g, o4, none⟩) rfl v4).setCell (p := ⟨g, o5, none⟩) rfl v5
  exact ⟨r6.below b r6.lt, f6.trans (FrP.of_below b)⟩
def atMs (c : Nat → Value) (i : Nat) (y : Ms) (A : Option Addr) (C : Nat) : Prop := c (i * 8) = .int .i64 y.kind ∧ c (i * 8 + 1) = .int .i64 y.from_ ∧ c (i * 8 + 2) = .int .i64 y.to ∧ c (i * 8 + 3) = .int .i64 y.bal ∧ c (i * 8 + 4) = .int .i64 y.ix ∧ c (i * 8 + 5) = .int .i64 y.kn ∧ c (i * 8 + 6) = .string y.text ∧ c (i * 8 + 7) = .slice A y.n C
theorem atMs_set {c : Nat → Value} {i : Nat} {y : Ms}{A : Option Addr} {C : Nat} (h : atMs c i y A C) {k o : Nat} (hik : ¬ i = k) (h1 : k * 8 ≤ o) (h2 : o < k * 8 + 8) (v : Value) : atMs (setF c o v) i y A C := by
  obtain ⟨a0, a1, a2, a3, a4, a5, a6, a7⟩ := h
  exact ⟨(if_neg (by omega)).trans a0, (if_neg (by omega)).trans a1, (if_neg (by omega)).trans a2, (if_neg (by omega)).trans a3, (if_neg (by omega)).trans a4, (if_neg (by omega)).trans a5, (if_neg (by omega)).trans a6, (if_neg (by omega)).trans a7⟩
def mkMs (m : Nat) (o : Ms) : Ms := ⟨m, (m : Int) + 1, (m : Int) + 2, (m : Int) + 3, (m : Int) + 4, (m : Int) + 5, mt (m + 6), o.n, fun j => slM (m + 7 + 2 * j)⟩
def mkMss (k0 : Nat) (x : Nat → Ms) : Nat → Nat | 0 => k0 | n + 1 => mkMss k0 x n + 7 + 2 * (x n).n
theorem mkMss_mono (k0 : Nat) (x : Nat → Ms) {k n : Nat} (h : k ≤ n) : mkMss k0 x k ≤ mkMss k0 x n := by
  induction n with
  | zero => have : k = 0 := by omega
            subst this; exact Nat.le_refl _
  | succ m ih => rcases Nat.lt_or_ge m k with h1 | h1
                 · have : k = m + 1 := by omega
                   subst this; exact Nat.le_refl _
                 · exact Nat.le_trans (ih h1) (by simp only [mkMss]; omega)
theorem mkMss_pos (k0 : Nat) (x : Nat → Ms) (k : Nat) (h : 1 ≤ k0) : 1 ≤ mkMss k0 x k := Nat.le_trans h (mkMss_mono k0 x (Nat.zero_le k))
def ykMs (k0 : Nat) (x : Nat → Ms) (k i : Nat) : Ms := if i < k then mkMs (mkMss k0 x i) (x i) else x i
theorem ykMs_zero (k0 : Nat) (x : Nat → Ms) : ykMs k0 x 0 = x := funext fun i => if_neg (Nat.not_lt_zero i)
theorem ykMs_lt {k0 : Nat} {x : Nat → Ms} {k i : Nat} (h : i < k) : ykMs k0 x k i = mkMs (mkMss k0 x i) (x i) := if_pos h
theorem ykMs_ge {k0 : Nat} {x : Nat → Ms} {k i : Nat} (h : k ≤ i) : ykMs k0 x k i = x i := if_neg (by omega)
theorem ykMs_ne {k0 : Nat} {x : Nat → Ms} {k i : Nat} (h : ¬ i = k) : ykMs k0 x (k + 1) i = ykMs k0 x k i := by
  unfold ykMs
  by_cases h1 : i < k
  · rw [if_pos h1, if_pos (by omega)]
  · rw [if_neg h1, if_neg (by omega)]
theorem ykMs_hn (k0 : Nat) (x : Nat → Ms) (k i : Nat) : (ykMs k0 x k i).n = (x i).n := by unfold ykMs; split <;> rfl
structure MssAt (w : World) (ad : Option Addr) (g n : Nat) (x : Nat → Ms) (A : Nat → Option Addr) (C : Nat → Nat) (hb : Nat → Nat) : Prop where
  addr : 0 < n → ad = some ⟨g, 0, none⟩
  row : 0 < n → ∃ c, RowF w g (n * 8) c ∧ ∀ i, i < n → atMs c i (x i) (A i) (C i)
  hold : ∀ i, i < n → SlsAt w (A i) (hb i) (x i).n (x i).s
  hlt : ∀ i, i < n → (x i).n ≠ 0 → hb i < w.heap.size
  ap : ApartH g n (fun i => (x i).n) hb
theorem MssAt.fr {w w' : World} {ad : Option Addr} {g n : Nat} {x : Nat → Ms} {A : Nat → Option Addr} {C : Nat → Nat} {hb : Nat → Nat} {P : Nat → Prop} (h : MssAt w ad g n x A C hb) (hf : FrP P w w') (hp : ∀ k, blkH g n (fun i => (x i).n) hb k → ¬ P k) : MssAt w' ad g n x A C hb :=
  ⟨h.addr, fun h0 => by obtain ⟨c, r, e⟩ := h.row h0; exact ⟨c, r.fr hf (hp g (Or.inl ⟨h0, rfl⟩)), e⟩, fun i hi => (h.hold i hi).frP hf (fun h0 => ⟨hp (hb i) (Or.inr ⟨i, hi, h0, rfl⟩), h.hlt i hi h0⟩), fun i hi h0 => Nat.lt_of_lt_of_le (h.hlt i hi h0) hf.size, h.ap⟩
theorem MssAt.grow {w w' : World} {ad : Option Addr} {g n : Nat} {x : Nat → Ms} {A : Nat → Option Addr} {C : Nat → Nat} {hb : Nat → Nat} (h : MssAt w ad g n x A C hb) (hf : Below w.heap.size w w') : MssAt w' ad g n x A C hb := h.fr (FrP.of_below (P := fun _ => False) hf) (fun _ _ h => h)
set_option maxRecDepth 100000 in
set_option maxHeartbeats 2000000 in
theorem markMss_own (ad : Option Addr) (g n : Nat) (x : Nat → Ms) (A : Nat → Option Addr) (C : Nat → Nat) (hb : Nat → Nat) (cap k0 : Nat) (w : World) (hl : (n : Int) ≤ 1048576) (hk1 : 1 ≤ (k0 : Int)) (hk2 : (mkMss k0 x n : Int) ≤ 1073741824) (hc : MssAt w ad g n x A C hb) :
    Calls Try.prog 26 #[.slice ad n cap, .int .i64 k0] w fun e w' => e = .returned (.int .i64 (mkMss k0 x n)) ∧ MssAt w' ad g n (ykMs k0 x n) A C hb ∧ FrP (blkH g n (fun i => (x i).n) hb) w w' := by
  go_enter Try.func26, Try.ntmps26
  go_wp2
  go_loopw [1, 5] (fun t i wr => ∃ k : Nat, k ≤ n ∧ i = .int .i64 k ∧ t = .int .i64 (mkMss k0 x k) ∧ FrP (blkH g n (fun i => (x i).n) hb) w wr ∧ MssAt wr ad g n (ykMs k0 x k) A C hb) (fun _ i _ => n - (intOf i).toNat)
  case atStart => exact ⟨0, Nat.zero_le _, rfl, rfl, FrP.refl _ _, by rw [ykMs_zero]; exact hc⟩
  case round =>
    obtain ⟨k, hk, rfl, rfl, hfr, ho⟩ := hrel
    clear hc
    by_cases hkn : k < n
    · have hmo := mkMss_mono k0 x (k := k + 1) (n := n) (by omega)
      have hm1 := mkMss_pos k0 x k (by omega)
      have hms : mkMss k0 x (k + 1) = mkMss k0 x k + 7 + 2 * (x k).n := rfl
      have HM : Hid (mkMss k0 x (k + 1) = mkMss k0 x k + 7 + 2 * (x k).n) := hms
      have hm : mkMss k0 x k + 7 + 2 * (x k).n ≤ 1073741824 := by omega
      clear hmo hms
      obtain ⟨m, hme⟩ : ∃ m, mkMss k0 x k = m := ⟨_, rfl⟩
      rw [hme] at hm1 hm HM ⊢
      have HME := hid hme
      clear hme
      obtain rfl := ho.addr (by omega)
      obtain ⟨c, r0, hat⟩ := ho.row (by omega)
      have HO := hid ho
      have HAT := hid hat
      have hfr' := hid hfr
      have h6 : c (k * 8 + 7) = .slice (A k) (x k).n (C k) := by have := (hat k hkn).2.2.2.2.2.2.2; rw [ykMs_ge (Nat.le_refl k)] at this; exact this
      have H6 := hid h6
      clear h6
      clear ho hat hfr
      have f0 : FrP (fun q => q = g) wr wr := FrP.refl _ _
      have q0 := r0.cell (k * 8) (by omega)
      have q1 := r0.cell (k * 8 + 1) (by omega)
      have q2 := r0.cell (k * 8 + 2) (by omega)
      have q3 := r0.cell (k * 8 + 3) (by omega)
      have q4 := r0.cell (k * 8 + 4) (by omega)
      have q5 := r0.cell (k * 8 + 5) (by omega)
      have qf0 := r0.free
      go_wp2_with fail
      refine (markText_at _ (m + 6) (by omega) _ (by omega) (by omega)).mono ?_
      rintro e w1 ⟨rfl, b1⟩
      obtain ⟨r1, f1⟩ := after6 b1 r0 ⟨by omega, by omega, by omega, by omega, by omega, by omega⟩
      clear q0 q1 q2 q3 q4 q5 qf0 r0 f0 b1
      have q6 := r1.cell (k * 8 + 6) (by omega)
      have qf1 := r1.free
      have q7 : w1.cell? ⟨g, k * 8 + 7, none⟩ = some (.slice (A k) (x k).n (C k)) := (r1.cell (k * 8 + 7) (by omega)).trans (congrArg some (Eq.trans (by simp [setF]) H6.out))
      have hkh := HO.out.hlt k hkn
      rw [ykMs_hn] at hkh
      have hkne := HO.out.ap.ne k hkn
      have hho := HO.out.hold k hkn
      rw [ykMs_ge (Nat.le_refl k)] at hho
      have HKH := hid hkh
      have HKN : Hid ((x k).n ≠ 0 → ¬ hb k = g) := fun h0 => hkne (by show (ykMs k0 x k k).n ≠ 0; rw [ykMs_hn]; exact h0)
      have HHO := hid hho
      have hz := f1.size
      clear hkh hkne hho
      go_wp2_with fail
      refine (markSls_in (x k).n (x k).s (A k) (C k) _ (m + 7) (by omega) _ (hb k) (fun h0 => (by have := HKH.out h0; simp only [World.size_setCell]; omega)) (by omega) (by omega) (by omega) (HHO.out.frP (f1.setCell (p := ⟨g, k * 8 + 6, none⟩) rfl _) (fun h0 => ⟨HKN.out h0, HKH.out h0⟩))).mono ?_
      rintro e w9 ⟨rfl, hs9, f9⟩
      have r9 := (r1.set (o := k * 8 + 6) (by omega) _).fr f9 (fun h0 => HKN.out h0.1 h0.2.symm)
      have F9 := (f1.setCell (p := ⟨g, k * 8 + 6, none⟩) rfl _).link f9
      have HO9 : MssAt w9 (some ⟨g, 0, none⟩) g n (ykMs k0 x (k + 1)) A C hb := by
        refine ⟨fun _ => rfl, fun _ => ⟨_, r9, fun i hi => ?_⟩, fun i hi => ?_, fun i hi h0 => ?_, ?_⟩
        · by_cases e : i = k
          · subst e
            rw [ykMs_lt (Nat.lt_succ_self i), HME.out]
            refine ⟨?_, ?_, ?_, ?_, ?_, ?_, ?_, ?_⟩
            all_goals first | (simp [setF, mkMs]; done) | (simp [setF, mkMs]; omega) | (simp [setF, mkMs]; exact rem3 (by omega)) | (exact (by simp [setF]) ▸ H6.out) | (simp [setF, mkMs, H6.out]; done)
          · rw [ykMs_ne e]
            exact (atMs_set (atMs_set (atMs_set (atMs_set (atMs_set (atMs_set (atMs_set (HAT.out i hi) e (k := k) (by omega) (by omega) _) e (k := k) (by omega) (by omega) _) e (k := k) (by omega) (by omega) _) e (k := k) (by omega) (by omega) _) e (k := k) (by omega) (by omega) _) e (k := k) (by omega) (by omega) _) e (k := k) (by omega) (by omega) _)
        · by_cases e : i = k
          · subst e
            rw [ykMs_lt (Nat.lt_succ_self i), HME.out]
            exact hs9
          · rw [ykMs_ne e]
            have hn0 := ykMs_hn k0 x k i
            refine ((HO.out.hold i hi).frP F9 (fun h0 => ⟨HO.out.ap.ne i hi h0, HO.out.hlt i hi h0⟩)).frP f9 (fun h0 => ⟨fun h1 => e (HO.out.ap.inj i k hi hkn h0 (by show (ykMs k0 x k k).n ≠ 0; rw [ykMs_hn]; exact h1.1) h1.2), Nat.lt_of_lt_of_le (HO.out.hlt i hi h0) F9.size⟩)
        · rw [ykMs_hn] at h0
          exact Nat.lt_of_lt_of_le (HO.out.hlt i hi (by rw [ykMs_hn]; exact h0)) (Nat.le_trans F9.size f9.size)
        · exact HO.out.ap.congr (fun i => by show (ykMs k0 x k i).n = (ykMs k0 x (k + 1) i).n; rw [ykMs_hn, ykMs_hn])
      have HO9' := hid HO9
      have HF9 := hid (hfr'.out.trans ((F9.mono (fun q hq => Or.inl ⟨by omega, hq⟩)).trans (f9.mono (fun q hq => Or.inr ⟨k, hkn, hq.1, hq.2⟩))))
      clear q6 q7 qf1 HO9 r9 f9 F9 hs9 r1 f1
      go_wp2
      go_roundw
      case rel => exact ⟨k + 1, by omega, by go_num, by rw [HM.out]; apply congrArg; omega, HF9.out, HO9'.out⟩
      case measure => simp [intOf]; omega
    · have : k = n := by omega
      subst this
      have HO := hid ho
      clear ho
      go_wp2
      go_ret
      exact ⟨rfl, HO.out, hfr⟩
end Go.Proofs.Ytkcgfjnmkbbnoaa
