import Derived.Test.YtkcgfjnmkbbnoaaMa
namespace Go.Proofs.Ytkcgfjnmkbbnoaa
open Go.RowKit
def atAk (c : Nat → Value) (i : Nat) (y : Ak) (A : Option Addr) (C : Nat) : Prop := c (i * 2) = .int .i64 y.ix ∧ c (i * 2 + 1) = .slice A y.n C
theorem atAk_set {c : Nat → Value} {i : Nat} {y : Ak}{A : Option Addr} {C : Nat} (h : atAk c i y A C) {k o : Nat} (hik : ¬ i = k) (h1 : k * 2 ≤ o) (h2 : o < k * 2 + 2) (v : Value) : atAk (setF c o v) i y A C := by
  obtain ⟨a0, a1⟩ := h
  exact ⟨(if_neg (by omega)).trans a0, (if_neg (by omega)).trans a1⟩
def mkAk (m : Nat) (o : Ak) : Ak := ⟨m, o.n, fun j => ((m + 1 + j : Nat) : Int)⟩
def mkAks (k0 : Nat) (x : Nat → Ak) : Nat → Nat | 0 => k0 | n + 1 => mkAks k0 x n + 1 + (x n).n
theorem mkAks_mono (k0 : Nat) (x : Nat → Ak) {k n : Nat} (h : k ≤ n) : mkAks k0 x k ≤ mkAks k0 x n := by
  induction n with
  | zero => have : k = 0 := by omega
            subst this; exact Nat.le_refl _
  | succ m ih => rcases Nat.lt_or_ge m k with h1 | h1
                 · have : k = m + 1 := by omega
                   subst this; exact Nat.le_refl _
                 · exact Nat.le_trans (ih h1) (by simp only [mkAks]; omega)
theorem mkAks_pos (k0 : Nat) (x : Nat → Ak) (k : Nat) (h : 1 ≤ k0) : 1 ≤ mkAks k0 x k := Nat.le_trans h (mkAks_mono k0 x (Nat.zero_le k))
def ykAk (k0 : Nat) (x : Nat → Ak) (k i : Nat) : Ak := if i < k then mkAk (mkAks k0 x i) (x i) else x i
theorem ykAk_zero (k0 : Nat) (x : Nat → Ak) : ykAk k0 x 0 = x := funext fun i => if_neg (Nat.not_lt_zero i)
theorem ykAk_lt {k0 : Nat} {x : Nat → Ak} {k i : Nat} (h : i < k) : ykAk k0 x k i = mkAk (mkAks k0 x i) (x i) := if_pos h
theorem ykAk_ge {k0 : Nat} {x : Nat → Ak} {k i : Nat} (h : k ≤ i) : ykAk k0 x k i = x i := if_neg (by omega)
theorem ykAk_ne {k0 : Nat} {x : Nat → Ak} {k i : Nat} (h : ¬ i = k) : ykAk k0 x (k + 1) i = ykAk k0 x k i := by
  unfold ykAk
  by_cases h1 : i < k
  · rw [if_pos h1, if_pos (by omega)]
  · rw [if_neg h1, if_neg (by omega)]
theorem ykAk_hn (k0 : Nat) (x : Nat → Ak) (k i : Nat) : (ykAk k0 x k i).n = (x i).n := by unfold ykAk; split <;> rfl
structure AksAt (w : World) (ad : Option Addr) (g n : Nat) (x : Nat → Ak) (A : Nat → Option Addr) (C : Nat → Nat) (hb : Nat → Nat) : Prop where
  addr : 0 < n → ad = some ⟨g, 0, none⟩
  row : 0 < n → ∃ c, RowF w g (n * 2) c ∧ ∀ i, i < n → atAk c i (x i) (A i) (C i)
  hold : ∀ i, i < n → IntsOwn w (hb i) (hb i + 1) (A i) (x i).n (x i).s
  hlt : ∀ i, i < n → (x i).n ≠ 0 → hb i < w.heap.size
  ap : ApartH g n (fun i => (x i).n) hb
theorem AksAt.fr {w w' : World} {ad : Option Addr} {g n : Nat} {x : Nat → Ak} {A : Nat → Option Addr} {C : Nat → Nat} {hb : Nat → Nat} {P : Nat → Prop} (h : AksAt w ad g n x A C hb) (hf : FrP P w w') (hp : ∀ k, blkH g n (fun i => (x i).n) hb k → ¬ P k) : AksAt w' ad g n x A C hb :=
  ⟨h.addr, fun h0 => by obtain ⟨c, r, e⟩ := h.row h0; exact ⟨c, r.fr hf (hp g (Or.inl ⟨h0, rfl⟩)), e⟩, fun i hi => (h.hold i hi).frP hf (fun h0 => ⟨hp (hb i) (Or.inr ⟨i, hi, h0, rfl⟩), h.hlt i hi h0⟩), fun i hi h0 => Nat.lt_of_lt_of_le (h.hlt i hi h0) hf.size, h.ap⟩
theorem AksAt.grow {w w' : World} {ad : Option Addr} {g n : Nat} {x : Nat → Ak} {A : Nat → Option Addr} {C : Nat → Nat} {hb : Nat → Nat} (h : AksAt w ad g n x A C hb) (hf : Below w.heap.size w w') : AksAt w' ad g n x A C hb := h.fr (FrP.of_below (P := fun _ => False) hf) (fun _ _ h => h)
set_option maxRecDepth 100000 in
set_option maxHeartbeats 2000000 in
theorem markAks_own (ad : Option Addr) (g n : Nat) (x : Nat → Ak) (A : Nat → Option Addr) (C : Nat → Nat) (hb : Nat → Nat) (cap k0 : Nat) (w : World) (hl : (n : Int) ≤ 1048576) (hk1 : 1 ≤ (k0 : Int)) (hk2 : (mkAks k0 x n : Int) ≤ 1073741824) (hc : AksAt w ad g n x A C hb) :
    Calls Try.prog 45 #[.slice ad n cap, .int .i64 k0] w fun e w' => e = .returned (.int .i64 (mkAks k0 x n)) ∧ AksAt w' ad g n (ykAk k0 x n) A C hb ∧ FrP (blkH g n (fun i => (x i).n) hb) w w' := by
  go_enter Try.func45, Try.ntmps45
  go_wp2
  go_loopw [1, 5] (fun t i wr => ∃ k : Nat, k ≤ n ∧ i = .int .i64 k ∧ t = .int .i64 (mkAks k0 x k) ∧ FrP (blkH g n (fun i => (x i).n) hb) w wr ∧ AksAt wr ad g n (ykAk k0 x k) A C hb) (fun _ i _ => n - (intOf i).toNat)
  case atStart => exact ⟨0, Nat.zero_le _, rfl, rfl, FrP.refl _ _, by rw [ykAk_zero]; exact hc⟩
  case round =>
    obtain ⟨k, hk, rfl, rfl, hfr, ho⟩ := hrel
    clear hc
    by_cases hkn : k < n
    · have hmo := mkAks_mono k0 x (k := k + 1) (n := n) (by omega)
      have hm1 := mkAks_pos k0 x k (by omega)
      have hms : mkAks k0 x (k + 1) = mkAks k0 x k + 1 + (x k).n := rfl
      have HM : Hid (mkAks k0 x (k + 1) = mkAks k0 x k + 1 + (x k).n) := hms
      have hm : mkAks k0 x k + 1 + (x k).n ≤ 1073741824 := by omega
      clear hmo hms
      obtain ⟨m, hme⟩ : ∃ m, mkAks k0 x k = m := ⟨_, rfl⟩
      rw [hme] at hm1 hm HM ⊢
      have HME := hid hme
      clear hme
      obtain rfl := ho.addr (by omega)
      obtain ⟨c, r0, hat⟩ := ho.row (by omega)
      have HO := hid ho
      have HAT := hid hat
      have hfr' := hid hfr
      have h6 : c (k * 2 + 1) = .slice (A k) (x k).n (C k) := by have := (hat k hkn).2; rw [ykAk_ge (Nat.le_refl k)] at this; exact this
      have H6 := hid h6
      clear h6
      clear ho hat hfr
      have f0 : FrP (fun q => q = g) wr wr := FrP.refl _ _
      have q0 := r0.cell (k * 2) (by omega)
      have qf0 := r0.free
      have q1 : wr.cell? ⟨g, k * 2 + 1, none⟩ = some (.slice (A k) (x k).n (C k)) := (r0.cell (k * 2 + 1) (by omega)).trans (congrArg some (Eq.trans (by simp) H6.out))
      have hkh := HO.out.hlt k hkn
      rw [ykAk_hn] at hkh
      have hkne := HO.out.ap.ne k hkn
      have hho := HO.out.hold k hkn
      rw [ykAk_ge (Nat.le_refl k)] at hho
      have HKH := hid hkh
      have HKN : Hid ((x k).n ≠ 0 → ¬ hb k = g) := fun h0 => hkne (by show (ykAk k0 x k k).n ≠ 0; rw [ykAk_hn]; exact h0)
      have HHO := hid hho
      have hz := f0.size
      clear hkh hkne hho
      go_wp2_with fail
      refine (markInts_own (x k).n (x k).s (A k) (C k) _ (m + 1) (by omega) _ (hb k) (fun h0 => (by have := HKH.out h0; simp only [World.size_setCell]; omega)) (by omega) (by omega) (by omega) (HHO.out.frP (f0.setCell (p := ⟨g, k * 2, none⟩) rfl _) (fun h0 => ⟨HKN.out h0, HKH.out h0⟩))).mono ?_
      rintro e w9 ⟨rfl, hs9, f9⟩
      have r9 := (r0.set (o := k * 2) (by omega) _).fr f9 (fun h0 => HKN.out h0.1 h0.2.symm)
      have F9 := (f0.setCell (p := ⟨g, k * 2, none⟩) rfl _).link f9
      have HO9 : AksAt w9 (some ⟨g, 0, none⟩) g n (ykAk k0 x (k + 1)) A C hb := by
        refine ⟨fun _ => rfl, fun _ => ⟨_, r9, fun i hi => ?_⟩, fun i hi => ?_, fun i hi h0 => ?_, ?_⟩
        · by_cases e : i = k
          · subst e
            rw [ykAk_lt (Nat.lt_succ_self i), HME.out]
            refine ⟨?_, ?_⟩
            all_goals first | (simp [setF, mkAk]; done) | (simp [setF, mkAk]; omega) | (simp [setF, mkAk]; exact rem3 (by omega)) | (exact (by simp [setF]) ▸ H6.out) | (simp [setF, mkAk, H6.out]; done)
          · rw [ykAk_ne e]
            exact (atAk_set (HAT.out i hi) e (k := k) (by omega) (by omega) _)
        · by_cases e : i = k
          · subst e
            rw [ykAk_lt (Nat.lt_succ_self i), HME.out]
            exact hs9
          · rw [ykAk_ne e]
            have hn0 := ykAk_hn k0 x k i
            refine ((HO.out.hold i hi).frP F9 (fun h0 => ⟨HO.out.ap.ne i hi h0, HO.out.hlt i hi h0⟩)).frP f9 (fun h0 => ⟨fun h1 => e (HO.out.ap.inj i k hi hkn h0 (by show (ykAk k0 x k k).n ≠ 0; rw [ykAk_hn]; exact h1.1) h1.2), Nat.lt_of_lt_of_le (HO.out.hlt i hi h0) F9.size⟩)
        · rw [ykAk_hn] at h0
          exact Nat.lt_of_lt_of_le (HO.out.hlt i hi (by rw [ykAk_hn]; exact h0)) (Nat.le_trans F9.size f9.size)
        · exact HO.out.ap.congr (fun i => by show (ykAk k0 x k i).n = (ykAk k0 x (k + 1) i).n; rw [ykAk_hn, ykAk_hn])
      have HO9' := hid HO9
      have HF9 := hid (hfr'.out.trans ((F9.mono (fun q hq => Or.inl ⟨by omega, hq⟩)).trans (f9.mono (fun q hq => Or.inr ⟨k, hkn, hq.1, hq.2⟩))))
      clear q0 q1 qf0 HO9 r9 f9 F9 hs9 r0 f0
      go_wp2
      go_roundw
      case rel => exact ⟨k + 1, by omega, by go_num, by rw [HM.out]; apply congrArg; omega, HF9.out, HO9'.out⟩
      case measure => simp [intOf]; omega
    · have : k = n := by omega
      subst this
      have HO := hid ho
      clear ho
      go_wp2
      go_ret
      exact ⟨rfl, HO.out, hfr⟩
end Go.Proofs.Ytkcgfjnmkbbnoaa
