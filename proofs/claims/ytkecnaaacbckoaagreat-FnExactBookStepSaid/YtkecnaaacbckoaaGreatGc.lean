import Derived.Test.YtkecnaaacbckoaaGreatGb
import Derived.Test.YtkecnaaacbckoaaGreatP
namespace Go.Proofs.YtkecnaaacbckoaaGreat
open Go.RowKit
def atCh (c : Nat → Value) (i : Nat) (y : Ch) (A : Option Addr) (C : Nat) : Prop := c (i * 9) = .int .i64 y.ver ∧ c (i * 9 + 1) = .bool y.gone ∧ c (i * 9 + 2) = .string y.ob.kind ∧ c (i * 9 + 3) = .string y.ob.name ∧ c (i * 9 + 4) = .int .i64 y.ob.ver ∧ c (i * 9 + 5) = .int .i64 y.ob.born ∧ c (i * 9 + 6) = .string y.ob.text ∧ c (i * 9 + 7) = .bool y.ob.ending ∧ c (i * 9 + 8) = .slice A y.ob.hn C
theorem atCh_set {c : Nat → Value} {i : Nat} {y : Ch}{A : Option Addr} {C : Nat} (h : atCh c i y A C) {k o : Nat} (hik : ¬ i = k) (h1 : k * 9 ≤ o) (h2 : o < k * 9 + 9) (v : Value) : atCh (setF c o v) i y A C := by
  obtain ⟨a0, a1, a2, a3, a4, a5, a6, a7, a8⟩ := h
  exact ⟨(if_neg (by omega)).trans a0, (if_neg (by omega)).trans a1, (if_neg (by omega)).trans a2, (if_neg (by omega)).trans a3, (if_neg (by omega)).trans a4, (if_neg (by omega)).trans a5, (if_neg (by omega)).trans a6, (if_neg (by omega)).trans a7, (if_neg (by omega)).trans a8⟩
def mkCh (m : Nat) (o : Ch) : Ch := ⟨m, decide (((m : Int) + 1) % 3 = 0), ⟨mt (m + 2), mt (m + 3), (m : Int) + 4, (m : Int) + 5, mt (m + 6), decide (((m : Int) + 7) % 3 = 0), o.ob.hn, fun j => mt (m + 8 + j)⟩⟩
def mkChs (k0 : Nat) (x : Nat → Ch) : Nat → Nat | 0 => k0 | n + 1 => mkChs k0 x n + 8 + (x n).ob.hn
theorem mkChs_mono (k0 : Nat) (x : Nat → Ch) {k n : Nat} (h : k ≤ n) : mkChs k0 x k ≤ mkChs k0 x n := by
  induction n with
  | zero => have : k = 0 := by omega
            subst this; exact Nat.le_refl _
  | succ m ih => rcases Nat.lt_or_ge m k with h1 | h1
                 · have : k = m + 1 := by omega
                   subst this; exact Nat.le_refl _
                 · exact Nat.le_trans (ih h1) (by simp only [mkChs]; omega)
theorem mkChs_pos (k0 : Nat) (x : Nat → Ch) (k : Nat) (h : 1 ≤ k0) : 1 ≤ mkChs k0 x k := Nat.le_trans h (mkChs_mono k0 x (Nat.zero_le k))
def ykCh (k0 : Nat) (x : Nat → Ch) (k i : Nat) : Ch := if i < k then mkCh (mkChs k0 x i) (x i) else x i
theorem ykCh_zero (k0 : Nat) (x : Nat → Ch) : ykCh k0 x 0 = x := funext fun i => if_neg (Nat.not_lt_zero i)
theorem ykCh_lt {k0 : Nat} {x : Nat → Ch} {k i : Nat} (h : i < k) : ykCh k0 x k i = mkCh (mkChs k0 x i) (x i) := if_pos h
theorem ykCh_ge {k0 : Nat} {x : Nat → Ch} {k i : Nat} (h : k ≤ i) : ykCh k0 x k i = x i := if_neg (by omega)
theorem ykCh_ne {k0 : Nat} {x : Nat → Ch} {k i : Nat} (h : ¬ i = k) : ykCh k0 x (k + 1) i = ykCh k0 x k i := by
  unfold ykCh
  by_cases h1 : i < k
  · rw [if_pos h1, if_pos (by omega)]
  · rw [if_neg h1, if_neg (by omega)]
theorem ykCh_hn (k0 : Nat) (x : Nat → Ch) (k i : Nat) : (ykCh k0 x k i).ob.hn = (x i).ob.hn := by unfold ykCh; split <;> rfl
structure ChsAt (w : World) (ad : Option Addr) (g n : Nat) (x : Nat → Ch) (A : Nat → Option Addr) (C : Nat → Nat) (hb : Nat → Nat) : Prop where
  addr : 0 < n → ad = some ⟨g, 0, none⟩
  row : 0 < n → ∃ c, RowF w g (n * 9) c ∧ ∀ i, i < n → atCh c i (x i) (A i) (C i)
  hold : ∀ i, i < n → StrsOwn w (hb i) (hb i + 1) (A i) (x i).ob.hn (x i).ob.hs
  hlt : ∀ i, i < n → (x i).ob.hn ≠ 0 → hb i < w.heap.size
  ap : ApartH g n (fun i => (x i).ob.hn) hb
theorem ChsAt.fr {w w' : World} {ad : Option Addr} {g n : Nat} {x : Nat → Ch} {A : Nat → Option Addr} {C : Nat → Nat} {hb : Nat → Nat} {P : Nat → Prop} (h : ChsAt w ad g n x A C hb) (hf : FrP P w w') (hp : ∀ k, blkH g n (fun i => (x i).ob.hn) hb k → ¬ P k) : ChsAt w' ad g n x A C hb :=
  ⟨h.addr, fun h0 => by obtain ⟨c, r, e⟩ := h.row h0; exact ⟨c, r.fr hf (hp g (Or.inl ⟨h0, rfl⟩)), e⟩, fun i hi => (h.hold i hi).frP hf (fun h0 => ⟨hp (hb i) (Or.inr ⟨i, hi, h0, rfl⟩), h.hlt i hi h0⟩), fun i hi h0 => Nat.lt_of_lt_of_le (h.hlt i hi h0) hf.size, h.ap⟩
theorem ChsAt.grow {w w' : World} {ad : Option Addr} {g n : Nat} {x : Nat → Ch} {A : Nat → Option Addr} {C : Nat → Nat} {hb : Nat → Nat} (h : ChsAt w ad g n x A C hb) (hf : Below w.heap.size w w') : ChsAt w' ad g n x A C hb := h.fr (FrP.of_below (P := fun _ => False) hf) (fun _ _ h => h)
set_option maxRecDepth 100000 in
set_option maxHeartbeats 2000000 in
theorem markChs_own (ad : Option Addr) (g n : Nat) (x : Nat → Ch) (A : Nat → Option Addr) (C : Nat → Nat) (hb : Nat → Nat) (cap k0 : Nat) (w : World) (hl : (n : Int) ≤ 1048576) (hk1 : 1 ≤ (k0 : Int)) (hk2 : (mkChs k0 x n : Int) ≤ 1073741824) (hc : ChsAt w ad g n x A C hb) :
    Calls Tryz.prog 51 #[.slice ad n cap, .int .i64 k0] w fun e w' => e = .returned (.int .i64 (mkChs k0 x n)) ∧ ChsAt w' ad g n (ykCh k0 x n) A C hb ∧ FrP (blkH g n (fun i => (x i).ob.hn) hb) w w' := by
  go_enter Tryz.func51, Tryz.ntmps51
  go_wp2
  go_loopw [1, 5] (fun t i wr => ∃ k : Nat, k ≤ n ∧ i = .int .i64 k ∧ t = .int .i64 (mkChs k0 x k) ∧ FrP (blkH g n (fun i => (x i).ob.hn) hb) w wr ∧ ChsAt wr ad g n (ykCh k0 x k) A C hb) (fun _ i _ => n - (intOf i).toNat)
  case atStart => exact ⟨0, Nat.zero_le _, rfl, rfl, FrP.refl _ _, by rw [ykCh_zero]; exact hc⟩
  case round =>
    obtain ⟨k, hk, rfl, rfl, hfr, ho⟩ := hrel
    clear hc
    by_cases hkn : k < n
    · have hmo := mkChs_mono k0 x (k := k + 1) (n := n) (by omega)
      have hm1 := mkChs_pos k0 x k (by omega)
      have hms : mkChs k0 x (k + 1) = mkChs k0 x k + 8 + (x k).ob.hn := rfl
      have HM : Hid (mkChs k0 x (k + 1) = mkChs k0 x k + 8 + (x k).ob.hn) := hms
      have hm : mkChs k0 x k + 8 + (x k).ob.hn ≤ 1073741824 := by omega
      clear hmo hms
      obtain ⟨m, hme⟩ : ∃ m, mkChs k0 x k = m := ⟨_, rfl⟩
      rw [hme] at hm1 hm HM ⊢
      have HME := hid hme
      clear hme
      obtain rfl := ho.addr (by omega)
      obtain ⟨c, r0, hat⟩ := ho.row (by omega)
      have HO := hid ho
      have HAT := hid hat
      have hfr' := hid hfr
      have h6 : c (k * 9 + 8) = .slice (A k) (x k).ob.hn (C k) := by have := (hat k hkn).2.2.2.2.2.2.2.2; rw [ykCh_ge (Nat.le_refl k)] at this; exact this
      have H6 := hid h6
      clear h6
      clear ho hat hfr
      have f0 : FrP (fun q => q = g) wr wr := FrP.refl _ _
      have q0 := r0.cell (k * 9) (by omega)
      have q1 := r0.cell (k * 9 + 1) (by omega)
      have qf0 := r0.free
      go_wp2_with fail
      refine (markText_at _ (m + 2) (by omega) _ (by omega) (by omega)).mono ?_
      rintro e w1 ⟨rfl, b1⟩
      have r1 := ((r0.set (o := k * 9) (by omega) _).set (o := k * 9 + 1) (by omega) _).below b1 (by first | exact r0.lt | (simp only [World.size_setCell]; exact r0.lt))
      have f1 := ((f0.setCell (p := ⟨g, k * 9, none⟩) rfl _).setCell (p := ⟨g, k * 9 + 1, none⟩) rfl _).trans (FrP.of_below b1)
      clear q0 q1 qf0 r0 f0 b1
      have q2 := r1.cell (k * 9 + 2) (by omega)
      have qf1 := r1.free
      go_wp2_with fail
      refine (markText_at _ (m + 3) (by omega) _ (by omega) (by omega)).mono ?_
      rintro e w2 ⟨rfl, b2⟩
      have r2 := (r1.set (o := k * 9 + 2) (by omega) _).below b2 (by first | exact r1.lt | (simp only [World.size_setCell]; exact r1.lt))
      have f2 := (f1.setCell (p := ⟨g, k * 9 + 2, none⟩) rfl _).trans (FrP.of_below b2)
      clear q2 qf1 r1 f1 b2
      have q3 := r2.cell (k * 9 + 3) (by omega)
      have q4 := r2.cell (k * 9 + 4) (by omega)
      have q5 := r2.cell (k * 9 + 5) (by omega)
      have qf2 := r2.free
      go_wp2_with fail
      refine (markText_at _ (m + 6) (by omega) _ (by omega) (by omega)).mono ?_
      rintro e w3 ⟨rfl, b3⟩
      have r3 := (((r2.set (o := k * 9 + 3) (by omega) _).set (o := k * 9 + 4) (by omega) _).set (o := k * 9 + 5) (by omega) _).below b3 (by first | exact r2.lt | (simp only [World.size_setCell]; exact r2.lt))
      have f3 := (((f2.setCell (p := ⟨g, k * 9 + 3, none⟩) rfl _).setCell (p := ⟨g, k * 9 + 4, none⟩) rfl _).setCell (p := ⟨g, k * 9 + 5, none⟩) rfl _).trans (FrP.of_below b3)
      clear q3 q4 q5 qf2 r2 f2 b3
      have q6 := r3.cell (k * 9 + 6) (by omega)
      have q7 := r3.cell (k * 9 + 7) (by omega)
      have qf3 := r3.free
      have q8 : w3.cell? ⟨g, k * 9 + 8, none⟩ = some (.slice (A k) (x k).ob.hn (C k)) := (r3.cell (k * 9 + 8) (by omega)).trans (congrArg some (Eq.trans (by simp [setF]) H6.out))
      have hkh := HO.out.hlt k hkn
      rw [ykCh_hn] at hkh
      have hkne := HO.out.ap.ne k hkn
      have hho := HO.out.hold k hkn
      rw [ykCh_ge (Nat.le_refl k)] at hho
      have HKH := hid hkh
      have HKN : Hid ((x k).ob.hn ≠ 0 → ¬ hb k = g) := fun h0 => hkne (by show (ykCh k0 x k k).ob.hn ≠ 0; rw [ykCh_hn]; exact h0)
      have HHO := hid hho
      have hz := f3.size
      clear hkh hkne hho
      go_wp2_with fail
      refine (markStrs_own (x k).ob.hn (x k).ob.hs (A k) (C k) _ (m + 8) (by omega) _ (hb k) (fun h0 => (by have := HKH.out h0; simp only [World.size_setCell]; omega)) (by omega) (by omega) (by omega) (HHO.out.frP ((f3.setCell (p := ⟨g, k * 9 + 6, none⟩) rfl _).setCell (p := ⟨g, k * 9 + 7, none⟩) rfl _) (fun h0 => ⟨HKN.out h0, HKH.out h0⟩))).mono ?_
      rintro e w9 ⟨rfl, hs9, f9⟩
      have r9 := ((r3.set (o := k * 9 + 6) (by omega) _).set (o := k * 9 + 7) (by omega) _).fr f9 (fun h0 => HKN.out h0.1 h0.2.symm)
      have F9 := ((f3.setCell (p := ⟨g, k * 9 + 6, none⟩) rfl _).setCell (p := ⟨g, k * 9 + 7, none⟩) rfl _).link f9
      have HO9 : ChsAt w9 (some ⟨g, 0, none⟩) g n (ykCh k0 x (k + 1)) A C hb := by
        refine ⟨fun _ => rfl, fun _ => ⟨_, r9, fun i hi => ?_⟩, fun i hi => ?_, fun i hi h0 => ?_, ?_⟩
        · by_cases e : i = k
          · subst e
            rw [ykCh_lt (Nat.lt_succ_self i), HME.out]
            refine ⟨?_, ?_, ?_, ?_, ?_, ?_, ?_, ?_, ?_⟩
            all_goals first | (simp [setF, mkCh]; done) | (simp [setF, mkCh]; omega) | (simp [setF, mkCh]; exact rem3 (by omega)) | (exact (by simp [setF]) ▸ H6.out) | (simp [setF, mkCh, H6.out]; done)
          · rw [ykCh_ne e]
            exact (atCh_set (atCh_set (atCh_set (atCh_set (atCh_set (atCh_set (atCh_set (atCh_set (HAT.out i hi) e (k := k) (by omega) (by omega) _) e (k := k) (by omega) (by omega) _) e (k := k) (by omega) (by omega) _) e (k := k) (by omega) (by omega) _) e (k := k) (by omega) (by omega) _) e (k := k) (by omega) (by omega) _) e (k := k) (by omega) (by omega) _) e (k := k) (by omega) (by omega) _)
        · by_cases e : i = k
          · subst e
            rw [ykCh_lt (Nat.lt_succ_self i), HME.out]
            exact hs9
          · rw [ykCh_ne e]
            have hn0 := ykCh_hn k0 x k i
            refine ((HO.out.hold i hi).frP F9 (fun h0 => ⟨HO.out.ap.ne i hi h0, HO.out.hlt i hi h0⟩)).frP f9 (fun h0 => ⟨fun h1 => e (HO.out.ap.inj i k hi hkn h0 (by show (ykCh k0 x k k).ob.hn ≠ 0; rw [ykCh_hn]; exact h1.1) h1.2), Nat.lt_of_lt_of_le (HO.out.hlt i hi h0) F9.size⟩)
        · rw [ykCh_hn] at h0
          exact Nat.lt_of_lt_of_le (HO.out.hlt i hi (by rw [ykCh_hn]; exact h0)) (Nat.le_trans F9.size f9.size)
        · exact HO.out.ap.congr (fun i => by show (ykCh k0 x k i).ob.hn = (ykCh k0 x (k + 1) i).ob.hn; rw [ykCh_hn, ykCh_hn])
      have HO9' := hid HO9
      have HF9 := hid (hfr'.out.trans ((F9.mono (fun q hq => Or.inl ⟨by omega, hq⟩)).trans (f9.mono (fun q hq => Or.inr ⟨k, hkn, hq.1, hq.2⟩))))
      clear q6 q7 q8 qf3 HO9 r9 f9 F9 hs9 r3 f3
      go_wp2
      go_roundw
      case rel => exact ⟨k + 1, by omega, by go_num, by rw [HM.out]; apply congrArg; omega, HF9.out, HO9'.out⟩
      case measure => simp [intOf]; omega
    · have : k = n := by omega
      subst this
      have HO := hid ho
      clear ho
      go_wp2
      go_ret
      exact ⟨rfl, HO.out, hfr⟩
end Go.Proofs.YtkecnaaacbckoaaGreat
