import Derived.Test.YtkecnaaacbckoaaGreatGa
import Derived.Test.YtkecnaaacbckoaaGreatP
namespace Go.Proofs.YtkecnaaacbckoaaGreat
open Go.RowKit
def atCh (c : Nat → Value) (i : Nat) (y : Ch) (A : Option Addr) (C : Nat) : Prop := c (i * 9) = .int .i64 y.ver ∧ c (i * 9 + 1) = .bool y.gone ∧ c (i * 9 + 2) = .string y.ob.kind ∧ c (i * 9 + 3) = .string y.ob.name ∧ c (i * 9 + 4) = .int .i64 y.ob.ver ∧ c (i * 9 + 5) = .int .i64 y.ob.born ∧ c (i * 9 + 6) = .string y.ob.text ∧ c (i * 9 + 7) = .bool y.ob.ending ∧ c (i * 9 + 8) = .slice A y.ob.hn C
theorem atCh_set {c : Nat → Value} {i : Nat} {y : Ch}{A : Option Addr} {C : Nat} (h : atCh c i y A C) {k o : Nat} (hik : ¬ i = k) (h1 : k * 9 ≤ o) (h2 : o < k * 9 + 9) (v : Value) : atCh (setF c o v) i y A C := by
  obtain ⟨a0, a1, a2, a3, a4, a5, a6, a7, a8⟩ := h
  exact ⟨(if_neg (by omega)).trans a0, (if_neg (by omega)).trans a1, (if_neg (by omega)).trans a2, (if_neg (by omega)).trans a3, (if_neg (by omega)).trans a4, (if_neg (by omega)).trans a5, (if_neg (by omega)).trans a6, (if_neg (by omega)).trans a7, (if_neg (by omega)).trans a8⟩
def mkCh (m : Nat) (o : Ch) : Ch := ⟨m, decide (((m : Int) + 1) % 3 = 0), ⟨mt (m + 2), mt (m + 3), (m : Int) + 4, (m : Int) + 5, mt (m + 6), decide (((m : Int) + 7) % 3 = 0), o.ob.hn, fun j => mt (m + 8 + j)⟩⟩
def mkChs (k0 : Nat) (x : Nat → Ch) : Nat → Nat | 0 => k0 | n + 1 => mkChs k0 x n + 8 + (x n).ob.hn
theorem mkChs_mono (k0 : Nat) (x : Nat → Ch) {k n : Nat} (h : k ≤ n) : mkChs k0 x k ≤ mkChs k0 x n := by
  induction n with
  | zero => have : k = 0 := by omega
            subst this; exact Nat.le_refl _
  | succ m ih => rcases Nat.lt_or_ge m k with h1 | h1
                 · have : k = m + 1 := by omega
                   subst this; exact Nat.le_refl _
                 · exact Nat.le_trans (ih h1) (by simp only [mkChs]; omega)
theorem mkChs_pos (k0 : Nat) (x : Nat → Ch) (k : Nat) (h : 1 ≤ k0) : 1 ≤ mkChs k0 x k := Nat.le_trans h (mkChs_mono k0 x (Nat.zero_le k))
def ykCh (k0 : Nat) (x : Nat → Ch) (k i : Nat) : Ch := if i < k then mkCh (mkChs k0 x i) (x i) else x i
theorem ykCh_zero (k0 : Nat) (x : Nat → Ch) : ykCh k0 x 0 = x := funext fun i => if_neg (Nat.not_lt_zero i)
theorem ykCh_lt {k0 : Nat} {x : Nat → Ch} {k i : Nat} (h : i < k) : ykCh k0 x k i = mkCh (mkChs k0 x i) (x i) := if_pos h
theorem ykCh_ge {k0 : Nat} {x : Nat → Ch} {k i : Nat} (h : k ≤ i) : ykCh k0 x k i = x i := if_neg (by omega)
theorem ykCh_ne {k0 : Nat} {x : Nat → Ch} {k i : Nat} (h : ¬ i = k) : ykCh k0 x (k + 1) i = ykCh k0 x k i := by
  unfold ykCh
  by_cases h1 : i < k
  · rw [if_pos h1, if_pos (by omega)]
  · rw [if_neg h1, if_neg (by omega)]
theorem ykCh_hn (k0 : Nat) (x : Nat → Ch) (k i : Nat) : (ykCh k0 x k i).ob.hn = (x i).ob.hn := by unfold ykCh; split <;> rfl
structure ChsAt (w : World) (ad : Option Addr) (g n : Nat) (x : Nat → Ch) (A : Nat → Option Addr) (C : Nat → Nat) (hb : Nat → Nat) : Prop where
  addr : 0 < n → ad = some ⟨g, 0, none⟩
  row : 0 < n → ∃ c, RowF w g (n * 9) c ∧ ∀ i, i < n → atCh c i (x i) (A i) (C i)
  hold : ∀ i, i < n → StrsOwn w (hb i) (hb i + 1) (A i) (x i).ob.hn (x i).ob.hs
  hlt : ∀ i, i < n → (x i).ob.hn ≠ 0 → hb i < w.heap.size
  ap : ApartH g n (fun i => (x i).ob.hn) hb
theorem ChsAt.fr {w w' : World} {ad : Option Addr} {g n : Nat} {x : Nat → Ch} {A : Nat → Option Addr} {C : Nat → Nat} {hb : Nat → Nat} {P : Nat → Prop} (h : ChsAt w ad g n x A C hb) (hf : FrP P w w') (hp : ∀ k, blkH g n (fun i => (x i).ob.hn) hb k → ¬ P k) : ChsAt w' ad g n x A C hb :=
  ⟨h.addr, fun h0 => by obtain ⟨c, r, e⟩ := h.row h0; exact ⟨c, r.fr hf (hp g (Or.inl ⟨h0, rfl⟩)), e⟩, fun i hi => (h.hold i hi).frP hf (fun h0 => ⟨hp (hb i) (Or.inr ⟨i, hi, h0, rfl⟩), h.hlt i hi h0⟩), fun i hi h0 => Nat.lt_of_lt_of_le (h.hlt i hi h0) hf.size, h.ap⟩
theorem ChsAt.grow {w w' : World} {ad : Option Addr} {g n : Nat} {x : Nat → Ch} {A : Nat → Option Addr} {C : Nat → Nat} {hb : Nat → Nat} (h : ChsAt w ad g n x A C hb) (hf : Below w.heap.size w w') : ChsAt w' ad g n x A C hb := h.fr (FrP.of_below (P := fun _ => False) hf) (fun _ _ h => h)
set_option maxRecDepth 100000 in
set_option maxHeartbeats 2000000 in
theorem markChs_own (ad : Option Addr) (g n : Nat) (x : Nat → Ch) (A : Nat → Option Addr) (C : Nat → Nat) (hb : Nat → Nat) (cap k0 : Nat) (w : World) (hl : (n : Int) ≤ 1048576) (hk1 : 1 ≤ (k0 : Int)) (hk2 : (mkChs k0 x n : Int) ≤ 1073741824) (hc : ChsAt w ad g n x A C hb) :
    Calls Tryz.prog 51 #[.slice ad n cap, .int .i64 k0] w fun e w' => e = .returned (.int .i64 (mkChs k0 x n)) ∧ ChsAt w' ad g n (ykCh k0 x n) A C hb ∧ FrP (blkH g n (fun i => (x i).ob.hn) hb) w w' := by
  go_enter Tryz.func51, Tryz.ntmps51
  go_wp2
  go_loopw [1, 5] (fun t i wr => ∃ k : Nat, k ≤ n ∧ i = .int .i64 k ∧ t = .int .i64 (mkChs k0 x k) ∧ FrP (blkH g n (fun i => (x i).ob.hn) hb) w wr ∧ ChsAt wr ad g n (ykCh k0 x k) A C hb) (fun _ i _ => n - (intOf i).toNat)
  case atStart => exact ⟨0, Nat.zero_le _, rfl, rfl, FrP.refl _ _, by rw [ykCh_zero]; exact hc⟩
  case round =>
    obtain ⟨k, hk, rfl, rfl, hfr, ho⟩ := hrel
    clear hc
    by_cases hkn : k < n
    · have hmo := mkChs_mono k0 x (k := k + 1) (n := n) (by omega)
      have hm1 := mkChs_pos k0 x k (by omega)
      have hms : mkChs k0 x (k + 1) = mkChs k0 x k + 8 + (x k).ob.hn := rfl
      have HM : Hid (mkChs k0 x (k + 1) = mkChs k0 x k + 8 + (x k).ob.hn) := hms
      have hm : mkChs k0 x k + 8 + (x k).ob.hn ≤ 1073741824 := by omega
      clear hmo hms
      obtain ⟨m, hme⟩ : ∃ m, mkChs k0 x k = m := ⟨_, rfl⟩
      rw [hme] at hm1 hm HM ⊢
      have HME := hid hme
      clear hme
      obtain rfl := ho.addr (by omega)
      obtain ⟨c, r0, hat⟩ := ho.row (by omega)
      have HO := hid ho
      have HAT := hid hat
      have hfr' := hid hfr
      have h6 : c (k * 9 + 8) = .slice (A k) (x k).ob.hn (C k) := by have := (hat k hkn).2.2.2.2.2.2.2.2; rw [ykCh_ge (Nat.le_refl k)] at this; exact this
      have H6 := hid h6
      clear h6
      clear ho hat hfr
      have f0 : FrP (fun q => q = g) wr wr := FrP.refl _ _
      have q0 := r0.cell (k * 9) (by omega)
      have q1 := r0.cell (k * 9 + 1) (by omega)
      have qf0 := r0.free
      go_wp2_with fail
      refine (markText_at _ (m + 2) (by omega) _ (by omega) (by omega)).mono ?_
      rintro e w1 ⟨rfl, b1⟩
      have r1 := ((r0.set (o := k * 9) (by omega) _).set (o := k * 9 + 1) (by omega) _).below b1 (by first | exact r0.lt | (simp only [World.size_setCell]; exact r0.lt))
      have f1 := ((f0.setCell (p := ⟨g, k * 9, none⟩) rfl _).setCell (p := ⟨g, k * 9 + 1, none⟩) rfl _).trans (FrP.of_below b1)
      clear q0 q1 qf0 r0 f0 b1
      have q2 := r1.cell (k * 9 + 2) (by omega)
      have qf1 := r1.free
      go_wp2_with fail
      refine (markText_at _ (m + 3) (by omega) _ (by omega) (by omega)).mono ?_
      rintro e w2 ⟨rfl, b2⟩
      have r2 := (r1.set (o := k * 9 + 2) (by omega) _).below b2 (by first | exact r1.lt | (simp only [World.size_setCell]; exact r1.lt))
      have f2 := (f1.setCell (p := ⟨g, k * 9 + 2, none⟩) rfl _).trans (FrP.of_below b2)
      clear q2 qf1 r1 f1 b2
      have q3 := r2.cell (k * 9 + 3) (by omega)
      have q4 := r2.cell (k * 9 + 4) (by omega)
      have q5 := r2.cell (k * 9 + 5) (by omega)
      have qf2 := r2.free
      go_wp2_with fail
      refine (markText_at _ (m + 6) (by omega) _ (by omega) (by omega)).mono ?_
      rintro e w3 ⟨rfl, b3⟩
      have r3 := (((r2.set (o := k * 9 + 3) (by omega) _).set (o := k * 9 + 4) (by omega) _).set (o := k * 9 + 5) (by omega) _).below b3 (by first | exact r2.lt | (simp only [World.size_setCell]; exact r2.lt))
      have f3 := (((f2.setCell (p := ⟨g, k * 9 + 3, none⟩) rfl _).setCell (p := ⟨g, k * 9 + 4, none⟩) rfl _).setCell (p := ⟨g, k * 9 + 5, none⟩) rfl _).trans (FrP.of_below b3)
      clear q3 q4 q5 qf2 r2 f2 b3
      have q6 := r3.cell (k * 9 + 6) (by omega)
      have q7 := r3.cell (k * 9 + 7) (by omega)
      have qf3 := r3.free
      have q8 : w3.cell? ⟨g, k * 9 + 8, none⟩ = some (.slice (A k) (x k).ob.hn (C k)) := (r3.cell (k * 9 + 8) (by omega)).trans (congrArg some (Eq.trans (by simp [setF]) H6.out))
      have hkh := HO.out.hlt k hkn
      rw [ykCh_hn] at hkh
      have hkne := HO.out.ap.ne k hkn
      have hho := HO.out.hold k hkn
      rw [ykCh_ge (Nat.le_refl k)] at hho
      have HKH := hid hkh
      have HKN : Hid ((x k).ob.hn ≠ 0 → ¬ hb k = g) := fun h0 => hkne (by show (ykCh k0 x k k).ob.hn ≠ 0; rw [ykCh_hn]; exact h0)
      have HHO := hid hho
      have hz := f3.size
      clear hkh hkne hho
      go_wp2_with fail
      refine (markStrs_own (x k).ob.hn (x k).ob.hs (A k) (C k) _ (m + 8) (by omega) _ (hb k) (fun h0 => (by have := HKH.out h0; simp only [World.size_setCell]; omega)) (by omega) (by omega) (by omega) (HHO.out.frP ((f3.setCell (p := ⟨g, k * 9 + 6, none⟩) rfl _).setCell (p := ⟨g, k * 9 + 7, none⟩) rfl _) (fun h0 => ⟨HKN.out h0, HKH.out h0⟩))).mono ?_
      rintro e w9 ⟨rfl, hs9, f9⟩
      have r9 := ((r3.set (o := k * 9 + 6) (by omega) _).set (o := k * 9 + 7) (by omega) _).fr f9 (fun h0 => HKN.out h0.1 h0.2.symm)
      have F9 := ((f3.setCell (p := ⟨g, k * 9 + 6, none⟩) rfl _).setCell (p := ⟨g, k * 9 + 7, none⟩) rfl _).link f9
      have HO9 : ChsAt w9 (some ⟨g, 0, none⟩) g n (ykCh k0 x (k + 1)) A C hb := by
        refine ⟨fun _ => rfl, fun _ => ⟨_, r9, fun i hi => ?_⟩, fun i hi => ?_, fun i hi h0 => ?_, ?_⟩
        · by_cases e : i = k
          · subst e
            rw [ykCh_lt (Nat.lt_succ_self i), HME.out]
            refine ⟨?_, ?_, ?_, ?_, ?_, ?_, ?_, ?_, ?_⟩
            all_goals first | (simp [setF, mkCh]; done) | (simp [setF, mkCh]; omega) | (simp [setF, mkCh]; exact rem3 (by omega)) | (exact (by simp [setF]) ▸ H6.out) | (simp [setF, mkCh, H6.out]; done)
          · rw [ykCh_ne e]
            exact (atCh_set (atCh_set (atCh_set (atCh_set (atCh_set (atCh_set (atCh_set (atCh_set (HAT.out i hi) e (k := k) (by omega) (by omega) _) e (k := k) (by omega) (by omega) _) e (k := k) (by omega) (by omega) _) e (k := k) (by omega) (by omega) _) e (k := k) (by omega) (by omega) _) e (k := k) (by omega) (by omega) _) e (k := k) (by omega) (by omega) _) e (k := k) (by omega) (by omega) _)
        · by_cases e : i = k
          · subst e
            rw [ykCh_lt (Nat.lt_succ_self i), HME.out]
            exact hs9
          · rw [ykCh_ne e]
            have hn0 := ykCh_hn k0 x k i
            refine ((HO.out.hold i hi).frP F9 (fun h0 => ⟨HO.out.ap.ne i hi h0, HO.out.hlt i hi h0⟩)).frP f9 (fun h0 => ⟨fun h1 => e (HO.out.ap.inj i k hi hkn h0 (by show (ykCh k0 x k k).ob.hn ≠ 0; rw [ykCh_hn]; exact h1.1) h1.2), Nat.lt_of_lt_of_le (HO.out.hlt i hi h0) F9.size⟩)
        · rw [ykCh_hn] at h0
          exact Nat.lt_of_lt_of_le (HO.out.hlt i hi (by rw [ykCh_hn]; exact h0)) (Nat.le_trans F9.size f9.size)
        · exact HO.out.ap.congr (fun i => by show (ykCh k0 x k i).ob.hn = (ykCh k0 x (k + 1) i).ob.hn; rw [ykCh_hn, ykCh_hn])
      have HO9' := hid HO9
      have HF9 := hid (hfr'.out.trans ((F9.mono (fun q hq => Or.inl ⟨by omega, hq⟩)).trans (f9.mono (fun q hq => Or.inr ⟨k, hkn, hq.1, hq.2⟩))))
      clear q6 q7 q8 qf3 HO9 r9 f9 F9 hs9 r3 f3
      go_wp2
      go_roundw
      case rel => exact ⟨k + 1, by omega, by go_num, by rw [HM.out]; apply congrArg; omega, HF9.out, HO9'.out⟩
      case measure => simp [intOf]; omega
    · have : k = n := by omega
      subst this
      have HO := hid ho
      clear ho
      go_wp2
      go_ret
      exact ⟨rfl, HO.out, hfr⟩
set_option maxRecDepth 100000 in
set_option maxHeartbeats 2000000 in
theorem heldChs_own (ad : Option Addr) (g n : Nat) (x : Nat → Ch) (A : Nat → Option Addr) (C : Nat → Nat) (hb : Nat → Nat) (cap k0 : Nat) (w : World) (hl : (n : Int) ≤ 1048576) (hk1 : 1 ≤ (k0 : Int)) (hk2 : (mkChs k0 x n : Int) ≤ 1073741824) (hc : ChsAt w ad g n (ykCh k0 x n) A C hb) :
    Calls Tryz.prog 53 #[.slice ad n cap, .int .i64 k0] w fun e w' => e = .returned (.int .i64 (mkChs k0 x n)) ∧ Below w.heap.size w w' := by
  have HO := hid hc
  clear hc
  go_enter Tryz.func53, Tryz.ntmps53
  go_wp2
  go_loopw [1, 5] (fun t i wr => ∃ k : Nat, k ≤ n ∧ i = .int .i64 k ∧ t = .int .i64 (mkChs k0 x k) ∧ Below w.heap.size w wr) (fun _ i _ => n - (intOf i).toNat)
  case atStart => exact ⟨0, Nat.zero_le _, rfl, rfl, Below.refl _ _⟩
  case round =>
    obtain ⟨k, hk, rfl, rfl, b0⟩ := hrel
    by_cases hkn : k < n
    · have hmo := mkChs_mono k0 x (k := k + 1) (n := n) (by omega)
      have hm1 := mkChs_pos k0 x k (by omega)
      have hms : mkChs k0 x (k + 1) = mkChs k0 x k + 8 + (x k).ob.hn := rfl
      have HM : Hid (mkChs k0 x (k + 1) = mkChs k0 x k + 8 + (x k).ob.hn) := hms
      have hm : mkChs k0 x k + 8 + (x k).ob.hn ≤ 1073741824 := by omega
      clear hmo hms
      have hadr := HO.out.addr (by omega)
      obtain ⟨c, rr, hat⟩ := HO.out.row (by omega)
      have hak := hat k hkn
      rw [ykCh_lt hkn] at hak
      have hho := HO.out.hold k hkn
      have hhl := HO.out.hlt k hkn
      rw [ykCh_lt hkn] at hho hhl
      obtain ⟨m, hme⟩ : ∃ m, mkChs k0 x k = m := ⟨_, rfl⟩
      rw [hme] at hm1 hm HM hak hho hhl ⊢
      clear hme hat
      subst hadr
      obtain ⟨a0, a1, a2, a3, a4, a5, a6, a7, a8⟩ := hak
      replace a0 : c (k * 9) = .int .i64 ((m : Int)) := a0.trans (by first | (exact congrArg (Value.int .i64) (by first | rfl | (simp only [mkCh]; omega))) | (exact congrArg Value.bool (rem3 (by omega)).symm))
      replace a1 : c (k * 9 + 1) = .bool (((m : Int) + 1) % 3 == 0) := a1.trans (by first | (exact congrArg (Value.int .i64) (by first | rfl | (simp only [mkCh]; omega))) | (exact congrArg Value.bool (rem3 (by omega)).symm))
      replace a2 : c (k * 9 + 2) = .string (mt (m + 2)) := a2
      replace a3 : c (k * 9 + 3) = .string (mt (m + 3)) := a3
      replace a4 : c (k * 9 + 4) = .int .i64 ((m : Int) + 1 + 1 + 1 + 1) := a4.trans (by first | (exact congrArg (Value.int .i64) (by first | rfl | (simp only [mkCh]; omega))) | (exact congrArg Value.bool (rem3 (by omega)).symm))
      replace a5 : c (k * 9 + 5) = .int .i64 ((m : Int) + 1 + 1 + 1 + 1 + 1) := a5.trans (by first | (exact congrArg (Value.int .i64) (by first | rfl | (simp only [mkCh]; omega))) | (exact congrArg Value.bool (rem3 (by omega)).symm))
      replace a6 : c (k * 9 + 6) = .string (mt (m + 6)) := a6
      replace a7 : c (k * 9 + 7) = .bool (((m : Int) + 1 + 1 + 1 + 1 + 1 + 1 + 1) % 3 == 0) := a7.trans (by first | (exact congrArg (Value.int .i64) (by first | rfl | (simp only [mkCh]; omega))) | (exact congrArg Value.bool (rem3 (by omega)).symm))
      replace a8 : c (k * 9 + 8) = .slice (A k) (x k).ob.hn (C k) := a8
      have A0 := hid a0
      have A1 := hid a1
      have A2 := hid a2
      have A3 := hid a3
      have A4 := hid a4
      have A5 := hid a5
      have A6 := hid a6
      have A7 := hid a7
      have A8 := hid a8
      have RR := hid rr
      have hgw := rr.lt
      clear rr a0 a1 a2 a3 a4 a5 a6 a7 a8
      have HHO : Hid (StrsOwn w (hb k) (hb k + 1) (A k) (x k).ob.hn (fun i => mt (m + 8 + i))) := hho
      have HHL : Hid ((x k).ob.hn ≠ 0 → hb k < w.heap.size) := hhl
      clear hho hhl
      have q0 := ((RR.out.below b0 hgw).cell (k * 9) (by omega)).trans (congrArg some A0.out)
      have q1 := ((RR.out.below b0 hgw).cell (k * 9 + 1) (by omega)).trans (congrArg some A1.out)
      have z1 := b0.size
      have qq2 := ((RR.out.below b0 hgw).cell (k * 9 + 2) (by omega)).trans (congrArg some A2.out)
      have y2 := subcell qq2 (by show g < _; omega)
      have hne1 : Nonempty (GW wr) := ⟨⟨_, Below.refl _ _⟩⟩
      go_wp2
      refine wp_region_grow (by kernel_rfl) (by kernel_rfl) ?_
      repeat (go_big_quiet_step ((go_at_call 69; go_must (exact grow_of (markText_at _ (m + 2) (by omega) _ (by omega) (by omega))))))
      refine wpQuiet_nil ?_
      rintro w1 ⟨u, hu⟩
      have c1 : Below wr.heap.size wr w1 := hu ▸ u.prop
      have b1 := b0.trans (c1.mono (by omega))
      clear hu u hne1 qq2 y2 c1 q0 q1
      have z2 := b1.size
      have qq3 := ((RR.out.below b1 hgw).cell (k * 9 + 3) (by omega)).trans (congrArg some A3.out)
      have y3 := subcell qq3 (by show g < _; omega)
      have hne2 : Nonempty (GW w1) := ⟨⟨_, Below.refl _ _⟩⟩
      go_wp2
      refine wp_region_grow (by kernel_rfl) (by kernel_rfl) ?_
      repeat (go_big_quiet_step ((go_at_call 69; go_must (exact grow_of (markText_at _ (m + 3) (by omega) _ (by omega) (by omega))))))
      refine wpQuiet_nil ?_
      rintro w2 ⟨u, hu⟩
      have c2 : Below w1.heap.size w1 w2 := hu ▸ u.prop
      have b2 := b1.trans (c2.mono (by omega))
      clear hu u hne2 qq3 y3 c2 
      have q4 := ((RR.out.below b2 hgw).cell (k * 9 + 4) (by omega)).trans (congrArg some A4.out)
      have q5 := ((RR.out.below b2 hgw).cell (k * 9 + 5) (by omega)).trans (congrArg some A5.out)
      have z3 := b2.size
      have qq6 := ((RR.out.below b2 hgw).cell (k * 9 + 6) (by omega)).trans (congrArg some A6.out)
      have y6 := subcell qq6 (by show g < _; omega)
      have hne3 : Nonempty (GW w2) := ⟨⟨_, Below.refl _ _⟩⟩
      go_wp2
      refine wp_region_grow (by kernel_rfl) (by kernel_rfl) ?_
      repeat (go_big_quiet_step ((go_at_call 69; go_must (exact grow_of (markText_at _ (m + 6) (by omega) _ (by omega) (by omega))))))
      refine wpQuiet_nil ?_
      rintro w3 ⟨u, hu⟩
      have c3 : Below w2.heap.size w2 w3 := hu ▸ u.prop
      have b3 := b2.trans (c3.mono (by omega))
      clear hu u hne3 qq6 y6 c3 q4 q5
      have q7 := ((RR.out.below b3 hgw).cell (k * 9 + 7) (by omega)).trans (congrArg some A7.out)
      have q8 := ((RR.out.below b3 hgw).cell (k * 9 + 8) (by omega)).trans (congrArg some A8.out)
      have zl := b3.size
      go_wp2_with fail
      refine (heldStrs_own (x k).ob.hn (A k) (C k) _ (m + 8) (by omega) _ (hb k) (fun h0 => (by have := HHL.out h0; omega)) (by omega) (by omega) (by omega) (HHO.out.frP (FrP.of_below (P := fun _ => False) b3) (fun h0 => ⟨fun h => h, HHL.out h0⟩))).mono ?_
      rintro e w9 ⟨rfl, c9⟩
      have b9 := b3.trans (c9.mono (by omega))
      clear q8 q7 c9
      go_wp2
      go_roundw
      case rel => exact ⟨k + 1, by omega, by go_num, by rw [HM.out]; apply congrArg; omega, b9⟩
      case measure => simp [intOf]; omega
    · have : k = n := by omega
      subst this
      go_wp2
      go_ret
      exact ⟨rfl, b0⟩
def atTi (c : Nat → Value) (i : Nat) (y : Ti) : Prop := c (i * 5) = .string y.client ∧ c (i * 5 + 1) = .int .i64 y.num ∧ c (i * 5 + 2) = .string y.print ∧ c (i * 5 + 3) = .int .i64 y.code ∧ c (i * 5 + 4) = .int .i64 y.ver
theorem atTi_set {c : Nat → Value} {i : Nat} {y : Ti} (h : atTi c i y) {k o : Nat} (hik : ¬ i = k) (h1 : k * 5 ≤ o) (h2 : o < k * 5 + 5) (v : Value) : atTi (setF c o v) i y := by
  obtain ⟨a0, a1, a2, a3, a4⟩ := h
  exact ⟨(if_neg (by omega)).trans a0, (if_neg (by omega)).trans a1, (if_neg (by omega)).trans a2, (if_neg (by omega)).trans a3, (if_neg (by omega)).trans a4⟩
def mkTi (m : Nat) (_ : Ti) : Ti := ⟨mt m, (m : Int) + 1, mt (m + 2), (m : Int) + 3, (m : Int) + 4⟩
def mkTis (k0 : Nat) (x : Nat → Ti) : Nat → Nat | 0 => k0 | n + 1 => mkTis k0 x n + 5
theorem mkTis_mono (k0 : Nat) (x : Nat → Ti) {k n : Nat} (h : k ≤ n) : mkTis k0 x k ≤ mkTis k0 x n := by
  induction n with
  | zero => have : k = 0 := by omega
            subst this; exact Nat.le_refl _
  | succ m ih => rcases Nat.lt_or_ge m k with h1 | h1
                 · have : k = m + 1 := by omega
                   subst this; exact Nat.le_refl _
                 · exact Nat.le_trans (ih h1) (by simp only [mkTis]; omega)
theorem mkTis_pos (k0 : Nat) (x : Nat → Ti) (k : Nat) (h : 1 ≤ k0) : 1 ≤ mkTis k0 x k := Nat.le_trans h (mkTis_mono k0 x (Nat.zero_le k))
def ykTi (k0 : Nat) (x : Nat → Ti) (k i : Nat) : Ti := if i < k then mkTi (mkTis k0 x i) (x i) else x i
theorem ykTi_zero (k0 : Nat) (x : Nat → Ti) : ykTi k0 x 0 = x := funext fun i => if_neg (Nat.not_lt_zero i)
theorem ykTi_lt {k0 : Nat} {x : Nat → Ti} {k i : Nat} (h : i < k) : ykTi k0 x k i = mkTi (mkTis k0 x i) (x i) := if_pos h
theorem ykTi_ge {k0 : Nat} {x : Nat → Ti} {k i : Nat} (h : k ≤ i) : ykTi k0 x k i = x i := if_neg (by omega)
theorem ykTi_ne {k0 : Nat} {x : Nat → Ti} {k i : Nat} (h : ¬ i = k) : ykTi k0 x (k + 1) i = ykTi k0 x k i := by
  unfold ykTi
  by_cases h1 : i < k
  · rw [if_pos h1, if_pos (by omega)]
  · rw [if_neg h1, if_neg (by omega)]
structure TisAt (w : World) (ad : Option Addr) (g n : Nat) (x : Nat → Ti) : Prop where
  addr : 0 < n → ad = some ⟨g, 0, none⟩
  row : 0 < n → ∃ c, RowF w g (n * 5) c ∧ ∀ i, i < n → atTi c i (x i)
theorem TisAt.fr {w w' : World} {ad : Option Addr} {g n : Nat} {x : Nat → Ti} {P : Nat → Prop} (h : TisAt w ad g n x) (hf : FrP P w w') (hp : ∀ k, (fun k => 0 < n ∧ k = g) k → ¬ P k) : TisAt w' ad g n x :=
  ⟨h.addr, fun h0 => by obtain ⟨c, r, e⟩ := h.row h0; exact ⟨c, r.fr hf (hp g (⟨h0, rfl⟩)), e⟩⟩
theorem TisAt.grow {w w' : World} {ad : Option Addr} {g n : Nat} {x : Nat → Ti} (h : TisAt w ad g n x) (hf : Below w.heap.size w w') : TisAt w' ad g n x := h.fr (FrP.of_below (P := fun _ => False) hf) (fun _ _ h => h)
set_option maxRecDepth 100000 in
set_option maxHeartbeats 2000000 in
theorem markTis_own (ad : Option Addr) (g n : Nat) (x : Nat → Ti) (cap k0 : Nat) (w : World) (hl : (n : Int) ≤ 1048576) (hk1 : 1 ≤ (k0 : Int)) (hk2 : (mkTis k0 x n : Int) ≤ 1073741824) (hc : TisAt w ad g n x) :
    Calls Tryz.prog 52 #[.slice ad n cap, .int .i64 k0] w fun e w' => e = .returned (.int .i64 (mkTis k0 x n)) ∧ TisAt w' ad g n (ykTi k0 x n) ∧ FrP (fun k => 0 < n ∧ k = g) w w' := by
  go_enter Tryz.func52, Tryz.ntmps52
  go_wp2
  go_loopw [1, 5] (fun t i wr => ∃ k : Nat, k ≤ n ∧ i = .int .i64 k ∧ t = .int .i64 (mkTis k0 x k) ∧ FrP (fun k => 0 < n ∧ k = g) w wr ∧ TisAt wr ad g n (ykTi k0 x k)) (fun _ i _ => n - (intOf i).toNat)
  case atStart => exact ⟨0, Nat.zero_le _, rfl, rfl, FrP.refl _ _, by rw [ykTi_zero]; exact hc⟩
  case round =>
    obtain ⟨k, hk, rfl, rfl, hfr, ho⟩ := hrel
    clear hc
    by_cases hkn : k < n
    · have hmo := mkTis_mono k0 x (k := k + 1) (n := n) (by omega)
      have hm1 := mkTis_pos k0 x k (by omega)
      have hms : mkTis k0 x (k + 1) = mkTis k0 x k + 5 := rfl
      have HM : Hid (mkTis k0 x (k + 1) = mkTis k0 x k + 5) := hms
      have hm : mkTis k0 x k + 5 ≤ 1073741824 := by omega
      clear hmo hms
      obtain ⟨m, hme⟩ : ∃ m, mkTis k0 x k = m := ⟨_, rfl⟩
      rw [hme] at hm1 hm HM ⊢
      have HME := hid hme
      clear hme
      obtain rfl := ho.addr (by omega)
      obtain ⟨c, r0, hat⟩ := ho.row (by omega)
      have HO := hid ho
      have HAT := hid hat
      have hfr' := hid hfr
      clear ho hat hfr
      have f0 : FrP (fun q => q = g) wr wr := FrP.refl _ _
      go_wp2_with fail
      refine (markText_at _ (m + 0) (by omega) _ (by omega) (by omega)).mono ?_
      rintro e w1 ⟨rfl, b1⟩
      have r1 := r0.below b1 (by first | exact r0.lt | (simp only [World.size_setCell]; exact r0.lt))
      have f1 := f0.trans (FrP.of_below b1)
      clear r0 f0 b1
      have q0 := r1.cell (k * 5) (by omega)
      have q1 := r1.cell (k * 5 + 1) (by omega)
      have qf1 := r1.free
      go_wp2_with fail
      refine (markText_at _ (m + 2) (by omega) _ (by omega) (by omega)).mono ?_
      rintro e w2 ⟨rfl, b2⟩
      have r2 := ((r1.set (o := k * 5) (by omega) _).set (o := k * 5 + 1) (by omega) _).below b2 (by first | exact r1.lt | (simp only [World.size_setCell]; exact r1.lt))
      have f2 := ((f1.setCell (p := ⟨g, k * 5, none⟩) rfl _).setCell (p := ⟨g, k * 5 + 1, none⟩) rfl _).trans (FrP.of_below b2)
      clear q0 q1 qf1 r1 f1 b2
      have q2 := r2.cell (k * 5 + 2) (by omega)
      have q3 := r2.cell (k * 5 + 3) (by omega)
      have q4 := r2.cell (k * 5 + 4) (by omega)
      have qf2 := r2.free
      go_wp2
      go_roundw
      case rel =>
        refine ⟨k + 1, by omega, by go_num, by rw [HM.out]; apply congrArg; omega, hfr'.out.trans (FrP.mono (((f2.setCell (p := ⟨g, k * 5 + 2, none⟩) rfl _).setCell (p := ⟨g, k * 5 + 3, none⟩) rfl _).setCell (p := ⟨g, k * 5 + 4, none⟩) rfl _) (fun q hq => ⟨by omega, hq⟩)), fun _ => rfl, fun _ => ⟨_, (((r2.set (o := k * 5 + 2) (by omega) _).set (o := k * 5 + 3) (by omega) _).set (o := k * 5 + 4) (by omega) _), fun i hi => ?_⟩⟩
        by_cases e : i = k
        · subst e
          rw [ykTi_lt (Nat.lt_succ_self i), HME.out]
          refine ⟨?_, ?_, ?_, ?_, ?_⟩
          all_goals first | (simp [setF, mkTi]; done) | (simp [setF, mkTi]; omega) | (simp [setF, mkTi]; exact rem3 (by omega))
        · rw [ykTi_ne e]
          exact (atTi_set (atTi_set (atTi_set (atTi_set (atTi_set (HAT.out i hi) e (k := k) (by omega) (by omega) _) e (k := k) (by omega) (by omega) _) e (k := k) (by omega) (by omega) _) e (k := k) (by omega) (by omega) _) e (k := k) (by omega) (by omega) _)
      case measure => simp [intOf]; omega
    · have : k = n := by omega
      subst this
      have HO := hid ho
      clear ho
      go_wp2
      go_ret
      exact ⟨rfl, HO.out, hfr⟩
set_option maxRecDepth 100000 in
set_option maxHeartbeats 2000000 in
theorem heldTis_own (ad : Option Addr) (g n : Nat) (x : Nat → Ti) (cap k0 : Nat) (w : World) (hl : (n : Int) ≤ 1048576) (hk1 : 1 ≤ (k0 : Int)) (hk2 : (mkTis k0 x n : Int) ≤ 1073741824) (hc : TisAt w ad g n (ykTi k0 x n)) :
    Calls Tryz.prog 54 #[.slice ad n cap, .int .i64 k0] w fun e w' => e = .returned (.int .i64 (mkTis k0 x n)) ∧ Below w.heap.size w w' := by
  have HO := hid hc
  clear hc
  go_enter Tryz.func54, Tryz.ntmps54
  go_wp2
  go_loopw [1, 5] (fun t i wr => ∃ k : Nat, k ≤ n ∧ i = .int .i64 k ∧ t = .int .i64 (mkTis k0 x k) ∧ Below w.heap.size w wr) (fun _ i _ => n - (intOf i).toNat)
  case atStart => exact ⟨0, Nat.zero_le _, rfl, rfl, Below.refl _ _⟩
  case round =>
    obtain ⟨k, hk, rfl, rfl, b0⟩ := hrel
    by_cases hkn : k < n
    · have hmo := mkTis_mono k0 x (k := k + 1) (n := n) (by omega)
      have hm1 := mkTis_pos k0 x k (by omega)
      have hms : mkTis k0 x (k + 1) = mkTis k0 x k + 5 := rfl
      have HM : Hid (mkTis k0 x (k + 1) = mkTis k0 x k + 5) := hms
      have hm : mkTis k0 x k + 5 ≤ 1073741824 := by omega
      clear hmo hms
      have hadr := HO.out.addr (by omega)
      obtain ⟨c, rr, hat⟩ := HO.out.row (by omega)
      have hak := hat k hkn
      rw [ykTi_lt hkn] at hak
      obtain ⟨m, hme⟩ : ∃ m, mkTis k0 x k = m := ⟨_, rfl⟩
      rw [hme] at hm1 hm HM hak ⊢
      clear hme hat
      subst hadr
      obtain ⟨a0, a1, a2, a3, a4⟩ := hak
      replace a0 : c (k * 5) = .string (mt m) := a0
      replace a1 : c (k * 5 + 1) = .int .i64 ((m : Int) + 1) := a1.trans (by first | (exact congrArg (Value.int .i64) (by first | rfl | (simp only [mkTi]; omega))) | (exact congrArg Value.bool (rem3 (by omega)).symm))
      replace a2 : c (k * 5 + 2) = .string (mt (m + 2)) := a2
      replace a3 : c (k * 5 + 3) = .int .i64 ((m : Int) + 1 + 1 + 1) := a3.trans (by first | (exact congrArg (Value.int .i64) (by first | rfl | (simp only [mkTi]; omega))) | (exact congrArg Value.bool (rem3 (by omega)).symm))
      replace a4 : c (k * 5 + 4) = .int .i64 ((m : Int) + 1 + 1 + 1 + 1) := a4.trans (by first | (exact congrArg (Value.int .i64) (by first | rfl | (simp only [mkTi]; omega))) | (exact congrArg Value.bool (rem3 (by omega)).symm))
      have A0 := hid a0
      have A1 := hid a1
      have A2 := hid a2
      have A3 := hid a3
      have A4 := hid a4
      have RR := hid rr
      have hgw := rr.lt
      clear rr a0 a1 a2 a3 a4
      have z1 := b0.size
      have qq0 := ((RR.out.below b0 hgw).cell (k * 5) (by omega)).trans (congrArg some A0.out)
      have y0 := subcell qq0 (by show g < _; omega)
      have hne1 : Nonempty (GW wr) := ⟨⟨_, Below.refl _ _⟩⟩
      go_wp2
      refine wp_region_grow (by kernel_rfl) (by kernel_rfl) ?_
      repeat (go_big_quiet_step ((go_at_call 69; go_must (exact grow_of (markText_at _ (m + 0) (by omega) _ (by omega) (by omega))))))
      refine wpQuiet_nil ?_
      rintro w1 ⟨u, hu⟩
      have c1 : Below wr.heap.size wr w1 := hu ▸ u.prop
      have b1 := b0.trans (c1.mono (by omega))
      clear hu u hne1 qq0 y0 c1 
      have q1 := ((RR.out.below b1 hgw).cell (k * 5 + 1) (by omega)).trans (congrArg some A1.out)
      have z2 := b1.size
      have qq2 := ((RR.out.below b1 hgw).cell (k * 5 + 2) (by omega)).trans (congrArg some A2.out)
      have y2 := subcell qq2 (by show g < _; omega)
      have hne2 : Nonempty (GW w1) := ⟨⟨_, Below.refl _ _⟩⟩
      go_wp2
      refine wp_region_grow (by kernel_rfl) (by kernel_rfl) ?_
      repeat (go_big_quiet_step ((go_at_call 69; go_must (exact grow_of (markText_at _ (m + 2) (by omega) _ (by omega) (by omega))))))
      refine wpQuiet_nil ?_
      rintro w2 ⟨u, hu⟩
      have c2 : Below w1.heap.size w1 w2 := hu ▸ u.prop
      have b2 := b1.trans (c2.mono (by omega))
      clear hu u hne2 qq2 y2 c2 q1
      have q3 := ((RR.out.below b2 hgw).cell (k * 5 + 3) (by omega)).trans (congrArg some A3.out)
      have q4 := ((RR.out.below b2 hgw).cell (k * 5 + 4) (by omega)).trans (congrArg some A4.out)
      go_wp2
      go_roundw
      case rel => exact ⟨k + 1, by omega, by go_num, by rw [HM.out]; apply congrArg; omega, b2⟩
      case measure => simp [intOf]; omega
    · have : k = n := by omega
      subst this
      go_wp2
      go_ret
      exact ⟨rfl, b0⟩
end Go.Proofs.YtkecnaaacbckoaaGreat
