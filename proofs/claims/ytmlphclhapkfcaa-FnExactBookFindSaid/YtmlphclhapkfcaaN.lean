import Derived.Test.YtmlphclhapkfcaaM
namespace Go.Proofs.Ytmlphclhapkfcaa
open Go.RowKit
/-- what is left to be marked of the objects of block g, from k on -/
structure ChgsRest (w : World) (g hi k n : Nat) (x : Nat → Ch) (r : Nat → Nat) : Prop where
  room : Room w g (n * 9)
  r0 : g < r 0
  mono : ∀ i, i < n → r i ≤ r (i + 1)
  rn : r n ≤ hi
  hi : hi ≤ w.heap.size
  at_ : ∀ i, k ≤ i → i < n → ∃ ah ch, w.cell? ⟨g, i * 9 + 8, none⟩ = some (.slice ah (x i).ob.hn ch) ∧ StrsOwn w (r i) (r (i + 1)) ah (x i).ob.hn (x i).ob.hs
theorem ChgsOwnAt.rest {w : World} {g hi n : Nat} {x : Nat → Ch} {r : Nat → Nat} (h : ChgsOwnAt w g hi n n x r) : ChgsRest w g hi 0 n x r :=
  ⟨h.room, h.r0, h.mono, h.rn, h.hi, fun i _ hi' => by obtain ⟨ah, ch, c, s⟩ := h.at_ i hi'; exact ⟨ah, ch, c.c8, s⟩⟩
def mkChs (k0 : Nat) (x : Nat → Ch) : Nat → Nat | 0 => k0 | n + 1 => mkChs k0 x n + 8 + (x n).ob.hn
theorem mkChs_mono (k0 : Nat) (x : Nat → Ch) {k n : Nat} (h : k ≤ n) : mkChs k0 x k ≤ mkChs k0 x n := by
  induction n with
  | zero => have : k = 0 := by omega
            subst this; exact Nat.le_refl _
  | succ m ih => rcases Nat.lt_or_ge m k with h1 | h1
                 · have : k = m + 1 := by omega
                   subst this; exact Nat.le_refl _
                 · exact Nat.le_trans (ih h1) (by simp only [mkChs]; omega)
theorem mkChs_pos (k0 : Nat) (x : Nat → Ch) (k : Nat) (h : 1 ≤ k0) : 1 ≤ mkChs k0 x k := Nat.le_trans h (mkChs_mono k0 x (Nat.zero_le k))
theorem ChgsRest.below {w w' : World} {g hi k n : Nat} {x : Nat → Ch} {r : Nat → Nat} (h : ChgsRest w g hi k n x r) (hb : Below w.heap.size w w') : ChgsRest w' g hi k n x r :=
  ⟨h.room.below hb h.room.lt, h.r0, h.mono, h.rn, Nat.le_trans h.hi hb.size, fun i h1 h2 => by
    obtain ⟨ah, ch, c, s⟩ := h.at_ i h1 h2
    exact ⟨ah, ch, (hb.cell (p := ⟨g, i * 9 + 8, none⟩) h.room.lt).trans c, s.fr (Fr.of_below (lo := 0) (hi := 0) hb) (Nat.le_trans (Nat.le_trans (r_mono h.mono (by omega) (Nat.le_refl _)) h.rn) h.hi) (Or.inr (Nat.zero_le _))⟩⟩
theorem ChgsRest.set {w : World} {g hi k n o : Nat} {x : Nat → Ch} {r : Nat → Nat} (h : ChgsRest w g hi k n x r) (v : Value) (ho : o < k * 9 + 8) : ChgsRest (w.setCell ⟨g, o, none⟩ v) g hi k n x r :=
  ⟨h.room.setCell _ _, h.r0, h.mono, h.rn, by rw [World.size_setCell]; exact h.hi, fun i h1 h2 => by
    obtain ⟨ah, ch, c, s⟩ := h.at_ i h1 h2
    have hg : g < r i := Nat.lt_of_lt_of_le h.r0 (r_mono h.mono (Nat.zero_le _) (by omega))
    exact ⟨ah, ch, (World.cell?_setCell_other _ _ _ _ (fun e => by injection e with e1 e2; omega)).trans c, s.fr ((Fr.refl g (g + 1) w).setCell (p := ⟨g, o, none⟩) (Nat.le_refl _) (Nat.lt_succ_self _) v) (Nat.le_trans (Nat.le_trans (r_mono h.mono (by omega) (Nat.le_refl _)) h.rn) h.hi) (Or.inr (by omega))⟩⟩
theorem ChgsRest.next {w w' : World} {g hi k n : Nat} {x : Nat → Ch} {r : Nat → Nat} (h : ChgsRest w g hi k n x r) (hk : k < n) (hb : Fr (r k) (r (k + 1)) w w') : ChgsRest w' g hi (k + 1) n x r := by
  have hg : g < r k := Nat.lt_of_lt_of_le h.r0 (r_mono h.mono (Nat.zero_le _) (by omega))
  exact ⟨h.room.fr hb (Or.inl hg), h.r0, h.mono, h.rn, Nat.le_trans h.hi hb.size, fun i h1 h2 => by
    obtain ⟨ah, ch, c, s⟩ := h.at_ i (by omega) h2
    exact ⟨ah, ch, (hb.cell (p := ⟨g, i * 9 + 8, none⟩) h.room.lt (Or.inl hg)).trans c, s.fr hb (Nat.le_trans (Nat.le_trans (r_mono h.mono (by omega) (Nat.le_refl _)) h.rn) h.hi) (Or.inr (r_mono h.mono h1 (by omega)))⟩⟩
set_option maxRecDepth 100000 in
set_option maxHeartbeats 1000000 in
theorem markChs_any (n : Nat) (x : Nat → Ch) (g hi cap k0 : Nat) (r : Nat → Nat) (w : World) (hl : (n : Int) ≤ 1048576) (hk1 : 1 ≤ (k0 : Int)) (hk2 : (mkChs k0 x n : Int) ≤ 1073741824) (hc : ChgsRest w g hi 0 n x r) :
    Calls Try.prog 27 #[.slice (some ⟨g, 0, none⟩) n cap, .int .i64 k0] w fun e w' => e = .returned (.int .i64 (mkChs k0 x n)) ∧ Fr g hi w w' := by
  go_enter Try.func27, Try.ntmps27
  go_wp2
  go_loopw [1, 5] (fun t i wr => ∃ k : Nat, k ≤ n ∧ i = .int .i64 k ∧ t = .int .i64 (mkChs k0 x k) ∧ Fr g hi w wr ∧ ChgsRest wr g hi k n x r) (fun _ i _ => n - (intOf i).toNat)
  case atStart => exact ⟨0, Nat.zero_le _, rfl, rfl, Fr.refl _ _ _, hc⟩
  case round =>
    obtain ⟨k, hk, rfl, rfl, hfr, ho⟩ := hrel
    clear hc
    by_cases hkn : k < n
    · have hmo := mkChs_mono k0 x (k := k + 1) (n := n) (by omega)
      have hm1 := mkChs_pos k0 x k (by omega)
      have hms : mkChs k0 x (k + 1) = mkChs k0 x k + 8 + (x k).ob.hn := rfl
      have hm : mkChs k0 x k + 8 + (x k).ob.hn ≤ 1073741824 := by omega
      have HM : Hid (mkChs k0 x (k + 1) = mkChs k0 x k + 8 + (x k).ob.hn) := hms
      clear hmo hms
      generalize mkChs k0 x k = m at *
      have hrk := r_mono ho.mono (Nat.zero_le k) (by omega)
      have hrk2 := r_mono ho.mono (show k + 1 ≤ n by omega) (Nat.le_refl n)
      have hr0 := ho.r0
      have hrn := ho.rn
      have hwh := ho.hi
      have hrkk := ho.mono k hkn
      have hghi : g < hi := by omega
      obtain ⟨_, q0⟩ := ho.room.has (k * 9) (by omega)
      obtain ⟨_, q1⟩ := ho.room.has (k * 9 + 1) (by omega)
      have qf0 := ho.room.free
      have HO0 := hid ho
      clear ho
      go_wp2_with fail
      refine (markText_ex _ _ (by omega) (by omega)).mono ?_
      rintro e w1 ⟨t1, rfl, hb1⟩
      have HO1 := hid (((HO0.out.set (o := k * 9) _ (by omega)).set (o := k * 9 + 1) _ (by omega)).below hb1)
      have HF1 := hid (((hfr.setCell (p := ⟨g, k * 9, none⟩) (Nat.le_refl g) hghi _).setCell (p := ⟨g, k * 9 + 1, none⟩) (Nat.le_refl g) hghi _).trans (Fr.of_below hb1))
      obtain ⟨_, q2⟩ := HO1.out.room.has (k * 9 + 2) (by omega)
      have qf1 := HO1.out.room.free
      clear q0 q1 qf0 HO0 hb1 hfr
      go_wp2_with fail
      refine (markText_ex _ _ (by omega) (by omega)).mono ?_
      rintro e w2 ⟨t2, rfl, hb2⟩
      have HO2 := hid ((HO1.out.set (o := k * 9 + 2) _ (by omega)).below hb2)
      have HF2 := hid ((HF1.out.setCell (p := ⟨g, k * 9 + 2, none⟩) (Nat.le_refl g) hghi _).trans (Fr.of_below hb2))
      obtain ⟨_, q3⟩ := HO2.out.room.has (k * 9 + 3) (by omega)
      obtain ⟨_, q4⟩ := HO2.out.room.has (k * 9 + 4) (by omega)
      obtain ⟨_, q5⟩ := HO2.out.room.has (k * 9 + 5) (by omega)
      have qf2 := HO2.out.room.free
      clear q2 qf1 HO1 HF1 hb2
      go_wp2_with fail
      refine (markText_ex _ _ (by omega) (by omega)).mono ?_
      rintro e w3 ⟨t3, rfl, hb3⟩
      have HO3 := hid ((((HO2.out.set (o := k * 9 + 3) _ (by omega)).set (o := k * 9 + 4) _ (by omega)).set (o := k * 9 + 5) _ (by omega)).below hb3)
      have HF3 := hid ((((HF2.out.setCell (p := ⟨g, k * 9 + 3, none⟩) (Nat.le_refl g) hghi _).setCell (p := ⟨g, k * 9 + 4, none⟩) (Nat.le_refl g) hghi _).setCell (p := ⟨g, k * 9 + 5, none⟩) (Nat.le_refl g) hghi _).trans (Fr.of_below hb3))
      obtain ⟨_, q6⟩ := HO3.out.room.has (k * 9 + 6) (by omega)
      obtain ⟨_, q7⟩ := HO3.out.room.has (k * 9 + 7) (by omega)
      obtain ⟨ah, ch, q8, hs⟩ := HO3.out.at_ k (Nat.le_refl _) hkn
      have qf3 := HO3.out.room.free
      have HS := hid hs
      have hwh3 := HO3.out.hi
      clear q3 q4 q5 qf2 HO2 HF2 hb3 hs
      go_wp2_with fail
      refine (markStrs_int (x k).ob.hn (x k).ob.hs ah ch _ _ (r k) (r (k + 1)) (by simp only [World.size_setCell]; omega) (by omega) (by omega) (by omega) ((HS.out.fr (((Fr.refl g (g + 1) w3).setCell (p := ⟨g, k * 9 + 6, none⟩) (Nat.le_refl g) (Nat.lt_succ_self g) _).setCell (p := ⟨g, k * 9 + 7, none⟩) (Nat.le_refl g) (Nat.lt_succ_self g) _) (by omega) (Or.inr (by omega))))).mono ?_
      rintro e w4 ⟨rfl, hf4⟩
      have HO4 := hid (((HO3.out.set (o := k * 9 + 6) _ (by omega)).set (o := k * 9 + 7) _ (by omega)).next hkn hf4)
      have HF4 := hid (((HF3.out.setCell (p := ⟨g, k * 9 + 6, none⟩) (Nat.le_refl g) hghi _).setCell (p := ⟨g, k * 9 + 7, none⟩) (Nat.le_refl g) hghi _).trans (hf4.wide (by omega) (by omega)))
      clear q6 q7 q8 qf3 HO3 HF3 HS hf4
      go_wp2
      go_roundw
      case rel => exact ⟨k + 1, by omega, by go_num, by rw [HM.out]; apply congrArg; omega, HF4.out, HO4.out⟩
      case measure => simp [intOf]; omega
    · have : k = n := by omega
      subst this
      clear ho
      go_wp2
      go_ret
      exact ⟨rfl, hfr⟩
structure TicsRest (w : World) (g hi n : Nat) : Prop where
  room : Room w g (n * 5)
  ghi : g < hi
theorem TicsRest.below {w w' : World} {g hi n : Nat} (h : TicsRest w g hi n) (hb : Below w.heap.size w w') : TicsRest w' g hi n := ⟨h.room.below hb h.room.lt, h.ghi⟩
theorem TicsRest.set {w : World} {g hi n : Nat} (h : TicsRest w g hi n) (o : Nat) (v : Value) : TicsRest (w.setCell ⟨g, o, none⟩ v) g hi n := ⟨h.room.setCell _ _, h.ghi⟩
set_option maxHeartbeats 1000000 in
theorem markTis_any (n g hi cap k0 : Nat) (w : World) (hk1 : 1 ≤ (k0 : Int)) (hk2 : (k0 + 5 * n : Int) ≤ 1073741824) (hc : TicsRest w g hi n) :
    Calls Try.prog 28 #[.slice (some ⟨g, 0, none⟩) n cap, .int .i64 k0] w fun e w' => e = .returned (.int .i64 (k0 + 5 * n : Nat)) ∧ Fr g hi w w' := by
  go_enter Try.func28, Try.ntmps28
  go_wp2
  go_loopw [1, 5] (fun t i wr => ∃ k : Nat, k ≤ n ∧ i = .int .i64 k ∧ t = .int .i64 (k0 + 5 * k : Nat) ∧ Fr g hi w wr ∧ TicsRest wr g hi n) (fun _ i _ => n - (intOf i).toNat)
  case atStart => exact ⟨0, Nat.zero_le _, rfl, rfl, Fr.refl _ _ _, hc⟩
  case round =>
    obtain ⟨k, hk, rfl, rfl, hfr, ho⟩ := hrel
    clear hc
    by_cases hkn : k < n
    · have hghi := ho.ghi
      obtain ⟨m, hm⟩ : ∃ m, m = k0 + 5 * k := ⟨_, rfl⟩
      have hm1 : 1 ≤ m := by omega
      have hm2 : m + 5 ≤ 1073741824 := by omega
      rw [← hm]
      have HM := hid hm
      clear hm
      go_wp2_with fail
      refine (markText_ex _ _ (by omega) (by omega)).mono ?_
      rintro e w1 ⟨t1, rfl, hb1⟩
      have HO1 := hid (ho.below hb1)
      have HF1 := hid (hfr.trans (Fr.of_below hb1))
      obtain ⟨_, q0⟩ := HO1.out.room.has (k * 5) (by omega)
      obtain ⟨_, q1⟩ := HO1.out.room.has (k * 5 + 1) (by omega)
      have qf1 := HO1.out.room.free
      clear ho hb1
      go_wp2_with fail
      refine (markText_ex _ _ (by omega) (by omega)).mono ?_
      rintro e w2 ⟨t2, rfl, hb2⟩
      have HO2 := hid (((HO1.out.set (k * 5) _).set (k * 5 + 1) _).below hb2)
      have HF2 := hid (((HF1.out.setCell (p := ⟨g, k * 5, none⟩) (Nat.le_refl g) hghi _).setCell (p := ⟨g, k * 5 + 1, none⟩) (Nat.le_refl g) hghi _).trans (Fr.of_below hb2))
      obtain ⟨_, q2⟩ := HO2.out.room.has (k * 5 + 2) (by omega)
      obtain ⟨_, q3⟩ := HO2.out.room.has (k * 5 + 3) (by omega)
      obtain ⟨_, q4⟩ := HO2.out.room.has (k * 5 + 4) (by omega)
      have qf2 := HO2.out.room.free
      clear q0 q1 qf1 HO1 HF1 hb2
      go_wp2
      go_roundw
      case rel => exact ⟨k + 1, by omega, by go_num, by have := HM.out; apply congrArg; omega, ((HF2.out.setCell (p := ⟨g, k * 5 + 2, none⟩) (Nat.le_refl g) hghi _).setCell (p := ⟨g, k * 5 + 3, none⟩) (Nat.le_refl g) hghi _).setCell (p := ⟨g, k * 5 + 4, none⟩) (Nat.le_refl g) hghi _, ((HO2.out.set (k * 5 + 2) _).set (k * 5 + 3) _).set (k * 5 + 4) _⟩
      case measure => simp [intOf]; omega
    · have : k = n := by omega
      subst this
      clear ho
      go_wp2
      go_ret
      exact ⟨rfl, hfr⟩
end Go.Proofs.Ytmlphclhapkfcaa
