import Derived.Test.YtmlphclhapkfcaaI
namespace Go.Proofs.Ytmlphclhapkfcaa
open Go.RowKit
/-- what is left to be marked of the objects of block g, from k on -/
structure ObjsRest (w : World) (g hi k n : Nat) (x : Nat → Ob) (r : Nat → Nat) : Prop where
  room : Room w g (n * 7)
  r0 : g < r 0
  mono : ∀ i, i < n → r i ≤ r (i + 1)
  rn : r n ≤ hi
  hi : hi ≤ w.heap.size
  at_ : ∀ i, k ≤ i → i < n → ∃ ah ch, w.cell? ⟨g, i * 7 + 6, none⟩ = some (.slice ah (x i).hn ch) ∧ StrsOwn w (r i) (r (i + 1)) ah (x i).hn (x i).hs
theorem ObjsOwnAt.rest {w : World} {g hi n : Nat} {x : Nat → Ob} {r : Nat → Nat} (h : ObjsOwnAt w g hi n n x r) : ObjsRest w g hi 0 n x r :=
  ⟨h.room, h.r0, h.mono, h.rn, h.hi, fun i _ hi' => by obtain ⟨ah, ch, c, s⟩ := h.at_ i hi'; exact ⟨ah, ch, c.c6, s⟩⟩
theorem Room.setCell {w : World} {g m : Nat} (h : Room w g m) (a : Addr) (v : Value) : Room (w.setCell a v) g m :=
  ⟨fun j hj => by obtain ⟨u, hu⟩ := h.has j hj; exact cell?_setCell_some hu, fun j => by rw [World.frozen?_setCell]; exact h.free j, by rw [World.size_setCell]; exact h.lt⟩
theorem Room.fr {w w' : World} {g m lo hi : Nat} (h : Room w g m) (hb : Fr lo hi w w') (ho : g < lo ∨ hi ≤ g) : Room w' g m :=
  ⟨fun j hj => by obtain ⟨u, hu⟩ := h.has j hj; exact ⟨u, (hb.cell (p := ⟨g, j, none⟩) h.lt ho).trans hu⟩, fun j => (hb.frozen (p := ⟨g, j, none⟩) h.lt ho).trans (h.free j), Nat.lt_of_lt_of_le h.lt hb.size⟩
def mkObs (k0 : Nat) (x : Nat → Ob) : Nat → Nat | 0 => k0 | n + 1 => mkObs k0 x n + 6 + (x n).hn
theorem mkObs_mono (k0 : Nat) (x : Nat → Ob) {k n : Nat} (h : k ≤ n) : mkObs k0 x k ≤ mkObs k0 x n := by
  induction n with
  | zero => have : k = 0 := by omega
            subst this; exact Nat.le_refl _
  | succ m ih => rcases Nat.lt_or_ge m k with h1 | h1
                 · have : k = m + 1 := by omega
                   subst this; exact Nat.le_refl _
                 · exact Nat.le_trans (ih h1) (by simp only [mkObs]; omega)
theorem mkObs_pos (k0 : Nat) (x : Nat → Ob) (k : Nat) (h : 1 ≤ k0) : 1 ≤ mkObs k0 x k := Nat.le_trans h (mkObs_mono k0 x (Nat.zero_le k))
theorem markText_ex (k : Int) (w : World) (h1 : 1 ≤ k) (h2 : k ≤ 1099511627776) :
    Calls Try.prog 41 #[.int .i64 k] w fun e w' => ∃ t, e = .returned (.string t) ∧ Below w.heap.size w w' := by
  obtain ⟨n, rfl⟩ := Int.eq_ofNat_of_zero_le (show 0 ≤ k by omega)
  exact (markText_any n w h1 h2).mono fun e w' ⟨h1, h2⟩ => ⟨_, h1, h2⟩
theorem Fr.wide {lo hi lo2 hi2 : Nat} {w w' : World} (h : Fr lo hi w w') (h1 : lo2 ≤ lo) (h2 : hi ≤ hi2) : Fr lo2 hi2 w w' := ⟨h.os, h.tape, h.output, h.size, fun k hk ho => h.block k hk (by omega)⟩
theorem ObjsRest.below {w w' : World} {g hi k n : Nat} {x : Nat → Ob} {r : Nat → Nat} (h : ObjsRest w g hi k n x r) (hb : Below w.heap.size w w') : ObjsRest w' g hi k n x r :=
  ⟨h.room.below hb h.room.lt, h.r0, h.mono, h.rn, Nat.le_trans h.hi hb.size, fun i h1 h2 => by
    obtain ⟨ah, ch, c, s⟩ := h.at_ i h1 h2
    exact ⟨ah, ch, (hb.cell (p := ⟨g, i * 7 + 6, none⟩) h.room.lt).trans c, s.fr (Fr.of_below (lo := 0) (hi := 0) hb) (Nat.le_trans (Nat.le_trans (r_mono h.mono (by omega) (Nat.le_refl _)) h.rn) h.hi) (Or.inr (Nat.zero_le _))⟩⟩
theorem ObjsRest.set {w : World} {g hi k n o : Nat} {x : Nat → Ob} {r : Nat → Nat} (h : ObjsRest w g hi k n x r) (v : Value) (ho : o < k * 7 + 6) : ObjsRest (w.setCell ⟨g, o, none⟩ v) g hi k n x r :=
  ⟨h.room.setCell _ _, h.r0, h.mono, h.rn, by rw [World.size_setCell]; exact h.hi, fun i h1 h2 => by
    obtain ⟨ah, ch, c, s⟩ := h.at_ i h1 h2
    have hg : g < r i := Nat.lt_of_lt_of_le h.r0 (r_mono h.mono (Nat.zero_le _) (by omega))
    exact ⟨ah, ch, (World.cell?_setCell_other _ _ _ _ (fun e => by injection e with e1 e2; omega)).trans c, s.fr ((Fr.refl g (g + 1) w).setCell (p := ⟨g, o, none⟩) (Nat.le_refl _) (Nat.lt_succ_self _) v) (Nat.le_trans (Nat.le_trans (r_mono h.mono (by omega) (Nat.le_refl _)) h.rn) h.hi) (Or.inr (by omega))⟩⟩
theorem ObjsRest.next {w w' : World} {g hi k n : Nat} {x : Nat → Ob} {r : Nat → Nat} (h : ObjsRest w g hi k n x r) (hk : k < n) (hb : Fr (r k) (r (k + 1)) w w') : ObjsRest w' g hi (k + 1) n x r := by
  have hg : g < r k := Nat.lt_of_lt_of_le h.r0 (r_mono h.mono (Nat.zero_le _) (by omega))
  exact ⟨h.room.fr hb (Or.inl hg), h.r0, h.mono, h.rn, Nat.le_trans h.hi hb.size, fun i h1 h2 => by
    obtain ⟨ah, ch, c, s⟩ := h.at_ i (by omega) h2
    exact ⟨ah, ch, (hb.cell (p := ⟨g, i * 7 + 6, none⟩) h.room.lt (Or.inl hg)).trans c, s.fr hb (Nat.le_trans (Nat.le_trans (r_mono h.mono (by omega) (Nat.le_refl _)) h.rn) h.hi) (Or.inr (r_mono h.mono h1 (by omega)))⟩⟩
theorem markStrs_int (n : Nat) (s : Nat → ByteArray) (ad : Option Addr) (cap : Nat) (k0 : Int) (w : World) (lo hi : Nat) (hhi : hi ≤ w.heap.size) (hl : (n : Int) ≤ 1073741824) (hk1 : 1 ≤ k0) (hk2 : k0 ≤ 1073741824)
    (hc : StrsOwn w lo hi ad n s) :
    Calls Try.prog 29 #[.slice ad n cap, .int .i64 k0] w fun e w' => e = .returned (.int .i64 (k0 + n)) ∧ Fr lo hi w w' := by
  obtain ⟨m, rfl⟩ := Int.eq_ofNat_of_zero_le (show 0 ≤ k0 by omega)
  exact (markStrs_any n s ad cap m w lo hi hhi hl hk1 hk2 hc).mono fun e w' ⟨h1, h2, h3⟩ => ⟨h1, h3⟩
set_option maxHeartbeats 1000000 in
theorem markObs_any (n : Nat) (x : Nat → Ob) (g hi cap k0 : Nat) (r : Nat → Nat) (w : World) (hl : (n : Int) ≤ 1048576) (hk1 : 1 ≤ (k0 : Int)) (hk2 : (mkObs k0 x n : Int) ≤ 1073741824) (hc : ObjsRest w g hi 0 n x r) :
    Calls Try.prog 26 #[.slice (some ⟨g, 0, none⟩) n cap, .int .i64 k0] w fun e w' => e = .returned (.int .i64 (mkObs k0 x n)) ∧ Fr g hi w w' := by
  go_enter Try.func26, Try.ntmps26
  go_wp2
  go_loopw [1, 5] (fun t i wr => ∃ k : Nat, k ≤ n ∧ i = .int .i64 k ∧ t = .int .i64 (mkObs k0 x k) ∧ Fr g hi w wr ∧ ObjsRest wr g hi k n x r) (fun _ i _ => n - (intOf i).toNat)
  case atStart => exact ⟨0, Nat.zero_le _, rfl, rfl, Fr.refl _ _ _, hc⟩
  case round =>
    obtain ⟨k, hk, rfl, rfl, hfr, ho⟩ := hrel
    clear hc
    by_cases hkn : k < n
    · have hmo := mkObs_mono k0 x (k := k + 1) (n := n) (by omega)
      have hm1 := mkObs_pos k0 x k (by omega)
      have hms : mkObs k0 x (k + 1) = mkObs k0 x k + 6 + (x k).hn := rfl
      have hm : mkObs k0 x k + 6 + (x k).hn ≤ 1073741824 := by omega
      have HM : Hid (mkObs k0 x (k + 1) = mkObs k0 x k + 6 + (x k).hn) := hms
      clear hmo hms
      generalize mkObs k0 x k = m at *
      have hrk := r_mono ho.mono (Nat.zero_le k) (by omega)
      have hrk2 := r_mono ho.mono (show k + 1 ≤ n by omega) (Nat.le_refl n)
      have hr0 := ho.r0
      have hrn := ho.rn
      have hwh := ho.hi
      have hrkk := ho.mono k hkn
      have hghi : g < hi := by omega
      go_wp2_with fail
      refine (markText_ex m _ (by omega) (by omega)).mono ?_
      rintro e w1 ⟨t1, rfl, hb1⟩
      have HO1 := hid (ho.below hb1)
      have HF1 := hid (hfr.trans (Fr.of_below hb1))
      obtain ⟨_, q0⟩ := HO1.out.room.has (k * 7) (by omega)
      have qf := HO1.out.room.free
      clear ho
      go_wp2_with fail
      refine (markText_ex _ _ (by omega) (by omega)).mono ?_
      rintro e w2 ⟨t2, rfl, hb2⟩
      have HO2 := hid ((HO1.out.set (o := k * 7) (.string t1) (by omega)).below hb2)
      have HF2 := hid ((HF1.out.setCell (p := ⟨g, k * 7, none⟩) (Nat.le_refl g) (by show g < hi; omega) (.string t1)).trans (Fr.of_below hb2))
      obtain ⟨_, q1⟩ := HO2.out.room.has (k * 7 + 1) (by omega)
      obtain ⟨_, q2⟩ := HO2.out.room.has (k * 7 + 2) (by omega)
      obtain ⟨_, q3⟩ := HO2.out.room.has (k * 7 + 3) (by omega)
      have qf2 := HO2.out.room.free
      clear q0 qf HO1 HF1 hb1 hb2
      go_wp2_with fail
      refine (markText_ex _ _ (by omega) (by omega)).mono ?_
      rintro e w3 ⟨t3, rfl, hb3⟩
      have HO3 := hid ((((HO2.out.set (o := k * 7 + 1) _ (by omega)).set (o := k * 7 + 2) _ (by omega)).set (o := k * 7 + 3) _ (by omega)).below hb3)
      have HF3 := hid ((((HF2.out.setCell (p := ⟨g, k * 7 + 1, none⟩) (Nat.le_refl g) hghi _).setCell (p := ⟨g, k * 7 + 2, none⟩) (Nat.le_refl g) hghi _).setCell (p := ⟨g, k * 7 + 3, none⟩) (Nat.le_refl g) hghi _).trans (Fr.of_below hb3))
      obtain ⟨_, q4⟩ := HO3.out.room.has (k * 7 + 4) (by omega)
      obtain ⟨_, q5⟩ := HO3.out.room.has (k * 7 + 5) (by omega)
      obtain ⟨ah, ch, q6, hs⟩ := HO3.out.at_ k (Nat.le_refl _) hkn
      have qf3 := HO3.out.room.free
      have HS := hid hs
      have hwh3 := HO3.out.hi
      clear q1 q2 q3 qf2 HO2 HF2 hb3 hs
      go_wp2_with fail
      refine (markStrs_int (x k).hn (x k).hs ah ch _ _ (r k) (r (k + 1)) (by simp only [World.size_setCell]; omega) (by omega) (by omega) (by omega) ((HS.out.fr (((Fr.refl g (g + 1) w3).setCell (p := ⟨g, k * 7 + 4, none⟩) (Nat.le_refl g) (Nat.lt_succ_self g) _).setCell (p := ⟨g, k * 7 + 5, none⟩) (Nat.le_refl g) (Nat.lt_succ_self g) _) (by omega) (Or.inr (by omega))))).mono ?_
      rintro e w4 ⟨rfl, hf4⟩
      have HO4 := hid (((HO3.out.set (o := k * 7 + 4) _ (by omega)).set (o := k * 7 + 5) _ (by omega)).next hkn hf4)
      have HF4 := hid (((HF3.out.setCell (p := ⟨g, k * 7 + 4, none⟩) (Nat.le_refl g) hghi _).setCell (p := ⟨g, k * 7 + 5, none⟩) (Nat.le_refl g) hghi _).trans (hf4.wide (by omega) (by omega)))
      clear q4 q5 q6 qf3 HO3 HF3 HS hf4
      go_wp2
      go_roundw
      case rel => exact ⟨k + 1, by omega, by go_num, by rw [HM.out]; apply congrArg; omega, HF4.out, HO4.out⟩
      case measure => simp [intOf]; omega
    · have : k = n := by omega
      subst this
      clear ho
      go_wp2
      go_ret
      exact ⟨rfl, hfr⟩
end Go.Proofs.Ytmlphclhapkfcaa
