import Derived.Test.YtkecnaaacbckoaaGreatKl
import Derived.Test.YtkecnaaacbckoaaGreatZj
import Derived.Test.YtkecnaaacbckoaaGreatW
namespace Go.Proofs.YtkecnaaacbckoaaGreat
open Go.RowKit
/-- what a valid book's history is -/
theorem valid_hist {B : Bk} (hv : allTo (chk B) 7 = true) : 0 ≤ B.floor ∧ B.floor ≤ B.now ∧ B.now ≤ 1000000 ∧ B.hn ≤ 200 ∧ (B.hn : Int) = B.now - B.floor ∧ ∀ i, i < B.hn → (B.hs i).ver = B.floor + 1 + i := by
  have h0 := numB_yes (allTo_iff.1 hv 0 (by omega))
  have h3 : histB B.now B.floor B.hn B.hs = true := allTo_iff.1 hv 3 (by omega)
  unfold histB at h3
  simp only [Bool.and_eq_true, decide_eq_true_eq] at h3
  refine ⟨h0.1, h0.2.1, h0.2.2, h3.1, h3.2.1, fun i hi => ?_⟩
  have := allTo_iff.1 h3.2.2 i hi
  simp only [Bool.and_eq_true, decide_eq_true_eq] at this
  exact this.1
/-- a book whose first j changes are forgotten -/
def cutB (x : Bk) (j : Nat) : Bk := { x with floor := x.floor + j, hn := x.hn - j, hs := fun i => x.hs (i + j) }
def cutN (x : Bk) (fl : Int) : Nat := (min fl x.now - x.floor).toNat
def bk0 : Bk := ⟨0, 0, 0, fun _ => ⟨ByteArray.empty, ByteArray.empty, 0, 0, ByteArray.empty, false, 0, fun _ => ByteArray.empty⟩, 0, fun _ => ⟨0, false, ⟨ByteArray.empty, ByteArray.empty, 0, 0, ByteArray.empty, false, 0, fun _ => ByteArray.empty⟩⟩, 0, fun _ => ⟨ByteArray.empty, 0, ByteArray.empty, 0, 0⟩⟩
def resC (x : Bk) (fl : Int) : Bk := if allTo (chk x) 7 then cutB x (cutN x fl) else bk0
theorem StrsIn.to {w w' : World} {lo hi : Nat} {ad : Option Addr} {n : Nat} {s : Nat → ByteArray} (h : StrsIn w lo hi ad n s) (e : ∀ q j, lo ≤ q → q < hi → w'.cell? ⟨q, j, none⟩ = w.cell? ⟨q, j, none⟩) : StrsIn w' lo hi ad n s := fun i hi' => by
  obtain ⟨b, off, e1, e2, e3, e4⟩ := h i hi'
  exact ⟨b, off, e1, e2, e3, (e _ _ e2 e3).trans e4⟩
theorem ObjsIn.to {w w' : World} {lo hi lo2 hi2 : Nat} {ad : Option Addr} {n : Nat} {x : Nat → Ob} (h : ObjsIn w lo hi ad n x) (e : ∀ q j, lo ≤ q → q < hi → w'.cell? ⟨q, j, none⟩ = w.cell? ⟨q, j, none⟩) (h1 : lo2 ≤ lo) (h2 : hi ≤ hi2) : ObjsIn w' lo2 hi2 ad n x := fun i hi' => by
  obtain ⟨b, off, ah, ch, e1, e2, e3, e4, e5⟩ := h i hi'
  exact ⟨b, off, ah, ch, e1, by omega, by omega, ⟨(e _ _ e2 e3).trans e4.c0, (e _ _ e2 e3).trans e4.c1, (e _ _ e2 e3).trans e4.c2, (e _ _ e2 e3).trans e4.c3, (e _ _ e2 e3).trans e4.c4, (e _ _ e2 e3).trans e4.c5, (e _ _ e2 e3).trans e4.c6⟩, fun j hj => by
    obtain ⟨b', o', f1, f2, f3, f4⟩ := e5 j hj
    exact ⟨b', o', f1, by omega, by omega, (e _ _ f2 f3).trans f4⟩⟩
theorem ChgsIn.to {w w' : World} {lo hi lo2 hi2 : Nat} {ad : Option Addr} {n : Nat} {x : Nat → Ch} (h : ChgsIn w lo hi ad n x) (e : ∀ q j, lo ≤ q → q < hi → w'.cell? ⟨q, j, none⟩ = w.cell? ⟨q, j, none⟩) (h1 : lo2 ≤ lo) (h2 : hi ≤ hi2) : ChgsIn w' lo2 hi2 ad n x := fun i hi' => by
  obtain ⟨b, off, ah, ch, e1, e2, e3, e4, e5⟩ := h i hi'
  exact ⟨b, off, ah, ch, e1, by omega, by omega, ⟨(e _ _ e2 e3).trans e4.c0, (e _ _ e2 e3).trans e4.c1, (e _ _ e2 e3).trans e4.c2, (e _ _ e2 e3).trans e4.c3, (e _ _ e2 e3).trans e4.c4, (e _ _ e2 e3).trans e4.c5, (e _ _ e2 e3).trans e4.c6, (e _ _ e2 e3).trans e4.c7, (e _ _ e2 e3).trans e4.c8⟩, fun j hj => by
    obtain ⟨b', o', f1, f2, f3, f4⟩ := e5 j hj
    exact ⟨b', o', f1, by omega, by omega, (e _ _ f2 f3).trans f4⟩⟩
theorem TicsIn.to {w w' : World} {lo hi lo2 hi2 : Nat} {ad : Option Addr} {n : Nat} {x : Nat → Ti} (h : TicsIn w lo hi ad n x) (e : ∀ q j, lo ≤ q → q < hi → w'.cell? ⟨q, j, none⟩ = w.cell? ⟨q, j, none⟩) (h1 : lo2 ≤ lo) (h2 : hi ≤ hi2) : TicsIn w' lo2 hi2 ad n x := fun i hi' => by
  obtain ⟨b, off, e1, e2, e3, e4⟩ := h i hi'
  exact ⟨b, off, e1, by omega, by omega, ⟨(e _ _ e2 e3).trans e4.c0, (e _ _ e2 e3).trans e4.c1, (e _ _ e2 e3).trans e4.c2, (e _ _ e2 e3).trans e4.c3, (e _ _ e2 e3).trans e4.c4⟩⟩
/-- the cells of a history of which j changes are forgotten, apart from block X -/
def HisAt (w : World) (lo X n j : Nat) (ad : Option Addr) (c : Nat → Value) : Prop := ∀ t, t < (n - j) * 9 → ∃ b off, ad = some ⟨b, off, none⟩ ∧ lo ≤ b ∧ b < w.heap.size ∧ b ≠ X ∧ w.cell? ⟨b, off + t, none⟩ = some (c (t + j * 9))
theorem HisAt.fr {w w' : World} {lo X n j : Nat} {ad : Option Addr} {c : Nat → Value} {P : Nat → Prop} (h : HisAt w lo X n j ad c) (hf : FrP P w w') (hp : ∀ q, lo ≤ q → q < w.heap.size → q ≠ X → ¬ P q) : HisAt w' lo X n j ad c := fun t ht => by
  obtain ⟨b, off, e1, e2, e3, e4, e5⟩ := h t ht
  exact ⟨b, off, e1, e2, Nat.lt_of_lt_of_le e3 hf.size, e4, (hf.cell (p := ⟨b, off + t, none⟩) e3 (hp b e2 e3 e4)).trans e5⟩
theorem HisAt.chgs {w : World} {lo hi X n j : Nat} {ad : Option Addr} {c : Nat → Value} {x : Nat → Ch} {A : Nat → Option Addr} {C : Nat → Nat} (h : HisAt w lo X n j ad c) (hj : j ≤ n) (hat : ∀ i, i < n → atCh c i (x i) (A i) (C i)) (hst : ∀ i, i < n → StrsIn w lo hi (A i) (x i).ob.hn (x i).ob.hs) (hhi : hi ≤ w.heap.size) : ChgsIn w lo w.heap.size ad (n - j) (fun i => x (i + j)) := fun i hi' => by
  obtain ⟨b, off, e1, e2, e3, e4, _⟩ := h (i * 9) (by omega)
  obtain ⟨a0, a1, a2, a3, a4, a5, a6, a7, a8⟩ := hat (i + j) (by omega)
  have f : ∀ t v, t < 9 → c ((i + j) * 9 + t) = v → w.cell? ⟨b, off + i * 9 + t, none⟩ = some v := fun t v ht hv => by
    obtain ⟨b', off', g1, _, _, _, g5⟩ := h (i * 9 + t) (by omega)
    rw [e1] at g1
    cases g1
    rw [Nat.add_assoc, g5, show i * 9 + t + j * 9 = (i + j) * 9 + t by omega, hv]
  refine ⟨b, off, A (i + j), C (i + j), e1, e2, e3, ⟨f 0 _ (by omega) a0, f 1 _ (by omega) a1, f 2 _ (by omega) a2, f 3 _ (by omega) a3, f 4 _ (by omega) a4, f 5 _ (by omega) a5, f 6 _ (by omega) a6, f 7 _ (by omega) a7, f 8 _ (by omega) a8⟩, fun q hq => ?_⟩
  obtain ⟨b', o', g1, g2, g3, g4⟩ := hst (i + j) (by omega) q hq
  exact ⟨b', o', g1, g2, by omega, g4⟩
/-- how much of a history is left to forget, as the box tells -/
def leftC (Bx : Nat) (now : Int) (w : World) : Nat := match w.cell? ⟨Bx, 1, none⟩ with
  | some (.int .i64 v) => (now - v).toNat
  | _ => 0
theorem own_cap {w : World} {base e z n g l cap : Nat} {xs : List Value} (h : w.ownsRow base e z (.slice (some ⟨g, 0, none⟩) l cap) n xs) (_hn : 0 < n) : n ≤ cap := by
  rcases h.2 with ⟨h1, _⟩ | ⟨g', cap', cur, h1, _, _, h4, _⟩
  · cases h1
  · cases h1; exact h4
def CutInv (x : Bk) (fl : Int) (b1 b3 : Option Addr) (d1 d3 : Nat) (c : Nat → Value) (w1 w2 wr : World) : Prop :=
  ∃ (j : Nat) (b2' : Option Addr) (d2' : Nat), j ≤ x.hn ∧ j ≤ cutN x fl ∧ x.hn - j ≤ d2' ∧ Below w2.heap.size w2 wr ∧ RowF wr w2.heap.size 5 (vec [.int .i64 x.now, .int .i64 (x.floor + (j : Nat)), .slice b1 x.on d1, .slice b2' (x.hn - j : Nat) d2', .slice b3 x.tn d3]) ∧ HisAt wr w1.heap.size w2.heap.size x.hn j b2' c
set_option maxRecDepth 100000 in
set_option maxHeartbeats 4000000 in
theorem specCutYes_any (x : Bk) (a1 a2 a3 : Option Addr) (c1 c2 c3 : Nat) (fl : Int) (w : World) (lo hi : Nat) (hhi : hi ≤ w.heap.size) (l1 : (x.on : Int) ≤ 1048576) (l2 : (x.hn : Int) ≤ 1048576) (l3 : (x.tn : Int) ≤ 1048576) (hf : BkFit x) (hc : BkIn w lo hi x a1 a2 a3) (hv : allTo (chk x) 7 = true) :
    Calls Tryz.prog 9 #[.agg #[.int .i64 x.now, .int .i64 x.floor, .slice a1 x.on c1, .slice a2 x.hn c2, .slice a3 x.tn c3], .int .i64 fl] w fun e w' => ∃ (b1 b2 b3 : Option Addr) (d1 d2 d3 : Nat), e = .returned (.agg #[.int .i64 x.now, .int .i64 (x.floor + cutN x fl), .slice b1 x.on d1, .slice b2 (x.hn - cutN x fl) d2, .slice b3 x.tn d3]) ∧ BkIn w' w.heap.size w'.heap.size (cutB x (cutN x fl)) b1 b2 b3 ∧ Below w.heap.size w w' := by
  obtain ⟨i0, hi0, hz0, hz1, hz2⟩ := info_parts Tryz.info75
  obtain ⟨v0, v1, v2, v3, v4, v5⟩ := valid_hist hv
  go_enter Tryz.func9, Tryz.ntmps9
  go_wp2_with (first
    | (go_at_call 39; go_must (refine (specValid_any x a1 a2 a3 c1 c2 c3 _ lo hi (by simp; omega) hf (hc.below ((below_alloc _ _).alloc (by simp) _) hhi)).mono ?_; rw [hv]; rintro e w1 ⟨rfl, hb1⟩; have hB1 : Below w.heap.size w w1 := ((below_alloc _ _).alloc (by simp) _).trans (hb1.mono (by simp; omega)); have H1 : Holds w1 w.heap.size (bkCells x a1 a2 a3 c1 c2 c3) := ((holds_new w _ 32).below (below_alloc _ _) (by simp)).below hb1 (by simp; omega); obtain ⟨p0, p1, p2, p3, p4⟩ := holds_bk H1))
    | (go_at_call 40; go_must (refine (l1Copy_any x a1 a2 a3 c1 c2 c3 _ lo hi (by have := hB1.size; omega) l1 l2 l3 hf (hc.below hB1 hhi)).mono ?_; rintro e w2 ⟨b1, b2, b3, d1, d2, d3, rfl, hx2, hcp2, hb2⟩)))
  have hB2 : Below w.heap.size w w2 := hB1.trans (hb2.mono hB1.size)
  have zw1 : w.heap.size + 1 < w1.heap.size := by have := hb1.size; simp at this; omega
  have zw2 := hb2.size
  have Rr : RowF w2 (w.heap.size + 1) 5 (vec [.int .i64 0, .int .i64 0, .slice none 0 0, .slice none 0 0, .slice none 0 0]) := by
    have h := RowF.new (w := w.alloc (.cells #[.int .i64 x.now, .int .i64 x.floor, .slice a1 x.on c1, .slice a2 x.hn c2, .slice a3 x.tn c3] 32)) (l := [.int .i64 0, .int .i64 0, .slice none 0 0, .slice none 0 0, .slice none 0 0]) (t := 32) hb1
    rw [World.size_alloc] at h
    exact h.below hb2 (by omega)
  have R0 : RowF (w2.alloc (.cells #[.int .i64 x.now, .int .i64 x.floor, .slice b1 x.on d1, .slice b2 x.hn d2, .slice b3 x.tn d3] 32)) w2.heap.size 5 (vec [.int .i64 x.now, .int .i64 (x.floor + (0 : Nat)), .slice b1 x.on d1, .slice b2 x.hn d2, .slice b3 x.tn d3]) := by
    have h := RowF.new (w := w2) (l := [.int .i64 x.now, .int .i64 x.floor, .slice b1 x.on d1, .slice b2 x.hn d2, .slice b3 x.tn d3]) (t := 32) (Below.refl _ _)
    simpa using h
  have HX := hid hx2
  obtain ⟨c, A, C, hsr, hat, hst⟩ := hx2.h.src
  have HONE := hid hsr.one
  have HAT := hid hat
  have HST := hid hst
  have H0 : HisAt (w2.alloc (.cells #[.int .i64 x.now, .int .i64 x.floor, .slice b1 x.on d1, .slice b2 x.hn d2, .slice b3 x.tn d3] 32)) w1.heap.size w2.heap.size x.hn 0 b2 c := fun t ht => by
    obtain ⟨b, off, e1, e2, e3, e4⟩ := hsr.at_ t ht
    exact ⟨b, off, e1, e2, by simp; omega, by omega, by rw [Nat.zero_mul, Nat.add_zero]; exact ((below_alloc w2 _).cell (p := ⟨b, off + t, none⟩) e3).trans e4⟩
  clear hsr hat hst
  clear H1 p0 p1 p2 p3 p4 hb1 hb2 hx2
  go_loopw [12] (fun _ wr => CutInv x fl b1 b3 d1 d3 c w1 w2 wr) (fun _ wr => leftC w2.heap.size x.now wr)
  case atStart => exact ⟨0, b2, d2, Nat.zero_le _, Nat.zero_le _, hcp2, below_alloc _ _, R0, H0⟩
  case round =>
    obtain ⟨j, b2', d2', hj, hjc, hdc, hb, hrow, hch⟩ := hrel
    clear R0 H0
    have y0 := hrow.cell 0 (by omega)
    have y1 := hrow.cell 1 (by omega)
    have y2 := hrow.cell 2 (by omega)
    have y3 := hrow.cell 3 (by omega)
    have y4 := hrow.cell 4 (by omega)
    simp only [vec, List.getD_cons_zero, List.getD_cons_succ] at y0 y1 y2 y3 y4
    have yf := hrow.free
    have HR := hid hrow
    have HC := hid hch
    clear hrow hch
    by_cases hlt : x.floor + (j : Nat) < fl
    · by_cases h0 : j < x.hn
      · obtain ⟨m, hm⟩ : ∃ m, x.hn - j = m + 1 := ⟨x.hn - j - 1, by omega⟩
        rw [hm] at y3
        obtain ⟨b, off, rfl, hlo, hbh, hne, hc0⟩ := HC.out 0 (by omega)
        have hv0 : c (0 + j * 9) = .int .i64 (x.floor + ((j : Int) + 1)) := by
          have h1 := (HAT.out j (by omega)).1
          rw [Nat.zero_add, h1, v5 j (by omega)]
          simp
          omega
        rw [hv0, Nat.add_zero] at hc0
        clear hv0
        have zwr := hb.size
        have hbx := HR.out.lt
        obtain ⟨W1, hW1⟩ : ∃ W1, wr.setCell ⟨w2.heap.size, 1, none⟩ (.int .i64 (x.floor + ((j : Int) + 1))) = W1 := ⟨_, rfl⟩
        have R1 := HR.out.set (o := 1) (by omega) (.int .i64 (x.floor + ((j : Int) + 1)))
        rw [hW1] at R1
        have F1 : FrP (fun q => q = w2.heap.size) wr W1 := by rw [← hW1]; exact FrP.setCell (FrP.refl _ _) (p := ⟨w2.heap.size, 1, none⟩) (by rfl) _
        have R2 := R1.fr (FrP.of_below (P := fun _ => False) (below_alloc W1 (.cells #[] 75))) (fun h => h)
        have k3 : (W1.alloc (.cells #[] 75)).cell? ⟨w2.heap.size, 3, none⟩ = some (.slice (some ⟨b, off, none⟩) (m + 1 : Nat) d2') := by
          rw [R2.cell 3 (by omega)]
          show some (Value.slice (some ⟨b, off, none⟩) (x.hn - j : Nat) d2') = _
          rw [hm]
        have z1 := F1.size
        have M1 : leftC w2.heap.size x.now wr = (x.now - (x.floor + (j : Nat))).toNat := by unfold leftC; rw [y1]
        have HM1 := hid M1
        have hns : (W1.alloc (.cells #[] 75)).ownsRow wr.heap.size 75 9 (.slice (some ⟨W1.heap.size, 0, none⟩) 0 0) 0 [] := World.ownsRow_made (base := wr.heap.size) (e := 75) (size := 9) W1 #[] 0 z1 (Nat.zero_le _) rfl
        have HNW := hid (show ∀ t, t < m * 9 → (W1.alloc (.cells #[] 75)).cell? ⟨b, off + 9 + t, none⟩ = some (c (t + 9 + j * 9)) from fun t ht => by
          obtain ⟨b', off', g1, g2, g3, g4, g5⟩ := HC.out (t + 9) (by omega)
          cases g1
          rw [Nat.add_assoc, Nat.add_comm 9 t, (below_alloc W1 (.cells #[] 75)).cell (p := ⟨b, off + (t + 9), none⟩) (by show b < _; omega), F1.cell (p := ⟨b, off + (t + 9), none⟩) hbh hne, g5])
        have hWz : W1.heap.size = wr.heap.size := by rw [← hW1]; simp
        have BW := hid (hb.trans ((F1.below (B := w2.heap.size) (fun q hq e => by omega) (by omega)).trans ((below_alloc W1 (.cells #[] 75)).mono (by omega))))
        have HR2 := hid R2
        clear M1 R1 R2 F1
        subst hW1
        rw [hWz] at hns
        cases m with
        | zero =>
          have hh : x.hn - (j + 1) = 0 := by omega
          have HF := hid (show CutInv x fl b1 b3 d1 d3 c w1 w2 (((wr.setCell ⟨w2.heap.size, 1, none⟩ (.int .i64 (x.floor + ((j : Int) + 1)))).setCell ⟨w2.heap.size, 3, none⟩ (.slice (some ⟨wr.heap.size, 0, none⟩) 0 0)).alloc (.cells #[] 75)) ∧ leftC w2.heap.size x.now (((wr.setCell ⟨w2.heap.size, 1, none⟩ (.int .i64 (x.floor + ((j : Int) + 1)))).setCell ⟨w2.heap.size, 3, none⟩ (.slice (some ⟨wr.heap.size, 0, none⟩) 0 0)).alloc (.cells #[] 75)) < leftC w2.heap.size x.now wr by
            have r := ((HR.out.set (o := 1) (by omega) (.int .i64 (x.floor + ((j : Int) + 1)))).set (o := 3) (by omega) (.slice (some ⟨wr.heap.size, 0, none⟩) 0 0)).fr (FrP.of_below (P := fun _ => False) (below_alloc _ (.cells #[] 75))) (fun h => h)
            have RF : RowF (((wr.setCell ⟨w2.heap.size, 1, none⟩ (.int .i64 (x.floor + ((j : Int) + 1)))).setCell ⟨w2.heap.size, 3, none⟩ (.slice (some ⟨wr.heap.size, 0, none⟩) 0 0)).alloc (.cells #[] 75)) w2.heap.size 5 (vec [.int .i64 x.now, .int .i64 (x.floor + ((j + 1 : Nat) : Int)), .slice b1 x.on d1, .slice (some ⟨wr.heap.size, 0, none⟩) (x.hn - (j + 1) : Nat) 0, .slice b3 x.tn d3]) := by
              refine ⟨r.lt, r.free, fun q hq => (r.cell q hq).trans (congrArg some ?_)⟩
              rw [hh]
              rcases (show q = 0 ∨ q = 1 ∨ q = 2 ∨ q = 3 ∨ q = 4 by omega) with rfl | rfl | rfl | rfl | rfl <;> rfl
            refine ⟨⟨j + 1, some ⟨wr.heap.size, 0, none⟩, 0, by omega, by unfold cutN; omega, by omega, ?_, RF, fun t ht => by rw [hh] at ht; omega⟩, ?_⟩
            · exact hb.trans ((((Below.refl w2.heap.size wr).setCell (p := ⟨w2.heap.size, 1, none⟩) (Nat.le_refl _) _).setCell (p := ⟨w2.heap.size, 3, none⟩) (Nat.le_refl _) _).alloc (by simp; omega) _)
            · have e1 := RF.cell 1 (by omega)
              rw [HM1.out]
              unfold leftC
              rw [e1]
              show (x.now - (x.floor + ((j + 1 : Nat) : Int))).toNat < _
              omega)
          clear hns hh
          go_wp2_with (at_builtin; go_must (refine wpList_append_zero rfl _ _ 29 rfl 75 i0 Tryz.underlying29 hi0 _ _ 0 0 (Nat.le_refl _) rfl _ _ rfl ?_))
          exact HF.out
        | succ m =>
          have hh : x.hn - (j + 1) = m + 1 := by omega
          have HNL := hid (show ∀ t u, (rowCells ((m + 1) * 9) (fun t => c (t + 9 + j * 9)))[t]? = some u → ((wr.setCell ⟨w2.heap.size, 1, none⟩ (.int .i64 (x.floor + ((j : Int) + 1)))).alloc (.cells #[] 75)).cell? ((⟨b, off + 9, none⟩ : Addr).add t) = some u from fun t u hu => by
            obtain ⟨h1, rfl⟩ := rowCells_get hu
            have e : ((⟨b, off + 9, none⟩ : Addr).add t) = ⟨b, off + 9 + t, none⟩ := by unfold Addr.add; split <;> simp_all
            rw [e]
            exact HNW.out t h1)
          have HON := hid (show ∀ u ∈ rowCells ((m + 1) * 9) (fun t => c (t + 9 + j * 9)), u.oneCell' = true from fun u hu => by
            obtain ⟨t, ht, rfl⟩ := List.mem_map.1 hu
            have ht' : t < (m + 1) * 9 := by simpa using ht
            exact HONE.out _ (by omega))
          have hm2 : m ≤ 200 := by omega
          have hd1 : ¬ d2' = 1 := by omega
          clear HNW
          go_wp2_with (at_builtin; go_must (refine wpList_append_own_at _ rfl _ _ 29 rfl wr.heap.size 75 i0 _ 9 112 Tryz.underlying29 hi0 hz0 hz1 hz2 rfl (by decide) _ 0 [] rfl hns ⟨b, off + 9, none⟩ (m + 1) _ (rowCells ((m + 1) * 9) (fun t => c (t + 9 + j * 9))) rfl (rowCells_len _ _) HNL.out HON.out (by unfold maxLen; omega) (by omega) (by simp) ?_; intro v' w3 hown3 hgrow3 hnil3 hat3; simp only [Nat.zero_add, List.nil_append] at hown3; have HCP0 := hid hown3; obtain ⟨g', cap', rfl, hg3, hr3⟩ := own_shape hown3 (Nat.succ_pos m); have HCP := hid (own_cap HCP0.out (Nat.succ_pos m)); have r3 := HR2.out.fr (FrP.of_grown hgrow3) (fun e => by have e2 : some wr.heap.size = some w2.heap.size := e; injection e2 with e2; omega); have k3b := r3.cell 3 (by omega); have k3f := r3.free 3; have FG := hid (FrP.of_grown hgrow3); have HR3 := hid hr3; have HRW := hid r3; clear hown3 hgrow3 hnil3 hat3 hr3 r3))
          have zw3 := FG.out.size
          simp only [World.size_alloc, World.size_setCell] at zw3
          have r := HRW.out.set (o := 3) (by omega) (.slice (some ⟨g', 0, none⟩) (m + 1 : Nat) cap')
          have RF : RowF (w3.setCell ⟨w2.heap.size, 3, none⟩ (.slice (some ⟨g', 0, none⟩) (m + 1 : Nat) cap')) w2.heap.size 5 (vec [.int .i64 x.now, .int .i64 (x.floor + ((j + 1 : Nat) : Int)), .slice b1 x.on d1, .slice (some ⟨g', 0, none⟩) (x.hn - (j + 1) : Nat) cap', .slice b3 x.tn d3]) := by
            refine ⟨r.lt, r.free, fun q hq => (r.cell q hq).trans (congrArg some ?_)⟩
            rw [hh]
            rcases (show q = 0 ∨ q = 1 ∨ q = 2 ∨ q = 3 ∨ q = 4 by omega) with rfl | rfl | rfl | rfl | rfl <;> rfl
          refine ⟨⟨j + 1, some ⟨g', 0, none⟩, cap', by omega, by unfold cutN; omega, by rw [hh]; exact HCP.out, ?_, RF, fun t ht => ?_⟩, ?_⟩
          · exact ((BW.out.trans (FG.out.below (fun q hq e => by have e2 : some wr.heap.size = some q := e; injection e2 with e2; omega) (by simp; omega))).setCell (p := ⟨w2.heap.size, 3, none⟩) (Nat.le_refl _) _)
          · rw [hh] at ht
            refine ⟨g', 0, rfl, by omega, by simpa using HR3.out.lt, by omega, ?_⟩
            rw [Nat.zero_add, World.cell?_setCell_other _ _ _ _ (by intro e; injection e with e1; omega), HR3.out.cell t ht, show t + 9 + j * 9 = t + (j + 1) * 9 by omega]
          · have e1 := RF.cell 1 (by omega)
            rw [HM1.out]
            unfold leftC
            rw [e1]
            show (x.now - (x.floor + ((j + 1 : Nat) : Int))).toNat < _
            omega
      · have hjc2 : j = cutN x fl := by unfold cutN at hjc ⊢; omega
        have rr := Rr.below hb (by omega)
        have t0 := rr.cell 0 (by omega)
        have t1 := rr.cell 1 (by omega)
        have t2 := rr.cell 2 (by omega)
        have t3 := rr.cell 3 (by omega)
        have t4 := rr.cell 4 (by omega)
        simp only [vec, List.getD_cons_zero, List.getD_cons_succ] at t0 t1 t2 t3 t4
        have tf := rr.free
        have RW := hid (row5 (v0 := .int .i64 x.now) (v1 := .int .i64 (x.floor + (j : Nat))) (v2 := .slice b1 x.on d1) (v3 := .slice b2' (x.hn - j : Nat) d2') (v4 := .slice b3 x.tn d3) rr)
        have HE := hid hjc2
        clear rr hjc2
        go_wp2
        have rw := RW.out
        have u0 := rw.cell 0 (by omega)
        have u1 := rw.cell 1 (by omega)
        have u2 := rw.cell 2 (by omega)
        have u3 := rw.cell 3 (by omega)
        have u4 := rw.cell 4 (by omega)
        simp only [vec, List.getD_cons_zero, List.getD_cons_succ] at u0 u1 u2 u3 u4
        refine bodyPost_ret (v := .agg #[.int .i64 x.now, .int .i64 (x.floor + (j : Nat)), .slice b1 x.on d1, .slice b2' (x.hn - j : Nat) d2', .slice b3 x.tn d3]) (by simp [results, Tryz.results9, go_sem, u0, u1, u2, u3, u4]) rfl ?_
        have FF : FrP (fun q => q = w.heap.size + 1) wr _ := (((((FrP.refl _ wr).setCell (p := ⟨w.heap.size + 1, 0, none⟩) (by rfl) (.int .i64 x.now)).setCell (p := ⟨w.heap.size + 1, 1, none⟩) (by rfl) (.int .i64 (x.floor + (j : Nat)))).setCell (p := ⟨w.heap.size + 1, 2, none⟩) (by rfl) (.slice b1 x.on d1)).setCell (p := ⟨w.heap.size + 1, 3, none⟩) (by rfl) (.slice b2' (x.hn - j : Nat) d2')).setCell (p := ⟨w.heap.size + 1, 4, none⟩) (by rfl) (.slice b3 x.tn d3)
        rw [← HE.out]
        have zwr := hb.size
        have eC : ∀ q t, w1.heap.size ≤ q → q < wr.heap.size → World.cell? _ ⟨q, t, none⟩ = wr.cell? ⟨q, t, none⟩ := fun q t h1 h2 => FF.cell (p := ⟨q, t, none⟩) h2 (by show ¬ q = w.heap.size + 1; omega)
        have eO : ∀ q t, w1.heap.size ≤ q → q < w2.heap.size → World.cell? _ ⟨q, t, none⟩ = w2.cell? ⟨q, t, none⟩ := fun q t h1 h2 => (eC q t h1 (by omega)).trans (hb.cell (p := ⟨q, t, none⟩) h2)
        have FIN := And.intro (show BkIn _ w.heap.size _ (cutB x j) b1 b2' b3 from ⟨HX.out.o.to eO (by omega) (Nat.le_trans zwr FF.size), ((HC.out.fr FF (fun q h1 _ _ e => by omega)).chgs hj HAT.out (fun i hi' => (HST.out i hi').to eO) (Nat.le_trans zwr FF.size)).to (fun _ _ _ _ => rfl) (by omega) (Nat.le_refl _), HX.out.t.to eO (by omega) (Nat.le_trans zwr FF.size)⟩) ((hB2.trans (hb.mono hB2.size)).trans (FF.below (fun q hq e => by omega) (by omega)))
        first
          | exact ⟨b1, b2', b3, d1, d2', d3, rfl, FIN⟩
          | exact ⟨b1, b2', b3, ⟨d1, d2', d3, rfl⟩, FIN⟩
    · have hjc2 : j = cutN x fl := by unfold cutN at hjc ⊢; omega
      have rr := Rr.below hb (by omega)
      have t0 := rr.cell 0 (by omega)
      have t1 := rr.cell 1 (by omega)
      have t2 := rr.cell 2 (by omega)
      have t3 := rr.cell 3 (by omega)
      have t4 := rr.cell 4 (by omega)
      simp only [vec, List.getD_cons_zero, List.getD_cons_succ] at t0 t1 t2 t3 t4
      have tf := rr.free
      have RW := hid (row5 (v0 := .int .i64 x.now) (v1 := .int .i64 (x.floor + (j : Nat))) (v2 := .slice b1 x.on d1) (v3 := .slice b2' (x.hn - j : Nat) d2') (v4 := .slice b3 x.tn d3) rr)
      have HE := hid hjc2
      clear rr hjc2
      go_wp2
      have rw := RW.out
      have u0 := rw.cell 0 (by omega)
      have u1 := rw.cell 1 (by omega)
      have u2 := rw.cell 2 (by omega)
      have u3 := rw.cell 3 (by omega)
      have u4 := rw.cell 4 (by omega)
      simp only [vec, List.getD_cons_zero, List.getD_cons_succ] at u0 u1 u2 u3 u4
      refine bodyPost_ret (v := .agg #[.int .i64 x.now, .int .i64 (x.floor + (j : Nat)), .slice b1 x.on d1, .slice b2' (x.hn - j : Nat) d2', .slice b3 x.tn d3]) (by simp [results, Tryz.results9, go_sem, u0, u1, u2, u3, u4]) rfl ?_
      have FF : FrP (fun q => q = w.heap.size + 1) wr _ := (((((FrP.refl _ wr).setCell (p := ⟨w.heap.size + 1, 0, none⟩) (by rfl) (.int .i64 x.now)).setCell (p := ⟨w.heap.size + 1, 1, none⟩) (by rfl) (.int .i64 (x.floor + (j : Nat)))).setCell (p := ⟨w.heap.size + 1, 2, none⟩) (by rfl) (.slice b1 x.on d1)).setCell (p := ⟨w.heap.size + 1, 3, none⟩) (by rfl) (.slice b2' (x.hn - j : Nat) d2')).setCell (p := ⟨w.heap.size + 1, 4, none⟩) (by rfl) (.slice b3 x.tn d3)
      rw [← HE.out]
      have zwr := hb.size
      have eC : ∀ q t, w1.heap.size ≤ q → q < wr.heap.size → World.cell? _ ⟨q, t, none⟩ = wr.cell? ⟨q, t, none⟩ := fun q t h1 h2 => FF.cell (p := ⟨q, t, none⟩) h2 (by show ¬ q = w.heap.size + 1; omega)
      have eO : ∀ q t, w1.heap.size ≤ q → q < w2.heap.size → World.cell? _ ⟨q, t, none⟩ = w2.cell? ⟨q, t, none⟩ := fun q t h1 h2 => (eC q t h1 (by omega)).trans (hb.cell (p := ⟨q, t, none⟩) h2)
      have FIN := And.intro (show BkIn _ w.heap.size _ (cutB x j) b1 b2' b3 from ⟨HX.out.o.to eO (by omega) (Nat.le_trans zwr FF.size), ((HC.out.fr FF (fun q h1 _ _ e => by omega)).chgs hj HAT.out (fun i hi' => (HST.out i hi').to eO) (Nat.le_trans zwr FF.size)).to (fun _ _ _ _ => rfl) (by omega) (Nat.le_refl _), HX.out.t.to eO (by omega) (Nat.le_trans zwr FF.size)⟩) ((hB2.trans (hb.mono hB2.size)).trans (FF.below (fun q hq e => by omega) (by omega)))
      first
        | exact ⟨b1, b2', b3, d1, d2', d3, rfl, FIN⟩
        | exact ⟨b1, b2', b3, ⟨d1, d2', d3, rfl⟩, FIN⟩
end Go.Proofs.YtkecnaaacbckoaaGreat
