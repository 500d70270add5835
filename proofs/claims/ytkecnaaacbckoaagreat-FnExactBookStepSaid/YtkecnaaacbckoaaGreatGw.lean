import Derived.Test.YtkecnaaacbckoaaGreatGe
import Derived.Test.YtkecnaaacbckoaaGreatGj
namespace Go.Proofs.YtkecnaaacbckoaaGreat
open Go.RowKit
theorem ObjsOwnAt.at {w : World} {g hi n : Nat} {x : Nat → Ob} {r : Nat → Nat} (h : ObjsOwnAt w g hi n n x r) : ∃ A C hb, ObsAt w (some ⟨g, 0, none⟩) g n x A C hb ∧ ∀ q, blkH g n (fun i => (x i).hn) hb q → g ≤ q ∧ q < hi := by
  have h1 : ∀ i, ∃ q : Option Addr × (Nat × Nat), i < n → ObCells w g (i * 7) (x i) q.1 q.2.1 ∧ StrsOwn w q.2.2 (q.2.2 + 1) q.1 (x i).hn (x i).hs ∧ ((x i).hn ≠ 0 → r i ≤ q.2.2 ∧ q.2.2 < r (i + 1)) := fun i => by
    by_cases hi' : i < n
    · obtain ⟨ah, ch, e1, e2⟩ := h.at_ i hi'
      obtain ⟨b, e3, e4⟩ := e2.one
      exact ⟨(ah, ch, b), fun _ => ⟨e1, e3, e4⟩⟩
    · exact ⟨(none, 0, 0), fun h => absurd h hi'⟩
  obtain ⟨q, hq⟩ := Classical.skolem.1 h1
  have rl : ∀ i, i ≤ n → r 0 ≤ r i ∧ r i ≤ r n := fun i hi' => ⟨r_mono h.mono (Nat.zero_le _) hi', r_mono h.mono hi' (Nat.le_refl _)⟩
  have e : ∀ j v, w.cell? ⟨g, j, none⟩ = some v → (w.cell? ⟨g, j, none⟩).getD (.int .i64 0) = v := fun j v h => by rw [h]; rfl
  refine ⟨fun i => (q i).1, fun i => (q i).2.1, fun i => (q i).2.2, ⟨fun _ => rfl, fun _ => ⟨fun j => (w.cell? ⟨g, j, none⟩).getD (.int .i64 0), ⟨h.room.lt, h.room.free, fun j hj => ?_⟩, fun i hi' => ?_⟩, fun i hi' => (hq i hi').2.1, fun i hi' h0 => ?_, ⟨fun i hi' h0 => ?_, fun i j hi' hj h0 h1 e => ?_⟩⟩, fun k hk => ?_⟩
  · obtain ⟨u, hu⟩ := h.room.has j hj
    rw [hu]; rfl
  · have k := (hq i hi').1
    exact ⟨(e (i * 7) _ k.c0), (e (i * 7 + 1) _ k.c1), (e (i * 7 + 2) _ k.c2), (e (i * 7 + 3) _ k.c3), (e (i * 7 + 4) _ k.c4), (e (i * 7 + 5) _ k.c5), (e (i * 7 + 6) _ k.c6)⟩
  · have := ((hq i hi').2.2 h0).2
    have h2 := (rl (i + 1) (by omega)).2
    have h3 := h.rn
    have h4 := h.hi
    omega
  · have := ((hq i hi').2.2 h0).1
    have h2 := (rl i (by omega)).1
    have h3 := h.r0
    show (q i).2.2 ≠ g
    omega
  · have a1 := (hq i hi').2.2 h0
    have a2 := (hq j hj).2.2 h1
    have e' : (q i).2.2 = (q j).2.2 := e
    rcases Nat.lt_trichotomy i j with c | c | c
    · have := r_mono h.mono (show i + 1 ≤ j by omega) (by omega)
      omega
    · exact c
    · have := r_mono h.mono (show j + 1 ≤ i by omega) (by omega)
      omega
  · have h3 := h.r0
    have h4 := h.rn
    have h5 := rl 0 (by omega)
    rcases hk with ⟨h0, rfl⟩ | ⟨i, hi', h0, rfl⟩
    · omega
    · have a1 := (hq i hi').2.2 h0
      have h6 := (rl i (by omega)).1
      have h7 := (rl (i + 1) (by omega)).2
      show g ≤ (q i).2.2 ∧ (q i).2.2 < hi
      omega
theorem ChgsOwnAt.at {w : World} {g hi n : Nat} {x : Nat → Ch} {r : Nat → Nat} (h : ChgsOwnAt w g hi n n x r) : ∃ A C hb, ChsAt w (some ⟨g, 0, none⟩) g n x A C hb ∧ ∀ q, blkH g n (fun i => (x i).ob.hn) hb q → g ≤ q ∧ q < hi := by
  have h1 : ∀ i, ∃ q : Option Addr × (Nat × Nat), i < n → ChCells w g (i * 9) (x i) q.1 q.2.1 ∧ StrsOwn w q.2.2 (q.2.2 + 1) q.1 (x i).ob.hn (x i).ob.hs ∧ ((x i).ob.hn ≠ 0 → r i ≤ q.2.2 ∧ q.2.2 < r (i + 1)) := fun i => by
    by_cases hi' : i < n
    · obtain ⟨ah, ch, e1, e2⟩ := h.at_ i hi'
      obtain ⟨b, e3, e4⟩ := e2.one
      exact ⟨(ah, ch, b), fun _ => ⟨e1, e3, e4⟩⟩
    · exact ⟨(none, 0, 0), fun h => absurd h hi'⟩
  obtain ⟨q, hq⟩ := Classical.skolem.1 h1
  have rl : ∀ i, i ≤ n → r 0 ≤ r i ∧ r i ≤ r n := fun i hi' => ⟨r_mono h.mono (Nat.zero_le _) hi', r_mono h.mono hi' (Nat.le_refl _)⟩
  have e : ∀ j v, w.cell? ⟨g, j, none⟩ = some v → (w.cell? ⟨g, j, none⟩).getD (.int .i64 0) = v := fun j v h => by rw [h]; rfl
  refine ⟨fun i => (q i).1, fun i => (q i).2.1, fun i => (q i).2.2, ⟨fun _ => rfl, fun _ => ⟨fun j => (w.cell? ⟨g, j, none⟩).getD (.int .i64 0), ⟨h.room.lt, h.room.free, fun j hj => ?_⟩, fun i hi' => ?_⟩, fun i hi' => (hq i hi').2.1, fun i hi' h0 => ?_, ⟨fun i hi' h0 => ?_, fun i j hi' hj h0 h1 e => ?_⟩⟩, fun k hk => ?_⟩
  · obtain ⟨u, hu⟩ := h.room.has j hj
    rw [hu]; rfl
  · have k := (hq i hi').1
    exact ⟨(e (i * 9) _ k.c0), (e (i * 9 + 1) _ k.c1), (e (i * 9 + 2) _ k.c2), (e (i * 9 + 3) _ k.c3), (e (i * 9 + 4) _ k.c4), (e (i * 9 + 5) _ k.c5), (e (i * 9 + 6) _ k.c6), (e (i * 9 + 7) _ k.c7), (e (i * 9 + 8) _ k.c8)⟩
  · have := ((hq i hi').2.2 h0).2
    have h2 := (rl (i + 1) (by omega)).2
    have h3 := h.rn
    have h4 := h.hi
    omega
  · have := ((hq i hi').2.2 h0).1
    have h2 := (rl i (by omega)).1
    have h3 := h.r0
    show (q i).2.2 ≠ g
    omega
  · have a1 := (hq i hi').2.2 h0
    have a2 := (hq j hj).2.2 h1
    have e' : (q i).2.2 = (q j).2.2 := e
    rcases Nat.lt_trichotomy i j with c | c | c
    · have := r_mono h.mono (show i + 1 ≤ j by omega) (by omega)
      omega
    · exact c
    · have := r_mono h.mono (show j + 1 ≤ i by omega) (by omega)
      omega
  · have h3 := h.r0
    have h4 := h.rn
    have h5 := rl 0 (by omega)
    rcases hk with ⟨h0, rfl⟩ | ⟨i, hi', h0, rfl⟩
    · omega
    · have a1 := (hq i hi').2.2 h0
      have h6 := (rl i (by omega)).1
      have h7 := (rl (i + 1) (by omega)).2
      show g ≤ (q i).2.2 ∧ (q i).2.2 < hi
      omega
theorem TicsOwnAt.at {w : World} {g n : Nat} {x : Nat → Ti} (h : TicsOwnAt w g n n x) : TisAt w (some ⟨g, 0, none⟩) g n x := by
  have e : ∀ j v, w.cell? ⟨g, j, none⟩ = some v → (w.cell? ⟨g, j, none⟩).getD (.int .i64 0) = v := fun j v h => by rw [h]; rfl
  refine ⟨fun _ => rfl, fun _ => ⟨fun j => (w.cell? ⟨g, j, none⟩).getD (.int .i64 0), ⟨h.room.lt, h.room.free, fun j hj => ?_⟩, fun i hi' => ?_⟩⟩
  · obtain ⟨u, hu⟩ := h.room.has j hj
    rw [hu]; rfl
  · have k := h.at_ i hi'
    exact ⟨(e (i * 5) _ k.c0), (e (i * 5 + 1) _ k.c1), (e (i * 5 + 2) _ k.c2), (e (i * 5 + 3) _ k.c3), (e (i * 5 + 4) _ k.c4)⟩
theorem BkOwn.at {w : World} {lo hi : Nat} {x : Bk} {g1 g2 g3 : Nat} (h : BkOwn w lo hi x g1 g2 g3) : ∃ p : Pl, p.a1 = some ⟨g1, 0, none⟩ ∧ p.a2 = some ⟨g2, 0, none⟩ ∧ p.a3 = some ⟨g3, 0, none⟩ ∧ BkAt w x p ∧ ∀ q, blkB p x q → lo ≤ q ∧ q < hi := by
  obtain ⟨⟨h1, r1, o1, o2⟩, ⟨h2, r2, c1, c2⟩, ti, glo, ghi, gtop⟩ := h
  obtain ⟨A1, C1, b1, at1, k1⟩ := o1.at
  obtain ⟨A2, C2, b2, at2, k2⟩ := c1.at
  have x1 := o1.r0
  have x2 := o1.rn
  have x3 := r_mono o1.mono (Nat.zero_le x.on) (Nat.le_refl _)
  have y1 := c1.r0
  have y2 := c1.rn
  have y3 := r_mono c1.mono (Nat.zero_le x.hn) (Nat.le_refl _)
  refine ⟨⟨some ⟨g1, 0, none⟩, some ⟨g2, 0, none⟩, some ⟨g3, 0, none⟩, g1, g2, g3, A1, C1, b1, A2, C2, b2⟩, rfl, rfl, rfl, ⟨at1, at2, ti.at, fun k e1 e2 => ?_, fun k e1 e2 => ?_, fun k e1 e2 => ?_⟩, fun k e => ?_⟩
  · have a := k1 k e1
    have b := k2 k e2
    omega
  · have a := k1 k e1
    have b : k = g3 := e2.2
    omega
  · have a := k2 k e1
    have b : k = g3 := e2.2
    omega
  · rcases e with e | e | e
    · have a := k1 k e
      omega
    · have a := k2 k e
      omega
    · have b : k = g3 := e.2
      omega
theorem mkObs_le (k0 : Nat) (x : Nat → Ob) (n : Nat) : mkObs k0 x n ≤ k0 + 6 * szObs n x := by
  unfold szObs
  induction n with
  | zero => simp [mkObs]
  | succ n ih => simp only [mkObs, sumTo, szOb, szStrs] at *; omega
theorem mkChs_le (k0 : Nat) (x : Nat → Ch) (n : Nat) : mkChs k0 x n ≤ k0 + 8 * szChs n x := by
  unfold szChs
  induction n with
  | zero => simp [mkChs]
  | succ n ih => simp only [mkChs, sumTo, szCh, szOb, szStrs] at *; omega
theorem mkTis_le (k0 : Nat) (x : Nat → Ti) (n : Nat) : mkTis k0 x n ≤ k0 + 5 * szTis n x := by
  have h : mkTis k0 x n = k0 + 5 * n := by
    induction n with
    | zero => rfl
    | succ n ih => unfold mkTis; rw [ih]; omega
  unfold szTis
  omega
theorem mkBk_le (k0 : Nat) (x : Bk) : mkBk k0 x ≤ k0 + 19 * szBk x := by
  unfold mkBk szBk
  have h1 := mkObs_le k0 x.os x.on
  have h2 := mkChs_le (mkObs k0 x.os x.on) x.hs x.hn
  have h3 := mkTis_le (mkChs (mkObs k0 x.os x.on) x.hs x.hn) x.ts x.tn
  omega
theorem mkObs_congr (k0 : Nat) {x y : Nat → Ob} : ∀ {n : Nat}, (∀ i, i < n → x i = y i) → mkObs k0 x n = mkObs k0 y n
  | 0, _ => rfl
  | n + 1, h => by
    unfold mkObs
    rw [mkObs_congr k0 (n := n) (fun i hi => h i (by omega)), h n (by omega)]
theorem ObsAt.isIn {w : World} {ad : Option Addr} {g n : Nat} {x : Nat → Ob} {A : Nat → Option Addr} {C hb : Nat → Nat} (h : ObsAt w ad g n x A C hb) {lo : Nat} (hlo : ∀ q, blkH g n (fun i => (x i).hn) hb q → lo ≤ q) : ObjsIn w lo w.heap.size ad n x := fun i hi => by
  obtain ⟨c, r, e⟩ := h.row (by omega)
  obtain ⟨a0, a1, a2, a3, a4, a5, a6⟩ := e i hi
  refine ⟨g, 0, A i, C i, h.addr (by omega), hlo g (Or.inl ⟨by omega, rfl⟩), r.lt, ?_, fun j hj => ?_⟩
  · rw [Nat.zero_add]
    exact ⟨(r.cell _ (by omega)).trans (congrArg some a0), (r.cell _ (by omega)).trans (congrArg some a1), (r.cell _ (by omega)).trans (congrArg some a2), (r.cell _ (by omega)).trans (congrArg some a3), (r.cell _ (by omega)).trans (congrArg some a4), (r.cell _ (by omega)).trans (congrArg some a5), (r.cell _ (by omega)).trans (congrArg some a6)⟩
  · obtain ⟨b, off, e1, e2, e3, e4, _⟩ := h.hold i hi j hj
    have hn0 : (x i).hn ≠ 0 := by omega
    have e5 : b = hb i := by omega
    exact ⟨b, off, e1, by rw [e5]; exact hlo _ (Or.inr ⟨i, hi, hn0, rfl⟩), by rw [e5]; exact h.hlt i hi hn0, e4⟩
theorem ChsAt.isIn {w : World} {ad : Option Addr} {g n : Nat} {x : Nat → Ch} {A : Nat → Option Addr} {C hb : Nat → Nat} (h : ChsAt w ad g n x A C hb) {lo : Nat} (hlo : ∀ q, blkH g n (fun i => (x i).ob.hn) hb q → lo ≤ q) : ChgsIn w lo w.heap.size ad n x := fun i hi => by
  obtain ⟨c, r, e⟩ := h.row (by omega)
  obtain ⟨a0, a1, a2, a3, a4, a5, a6, a7, a8⟩ := e i hi
  refine ⟨g, 0, A i, C i, h.addr (by omega), hlo g (Or.inl ⟨by omega, rfl⟩), r.lt, ?_, fun j hj => ?_⟩
  · rw [Nat.zero_add]
    exact ⟨(r.cell _ (by omega)).trans (congrArg some a0), (r.cell _ (by omega)).trans (congrArg some a1), (r.cell _ (by omega)).trans (congrArg some a2), (r.cell _ (by omega)).trans (congrArg some a3), (r.cell _ (by omega)).trans (congrArg some a4), (r.cell _ (by omega)).trans (congrArg some a5), (r.cell _ (by omega)).trans (congrArg some a6), (r.cell _ (by omega)).trans (congrArg some a7), (r.cell _ (by omega)).trans (congrArg some a8)⟩
  · obtain ⟨b, off, e1, e2, e3, e4, _⟩ := h.hold i hi j hj
    have hn0 : (x i).ob.hn ≠ 0 := by omega
    have e5 : b = hb i := by omega
    exact ⟨b, off, e1, by rw [e5]; exact hlo _ (Or.inr ⟨i, hi, hn0, rfl⟩), by rw [e5]; exact h.hlt i hi hn0, e4⟩
theorem TisAt.isIn {w : World} {ad : Option Addr} {g n : Nat} {x : Nat → Ti} (h : TisAt w ad g n x) {lo : Nat} (hlo : 0 < n → lo ≤ g) : TicsIn w lo w.heap.size ad n x := fun i hi => by
  obtain ⟨c, r, e⟩ := h.row (by omega)
  obtain ⟨a0, a1, a2, a3, a4⟩ := e i hi
  refine ⟨g, 0, h.addr (by omega), hlo (by omega), r.lt, ?_⟩
  rw [Nat.zero_add]
  exact ⟨(r.cell _ (by omega)).trans (congrArg some a0), (r.cell _ (by omega)).trans (congrArg some a1), (r.cell _ (by omega)).trans (congrArg some a2), (r.cell _ (by omega)).trans (congrArg some a3), (r.cell _ (by omega)).trans (congrArg some a4)⟩
theorem BkAt.isIn {w : World} {x : Bk} {p : Pl} (h : BkAt w x p) {lo : Nat} (hlo : ∀ q, blkB p x q → lo ≤ q) : BkIn w lo w.heap.size x p.a1 p.a2 p.a3 :=
  ⟨h.o.isIn (fun q hq => hlo q (Or.inl hq)), h.h.isIn (fun q hq => hlo q (Or.inr (Or.inl hq))), h.t.isIn (fun h0 => hlo _ (Or.inr (Or.inr ⟨h0, rfl⟩)))⟩
end Go.Proofs.YtkecnaaacbckoaaGreat
