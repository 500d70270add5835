import Derived.Test.YtjepponnhieocaaKb
import Derived.Test.YtjepponnhieocaaXr
namespace Go.Proofs.Ytjepponnhieocaa
open Go.RowKit
theorem RowF.of {w : World} {g n z : Nat} {f : Nat → List Value} (hz : 0 < z) (hl : ∀ i, i < n → (f i).length = z) (h : ∀ i, i < n → ∀ k, k < z → w.cell? ⟨g, i * z + k, none⟩ = (f i)[k]?) (hf : ∀ j, w.frozen? ⟨g, j, none⟩ = false) (hlt : g < w.heap.size) : RowF w g (n * z) (rowOf z f) := by
  refine ⟨hlt, hf, fun j hj => ?_⟩
  have k1 : j / z < n := Nat.div_lt_of_lt_mul (by rw [Nat.mul_comm]; exact hj)
  have k2 : j % z < z := Nat.mod_lt _ hz
  have k3 : j / z * z + j % z = j := by rw [Nat.mul_comm]; exact Nat.div_add_mod j z
  have := h (j / z) k1 (j % z) k2
  rw [k3] at this
  rw [this, rowOf, List.getD_eq_getElem?_getD, List.getElem?_eq_getElem (by rw [hl _ k1]; exact k2)]
  rfl
theorem SlsOwnAt.at {w : World} {g n : Nat} {x : Nat → Sl} (h : SlsOwnAt w g n n x) : SlsAt w (some ⟨g, 0, none⟩) g n x :=
  ⟨fun _ => rfl, fun _ => ⟨_, RowF.of (by omega) (fun _ _ => rfl) (fun i hi k hk => by
    obtain ⟨a0, a1⟩ := h.at_ i hi
    rcases (show k = 0 ∨ k = 1 by omega) with rfl | rfl
    · exact a0
    · exact a1) h.room.free h.room.lt, fun i _ => slR_at x i⟩⟩
theorem SlsOwn.at {w : World} {lo hi : Nat} {ad : Option Addr} {n : Nat} {x : Nat → Sl} (h : SlsOwn w lo hi ad n x) : ∃ g, SlsAt w ad g n x ∧ lo ≤ g ∧ g < hi := by
  obtain ⟨g, rfl, h1, h2, h3⟩ := h
  exact ⟨g, h3.at, h1, h2⟩
theorem StrsOwn.one {w : World} {lo hi : Nat} {ad : Option Addr} {n : Nat} {s : Nat → ByteArray} (h : StrsOwn w lo hi ad n s) : ∃ b, StrsOwn w b (b + 1) ad n s ∧ (n ≠ 0 → lo ≤ b ∧ b < hi) := by
  by_cases h0 : n = 0
  · subst h0; exact ⟨0, fun i hi => absurd hi (Nat.not_lt_zero _), fun h => absurd rfl h⟩
  · obtain ⟨b, off, e1, e2, e3, _⟩ := h 0 (by omega)
    refine ⟨b, fun i hi => ?_, fun _ => ⟨e2, e3⟩⟩
    obtain ⟨b', off', f1, f2, f3, f4⟩ := h i hi
    rw [e1] at f1
    cases f1
    exact ⟨b, off, e1, Nat.le_refl _, Nat.lt_succ_self _, f4⟩
theorem IntsOwn.one {w : World} {lo hi : Nat} {ad : Option Addr} {n : Nat} {s : Nat → Int} (h : IntsOwn w lo hi ad n s) : ∃ b, IntsOwn w b (b + 1) ad n s ∧ (n ≠ 0 → lo ≤ b ∧ b < hi) := by
  by_cases h0 : n = 0
  · subst h0; exact ⟨0, fun i hi => absurd hi (Nat.not_lt_zero _), fun h => absurd rfl h⟩
  · obtain ⟨b, off, e1, e2, e3, _⟩ := h 0 (by omega)
    refine ⟨b, fun i hi => ?_, fun _ => ⟨e2, e3⟩⟩
    obtain ⟨b', off', f1, f2, f3, f4⟩ := h i hi
    rw [e1] at f1
    cases f1
    exact ⟨b, off, e1, Nat.le_refl _, Nat.lt_succ_self _, f4⟩
theorem r_le {r : Nat → Nat} {n : Nat} (h : ∀ i, i < n → r i ≤ r (i + 1)) {i j : Nat} (hij : i ≤ j) (hj : j ≤ n) : r i ≤ r j := by
  induction j with
  | zero => have : i = 0 := by omega
            subst this; exact Nat.le_refl _
  | succ m ih =>
    rcases Nat.lt_or_ge m i with h1 | h1
    · have : i = m + 1 := by omega
      subst this; exact Nat.le_refl _
    · exact Nat.le_trans (ih h1 (by omega)) (h m (by omega))
theorem apart_of {g n : Nat} {N hb r : Nat → Nat} (h0 : g < r 0) (hm : ∀ i, i < n → r i ≤ r (i + 1)) (h : ∀ i, i < n → N i ≠ 0 → r i ≤ hb i ∧ hb i < r (i + 1)) : ApartH g n N hb :=
  ⟨fun i hi hn e => by have := (h i hi hn).1; have := r_le hm (Nat.zero_le i) (by omega); omega, fun i j hi hj h1 h2 e => by
    have e1 := h i hi h1
    have e2 := h j hj h2
    rcases Nat.lt_trichotomy i j with q | q | q
    · have := r_le hm (i := i + 1) (j := j) (by omega) (by omega); omega
    · exact q
    · have := r_le hm (i := j + 1) (j := i) (by omega) (by omega); omega⟩
theorem MssOwnIn.at {w : World} {lo hi : Nat} {ad : Option Addr} {n : Nat} {x : Nat → Ms} (k : MssOwnIn w lo hi ad n x) : ∃ g A C hb, MssAt w ad g n x A C hb ∧ ∀ q, blkH g n (fun i => (x i).n) hb q → lo ≤ q ∧ q < hi := by
  obtain ⟨g, h, r, rfl, h1, h2, o⟩ := k
  obtain ⟨F, hF⟩ := skolC (n := n) ((none, 0, 0) : (Option Addr × Nat × Nat)) (p := fun i q => MsCells w g (i * 8) (x i) q.1 q.2.1 ∧ SlsAt w q.1 q.2.2 (x i).n (x i).s ∧ r i ≤ q.2.2 ∧ q.2.2 < r (i + 1)) (fun i hi' => by
    obtain ⟨ah, ch, e1, e2⟩ := o.at_ i hi'
    obtain ⟨b, e3, e4, e5⟩ := e2.at
    exact ⟨(ah, ch, b), e1, e3, e4, e5⟩)
  have rh : ∀ i, i < n → r (i + 1) ≤ h := fun i hi => Nat.le_trans (r_le o.mono (i := i + 1) (j := n) (by omega) (Nat.le_refl _)) o.rn
  refine ⟨g, fun i => (F i).1, fun i => (F i).2.1, fun i => (F i).2.2, ⟨fun _ => rfl, fun _ => ⟨_, RowF.of (by omega) (fun _ _ => rfl) (fun i hi k hk => ?_) o.room.free o.room.lt, fun i _ => msR_at x (fun i => (F i).1) (fun i => (F i).2.1) i⟩, fun i hi => (hF i hi).2.1, fun i hi _ => ?_, apart_of o.r0 o.mono (fun i hi _ => (hF i hi).2.2)⟩, fun q hq => ?_⟩
  · obtain ⟨a0, a1, a2, a3, a4, a5, a6, a7⟩ := (hF i hi).1
    rcases (show k = 0 ∨ k = 1 ∨ k = 2 ∨ k = 3 ∨ k = 4 ∨ k = 5 ∨ k = 6 ∨ k = 7 by omega) with rfl | rfl | rfl | rfl | rfl | rfl | rfl | rfl
    · exact a0
    · exact a1
    · exact a2
    · exact a3
    · exact a4
    · exact a5
    · exact a6
    · exact a7
  · have := (hF i hi).2.2.2; have := rh i hi; have := o.hi; omega
  · rcases hq with ⟨h0, rfl⟩ | ⟨i, hi, _, rfl⟩
    · have := o.r0; have := r_le o.mono (Nat.zero_le n) (Nat.le_refl _); have := o.rn; omega
    · have e := (hF i hi).2.2
      have := o.r0; have := r_le o.mono (Nat.zero_le i) (by omega); have := rh i hi
      dsimp only; omega
theorem AksOwnIn.at {w : World} {lo hi : Nat} {ad : Option Addr} {n : Nat} {x : Nat → Ak} (k : AksOwnIn w lo hi ad n x) : ∃ g A C hb, AksAt w ad g n x A C hb ∧ ∀ q, blkH g n (fun i => (x i).n) hb q → lo ≤ q ∧ q < hi := by
  obtain ⟨g, h, r, rfl, h1, h2, o⟩ := k
  obtain ⟨F, hF⟩ := skolC (n := n) ((none, 0, 0) : (Option Addr × Nat × Nat)) (p := fun i q => AkCells w g (i * 2) (x i) q.1 q.2.1 ∧ IntsOwn w q.2.2 (q.2.2 + 1) q.1 (x i).n (x i).s ∧ ((x i).n ≠ 0 → r i ≤ q.2.2 ∧ q.2.2 < r (i + 1))) (fun i hi' => by
    obtain ⟨ah, ch, e1, e2⟩ := o.at_ i hi'
    obtain ⟨b, e3, e4⟩ := e2.one
    exact ⟨(ah, ch, b), e1, e3, e4⟩)
  have rh : ∀ i, i < n → r (i + 1) ≤ h := fun i hi => Nat.le_trans (r_le o.mono (i := i + 1) (j := n) (by omega) (Nat.le_refl _)) o.rn
  refine ⟨g, fun i => (F i).1, fun i => (F i).2.1, fun i => (F i).2.2, ⟨fun _ => rfl, fun _ => ⟨_, RowF.of (by omega) (fun _ _ => rfl) (fun i hi k hk => ?_) o.room.free o.room.lt, fun i _ => akR_at x (fun i => (F i).1) (fun i => (F i).2.1) i⟩, fun i hi => (hF i hi).2.1, fun i hi h0 => ?_, apart_of o.r0 o.mono (fun i hi h0 => (hF i hi).2.2 h0)⟩, fun q hq => ?_⟩
  · obtain ⟨a0, a1⟩ := (hF i hi).1
    rcases (show k = 0 ∨ k = 1 by omega) with rfl | rfl
    · exact a0
    · exact a1
  · have := ((hF i hi).2.2 h0).2; have := rh i hi; have := o.hi; omega
  · rcases hq with ⟨h0, rfl⟩ | ⟨i, hi, h0, rfl⟩
    · have := o.r0; have := r_le o.mono (Nat.zero_le n) (Nat.le_refl _); have := o.rn; omega
    · have e := (hF i hi).2.2 h0
      have := o.r0; have := r_le o.mono (Nat.zero_le i) (by omega); have := rh i hi
      dsimp only; omega
theorem RcOwnAt.at {w : World} {r : Rc} {A : RcA} {lo m1 m2 m3 m4 m5 m6 hi : Nat} (h : RcOwnAt w r A lo m1 m2 m3 m4 m5 m6 hi) : ∃ p : RcP, p.A = A ∧ RcAt w r p ∧ ∀ k, rbs p r k → lo ≤ k := by
  obtain ⟨o0, o1, o2, o3, o4, o5, o6, l0, l1, l2, l3, l4, l5, l6, top⟩ := h
  obtain ⟨g0, a0, b0, c0⟩ := o0.at
  obtain ⟨g1, a1, b1, c1⟩ := o1.at
  obtain ⟨g2, A2, C2, h2, a2, b2⟩ := o2.at
  obtain ⟨g3, a3, b3⟩ := o3.one
  obtain ⟨g4, a4, b4⟩ := o4.one
  obtain ⟨g5, a5, b5, c5⟩ := o5.at
  obtain ⟨g6, A6, C6, h6, a6, b6⟩ := o6.at
  refine ⟨⟨A, g0, g1, g2, g3, g4, g5, g6, A2, C2, h2, A6, C6, h6⟩, rfl, RcAt.ofRows (fun j => match j with | 0 => lo | 1 => m1 | 2 => m2 | 3 => m3 | 4 => m4 | 5 => m5 | 6 => m6 | _ => hi) a0 a1 a2 a3 a4 a5 a6 ?_ top ?_, ?_⟩
  · intro j hj
    rcases (show j = 0 ∨ j = 1 ∨ j = 2 ∨ j = 3 ∨ j = 4 ∨ j = 5 ∨ j = 6 by omega) with rfl | rfl | rfl | rfl | rfl | rfl | rfl
    · exact l0
    · exact l1
    · exact l2
    · exact l3
    · exact l4
    · exact l5
    · exact l6
  · intro j k hj hk
    rcases (show j = 0 ∨ j = 1 ∨ j = 2 ∨ j = 3 ∨ j = 4 ∨ j = 5 ∨ j = 6 by omega) with rfl | rfl | rfl | rfl | rfl | rfl | rfl
    · obtain ⟨_, rfl⟩ := hk; exact ⟨b0, c0⟩
    · obtain ⟨_, rfl⟩ := hk; exact ⟨b1, c1⟩
    · exact b2 k hk
    · obtain ⟨h0, rfl⟩ := hk; exact b3 h0
    · obtain ⟨h0, rfl⟩ := hk; exact b4 h0
    · obtain ⟨_, rfl⟩ := hk; exact ⟨b5, c5⟩
    · exact b6 k hk
  · rintro k ⟨j, hj, hk⟩
    rcases (show j = 0 ∨ j = 1 ∨ j = 2 ∨ j = 3 ∨ j = 4 ∨ j = 5 ∨ j = 6 by omega) with rfl | rfl | rfl | rfl | rfl | rfl | rfl
    · have h9 : k = g0 := hk.2; omega
    · have h9 : k = g1 := hk.2; omega
    · have := b2 k hk; omega
    · have h9 : k = g3 := hk.2; have := b3 hk.1; omega
    · have h9 : k = g4 := hk.2; have := b4 hk.1; omega
    · have h9 : k = g5 := hk.2; omega
    · have := b6 k hk; omega
theorem mkMss_le (k0 : Nat) (x : Nat → Ms) : ∀ n, mkMss k0 x n ≤ k0 + 7 * szMss n x
  | 0 => Nat.le_add_right _ _
  | n + 1 => by
    have ih := mkMss_le k0 x n
    have e : szMss (n + 1) x = szMss n x + 1 + szMs (x n) := by unfold szMss; simp only [sumTo]; omega
    have e2 : (x n).n ≤ szMs (x n) := by unfold szMs szSls; omega
    rw [mkMss, e]
    omega
theorem mkAks_le (k0 : Nat) (x : Nat → Ak) : ∀ n, mkAks k0 x n ≤ k0 + szAks n x
  | 0 => Nat.le_add_right _ _
  | n + 1 => by
    have ih := mkAks_le k0 x n
    have e : szAks (n + 1) x = szAks n x + 1 + szAk (x n) := by unfold szAks; simp only [sumTo]; omega
    have e2 : (x n).n = szAk (x n) := rfl
    rw [mkAks, e]
    omega
/-- how far marks go -/
theorem mkRc_le (k0 : Nat) (r : Rc) : mkRc k0 r ≤ k0 + 7 * szRc r := by
  have h1 := mkMss_le (kk2 k0 r) r.hs r.hn
  have h2 := mkAks_le (kk6 k0 r) r.as_ r.an
  unfold mkRc
  unfold kk6 kk5 kk4 kk3 kk2 kk1 at *
  unfold szRc szDk szSls szStrs
  omega
end Go.Proofs.Ytjepponnhieocaa
namespace Go.Proofs.Ytjepponnhieocaa
open Go.RowKit
theorem Try.sz50 : (Try.prog.info? 50).map (·.size) = some 18 := by kernel_rfl
theorem le_sumTo (f : Nat → Nat) : ∀ {n i : Nat}, i < n → f i ≤ sumTo f n
  | 0, i, h => absurd h (Nat.not_lt_zero _)
  | n + 1, i, h => by
    unfold sumTo
    by_cases e : i = n
    · subst e; omega
    · have := le_sumTo f (n := n) (i := i) (by omega); omega
theorem rcSmall_of {r : Rc} (h : (szRc r : Int) ≤ 1048576) : RcSmall r := by
  unfold szRc szDk szMss szStrs szSls szAks at h
  refine ⟨by omega, by omega, by omega, fun i hi => ?_, by omega, by omega, by omega, by omega, fun i hi => ?_⟩
  · have := le_sumTo (fun i => szMs (r.hs i)) hi
    simp only [szMs, szSls] at this
    simp only [szMs, szSls] at h
    omega
  · have := le_sumTo (fun i => szAk (r.as_ i)) hi
    simp only [szAk] at this
    simp only [szAk] at h
    omega
theorem wpOp_load {P : Program} {ops : Array Oper} {Q : Exit → Act → World → Prop} {i : Nat} {K : Act → World → Prop} {a : Act} {w : World} {o : Oper} (ho : ops[i]? = some o) (hg : o.guard = none) (ty : TypeId) (x : Operand) (hop : o.op = .load ty x)
    (b : Nat) (hx : a.eval x = .pointer (some ⟨b, 0, none⟩)) (cs : List Value) (d : TypeDesc) (hc : w.rangeAt b 0 cs)
    (hu : P.underlying ty = some d) (hd : d.isRow = true) (hi : (P.info? ty).map (·.size) = some cs.length)
    (h : K (a.put o.dst (.agg cs.toArray)) w) : wpOp P ops Q i K a w :=
  wpOp_of ho hg (wp_load_mid ty x hop b 0 hx cs d hc hu hd hi h)
theorem RcIn.mono {w : World} {lo hi lo2 hi2 : Nat} {r : Rc} {A : RcA} (h : RcIn w lo hi r A) (h1 : lo2 ≤ lo) (h2 : hi ≤ hi2) : RcIn w lo2 hi2 r A :=
  ⟨h.sf.mono h1 h2, h.dk.mono h1 h2, h.hs.mono h1 h2, h.ws.mono h1 h2, h.ys.mono h1 h2, h.bs.mono h1 h2, h.as_.mono h1 h2⟩
end Go.Proofs.Ytjepponnhieocaa
