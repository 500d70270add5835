import Derived.Test.YtokkbdlofbdljaaPc
import Derived.Test.YtokkbdlofbdljaaXr
namespace Go.Proofs.Ytokkbdlofbdljaa
open Go.RowKit
theorem RowF.of {w : World} {g n z : Nat} {f : Nat → List Value} (hz : 0 < z) (hl : ∀ i, i < n → (f i).length = z) (h : ∀ i, i < n → ∀ k, k < z → w.cell? ⟨g, i * z + k, none⟩ = (f i)[k]?) (hf : ∀ j, w.frozen? ⟨g, j, none⟩ = false) (hlt : g < w.heap.size) : RowF w g (n * z) (rowOf z f) := by
  refine ⟨hlt, hf, fun j hj => ?_⟩
  have k1 : j / z < n := Nat.div_lt_of_lt_mul (by rw [Nat.mul_comm]; exact hj)
  have k2 : j % z < z := Nat.mod_lt _ hz
  have k3 : j / z * z + j % z = j := by rw [Nat.mul_comm]; exact Nat.div_add_mod j z
  have := h (j / z) k1 (j % z) k2
  rw [k3] at this
  rw [this, rowOf, List.getD_eq_getElem?_getD, List.getElem?_eq_getElem (by rw [hl _ k1]; exact k2)]
  rfl
theorem SlsOwnAt.at {w : World} {g n : Nat} {x : Nat → Sl} (h : SlsOwnAt w g n n x) : SlsAt w (some ⟨g, 0, none⟩) g n x :=
  ⟨fun _ => rfl, fun _ => ⟨_, RowF.of (by omega) (fun _ _ => rfl) (fun i hi k hk => by
    obtain ⟨a0, a1⟩ := h.at_ i hi
    rcases (show k = 0 ∨ k = 1 by omega) with rfl | rfl
    · exact a0
    · exact a1) h.room.free h.room.lt, fun i _ => slR_at x i⟩⟩
theorem SlsOwn.at {w : World} {lo hi : Nat} {ad : Option Addr} {n : Nat} {x : Nat → Sl} (h : SlsOwn w lo hi ad n x) : ∃ g, SlsAt w ad g n x ∧ lo ≤ g ∧ g < hi := by
  obtain ⟨g, rfl, h1, h2, h3⟩ := h
  exact ⟨g, h3.at, h1, h2⟩
theorem StrsOwn.one {w : World} {lo hi : Nat} {ad : Option Addr} {n : Nat} {s : Nat → ByteArray} (h : StrsOwn w lo hi ad n s) : ∃ b, StrsOwn w b (b + 1) ad n s ∧ (n ≠ 0 → lo ≤ b ∧ b < hi) := by
  by_cases h0 : n = 0
  · subst h0; exact ⟨0, fun i hi => absurd hi (Nat.not_lt_zero _), fun h => absurd rfl h⟩
  · obtain ⟨b, off, e1, e2, e3, _⟩ := h 0 (by omega)
    refine ⟨b, fun i hi => ?_, fun _ => ⟨e2, e3⟩⟩
    obtain ⟨b', off', f1, f2, f3, f4⟩ := h i hi
    rw [e1] at f1
    cases f1
    exact ⟨b, off, e1, Nat.le_refl _, Nat.lt_succ_self _, f4⟩
theorem IntsOwn.one {w : World} {lo hi : Nat} {ad : Option Addr} {n : Nat} {s : Nat → Int} (h : IntsOwn w lo hi ad n s) : ∃ b, IntsOwn w b (b + 1) ad n s ∧ (n ≠ 0 → lo ≤ b ∧ b < hi) := by
  by_cases h0 : n = 0
  · subst h0; exact ⟨0, fun i hi => absurd hi (Nat.not_lt_zero _), fun h => absurd rfl h⟩
  · obtain ⟨b, off, e1, e2, e3, _⟩ := h 0 (by omega)
    refine ⟨b, fun i hi => ?_, fun _ => ⟨e2, e3⟩⟩
    obtain ⟨b', off', f1, f2, f3, f4⟩ := h i hi
    rw [e1] at f1
    cases f1
    exact ⟨b, off, e1, Nat.le_refl _, Nat.lt_succ_self _, f4⟩
theorem r_le {r : Nat → Nat} {n : Nat} (h : ∀ i, i < n → r i ≤ r (i + 1)) {i j : Nat} (hij : i ≤ j) (hj : j ≤ n) : r i ≤ r j := by
  induction j with
  | zero => have : i = 0 := by omega
            subst this; exact Nat.le_refl _
  | succ m ih =>
    rcases Nat.lt_or_ge m i with h1 | h1
    · have : i = m + 1 := by omega
      subst this; exact Nat.le_refl _
    · exact Nat.le_trans (ih h1 (by omega)) (h m (by omega))
theorem apart_of {g n : Nat} {N hb r : Nat → Nat} (h0 : g < r 0) (hm : ∀ i, i < n → r i ≤ r (i + 1)) (h : ∀ i, i < n → N i ≠ 0 → r i ≤ hb i ∧ hb i < r (i + 1)) : ApartH g n N hb :=
  ⟨fun i hi hn e => by have := (h i hi hn).1; have := r_le hm (Nat.zero_le i) (by omega); omega, fun i j hi hj h1 h2 e => by
    have e1 := h i hi h1
    have e2 := h j hj h2
    rcases Nat.lt_trichotomy i j with q | q | q
    · have := r_le hm (i := i + 1) (j := j) (by omega) (by omega); omega
    · exact q
    · have := r_le hm (i := j + 1) (j := i) (by omega) (by omega); omega⟩
theorem MssOwnIn.at {w : World} {lo hi : Nat} {ad : Option Addr} {n : Nat} {x : Nat → Ms} (k : MssOwnIn w lo hi ad n x) : ∃ g A C hb, MssAt w ad g n x A C hb ∧ ∀ q, blkH g n (fun i => (x i).n) hb q → lo ≤ q ∧ q < hi := by
  obtain ⟨g, h, r, rfl, h1, h2, o⟩ := k
  obtain ⟨F, hF⟩ := skolC (n := n) ((none, 0, 0) : (Option Addr × Nat × Nat)) (p := fun i q => MsCells w g (i * 8) (x i) q.1 q.2.1 ∧ SlsAt w q.1 q.2.2 (x i).n (x i).s ∧ r i ≤ q.2.2 ∧ q.2.2 < r (i + 1)) (fun i hi' => by
    obtain ⟨ah, ch, e1, e2⟩ := o.at_ i hi'
    obtain ⟨b, e3, e4, e5⟩ := e2.at
    exact ⟨(ah, ch, b), e1, e3, e4, e5⟩)
  have rh : ∀ i, i < n → r (i + 1) ≤ h := fun i hi => Nat.le_trans (r_le o.mono (i := i + 1) (j := n) (by omega) (Nat.le_refl _)) o.rn
  refine ⟨g, fun i => (F i).1, fun i => (F i).2.1, fun i => (F i).2.2, ⟨fun _ => rfl, fun _ => ⟨_, RowF.of (by omega) (fun _ _ => rfl) (fun i hi k hk => ?_) o.room.free o.room.lt, fun i _ => msR_at x (fun i => (F i).1) (fun i => (F i).2.1) i⟩, fun i hi => (hF i hi).2.1, fun i hi _ => ?_, apart_of o.r0 o.mono (fun i hi _ => (hF i hi).2.2)⟩, fun q hq => ?_⟩
  · obtain ⟨a0, a1, a2, a3, a4, a5, a6, a7⟩ := (hF i hi).1
    rcases (show k = 0 ∨ k = 1 ∨ k = 2 ∨ k = 3 ∨ k = 4 ∨ k = 5 ∨ k = 6 ∨ k = 7 by omega) with rfl | rfl | rfl | rfl | rfl | rfl | rfl | rfl
    · exact a0
    · exact a1
    · exact a2
    · exact a3
    · exact a4
    · exact a5
    · exact a6
    · exact a7
  · have := (hF i hi).2.2.2; have := rh i hi; have := o.hi; omega
  · rcases hq with ⟨h0, rfl⟩ | ⟨i, hi, _, rfl⟩
    · have := o.r0; have := r_le o.mono (Nat.zero_le n) (Nat.le_refl _); have := o.rn; omega
    · have e := (hF i hi).2.2
      have := o.r0; have := r_le o.mono (Nat.zero_le i) (by omega); have := rh i hi
      dsimp only; omega
theorem AksOwnIn.at {w : World} {lo hi : Nat} {ad : Option Addr} {n : Nat} {x : Nat → Ak} (k : AksOwnIn w lo hi ad n x) : ∃ g A C hb, AksAt w ad g n x A C hb ∧ ∀ q, blkH g n (fun i => (x i).n) hb q → lo ≤ q ∧ q < hi := by
  obtain ⟨g, h, r, rfl, h1, h2, o⟩ := k
  obtain ⟨F, hF⟩ := skolC (n := n) ((none, 0, 0) : (Option Addr × Nat × Nat)) (p := fun i q => AkCells w g (i * 2) (x i) q.1 q.2.1 ∧ IntsOwn w q.2.2 (q.2.2 + 1) q.1 (x i).n (x i).s ∧ ((x i).n ≠ 0 → r i ≤ q.2.2 ∧ q.2.2 < r (i + 1))) (fun i hi' => by
    obtain ⟨ah, ch, e1, e2⟩ := o.at_ i hi'
    obtain ⟨b, e3, e4⟩ := e2.one
    exact ⟨(ah, ch, b), e1, e3, e4⟩)
  have rh : ∀ i, i < n → r (i + 1) ≤ h := fun i hi => Nat.le_trans (r_le o.mono (i := i + 1) (j := n) (by omega) (Nat.le_refl _)) o.rn
  refine ⟨g, fun i => (F i).1, fun i => (F i).2.1, fun i => (F i).2.2, ⟨fun _ => rfl, fun _ => ⟨_, RowF.of (by omega) (fun _ _ => rfl) (fun i hi k hk => ?_) o.room.free o.room.lt, fun i _ => akR_at x (fun i => (F i).1) (fun i => (F i).2.1) i⟩, fun i hi => (hF i hi).2.1, fun i hi h0 => ?_, apart_of o.r0 o.mono (fun i hi h0 => (hF i hi).2.2 h0)⟩, fun q hq => ?_⟩
  · obtain ⟨a0, a1⟩ := (hF i hi).1
    rcases (show k = 0 ∨ k = 1 by omega) with rfl | rfl
    · exact a0
    · exact a1
  · have := ((hF i hi).2.2 h0).2; have := rh i hi; have := o.hi; omega
  · rcases hq with ⟨h0, rfl⟩ | ⟨i, hi, h0, rfl⟩
    · have := o.r0; have := r_le o.mono (Nat.zero_le n) (Nat.le_refl _); have := o.rn; omega
    · have e := (hF i hi).2.2 h0
      have := o.r0; have := r_le o.mono (Nat.zero_le i) (by omega); have := rh i hi
      dsimp only; omega
theorem RcOwnAt.at {w : World} {r : Rc} {A : RcA} {lo m1 m2 m3 m4 m5 m6 hi : Nat} (h : RcOwnAt w r A lo m1 m2 m3 m4 m5 m6 hi) : ∃ p : RcP, p.A = A ∧ RcAt w r p ∧ ∀ k, rbs p r k → lo ≤ k := by
  obtain ⟨o0, o1, o2, o3, o4, o5, o6, l0, l1, l2, l3, l4, l5, l6, top⟩ := h
  obtain ⟨g0, a0, b0, c0⟩ := o0.at
  obtain ⟨g1, a1, b1, c1⟩ := o1.at
  obtain ⟨g2, A2, C2, h2, a2, b2⟩ := o2.at
  obtain ⟨g3, a3, b3⟩ := o3.one
  obtain ⟨g4, a4, b4⟩ := o4.one
  obtain ⟨g5, a5, b5, c5⟩ := o5.at
  obtain ⟨g6, A6, C6, h6, a6, b6⟩ := o6.at
  refine ⟨⟨A, g0, g1, g2, g3, g4, g5, g6, A2, C2, h2, A6, C6, h6⟩, rfl, RcAt.ofRows (fun j => match j with | 0 => lo | 1 => m1 | 2 => m2 | 3 => m3 | 4 => m4 | 5 => m5 | 6 => m6 | _ => hi) a0 a1 a2 a3 a4 a5 a6 ?_ top ?_, ?_⟩
  · intro j hj
    rcases (show j = 0 ∨ j = 1 ∨ j = 2 ∨ j = 3 ∨ j = 4 ∨ j = 5 ∨ j = 6 by omega) with rfl | rfl | rfl | rfl | rfl | rfl | rfl
    · exact l0
    · exact l1
    · exact l2
    · exact l3
    · exact l4
    · exact l5
    · exact l6
  · intro j k hj hk
    rcases (show j = 0 ∨ j = 1 ∨ j = 2 ∨ j = 3 ∨ j = 4 ∨ j = 5 ∨ j = 6 by omega) with rfl | rfl | rfl | rfl | rfl | rfl | rfl
    · obtain ⟨_, rfl⟩ := hk; exact ⟨b0, c0⟩
    · obtain ⟨_, rfl⟩ := hk; exact ⟨b1, c1⟩
    · exact b2 k hk
    · obtain ⟨h0, rfl⟩ := hk; exact b3 h0
    · obtain ⟨h0, rfl⟩ := hk; exact b4 h0
    · obtain ⟨_, rfl⟩ := hk; exact ⟨b5, c5⟩
    · exact b6 k hk
  · rintro k ⟨j, hj, hk⟩
    rcases (show j = 0 ∨ j = 1 ∨ j = 2 ∨ j = 3 ∨ j = 4 ∨ j = 5 ∨ j = 6 by omega) with rfl | rfl | rfl | rfl | rfl | rfl | rfl
    · have h9 : k = g0 := hk.2; omega
    · have h9 : k = g1 := hk.2; omega
    · have := b2 k hk; omega
    · have h9 : k = g3 := hk.2; have := b3 hk.1; omega
    · have h9 : k = g4 := hk.2; have := b4 hk.1; omega
    · have h9 : k = g5 := hk.2; omega
    · have := b6 k hk; omega
theorem mkMss_le (k0 : Nat) (x : Nat → Ms) : ∀ n, mkMss k0 x n ≤ k0 + 7 * szMss n x
  | 0 => Nat.le_add_right _ _
  | n + 1 => by
    have ih := mkMss_le k0 x n
    have e : szMss (n + 1) x = szMss n x + 1 + szMs (x n) := by unfold szMss; simp only [sumTo]; omega
    have e2 : (x n).n ≤ szMs (x n) := by unfold szMs szSls; omega
    rw [mkMss, e]
    omega
theorem mkAks_le (k0 : Nat) (x : Nat → Ak) : ∀ n, mkAks k0 x n ≤ k0 + szAks n x
  | 0 => Nat.le_add_right _ _
  | n + 1 => by
    have ih := mkAks_le k0 x n
    have e : szAks (n + 1) x = szAks n x + 1 + szAk (x n) := by unfold szAks; simp only [sumTo]; omega
    have e2 : (x n).n = szAk (x n) := rfl
    rw [mkAks, e]
    omega
/-- how far marks go -/
theorem mkRc_le (k0 : Nat) (r : Rc) : mkRc k0 r ≤ k0 + 7 * szRc r := by
  have h1 := mkMss_le (kk2 k0 r) r.hs r.hn
  have h2 := mkAks_le (kk6 k0 r) r.as_ r.an
  unfold mkRc
  unfold kk6 kk5 kk4 kk3 kk2 kk1 at *
  unfold szRc szDk szSls szStrs
  omega
end Go.Proofs.Ytokkbdlofbdljaa
namespace Go.Proofs.Ytokkbdlofbdljaa
open Go.RowKit
theorem Try.sz32 : (Try.prog.info? 32).map (·.size) = some 18 := by kernel_rfl
theorem le_sumTo (f : Nat → Nat) : ∀ {n i : Nat}, i < n → f i ≤ sumTo f n
  | 0, i, h => absurd h (Nat.not_lt_zero _)
  | n + 1, i, h => by
    unfold sumTo
    by_cases e : i = n
    · subst e; omega
    · have := le_sumTo f (n := n) (i := i) (by omega); omega
theorem rcSmall_of {r : Rc} (h : (szRc r : Int) ≤ 1048576) : RcSmall r := by
  unfold szRc szDk szMss szStrs szSls szAks at h
  refine ⟨by omega, by omega, by omega, fun i hi => ?_, by omega, by omega, by omega, by omega, fun i hi => ?_⟩
  · have := le_sumTo (fun i => szMs (r.hs i)) hi
    simp only [szMs, szSls] at this
    simp only [szMs, szSls] at h
    omega
  · have := le_sumTo (fun i => szAk (r.as_ i)) hi
    simp only [szAk] at this
    simp only [szAk] at h
    omega
theorem wpOp_load {P : Program} {ops : Array Oper} {Q : Exit → Act → World → Prop} {i : Nat} {K : Act → World → Prop} {a : Act} {w : World} {o : Oper} (ho : ops[i]? = some o) (hg : o.guard = none) (ty : TypeId) (x : Operand) (hop : o.op = .load ty x)
    (b : Nat) (hx : a.eval x = .pointer (some ⟨b, 0, none⟩)) (cs : List Value) (d : TypeDesc) (hc : w.rangeAt b 0 cs)
    (hu : P.underlying ty = some d) (hd : d.isRow = true) (hi : (P.info? ty).map (·.size) = some cs.length)
    (h : K (a.put o.dst (.agg cs.toArray)) w) : wpOp P ops Q i K a w :=
  wpOp_of ho hg (wp_load_mid ty x hop b 0 hx cs d hc hu hd hi h)
theorem RcIn.mono {w : World} {lo hi lo2 hi2 : Nat} {r : Rc} {A : RcA} (h : RcIn w lo hi r A) (h1 : lo2 ≤ lo) (h2 : hi ≤ hi2) : RcIn w lo2 hi2 r A :=
  ⟨h.sf.mono h1 h2, h.dk.mono h1 h2, h.hs.mono h1 h2, h.ws.mono h1 h2, h.ys.mono h1 h2, h.bs.mono h1 h2, h.as_.mono h1 h2⟩
/-- where the law stands, from its first comparison on -/
structure WS (W : World) (S b6 b7 b8 : Nat) (r : Rc) (A : RcA) (O : Rc) (A2 : RcA) (rx : Rc) (p3 : RcP) (Ox : Rc) (p5 : RcP) : Prop where
  bx : Bx W S (rcC r A)
  arg : RcIn W 0 S r A
  v6 : Bx W b6 (rcC O A2)
  i6 : RcIn W (S + 1) b6 O A2
  v7 : Bx W b7 (rcC r p3.A)
  a7 : RcAt W rx p3
  k7 : ∀ k, rbs p3 rx k → b6 < k ∧ k < b7
  v8 : Bx W b8 (rcC O p5.A)
  a8 : RcAt W Ox p5
  k8 : ∀ k, rbs p5 Ox k → b7 < k ∧ k < b8
  o : S < b6 ∧ b6 < b7 ∧ b7 < b8 ∧ b8 < W.heap.size
section
variable {W W' : World} {S b6 b7 b8 : Nat} {r : Rc} {A : RcA} {O : Rc} {A2 : RcA} {rx : Rc} {p3 : RcP} {Ox : Rc} {p5 : RcP}
theorem WS.below (h : WS W S b6 b7 b8 r A O A2 rx p3 Ox p5) (hb : Below W.heap.size W W') : WS W' S b6 b7 b8 r A O A2 rx p3 Ox p5 := by
  obtain ⟨o1, o2, o3, o4⟩ := h.o
  exact ⟨h.bx.below hb (by omega), h.arg.below hb (by omega), h.v6.below hb (by omega), h.i6.below hb (by omega), h.v7.below hb (by omega), h.a7.grow hb, h.k7, h.v8.below hb (by omega), h.a8.grow hb, h.k8, o1, o2, o3, Nat.lt_of_lt_of_le o4 hb.size⟩
theorem WS.markX (h : WS W S b6 b7 b8 r A O A2 rx p3 Ox p5) (k0 : Nat) (hx : RcAt W' (ykRc k0 rx) p3) (hf : FrP (rbs p3 rx) W W') : WS W' S b6 b7 b8 r A O A2 (ykRc k0 rx) p3 Ox p5 := by
  obtain ⟨o1, o2, o3, o4⟩ := h.o
  have hn : ∀ q, q ≤ b6 ∨ b7 ≤ q → ¬ rbs p3 rx q := fun q hq e => by have := h.k7 q e; omega
  exact ⟨h.bx.frP hf (hn _ (by omega)), h.arg.below (hf.below (B := S) (fun k hk => hn k (by omega)) (by omega)) (Nat.le_refl _), h.v6.frP hf (hn _ (by omega)), h.i6.below (hf.below (B := b6) (fun k hk => hn k (by omega)) (by omega)) (Nat.le_refl _), h.v7.frP hf (hn _ (by omega)), hx, fun k hk => h.k7 k ((rbs_yk p3 k0 rx k).1 hk), h.v8.frP hf (hn _ (by omega)), h.a8.fr hf (fun k hk => hn k (by have := h.k8 k hk; omega)), h.k8, o1, o2, o3, Nat.lt_of_lt_of_le o4 hf.size⟩
theorem WS.markG (h : WS W S b6 b7 b8 r A O A2 rx p3 Ox p5) (k0 : Nat) (hx : RcAt W' (ykRc k0 Ox) p5) (hf : FrP (rbs p5 Ox) W W') : WS W' S b6 b7 b8 r A O A2 rx p3 (ykRc k0 Ox) p5 := by
  obtain ⟨o1, o2, o3, o4⟩ := h.o
  have hn : ∀ q, q ≤ b7 ∨ b8 ≤ q → ¬ rbs p5 Ox q := fun q hq e => by have := h.k8 q e; omega
  exact ⟨h.bx.frP hf (hn _ (by omega)), h.arg.below (hf.below (B := S) (fun k hk => hn k (by omega)) (by omega)) (Nat.le_refl _), h.v6.frP hf (hn _ (by omega)), h.i6.below (hf.below (B := b6) (fun k hk => hn k (by omega)) (by omega)) (Nat.le_refl _), h.v7.frP hf (hn _ (by omega)), h.a7.fr hf (fun k hk => hn k (by have := h.k7 k hk; omega)), h.k7, h.v8.frP hf (hn _ (by omega)), hx, fun k hk => h.k8 k ((rbs_yk p5 k0 Ox k).1 hk), o1, o2, o3, Nat.lt_of_lt_of_le o4 hf.size⟩
theorem WS.lowX (h : WS W S b6 b7 b8 r A O A2 rx p3 Ox p5) (hf : FrP (rbs p3 rx) W W') : Below S W W' := by
  obtain ⟨o1, o2, o3, o4⟩ := h.o
  exact hf.below (B := S) (fun k hk e => by have := h.k7 k e; omega) (by omega)
theorem WS.lowG (h : WS W S b6 b7 b8 r A O A2 rx p3 Ox p5) (hf : FrP (rbs p5 Ox) W W') : Below S W W' := by
  obtain ⟨o1, o2, o3, o4⟩ := h.o
  exact hf.below (B := S) (fun k hk e => by have := h.k8 k e; omega) (by omega)
theorem WS.g8 (h : WS W S b6 b7 b8 r A O A2 rx p3 O p5) : RcIn W (b7 + 1) b8 O p5.A := h.a8.isIn (fun k hk => by have := h.k8 k hk; omega)
theorem WS.x7 (h : WS W S b6 b7 b8 r A O A2 r p3 Ox p5) : RcIn W (b6 + 1) b7 r p3.A := h.a7.isIn (fun k hk => by have := h.k7 k hk; omega)
end
end Go.Proofs.Ytokkbdlofbdljaa
namespace Go.Proofs.Ytokkbdlofbdljaa
open Go.RowKit
theorem rc0_small (n o : Int) (u : Bool) : RcSmall (rc0 n o u) := ⟨(by show (0 : Int) ≤ _; decide), (by show (0 : Int) ≤ _; decide), (by show (0 : Int) ≤ _; decide), fun i hi => absurd hi (Nat.not_lt_zero _), (by show (0 : Int) ≤ _; decide), (by show (0 : Int) ≤ _; decide), (by show (0 : Int) ≤ _; decide), (by show (0 : Int) ≤ _; decide), fun i hi => absurd hi (Nat.not_lt_zero _)⟩
theorem szRc0 (n o : Int) (u : Bool) : szRc (rc0 n o u) = 0 := rfl
theorem outF_small {r : Rc} (h : RcSmall r) : RcSmall (outF r) := by
  unfold outF
  split
  · exact ⟨h.sf, h.sf, (by show (0 : Int) ≤ _; decide), fun i hi => absurd hi (Nat.not_lt_zero _), (by show (0 : Int) ≤ _; decide), (by show (0 : Int) ≤ _; decide), (by show (0 : Int) ≤ _; decide), (by show (0 : Int) ≤ _; decide), fun i hi => absurd hi (Nat.not_lt_zero _)⟩
  · exact rc0_small _ _ _
theorem outF_fit {r : Rc} (h : RcFit r) : RcFit (outF r) := by
  unfold outF
  split
  · exact ⟨h.sf, h.sf, (by show (0 : Int) ≤ _; decide), fun i hi => absurd hi (Nat.not_lt_zero _), (by show (0 : Int) ≤ _; decide), fun i hi => absurd hi (Nat.not_lt_zero _), (by show (0 : Int) ≤ _; decide), (by show (0 : Int) ≤ _; decide), fun i hi => absurd hi (Nat.not_lt_zero _), (by show (0 : Int) ≤ _; decide), fun i hi => absurd hi (Nat.not_lt_zero _)⟩
  · exact rc0_fit _ _ _
theorem outF_mark (k0 : Nat) (r : Rc) : mkRc k0 (outF r) ≤ k0 + 14 * szRc r := by
  have h := mkRc_le k0 (outF r)
  have e : szRc (outF r) ≤ 2 * szRc r := by
    unfold outF
    split
    · have e2 : szRc (fallR r) = szDk r.sf + szDk r.sf := rfl
      rw [e2]
      unfold szRc
      omega
    · rw [szRc0]; exact Nat.zero_le _
  omega
theorem outU_small {r : Rc} (h : RcSmall r) : RcSmall (outU r) := by
  unfold outU
  split
  · exact ⟨h.sf, h.dk, h.hn, h.hs, h.wn, h.yn, h.bn, h.an, h.as_⟩
  · exact rc0_small _ _ _
theorem outU_fit {r : Rc} (h : RcFit r) : RcFit (outU r) := by
  unfold outU
  split
  · exact ⟨h.sf, h.dk, h.hn, h.hs, h.wn, h.ws, h.yn, h.bn, h.bs, h.an, h.as_⟩
  · exact rc0_fit _ _ _
theorem outU_mark (k0 : Nat) (r : Rc) : mkRc k0 (outU r) ≤ k0 + 14 * szRc r := by
  have h := mkRc_le k0 (outU r)
  have e : szRc (outU r) ≤ szRc r := by
    unfold outU
    split
    · exact Nat.le_refl _
    · rw [szRc0]; exact Nat.zero_le _
  omega
set_option maxRecDepth 100000 in
set_option maxHeartbeats 8000000 in
theorem fallReg10 (p0 p2 p3 p4 p6 p7 p8 p9 p10 p11 p12 p13 p14 p15 p16 p17 p18 p19 p20 p21 p22 p23 p24 p25 p26 p32 p33 p34 p35 p36 p37 p38 p39 p40 p41 p42 p43 p44 p45 p46 p47 p48 p49 p50 p51 p52 p53 p54 p55 p56 p57 p58 p59 p60 p61 p62 p63 p64 p65 p66 p67 p68 : Value) (s0 b5 : Nat) (r : Rc) (A A5 : RcA) (hf : RcFit r) (hm : RcSmall r) (W : World) (hv : W.rangeAt b5 0 (rcC r A5).toList) (hbx : W.rangeAt s0 0 (rcC r A).toList) (hat : RcIn W 0 W.heap.size r A5) (hin : RcIn W 0 s0 r A) (hs : s0 < W.heap.size) (zb : b5 < W.heap.size) (Q : Exit → Act → World → Prop)
    (hQ : ∀ u0 u1 u2 u3 X, Below W.heap.size W X → Q .normal ⟨#[p0, .pointer (some ⟨s0, 0, none⟩), p2, p3, p4, .pointer (some ⟨b5, 0, none⟩), p6, p7, p8, p9, p10, p11, p12, p13, p14, p15, p16, p17, p18, p19, p20, p21, p22, p23, p24, p25, p26, u0, u1, u2, u3, .bool false, p32, p33, p34, p35, p36, p37, p38, p39, p40, p41, p42, p43, p44, p45, p46, p47, p48, p49, p50, p51, p52, p53, p54, p55, p56, p57, p58, p59, p60, p61, p62, p63, p64, p65, p66, p67, p68], []⟩ X) :
    Code.wp Try.prog (Code.region 10 #[{ dst := some 27, op := Op.load 40 (Operand.tmp 5), type := 40, pos := "exact.go:2967", after := #[], guard := none }, { dst := some 28, op := Op.load 32 (Operand.tmp 1), type := 32, pos := "exact.go:2967", after := #[], guard := none }, { dst := some 29, op := Op.call { callee := Callee.value (Operand.func 10), args := #[Operand.tmp 28], argTypes := #[32] }, type := 40, pos := "exact.go:2967", after := #[{ on := 1, ground := Ground.data }], guard := none }, { dst := some 30, op := Op.call { callee := Callee.value (Operand.func 12), args := #[Operand.tmp 27, Operand.tmp 29], argTypes := #[40, 40] }, type := 4, pos := "exact.go:2967", after := #[{ on := 0, ground := Ground.data }, { on := 2, ground := Ground.data }, { on := 2, ground := Ground.chain }], guard := none }, { dst := some 31, op := Op.unOp UnOp.not 4 (Operand.tmp 30), type := 4, pos := "exact.go:2967", after := #[{ on := 3, ground := Ground.data }], guard := none }] true) Q ⟨#[p0, .pointer (some ⟨s0, 0, none⟩), p2, p3, p4, .pointer (some ⟨b5, 0, none⟩), p6, p7, p8, p9, p10, p11, p12, p13, p14, p15, p16, p17, p18, p19, p20, p21, p22, p23, p24, p25, p26, undef, undef, undef, undef, undef, p32, p33, p34, p35, p36, p37, p38, p39, p40, p41, p42, p43, p44, p45, p46, p47, p48, p49, p50, p51, p52, p53, p54, p55, p56, p57, p58, p59, p60, p61, p62, p63, p64, p65, p66, p67, p68], []⟩ W := by
  refine region5 (by kernel_rfl) (fun t : Nat → Value => #[p0, .pointer (some ⟨s0, 0, none⟩), p2, p3, p4, .pointer (some ⟨b5, 0, none⟩), p6, p7, p8, p9, p10, p11, p12, p13, p14, p15, p16, p17, p18, p19, p20, p21, p22, p23, p24, p25, p26, t 0, t 1, t 2, t 3, t 4, p32, p33, p34, p35, p36, p37, p38, p39, p40, p41, p42, p43, p44, p45, p46, p47, p48, p49, p50, p51, p52, p53, p54, p55, p56, p57, p58, p59, p60, p61, p62, p63, p64, p65, p66, p67, p68]) (rcV r A5) (rcV r A) (fun v X => ∃ A', v = rcV r A' ∧ RcIn X 0 X.heap.size r A') rfl (by kernel_rfl) ?hd ?st2 rfl ?s0 ?s1 ?s2 ?s3 ?s4 ?hfin
  case hd =>
    intro l i hr
    obtain ⟨_, o, ho, hdep⟩ := mem_ready.1 hr
    refine ⟨fun e => ?_, fun e => ?_, fun e => ?_⟩ <;> subst e <;> simp only [List.getElem?_toArray, List.getElem?_cons_succ, List.getElem?_cons_zero, Option.some.injEq] at ho <;> subst ho
    · exact hdep ⟨1, .data⟩ (by simp) rfl
    · exact ⟨hdep ⟨0, .data⟩ (by simp) rfl, hdep ⟨2, .data⟩ (by simp) rfl⟩
    · exact hdep ⟨3, .data⟩ (by simp) rfl
  case st2 =>
    rintro v X Y ⟨A', rfl, h⟩ hb
    exact ⟨A', rfl, (h.below hb (Nat.le_refl _)).mono (Nat.le_refl _) hb.size⟩
  case s0 =>
    intro t X K hb hK
    exact wpOp_load rfl rfl 40 _ rfl b5 rfl (rcC r A5).toList _ (World.rangeAt_below hv hb zb) Try.underlying40 rfl Try.sz40 hK
  case s1 =>
    intro t X K hb hK
    exact wpOp_load rfl rfl 32 _ rfl s0 rfl (rcC r A).toList _ (World.rangeAt_below hbx hb hs) Try.underlying32 rfl Try.sz32 hK
  case s2 =>
    intro t X K hb e1 hK
    refine wpOp_of rfl rfl ?_
    have HK := hid hK
    clear hK
    go_simp
    go_at_call 10
    refine (toRc_any r A X 0 s0 (by have := hb.size; omega) hm (hin.below hb (by omega))).mono ?_
    rintro e Y ⟨A', m1, m2, m3, m4, m5, m6, rfl, hn', ho', hbY⟩
    have h := HK.out _ Y ⟨A', rfl, ho'.isIn.mono (Nat.zero_le _) (Nat.le_refl _)⟩ hbY
    simpa [updT, e1] using h
  case s3 =>
    intro t X K hb e0 h2 hK
    obtain ⟨A', e2, i2⟩ := h2
    refine wpOp_of rfl rfl ?_
    have HK := hid hK
    have HI2 := hid i2
    clear hK i2
    go_simp
    go_at_call 12
    refine (eqRc_any r A5 A' X 0 X.heap.size 0 X.heap.size (Nat.le_refl _) (Nat.le_refl _) hf ((hat.below hb (Nat.le_refl _)).mono (Nat.le_refl _) hb.size) HI2.out).mono ?_
    rintro e Y ⟨rfl, hbY⟩
    have h := HK.out Y hbY
    simpa [updT, e0, e2] using h
  case s4 =>
    intro t X K e3 hK
    refine wpOp_of rfl rfl ?_
    go_simp
    simpa [updT, e3] using hK
  case hfin =>
    intro t X e4 hb
    have h := hQ (t 0) (t 1) (t 2) (t 3) X hb
    rw [← e4] at h
    exact h
set_option maxRecDepth 100000 in
set_option maxHeartbeats 8000000 in
theorem fall_law (r : Rc) (A : RcA) (w : World) (hf : RcFit r) (hc : RcIn w 0 w.heap.size r A) :
    Calls Try.prog 4 #[rcV r A] w fun e w' => e = .returned (.bool true) ∧ Below w.heap.size w w' := by
  have HF := hid hf
  have HC := hid hc
  clear hf hc
  have mark : Nat := 0
  go_enter Try.func4, Try.ntmps4
  go_wp2_with (first | ((with_reducible show wpList _ _ _ (⟨some 11, _, _, _, _, _⟩ :: _) _ _); clear mark; have Q0 := hid (Bx.new w (rcC r A) 32); have hB0 := below_alloc w (.cells (rcC r A) 32); (generalize w.alloc (.cells (rcC r A) 32) = W at *)) | ((with_reducible show wpList _ _ _ (⟨some 11, Op.load 32 _, _, _, _, _⟩ :: _) _ _); refine wpList_load_mid rfl 32 _ rfl w.heap.size 0 rfl (rcC r A).toList _ (Holds.range (cs := (rcC r A).toList) Q0.out.cell) Try.underlying32 rfl Try.sz32 ?_))
  refine (szRc_any r A 1048576 W (by omega) (by omega) 0 w.heap.size hB0.size HF.out (HC.out.below hB0 (Nat.le_refl _))).mono ?_
  rintro e w1 ⟨rfl, hb1⟩
  have hB1 : Below w.heap.size w w1 := hB0.trans (hb1.mono hB0.size)
  have Q1 := hid (Q0.out.below hb1 Q0.out.lt)
  clear hb1 Q0 hB0
  by_cases hsz : szOut 1048576 (szRc r) < 0
  · clear Q1
    go_wp2
    go_ret
    exact ⟨rfl, hB1⟩
  have HSZ := hid (szOut_ge (l := 1048576) (s := szRc r) (by omega)).1
  have HM := hid (rcSmall_of HSZ.out)
  have z1 := Q1.out.lt
  go_wp2_with (first | ((with_reducible show wpList _ _ _ (⟨some 16, Op.load 32 _, _, _, _, _⟩ :: _) _ _); refine wpList_load_mid rfl 32 _ rfl w.heap.size 0 rfl (rcC r A).toList _ (Holds.range (cs := (rcC r A).toList) Q1.out.cell) Try.underlying32 rfl Try.sz32 ?_))
  refine (toRc_any r A w1 0 w.heap.size (Nat.le_of_lt z1) HM.out (HC.out.below hB1 (Nat.le_refl _))).mono ?_
  rintro e w2 ⟨A1, m1, m2, m3, m4, m5, m6, rfl, hn1, ho1, hb2⟩
  have hB2 : Below w.heap.size w w2 := hB1.trans (hb2.mono hB1.size)
  have Q2 := hid (Q1.out.below hb2 z1)
  have z2 := hb2.size
  have HSP := hid (fallSpec_any r A1 w2 w1.heap.size w2.heap.size (Nat.le_refl _) HM.out HF.out ho1.isIn)
  have HIM := hid (fallImpl_any r)
  have HOF := hid (outF_fit HF.out)
  have HOS := hid (outF_small HM.out)
  have HOM := hid (outF_mark 1 r)
  have HRM := hid (mkRc_le 1 r)
  have cI : Hid (∀ (A : RcA) (w : World) (lo hi : Nat), hi ≤ w.heap.size → RcNew r A → RcIn w lo hi r A → Calls Try.prog 11 #[rcV r A] w fun e w' => ∃ p, e = .returned (rcV (outF r) p.A) ∧ RcAt w' (outF r) p ∧ (∀ k, rbs p (outF r) k → w.heap.size ≤ k) ∧ Below w.heap.size w w') := fun A w lo hi h1 h2 h3 => HIM.out A w lo hi h1 HM.out HF.out h2 h3
  clear HIM
  generalize outF r = O at *
  clear hn1 ho1 hb2 Q1
  go_wp2_with fail
  refine HSP.out.mono ?_
  rintro e w3 ⟨A2, rfl, hin2, hb3⟩
  have hB3 : Below w.heap.size w w3 := hB2.trans (hb3.mono hB2.size)
  have Q3 := hid (Q2.out.below hb3 Q2.out.lt)
  have I3 := hid hin2
  have z3 := hb3.size
  clear hin2 hb3 Q2 HSP hB2
  go_wp2_with (first | ((with_reducible show wpList _ _ _ (⟨none, Op.store 40 _ _, _, _, _, _⟩ :: _) _ _); refine wpList_store_box rfl 40 _ _ rfl w3.heap.size (rcC O A2).toList rfl rfl (Bx.new w3 (rcL 0 0 false).toArray 40) rfl Try.sz40 (by simp [Value.oneCell']) ?_; intro V1 hr hfr hsv; have BV1 := hid hr; have DV1 : Below w3.heap.size w3 V1 := (below_alloc w3 _).trans (hfr.below (B := w3.heap.size) (Nat.le_refl _) (by simp)); have LV1 : w3.heap.size < V1.heap.size := hr.lt; clear hr hfr hsv; have Q4 := hid (Q3.out.below DV1 Q3.out.lt); have hB4 := hB3.trans (DV1.mono hB3.size); have I4 := hid (I3.out.below DV1 (Nat.le_refl _)); clear Q3 I3) | ((with_reducible show wpList _ _ _ (⟨some 19, Op.load 32 _, _, _, _, _⟩ :: _) _ _); refine wpList_load_mid rfl 32 _ rfl w.heap.size 0 rfl (rcC r A).toList _ (Holds.range (cs := (rcC r A).toList) Q4.out.cell) Try.underlying32 rfl Try.sz32 ?_))
  refine (toRc_any r A V1 0 w.heap.size hB4.size HM.out (HC.out.below hB4 (Nat.le_refl _))).mono ?_
  rintro e w4 ⟨A3, n1, n2, n3, n4, n5, n6, rfl, hn3, ho3, hb4⟩
  have hB5 : Below w.heap.size w w4 := hB4.trans (hb4.mono hB4.size)
  have Q5 := hid (Q4.out.below hb4 Q4.out.lt)
  have B6 := hid (BV1.out.below hb4 LV1)
  have I5 := hid (I4.out.below hb4 (Nat.le_of_lt LV1))
  have z4 := hb4.size
  have HN3 := hid hn3
  obtain ⟨p3, hp3, hat3, hge3⟩ := ho3.at
  subst hp3
  have X5 := hid hat3
  have G5 := hid hge3
  clear hn3 ho3 hat3 hge3 hb4 Q4 BV1 I4 hB3 DV1
  go_wp2_with (first | ((with_reducible show wpList _ _ _ (⟨none, Op.store 40 _ _, _, _, _, _⟩ :: _) _ _); refine wpList_store_box rfl 40 _ _ rfl w4.heap.size (rcC r p3.A).toList rfl rfl (Bx.new w4 (rcL 0 0 false).toArray 40) rfl Try.sz40 (by simp [Value.oneCell']) ?_; intro V2 hr hfr hsv; have BV2 := hid hr; have DV2 : Below w4.heap.size w4 V2 := (below_alloc w4 _).trans (hfr.below (B := w4.heap.size) (Nat.le_refl _) (by simp)); have LV2 : w4.heap.size < V2.heap.size := hr.lt; clear hr hfr hsv; have Q6 := hid (Q5.out.below DV2 Q5.out.lt); have hB6 := hB5.trans (DV2.mono hB5.size); have I6 := hid (I5.out.below DV2 (by omega)); have B7 := hid (B6.out.below DV2 B6.out.lt); have X6 := hid (X5.out.grow DV2); have HLT3 := hid X5.out.lt; clear Q5 I5 B6 X5) | ((with_reducible show wpList _ _ _ (⟨some 21, Op.load 40 _, _, _, _, _⟩ :: _) _ _); refine wpList_load_mid rfl 40 _ rfl w4.heap.size 0 rfl (rcC r p3.A).toList _ (Holds.range (cs := (rcC r p3.A).toList) BV2.out.cell) Try.underlying40 rfl Try.sz40 ?_))
  refine (cI.out p3.A V2 0 w4.heap.size (Nat.le_of_lt LV2) HN3.out (X6.out.isIn (fun k hk => ⟨Nat.zero_le _, HLT3.out k hk⟩))).mono ?_
  rintro e w5 ⟨p5, rfl, hat5, hge5, hb5⟩
  have hB7 : Below w.heap.size w w5 := hB6.trans (hb5.mono hB6.size)
  have Q7 := hid (Q6.out.below hb5 Q6.out.lt)
  have I7 := hid (I6.out.below hb5 (by omega))
  have B8 := hid (B7.out.below hb5 B7.out.lt)
  have X7 := hid (X6.out.grow hb5)
  have B9 := hid (BV2.out.below hb5 LV2)
  have G7 := hid hat5
  have GE7 := hid hge5
  have z5 := hb5.size
  clear hat5 hge5 hb5 Q6 I6 B7 X6 BV2 hB4 hB5 hB6 DV2
  go_wp2_with (first | ((with_reducible show wpList _ _ _ (⟨none, Op.store 40 _ _, _, _, _, _⟩ :: _) _ _); refine wpList_store_box rfl 40 _ _ rfl w5.heap.size (rcC O p5.A).toList rfl rfl (Bx.new w5 (rcL 0 0 false).toArray 40) rfl Try.sz40 (by simp [Value.oneCell']) ?_; intro V3 hr hfr hsv; have BV3 := hid hr; have DV3 : Below w5.heap.size w5 V3 := (below_alloc w5 _).trans (hfr.below (B := w5.heap.size) (Nat.le_refl _) (by simp)); have LV3 : w5.heap.size < V3.heap.size := hr.lt; clear hr hfr hsv; have hB8 := hB7.trans (DV3.mono hB7.size); have LT5 := hid G7.out.lt; have WS0 : Hid (WS V3 w.heap.size w3.heap.size w4.heap.size w5.heap.size r A O A2 r p3 O p5) := ⟨Q7.out.below DV3 Q7.out.lt, HC.out.below hB8 (Nat.le_refl _), B8.out.below DV3 B8.out.lt, (I7.out.below DV3 (by omega)).mono (by omega) (Nat.le_refl _), B9.out.below DV3 B9.out.lt, X7.out.grow DV3, (fun k hk => ⟨by have := G5.out k hk; omega, HLT3.out k hk⟩), BV3.out, G7.out.grow DV3, (fun k hk => ⟨by have := GE7.out k hk; omega, LT5.out k hk⟩), by omega, by omega, by omega, LV3⟩; clear Q7 I7 B8 X7 B9 G7 G5 GE7) | ((with_reducible show wpList _ _ _ (⟨some 23, Op.load 40 _, _, _, _, _⟩ :: _) _ _); refine wpList_load_mid rfl 40 _ rfl w5.heap.size 0 rfl (rcC O p5.A).toList _ (Holds.range (cs := (rcC O p5.A).toList) WS0.out.v8.cell) Try.underlying40 rfl Try.sz40 ?_) | ((with_reducible show wpList _ _ _ (⟨some 24, Op.load 40 _, _, _, _, _⟩ :: _) _ _); refine wpList_load_mid rfl 40 _ rfl w3.heap.size 0 rfl (rcC O A2).toList _ (Holds.range (cs := (rcC O A2).toList) WS0.out.v6.cell) Try.underlying40 rfl Try.sz40 ?_))
  refine (eqRc_any O p5.A A2 V3 (w4.heap.size + 1) w5.heap.size (w.heap.size + 1) w3.heap.size (by omega) (by omega) HOF.out WS0.out.g8 WS0.out.i6).mono ?_
  rintro e w6 ⟨rfl, hb6⟩
  have WS1 := hid (WS0.out.below hb6)
  have hB9 : Below w.heap.size w w6 := hB8.trans (hb6.mono hB8.size)
  have z6 := hb6.size
  clear hb6 WS0 BV3 DV3 LT5 hB7 hB8 HN3 HLT3
  go_wp2
  refine fallReg10 _ _ _ _ _ _ _ _ _ _ _ _ _ _ _ _ _ _ _ _ _ _ _ _ _ _ _ _ _ _ _ _ _ _ _ _ _ _ _ _ _ _ _ _ _ _ _ _ _ _ _ _ _ _ _ _ _ _ _ _ _ _ w.heap.size w4.heap.size r A p3.A HF.out HM.out w6 (Holds.range (cs := (rcC r p3.A).toList) WS1.out.v7.cell) (Holds.range (cs := (rcC r A).toList) WS1.out.bx.cell) (WS1.out.x7.mono (Nat.zero_le _) (by omega)) WS1.out.arg WS1.out.bx.lt WS1.out.v7.lt _ ?_
  intro u0 u1 u2 u3 w7 hb7
  have WS2 := hid (WS1.out.below hb7)
  have hB10 : Below w.heap.size w w7 := hB9.trans (hb7.mono hB9.size)
  clear hb7 WS1 hB9
  go_wp2_with (first | ((with_reducible show wpList _ _ _ (⟨some 32, Op.load 40 _, _, _, _, _⟩ :: _) _ _); refine wpList_load_mid rfl 40 _ rfl w4.heap.size 0 rfl (rcC r p3.A).toList _ (Holds.range (cs := (rcC r p3.A).toList) WS2.out.v7.cell) Try.underlying40 rfl Try.sz40 ?_))
  refine (markRc_any r p3 1 w7 HM.out (Nat.le_refl _) (by have := HRM.out; have := HSZ.out; omega) WS2.out.a7).mono ?_
  rintro e w8 ⟨rfl, hx8, hf8⟩
  have WS3 := hid (WS2.out.markX 1 hx8 hf8)
  have hB11 : Below w.heap.size w w8 := hB10.trans (WS2.out.lowX hf8)
  have hkm : ¬ ((mkRc 1 r : Nat) : Int) < 0 := by omega
  generalize mkRc 1 r = km at *
  clear hx8 hf8 WS2 hB10
  go_wp2_with (first | ((with_reducible show wpList _ _ _ (⟨some 38, Op.load 40 _, _, _, _, _⟩ :: _) _ _); refine wpList_load_want ?hw 40 _ rfl w5.heap.size 0 rfl (rcC O p5.A).toList _ (Holds.range (cs := (rcC O p5.A).toList) WS3.out.v8.cell) Try.underlying40 rfl Try.sz40 ?_; (case hw => (go_simp; done))) | ((with_reducible show wpList _ _ _ (⟨some 39, Op.load 40 _, _, _, _, _⟩ :: _) _ _); refine wpList_load_want ?hw 40 _ rfl w3.heap.size 0 rfl (rcC O A2).toList _ (Holds.range (cs := (rcC O A2).toList) WS3.out.v6.cell) Try.underlying40 rfl Try.sz40 ?_; (case hw => (go_simp; done))) | (go_at_call 12; refine (eqRc_any O p5.A A2 w8 (w4.heap.size + 1) w5.heap.size (w.heap.size + 1) w3.heap.size (Nat.le_of_lt WS3.out.v8.lt) (Nat.le_of_lt WS3.out.v6.lt) HOF.out WS3.out.g8 WS3.out.i6).mono ?_; rintro e w9 ⟨rfl, hb9⟩; have WS4 := hid (WS3.out.below hb9); have hB12 : Below w.heap.size w w9 := hB11.trans (hb9.mono hB11.size); clear hb9 WS3 hB11) | ((with_reducible show wpList _ _ _ (⟨some 43, Op.load 40 _, _, _, _, _⟩ :: _) _ _); refine wpList_load_mid rfl 40 _ rfl w5.heap.size 0 rfl (rcC O p5.A).toList _ (Holds.range (cs := (rcC O p5.A).toList) WS4.out.v8.cell) Try.underlying40 rfl Try.sz40 ?_))
  refine (markRc_any O p5 1 w9 HOS.out (Nat.le_refl _) (by have := HOM.out; have := HSZ.out; omega) WS4.out.a8).mono ?_
  rintro e w10 ⟨rfl, hx10, hf10⟩
  have WS5 := hid (WS4.out.markG 1 hx10 hf10)
  have hB13 : Below w.heap.size w w10 := hB12.trans (WS4.out.lowG hf10)
  have HMB : Hid (mkRc 1 O ≤ 1073741824) := by have := HOM.out; have := HSZ.out; exact (by omega : mkRc 1 O ≤ 1073741824)
  have hkm2 : ¬ ((mkRc 1 O : Nat) : Int) < 0 := by omega
  clear hx10 hf10 WS4 hB12
  go_wp2_with (first | ((with_reducible show wpList _ _ _ (⟨some 46, Op.load 40 _, _, _, _, _⟩ :: _) _ _); refine wpList_load_mid rfl 40 _ rfl w5.heap.size 0 rfl (rcC O p5.A).toList _ (Holds.range (cs := (rcC O p5.A).toList) WS5.out.v8.cell) Try.underlying40 rfl Try.sz40 ?_))
  refine (heldRc_any O p5 1 w10 HOS.out (Nat.le_refl _) HMB.out WS5.out.a8).mono ?_
  rintro e w11 ⟨rfl, hb11⟩
  have WS6 := hid (WS5.out.below hb11)
  have hB14 : Below w.heap.size w w11 := hB13.trans (hb11.mono hB13.size)
  clear hb11 WS5 hB13
  go_wp2_with (first | ((with_reducible show wpList _ _ _ (⟨some 54, Op.load 32 _, _, _, _, _⟩ :: _) _ _); refine wpList_load_mid rfl 32 _ rfl w.heap.size 0 rfl (rcC r A).toList _ (Holds.range (cs := (rcC r A).toList) WS6.out.bx.cell) Try.underlying32 rfl Try.sz32 ?_))
  refine (toRc_any r A w11 0 w.heap.size hB14.size HM.out WS6.out.arg).mono ?_
  rintro e w12 ⟨A6, o1, o2, o3, o4, o5, o6, rfl, hn6, ho6, hb12⟩
  have WS7 := hid (WS6.out.below hb12)
  have hB15 : Below w.heap.size w w12 := hB14.trans (hb12.mono hB14.size)
  have HCI := hid (cI.out A6 w12 w11.heap.size w12.heap.size (Nat.le_refl _) hn6 ho6.isIn)
  clear hb12 WS6 hB14 hn6 ho6
  go_wp2_with fail
  refine HCI.out.mono ?_
  rintro e w13 ⟨p7, rfl, hat7, hge7, hb13⟩
  have WS8 := hid (WS7.out.below hb13)
  have hB16 : Below w.heap.size w w13 := hB15.trans (hb13.mono hB15.size)
  have G8 := hid hat7
  clear hb13 WS7 hB15 hat7 hge7 HCI
  go_wp2_with (first | ((with_reducible show wpList _ _ _ (⟨none, Op.store 40 _ _, _, _, _, _⟩ :: _) _ _); refine wpList_store_box rfl 40 _ _ rfl w13.heap.size (rcC O p7.A).toList rfl rfl (Bx.new w13 (rcL 0 0 false).toArray 40) rfl Try.sz40 (by simp [Value.oneCell']) ?_; intro V4 hr hfr hsv; have BV4 := hid hr; have DV4 : Below w13.heap.size w13 V4 := (below_alloc w13 _).trans (hfr.below (B := w13.heap.size) (Nat.le_refl _) (by simp)); have LV4 : w13.heap.size < V4.heap.size := hr.lt; clear hr hfr hsv; have WS9 := hid (WS8.out.below DV4); have hB17 := hB16.trans (DV4.mono hB16.size); have G9 := hid (G8.out.grow DV4); have LT7 := hid G8.out.lt; clear WS8 G8) | ((with_reducible show wpList _ _ _ (⟨some 57, Op.load 40 _, _, _, _, _⟩ :: _) _ _); refine wpList_load_mid rfl 40 _ rfl w13.heap.size 0 rfl (rcC O p7.A).toList _ (Holds.range (cs := (rcC O p7.A).toList) BV4.out.cell) Try.underlying40 rfl Try.sz40 ?_) | ((with_reducible show wpList _ _ _ (⟨some 58, Op.load 40 _, _, _, _, _⟩ :: _) _ _); refine wpList_load_mid rfl 40 _ rfl w3.heap.size 0 rfl (rcC O A2).toList _ (Holds.range (cs := (rcC O A2).toList) WS9.out.v6.cell) Try.underlying40 rfl Try.sz40 ?_))
  refine (eqRc_any O p7.A A2 V4 0 w13.heap.size (w.heap.size + 1) w3.heap.size (Nat.le_of_lt LV4) (Nat.le_of_lt WS9.out.v6.lt) HOF.out (G9.out.isIn (fun k hk => ⟨Nat.zero_le _, LT7.out k hk⟩)) WS9.out.i6).mono ?_
  rintro e w14 ⟨rfl, hb14⟩
  have WS10 := hid (WS9.out.below hb14)
  have hB18 : Below w.heap.size w w14 := hB17.trans (hb14.mono hB17.size)
  clear hb14 WS9 hB16 hB17 G9 LT7 BV4 DV4
  go_wp2_with (first | ((with_reducible show wpList _ _ _ (⟨some 61, Op.load 40 _, _, _, _, _⟩ :: _) _ _); refine wpList_load_mid rfl 40 _ rfl w5.heap.size 0 rfl (rcC O p5.A).toList _ (Holds.range (cs := (rcC O p5.A).toList) WS10.out.v8.cell) Try.underlying40 rfl Try.sz40 ?_))
  refine (heldRc_any O p5 1 w14 HOS.out (Nat.le_refl _) HMB.out WS10.out.a8).mono ?_
  rintro e w15 ⟨rfl, hb15⟩
  have hB19 : Below w.heap.size w w15 := hB18.trans (hb15.mono hB18.size)
  clear hb15 WS10 hB18
  go_wp2
  go_ret
  exact ⟨rfl, hB19⟩
set_option maxRecDepth 100000 in
set_option maxHeartbeats 8000000 in
theorem riseReg10 (p0 p2 p3 p4 p6 p7 p8 p9 p10 p11 p12 p13 p14 p15 p16 p17 p18 p19 p20 p21 p22 p23 p24 p25 p26 p32 p33 p34 p35 p36 p37 p38 p39 p40 p41 p42 p43 p44 p45 p46 p47 p48 p49 p50 p51 p52 p53 p54 p55 p56 p57 p58 p59 p60 p61 p62 p63 p64 p65 p66 p67 p68 : Value) (s0 b5 : Nat) (r : Rc) (A A5 : RcA) (hf : RcFit r) (hm : RcSmall r) (W : World) (hv : W.rangeAt b5 0 (rcC r A5).toList) (hbx : W.rangeAt s0 0 (rcC r A).toList) (hat : RcIn W 0 W.heap.size r A5) (hin : RcIn W 0 s0 r A) (hs : s0 < W.heap.size) (zb : b5 < W.heap.size) (Q : Exit → Act → World → Prop)
    (hQ : ∀ u0 u1 u2 u3 X, Below W.heap.size W X → Q .normal ⟨#[p0, .pointer (some ⟨s0, 0, none⟩), p2, p3, p4, .pointer (some ⟨b5, 0, none⟩), p6, p7, p8, p9, p10, p11, p12, p13, p14, p15, p16, p17, p18, p19, p20, p21, p22, p23, p24, p25, p26, u0, u1, u2, u3, .bool false, p32, p33, p34, p35, p36, p37, p38, p39, p40, p41, p42, p43, p44, p45, p46, p47, p48, p49, p50, p51, p52, p53, p54, p55, p56, p57, p58, p59, p60, p61, p62, p63, p64, p65, p66, p67, p68], []⟩ X) :
    Code.wp Try.prog (Code.region 10 #[{ dst := some 27, op := Op.load 40 (Operand.tmp 5), type := 40, pos := "exact.go:3013", after := #[], guard := none }, { dst := some 28, op := Op.load 32 (Operand.tmp 1), type := 32, pos := "exact.go:3013", after := #[], guard := none }, { dst := some 29, op := Op.call { callee := Callee.value (Operand.func 10), args := #[Operand.tmp 28], argTypes := #[32] }, type := 40, pos := "exact.go:3013", after := #[{ on := 1, ground := Ground.data }], guard := none }, { dst := some 30, op := Op.call { callee := Callee.value (Operand.func 12), args := #[Operand.tmp 27, Operand.tmp 29], argTypes := #[40, 40] }, type := 4, pos := "exact.go:3013", after := #[{ on := 0, ground := Ground.data }, { on := 2, ground := Ground.data }, { on := 2, ground := Ground.chain }], guard := none }, { dst := some 31, op := Op.unOp UnOp.not 4 (Operand.tmp 30), type := 4, pos := "exact.go:3013", after := #[{ on := 3, ground := Ground.data }], guard := none }] true) Q ⟨#[p0, .pointer (some ⟨s0, 0, none⟩), p2, p3, p4, .pointer (some ⟨b5, 0, none⟩), p6, p7, p8, p9, p10, p11, p12, p13, p14, p15, p16, p17, p18, p19, p20, p21, p22, p23, p24, p25, p26, undef, undef, undef, undef, undef, p32, p33, p34, p35, p36, p37, p38, p39, p40, p41, p42, p43, p44, p45, p46, p47, p48, p49, p50, p51, p52, p53, p54, p55, p56, p57, p58, p59, p60, p61, p62, p63, p64, p65, p66, p67, p68], []⟩ W := by
  refine region5 (by kernel_rfl) (fun t : Nat → Value => #[p0, .pointer (some ⟨s0, 0, none⟩), p2, p3, p4, .pointer (some ⟨b5, 0, none⟩), p6, p7, p8, p9, p10, p11, p12, p13, p14, p15, p16, p17, p18, p19, p20, p21, p22, p23, p24, p25, p26, t 0, t 1, t 2, t 3, t 4, p32, p33, p34, p35, p36, p37, p38, p39, p40, p41, p42, p43, p44, p45, p46, p47, p48, p49, p50, p51, p52, p53, p54, p55, p56, p57, p58, p59, p60, p61, p62, p63, p64, p65, p66, p67, p68]) (rcV r A5) (rcV r A) (fun v X => ∃ A', v = rcV r A' ∧ RcIn X 0 X.heap.size r A') rfl (by kernel_rfl) ?hd ?st2 rfl ?s0 ?s1 ?s2 ?s3 ?s4 ?hfin
  case hd =>
    intro l i hr
    obtain ⟨_, o, ho, hdep⟩ := mem_ready.1 hr
    refine ⟨fun e => ?_, fun e => ?_, fun e => ?_⟩ <;> subst e <;> simp only [List.getElem?_toArray, List.getElem?_cons_succ, List.getElem?_cons_zero, Option.some.injEq] at ho <;> subst ho
    · exact hdep ⟨1, .data⟩ (by simp) rfl
    · exact ⟨hdep ⟨0, .data⟩ (by simp) rfl, hdep ⟨2, .data⟩ (by simp) rfl⟩
    · exact hdep ⟨3, .data⟩ (by simp) rfl
  case st2 =>
    rintro v X Y ⟨A', rfl, h⟩ hb
    exact ⟨A', rfl, (h.below hb (Nat.le_refl _)).mono (Nat.le_refl _) hb.size⟩
  case s0 =>
    intro t X K hb hK
    exact wpOp_load rfl rfl 40 _ rfl b5 rfl (rcC r A5).toList _ (World.rangeAt_below hv hb zb) Try.underlying40 rfl Try.sz40 hK
  case s1 =>
    intro t X K hb hK
    exact wpOp_load rfl rfl 32 _ rfl s0 rfl (rcC r A).toList _ (World.rangeAt_below hbx hb hs) Try.underlying32 rfl Try.sz32 hK
  case s2 =>
    intro t X K hb e1 hK
    refine wpOp_of rfl rfl ?_
    have HK := hid hK
    clear hK
    go_simp
    go_at_call 10
    refine (toRc_any r A X 0 s0 (by have := hb.size; omega) hm (hin.below hb (by omega))).mono ?_
    rintro e Y ⟨A', m1, m2, m3, m4, m5, m6, rfl, hn', ho', hbY⟩
    have h := HK.out _ Y ⟨A', rfl, ho'.isIn.mono (Nat.zero_le _) (Nat.le_refl _)⟩ hbY
    simpa [updT, e1] using h
  case s3 =>
    intro t X K hb e0 h2 hK
    obtain ⟨A', e2, i2⟩ := h2
    refine wpOp_of rfl rfl ?_
    have HK := hid hK
    have HI2 := hid i2
    clear hK i2
    go_simp
    go_at_call 12
    refine (eqRc_any r A5 A' X 0 X.heap.size 0 X.heap.size (Nat.le_refl _) (Nat.le_refl _) hf ((hat.below hb (Nat.le_refl _)).mono (Nat.le_refl _) hb.size) HI2.out).mono ?_
    rintro e Y ⟨rfl, hbY⟩
    have h := HK.out Y hbY
    simpa [updT, e0, e2] using h
  case s4 =>
    intro t X K e3 hK
    refine wpOp_of rfl rfl ?_
    go_simp
    simpa [updT, e3] using hK
  case hfin =>
    intro t X e4 hb
    have h := hQ (t 0) (t 1) (t 2) (t 3) X hb
    rw [← e4] at h
    exact h
set_option maxRecDepth 100000 in
set_option maxHeartbeats 8000000 in
theorem rise_law (r : Rc) (A : RcA) (w : World) (hf : RcFit r) (hc : RcIn w 0 w.heap.size r A) :
    Calls Try.prog 5 #[rcV r A] w fun e w' => e = .returned (.bool true) ∧ Below w.heap.size w w' := by
  have HF := hid hf
  have HC := hid hc
  clear hf hc
  have mark : Nat := 0
  go_enter Try.func5, Try.ntmps5
  go_wp2_with (first | ((with_reducible show wpList _ _ _ (⟨some 11, _, _, _, _, _⟩ :: _) _ _); clear mark; have Q0 := hid (Bx.new w (rcC r A) 32); have hB0 := below_alloc w (.cells (rcC r A) 32); (generalize w.alloc (.cells (rcC r A) 32) = W at *)) | ((with_reducible show wpList _ _ _ (⟨some 11, Op.load 32 _, _, _, _, _⟩ :: _) _ _); refine wpList_load_mid rfl 32 _ rfl w.heap.size 0 rfl (rcC r A).toList _ (Holds.range (cs := (rcC r A).toList) Q0.out.cell) Try.underlying32 rfl Try.sz32 ?_))
  refine (szRc_any r A 1048576 W (by omega) (by omega) 0 w.heap.size hB0.size HF.out (HC.out.below hB0 (Nat.le_refl _))).mono ?_
  rintro e w1 ⟨rfl, hb1⟩
  have hB1 : Below w.heap.size w w1 := hB0.trans (hb1.mono hB0.size)
  have Q1 := hid (Q0.out.below hb1 Q0.out.lt)
  clear hb1 Q0 hB0
  by_cases hsz : szOut 1048576 (szRc r) < 0
  · clear Q1
    go_wp2
    go_ret
    exact ⟨rfl, hB1⟩
  have HSZ := hid (szOut_ge (l := 1048576) (s := szRc r) (by omega)).1
  have HM := hid (rcSmall_of HSZ.out)
  have z1 := Q1.out.lt
  go_wp2_with (first | ((with_reducible show wpList _ _ _ (⟨some 16, Op.load 32 _, _, _, _, _⟩ :: _) _ _); refine wpList_load_mid rfl 32 _ rfl w.heap.size 0 rfl (rcC r A).toList _ (Holds.range (cs := (rcC r A).toList) Q1.out.cell) Try.underlying32 rfl Try.sz32 ?_))
  refine (toRc_any r A w1 0 w.heap.size (Nat.le_of_lt z1) HM.out (HC.out.below hB1 (Nat.le_refl _))).mono ?_
  rintro e w2 ⟨A1, m1, m2, m3, m4, m5, m6, rfl, hn1, ho1, hb2⟩
  have hB2 : Below w.heap.size w w2 := hB1.trans (hb2.mono hB1.size)
  have Q2 := hid (Q1.out.below hb2 z1)
  have z2 := hb2.size
  have HSP := hid (riseSpec_any r A1 w2 w1.heap.size w2.heap.size (Nat.le_refl _) HM.out HF.out ho1.isIn)
  have HIM := hid (riseImpl_any r)
  have HOF := hid (outU_fit HF.out)
  have HOS := hid (outU_small HM.out)
  have HOM := hid (outU_mark 1 r)
  have HRM := hid (mkRc_le 1 r)
  have cI : Hid (∀ (A : RcA) (w : World) (lo hi : Nat), hi ≤ w.heap.size → RcNew r A → RcIn w lo hi r A → Calls Try.prog 16 #[rcV r A] w fun e w' => ∃ p, e = .returned (rcV (outU r) p.A) ∧ RcAt w' (outU r) p ∧ (∀ k, rbs p (outU r) k → w.heap.size ≤ k) ∧ Below w.heap.size w w') := fun A w lo hi h1 h2 h3 => HIM.out A w lo hi h1 HM.out HF.out h2 h3
  clear HIM
  generalize outU r = O at *
  clear hn1 ho1 hb2 Q1
  go_wp2_with fail
  refine HSP.out.mono ?_
  rintro e w3 ⟨A2, rfl, hin2, hb3⟩
  have hB3 : Below w.heap.size w w3 := hB2.trans (hb3.mono hB2.size)
  have Q3 := hid (Q2.out.below hb3 Q2.out.lt)
  have I3 := hid hin2
  have z3 := hb3.size
  clear hin2 hb3 Q2 HSP hB2
  go_wp2_with (first | ((with_reducible show wpList _ _ _ (⟨none, Op.store 40 _ _, _, _, _, _⟩ :: _) _ _); refine wpList_store_box rfl 40 _ _ rfl w3.heap.size (rcC O A2).toList rfl rfl (Bx.new w3 (rcL 0 0 false).toArray 40) rfl Try.sz40 (by simp [Value.oneCell']) ?_; intro V1 hr hfr hsv; have BV1 := hid hr; have DV1 : Below w3.heap.size w3 V1 := (below_alloc w3 _).trans (hfr.below (B := w3.heap.size) (Nat.le_refl _) (by simp)); have LV1 : w3.heap.size < V1.heap.size := hr.lt; clear hr hfr hsv; have Q4 := hid (Q3.out.below DV1 Q3.out.lt); have hB4 := hB3.trans (DV1.mono hB3.size); have I4 := hid (I3.out.below DV1 (Nat.le_refl _)); clear Q3 I3) | ((with_reducible show wpList _ _ _ (⟨some 19, Op.load 32 _, _, _, _, _⟩ :: _) _ _); refine wpList_load_mid rfl 32 _ rfl w.heap.size 0 rfl (rcC r A).toList _ (Holds.range (cs := (rcC r A).toList) Q4.out.cell) Try.underlying32 rfl Try.sz32 ?_))
  refine (toRc_any r A V1 0 w.heap.size hB4.size HM.out (HC.out.below hB4 (Nat.le_refl _))).mono ?_
  rintro e w4 ⟨A3, n1, n2, n3, n4, n5, n6, rfl, hn3, ho3, hb4⟩
  have hB5 : Below w.heap.size w w4 := hB4.trans (hb4.mono hB4.size)
  have Q5 := hid (Q4.out.below hb4 Q4.out.lt)
  have B6 := hid (BV1.out.below hb4 LV1)
  have I5 := hid (I4.out.below hb4 (Nat.le_of_lt LV1))
  have z4 := hb4.size
  have HN3 := hid hn3
  obtain ⟨p3, hp3, hat3, hge3⟩ := ho3.at
  subst hp3
  have X5 := hid hat3
  have G5 := hid hge3
  clear hn3 ho3 hat3 hge3 hb4 Q4 BV1 I4 hB3 DV1
  go_wp2_with (first | ((with_reducible show wpList _ _ _ (⟨none, Op.store 40 _ _, _, _, _, _⟩ :: _) _ _); refine wpList_store_box rfl 40 _ _ rfl w4.heap.size (rcC r p3.A).toList rfl rfl (Bx.new w4 (rcL 0 0 false).toArray 40) rfl Try.sz40 (by simp [Value.oneCell']) ?_; intro V2 hr hfr hsv; have BV2 := hid hr; have DV2 : Below w4.heap.size w4 V2 := (below_alloc w4 _).trans (hfr.below (B := w4.heap.size) (Nat.le_refl _) (by simp)); have LV2 : w4.heap.size < V2.heap.size := hr.lt; clear hr hfr hsv; have Q6 := hid (Q5.out.below DV2 Q5.out.lt); have hB6 := hB5.trans (DV2.mono hB5.size); have I6 := hid (I5.out.below DV2 (by omega)); have B7 := hid (B6.out.below DV2 B6.out.lt); have X6 := hid (X5.out.grow DV2); have HLT3 := hid X5.out.lt; clear Q5 I5 B6 X5) | ((with_reducible show wpList _ _ _ (⟨some 21, Op.load 40 _, _, _, _, _⟩ :: _) _ _); refine wpList_load_mid rfl 40 _ rfl w4.heap.size 0 rfl (rcC r p3.A).toList _ (Holds.range (cs := (rcC r p3.A).toList) BV2.out.cell) Try.underlying40 rfl Try.sz40 ?_))
  refine (cI.out p3.A V2 0 w4.heap.size (Nat.le_of_lt LV2) HN3.out (X6.out.isIn (fun k hk => ⟨Nat.zero_le _, HLT3.out k hk⟩))).mono ?_
  rintro e w5 ⟨p5, rfl, hat5, hge5, hb5⟩
  have hB7 : Below w.heap.size w w5 := hB6.trans (hb5.mono hB6.size)
  have Q7 := hid (Q6.out.below hb5 Q6.out.lt)
  have I7 := hid (I6.out.below hb5 (by omega))
  have B8 := hid (B7.out.below hb5 B7.out.lt)
  have X7 := hid (X6.out.grow hb5)
  have B9 := hid (BV2.out.below hb5 LV2)
  have G7 := hid hat5
  have GE7 := hid hge5
  have z5 := hb5.size
  clear hat5 hge5 hb5 Q6 I6 B7 X6 BV2 hB4 hB5 hB6 DV2
  go_wp2_with (first | ((with_reducible show wpList _ _ _ (⟨none, Op.store 40 _ _, _, _, _, _⟩ :: _) _ _); refine wpList_store_box rfl 40 _ _ rfl w5.heap.size (rcC O p5.A).toList rfl rfl (Bx.new w5 (rcL 0 0 false).toArray 40) rfl Try.sz40 (by simp [Value.oneCell']) ?_; intro V3 hr hfr hsv; have BV3 := hid hr; have DV3 : Below w5.heap.size w5 V3 := (below_alloc w5 _).trans (hfr.below (B := w5.heap.size) (Nat.le_refl _) (by simp)); have LV3 : w5.heap.size < V3.heap.size := hr.lt; clear hr hfr hsv; have hB8 := hB7.trans (DV3.mono hB7.size); have LT5 := hid G7.out.lt; have WS0 : Hid (WS V3 w.heap.size w3.heap.size w4.heap.size w5.heap.size r A O A2 r p3 O p5) := ⟨Q7.out.below DV3 Q7.out.lt, HC.out.below hB8 (Nat.le_refl _), B8.out.below DV3 B8.out.lt, (I7.out.below DV3 (by omega)).mono (by omega) (Nat.le_refl _), B9.out.below DV3 B9.out.lt, X7.out.grow DV3, (fun k hk => ⟨by have := G5.out k hk; omega, HLT3.out k hk⟩), BV3.out, G7.out.grow DV3, (fun k hk => ⟨by have := GE7.out k hk; omega, LT5.out k hk⟩), by omega, by omega, by omega, LV3⟩; clear Q7 I7 B8 X7 B9 G7 G5 GE7) | ((with_reducible show wpList _ _ _ (⟨some 23, Op.load 40 _, _, _, _, _⟩ :: _) _ _); refine wpList_load_mid rfl 40 _ rfl w5.heap.size 0 rfl (rcC O p5.A).toList _ (Holds.range (cs := (rcC O p5.A).toList) WS0.out.v8.cell) Try.underlying40 rfl Try.sz40 ?_) | ((with_reducible show wpList _ _ _ (⟨some 24, Op.load 40 _, _, _, _, _⟩ :: _) _ _); refine wpList_load_mid rfl 40 _ rfl w3.heap.size 0 rfl (rcC O A2).toList _ (Holds.range (cs := (rcC O A2).toList) WS0.out.v6.cell) Try.underlying40 rfl Try.sz40 ?_))
  refine (eqRc_any O p5.A A2 V3 (w4.heap.size + 1) w5.heap.size (w.heap.size + 1) w3.heap.size (by omega) (by omega) HOF.out WS0.out.g8 WS0.out.i6).mono ?_
  rintro e w6 ⟨rfl, hb6⟩
  have WS1 := hid (WS0.out.below hb6)
  have hB9 : Below w.heap.size w w6 := hB8.trans (hb6.mono hB8.size)
  have z6 := hb6.size
  clear hb6 WS0 BV3 DV3 LT5 hB7 hB8 HN3 HLT3
  go_wp2
  refine riseReg10 _ _ _ _ _ _ _ _ _ _ _ _ _ _ _ _ _ _ _ _ _ _ _ _ _ _ _ _ _ _ _ _ _ _ _ _ _ _ _ _ _ _ _ _ _ _ _ _ _ _ _ _ _ _ _ _ _ _ _ _ _ _ w.heap.size w4.heap.size r A p3.A HF.out HM.out w6 (Holds.range (cs := (rcC r p3.A).toList) WS1.out.v7.cell) (Holds.range (cs := (rcC r A).toList) WS1.out.bx.cell) (WS1.out.x7.mono (Nat.zero_le _) (by omega)) WS1.out.arg WS1.out.bx.lt WS1.out.v7.lt _ ?_
  intro u0 u1 u2 u3 w7 hb7
  have WS2 := hid (WS1.out.below hb7)
  have hB10 : Below w.heap.size w w7 := hB9.trans (hb7.mono hB9.size)
  clear hb7 WS1 hB9
  go_wp2_with (first | ((with_reducible show wpList _ _ _ (⟨some 32, Op.load 40 _, _, _, _, _⟩ :: _) _ _); refine wpList_load_mid rfl 40 _ rfl w4.heap.size 0 rfl (rcC r p3.A).toList _ (Holds.range (cs := (rcC r p3.A).toList) WS2.out.v7.cell) Try.underlying40 rfl Try.sz40 ?_))
  refine (markRc_any r p3 1 w7 HM.out (Nat.le_refl _) (by have := HRM.out; have := HSZ.out; omega) WS2.out.a7).mono ?_
  rintro e w8 ⟨rfl, hx8, hf8⟩
  have WS3 := hid (WS2.out.markX 1 hx8 hf8)
  have hB11 : Below w.heap.size w w8 := hB10.trans (WS2.out.lowX hf8)
  have hkm : ¬ ((mkRc 1 r : Nat) : Int) < 0 := by omega
  generalize mkRc 1 r = km at *
  clear hx8 hf8 WS2 hB10
  go_wp2_with (first | ((with_reducible show wpList _ _ _ (⟨some 38, Op.load 40 _, _, _, _, _⟩ :: _) _ _); refine wpList_load_want ?hw 40 _ rfl w5.heap.size 0 rfl (rcC O p5.A).toList _ (Holds.range (cs := (rcC O p5.A).toList) WS3.out.v8.cell) Try.underlying40 rfl Try.sz40 ?_; (case hw => (go_simp; done))) | ((with_reducible show wpList _ _ _ (⟨some 39, Op.load 40 _, _, _, _, _⟩ :: _) _ _); refine wpList_load_want ?hw 40 _ rfl w3.heap.size 0 rfl (rcC O A2).toList _ (Holds.range (cs := (rcC O A2).toList) WS3.out.v6.cell) Try.underlying40 rfl Try.sz40 ?_; (case hw => (go_simp; done))) | (go_at_call 12; refine (eqRc_any O p5.A A2 w8 (w4.heap.size + 1) w5.heap.size (w.heap.size + 1) w3.heap.size (Nat.le_of_lt WS3.out.v8.lt) (Nat.le_of_lt WS3.out.v6.lt) HOF.out WS3.out.g8 WS3.out.i6).mono ?_; rintro e w9 ⟨rfl, hb9⟩; have WS4 := hid (WS3.out.below hb9); have hB12 : Below w.heap.size w w9 := hB11.trans (hb9.mono hB11.size); clear hb9 WS3 hB11) | ((with_reducible show wpList _ _ _ (⟨some 43, Op.load 40 _, _, _, _, _⟩ :: _) _ _); refine wpList_load_mid rfl 40 _ rfl w5.heap.size 0 rfl (rcC O p5.A).toList _ (Holds.range (cs := (rcC O p5.A).toList) WS4.out.v8.cell) Try.underlying40 rfl Try.sz40 ?_))
  refine (markRc_any O p5 1 w9 HOS.out (Nat.le_refl _) (by have := HOM.out; have := HSZ.out; omega) WS4.out.a8).mono ?_
  rintro e w10 ⟨rfl, hx10, hf10⟩
  have WS5 := hid (WS4.out.markG 1 hx10 hf10)
  have hB13 : Below w.heap.size w w10 := hB12.trans (WS4.out.lowG hf10)
  have HMB : Hid (mkRc 1 O ≤ 1073741824) := by have := HOM.out; have := HSZ.out; exact (by omega : mkRc 1 O ≤ 1073741824)
  have hkm2 : ¬ ((mkRc 1 O : Nat) : Int) < 0 := by omega
  clear hx10 hf10 WS4 hB12
  go_wp2_with (first | ((with_reducible show wpList _ _ _ (⟨some 46, Op.load 40 _, _, _, _, _⟩ :: _) _ _); refine wpList_load_mid rfl 40 _ rfl w5.heap.size 0 rfl (rcC O p5.A).toList _ (Holds.range (cs := (rcC O p5.A).toList) WS5.out.v8.cell) Try.underlying40 rfl Try.sz40 ?_))
  refine (heldRc_any O p5 1 w10 HOS.out (Nat.le_refl _) HMB.out WS5.out.a8).mono ?_
  rintro e w11 ⟨rfl, hb11⟩
  have WS6 := hid (WS5.out.below hb11)
  have hB14 : Below w.heap.size w w11 := hB13.trans (hb11.mono hB13.size)
  clear hb11 WS5 hB13
  go_wp2_with (first | ((with_reducible show wpList _ _ _ (⟨some 54, Op.load 32 _, _, _, _, _⟩ :: _) _ _); refine wpList_load_mid rfl 32 _ rfl w.heap.size 0 rfl (rcC r A).toList _ (Holds.range (cs := (rcC r A).toList) WS6.out.bx.cell) Try.underlying32 rfl Try.sz32 ?_))
  refine (toRc_any r A w11 0 w.heap.size hB14.size HM.out WS6.out.arg).mono ?_
  rintro e w12 ⟨A6, o1, o2, o3, o4, o5, o6, rfl, hn6, ho6, hb12⟩
  have WS7 := hid (WS6.out.below hb12)
  have hB15 : Below w.heap.size w w12 := hB14.trans (hb12.mono hB14.size)
  have HCI := hid (cI.out A6 w12 w11.heap.size w12.heap.size (Nat.le_refl _) hn6 ho6.isIn)
  clear hb12 WS6 hB14 hn6 ho6
  go_wp2_with fail
  refine HCI.out.mono ?_
  rintro e w13 ⟨p7, rfl, hat7, hge7, hb13⟩
  have WS8 := hid (WS7.out.below hb13)
  have hB16 : Below w.heap.size w w13 := hB15.trans (hb13.mono hB15.size)
  have G8 := hid hat7
  clear hb13 WS7 hB15 hat7 hge7 HCI
  go_wp2_with (first | ((with_reducible show wpList _ _ _ (⟨none, Op.store 40 _ _, _, _, _, _⟩ :: _) _ _); refine wpList_store_box rfl 40 _ _ rfl w13.heap.size (rcC O p7.A).toList rfl rfl (Bx.new w13 (rcL 0 0 false).toArray 40) rfl Try.sz40 (by simp [Value.oneCell']) ?_; intro V4 hr hfr hsv; have BV4 := hid hr; have DV4 : Below w13.heap.size w13 V4 := (below_alloc w13 _).trans (hfr.below (B := w13.heap.size) (Nat.le_refl _) (by simp)); have LV4 : w13.heap.size < V4.heap.size := hr.lt; clear hr hfr hsv; have WS9 := hid (WS8.out.below DV4); have hB17 := hB16.trans (DV4.mono hB16.size); have G9 := hid (G8.out.grow DV4); have LT7 := hid G8.out.lt; clear WS8 G8) | ((with_reducible show wpList _ _ _ (⟨some 57, Op.load 40 _, _, _, _, _⟩ :: _) _ _); refine wpList_load_mid rfl 40 _ rfl w13.heap.size 0 rfl (rcC O p7.A).toList _ (Holds.range (cs := (rcC O p7.A).toList) BV4.out.cell) Try.underlying40 rfl Try.sz40 ?_) | ((with_reducible show wpList _ _ _ (⟨some 58, Op.load 40 _, _, _, _, _⟩ :: _) _ _); refine wpList_load_mid rfl 40 _ rfl w3.heap.size 0 rfl (rcC O A2).toList _ (Holds.range (cs := (rcC O A2).toList) WS9.out.v6.cell) Try.underlying40 rfl Try.sz40 ?_))
  refine (eqRc_any O p7.A A2 V4 0 w13.heap.size (w.heap.size + 1) w3.heap.size (Nat.le_of_lt LV4) (Nat.le_of_lt WS9.out.v6.lt) HOF.out (G9.out.isIn (fun k hk => ⟨Nat.zero_le _, LT7.out k hk⟩)) WS9.out.i6).mono ?_
  rintro e w14 ⟨rfl, hb14⟩
  have WS10 := hid (WS9.out.below hb14)
  have hB18 : Below w.heap.size w w14 := hB17.trans (hb14.mono hB17.size)
  clear hb14 WS9 hB16 hB17 G9 LT7 BV4 DV4
  go_wp2_with (first | ((with_reducible show wpList _ _ _ (⟨some 61, Op.load 40 _, _, _, _, _⟩ :: _) _ _); refine wpList_load_mid rfl 40 _ rfl w5.heap.size 0 rfl (rcC O p5.A).toList _ (Holds.range (cs := (rcC O p5.A).toList) WS10.out.v8.cell) Try.underlying40 rfl Try.sz40 ?_))
  refine (heldRc_any O p5 1 w14 HOS.out (Nat.le_refl _) HMB.out WS10.out.a8).mono ?_
  rintro e w15 ⟨rfl, hb15⟩
  have hB19 : Below w.heap.size w w15 := hB18.trans (hb15.mono hB18.size)
  clear hb15 WS10 hB18
  go_wp2
  go_ret
  exact ⟨rfl, hB19⟩
end Go.Proofs.Ytokkbdlofbdljaa
