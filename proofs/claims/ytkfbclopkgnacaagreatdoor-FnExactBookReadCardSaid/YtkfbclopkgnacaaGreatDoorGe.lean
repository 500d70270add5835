import Derived.Test.YtkfbclopkgnacaaGreatDoorBm
import Derived.Test.YtkfbclopkgnacaaGreatDoorM
import Derived.Test.YtkfbclopkgnacaaGreatDoorK
import Derived.Test.YtkfbclopkgnacaaGreatDoorP
namespace Go.Proofs.YtkfbclopkgnacaaGreatDoor
open Go.RowKit
/-- w' is w but for the blocks of P, and for new blocks -/
structure FrP (P : Nat → Prop) (w w' : World) : Prop where
  os : w'.os = w.os
  tape : w'.tape = w.tape
  output : w'.output = w.output
  size : w.heap.size ≤ w'.heap.size
  block : ∀ k, k < w.heap.size → ¬ P k → w'.heap[k]? = w.heap[k]?
theorem FrP.refl (P : Nat → Prop) (w : World) : FrP P w w := ⟨rfl, rfl, rfl, Nat.le_refl _, fun _ _ _ => rfl⟩
theorem FrP.trans {P : Nat → Prop} {a b c : World} (h : FrP P a b) (k : FrP P b c) : FrP P a c :=
  ⟨k.os.trans h.os, k.tape.trans h.tape, k.output.trans h.output, Nat.le_trans h.size k.size, fun i hi ho => (k.block i (Nat.lt_of_lt_of_le hi h.size) ho).trans (h.block i hi ho)⟩
theorem FrP.of_below {P : Nat → Prop} {w w' : World} (h : Below w.heap.size w w') : FrP P w w' := ⟨h.os, h.tape, h.output, h.size, fun i hi _ => h.block i hi⟩
theorem FrP.mono {P Q : Nat → Prop} {w w' : World} (h : FrP P w w') (e : ∀ k, P k → Q k) : FrP Q w w' := ⟨h.os, h.tape, h.output, h.size, fun i hi hq => h.block i hi (fun hp => hq (e i hp))⟩
theorem FrP.setCell {P : Nat → Prop} {a w : World} (h : FrP P a w) {p : Addr} (hp : P p.block) (u : Value) : FrP P a (w.setCell p u) :=
  h.trans ⟨rfl, rfl, rfl, by simp [World.setCell], fun k _ ho => Below.heap_setCell _ _ _ _ (fun e => ho (e ▸ hp))⟩
theorem FrP.cell {P : Nat → Prop} {w w' : World} (h : FrP P w w') {p : Addr} (hp : p.block < w.heap.size) (ho : ¬ P p.block) : w'.cell? p = w.cell? p := World.cell?_of_block (w := w) (h.block p.block hp ho)
theorem FrP.frozen {P : Nat → Prop} {w w' : World} (h : FrP P w w') {p : Addr} (hp : p.block < w.heap.size) (ho : ¬ P p.block) : w'.frozen? p = w.frozen? p := World.frozen?_of_block (w := w) (h.block p.block hp ho)
theorem FrP.below {P : Nat → Prop} {w w' : World} (h : FrP P w w') {B : Nat} (hB : ∀ k, k < B → ¬ P k) (hs : B ≤ w.heap.size) : Below B w w' := ⟨h.os, h.tape, h.output, h.size, fun k hk => h.block k (by omega) (hB k hk)⟩
theorem FrP.of_fr {P : Nat → Prop} {lo hi : Nat} {w w' : World} (h : Fr lo hi w w') (e : ∀ k, lo ≤ k → k < hi → P k) : FrP P w w' := ⟨h.os, h.tape, h.output, h.size, fun k hk ho => h.block k hk (by
  rcases Nat.lt_or_ge k lo with h1 | h1
  · exact Or.inl h1
  · rcases Nat.lt_or_ge k hi with h2 | h2
    · exact absurd (e k h1 h2) ho
    · exact Or.inr h2)⟩
theorem FrP.link {P Q : Nat → Prop} {a b c : World} (h : FrP P a b) (_ : FrP Q b c) : FrP P a b := h
/-- the first m cells of block g, of which none is frozen -/
structure RowF (w : World) (g m : Nat) (c : Nat → Value) : Prop where
  lt : g < w.heap.size
  free : ∀ j, w.frozen? ⟨g, j, none⟩ = false
  cell : ∀ j, j < m → w.cell? ⟨g, j, none⟩ = some (c j)
def setF (c : Nat → Value) (o : Nat) (v : Value) : Nat → Value := fun j => if j = o then v else c j
theorem RowF.set {w : World} {g m : Nat} {c : Nat → Value} (h : RowF w g m c) {o : Nat} (ho : o < m) (v : Value) : RowF (w.setCell ⟨g, o, none⟩ v) g m (setF c o v) :=
  ⟨by rw [World.size_setCell]; exact h.lt, fun j => by rw [World.frozen?_setCell]; exact h.free j, fun j hj => by
    unfold setF
    by_cases e : j = o
    · subst e; rw [if_pos rfl]; exact World.cell?_setCell_same _ _ _ (h.cell j hj)
    · rw [if_neg e, World.cell?_setCell_other _ _ _ _ (fun q => e (by injection q with _ q2; exact q2.symm))]; exact h.cell j hj⟩
theorem RowF.below {w w' : World} {g m B : Nat} {c : Nat → Value} (h : RowF w g m c) (hb : Below B w w') (hB : g < B) : RowF w' g m c :=
  ⟨Nat.lt_of_lt_of_le h.lt hb.size, fun j => (hb.frozen (p := ⟨g, j, none⟩) hB).trans (h.free j), fun j hj => (hb.cell (p := ⟨g, j, none⟩) hB).trans (h.cell j hj)⟩
theorem RowF.fr {w w' : World} {g m : Nat} {c : Nat → Value} {P : Nat → Prop} (h : RowF w g m c) (hb : FrP P w w') (hg : ¬ P g) : RowF w' g m c :=
  ⟨Nat.lt_of_lt_of_le h.lt hb.size, fun j => (hb.frozen (p := ⟨g, j, none⟩) h.lt hg).trans (h.free j), fun j hj => (hb.cell (p := ⟨g, j, none⟩) h.lt hg).trans (h.cell j hj)⟩
theorem StrsOwn.frP {w w' : World} {b : Nat} {ad : Option Addr} {n : Nat} {s : Nat → ByteArray} {P : Nat → Prop} (h : StrsOwn w b (b + 1) ad n s) (hb : FrP P w w') (hn : n ≠ 0 → ¬ P b ∧ b < w.heap.size) : StrsOwn w' b (b + 1) ad n s := fun i hi => by
  obtain ⟨q, off, e1, e2, e3, e4, e5⟩ := h i hi
  have : q = b := by omega
  subst this
  obtain ⟨h1, h2⟩ := hn (by omega)
  exact ⟨q, off, e1, e2, e3, (hb.cell (p := ⟨q, off + i, none⟩) h2 h1).trans e4, (hb.frozen (p := ⟨q, off + i, none⟩) h2 h1).trans e5⟩
theorem markText_at (k : Int) (m : Nat) (hk : k = m) (w : World) (h1 : 1 ≤ k) (h2 : k ≤ 1099511627776) :
    Calls Tryz.prog 48 #[.int .i64 k] w fun e w' => e = .returned (.string (mt m)) ∧ Below w.heap.size w w' := by
  subst hk
  exact markText_any m w h1 h2
theorem markStrs_own (n : Nat) (s : Nat → ByteArray) (ad : Option Addr) (cap : Nat) (k : Int) (m : Nat) (hk : k = m) (w : World) (b : Nat) (hlt : n ≠ 0 → b < w.heap.size) (hl : (n : Int) ≤ 1073741824) (hk1 : 1 ≤ k) (hk2 : k ≤ 1073741824)
    (hc : StrsOwn w b (b + 1) ad n s) :
    Calls Tryz.prog 49 #[.slice ad n cap, .int .i64 k] w fun e w' => e = .returned (.int .i64 (k + n)) ∧ StrsOwn w' b (b + 1) ad n (fun i => mt (m + i)) ∧ FrP (fun q => n ≠ 0 ∧ q = b) w w' := by
  subst hk
  by_cases h0 : n = 0
  · subst h0
    exact (markStrs_any 0 s ad cap m w 0 0 (Nat.zero_le _) hl hk1 hk2 (fun i hi => absurd hi (Nat.not_lt_zero _))).mono fun e w' ⟨e1, _, e3⟩ => ⟨e1, fun i hi => absurd hi (Nat.not_lt_zero _), FrP.of_fr e3 (fun k h1 h2 => absurd h2 (Nat.not_lt_zero _))⟩
  · exact (markStrs_any n s ad cap m w b (b + 1) (hlt h0) hl hk1 hk2 hc).mono fun e w' ⟨e1, e2, e3⟩ => ⟨e1, e2, FrP.of_fr e3 (fun k h1 h2 => ⟨h0, by omega⟩)⟩
theorem heldStrs_own (n : Nat) (ad : Option Addr) (cap : Nat) (k : Int) (m : Nat) (hk : k = m) (w : World) (b : Nat) (hlt : n ≠ 0 → b < w.heap.size) (hl : (n : Int) ≤ 1073741824) (hk1 : 1 ≤ k) (hk2 : k ≤ 1073741824)
    (hc : StrsOwn w b (b + 1) ad n (fun i => mt (m + i))) :
    Calls Tryz.prog 50 #[.slice ad n cap, .int .i64 k] w fun e w' => e = .returned (.int .i64 (k + n)) ∧ Below w.heap.size w w' := by
  subst hk
  by_cases h0 : n = 0
  · subst h0
    exact heldStrs_any 0 ad cap m w 0 0 (Nat.zero_le _) hl hk1 hk2 (fun i hi => absurd hi (Nat.not_lt_zero _))
  · exact heldStrs_any n ad cap m w b (b + 1) (hlt h0) hl hk1 hk2 hc
/-- the holds' blocks are apart from g and from one another -/
structure ApartH (g n : Nat) (N : Nat → Nat) (hb : Nat → Nat) : Prop where
  ne : ∀ i, i < n → N i ≠ 0 → hb i ≠ g
  inj : ∀ i j, i < n → j < n → N i ≠ 0 → N j ≠ 0 → hb i = hb j → i = j
theorem ApartH.congr {g n : Nat} {N N' : Nat → Nat} {hb : Nat → Nat} (h : ApartH g n N hb) (e : ∀ i, N i = N' i) : ApartH g n N' hb := by
  have : N = N' := funext e
  subst this; exact h
theorem rem3 {a b : Int} (h : a = b) : (a % 3 == 0) = decide (b % 3 = 0) := by subst h; rfl
def blkH (g n : Nat) (N : Nat → Nat) (hb : Nat → Nat) (k : Nat) : Prop := (0 < n ∧ k = g) ∨ ∃ i, i < n ∧ N i ≠ 0 ∧ k = hb i
end Go.Proofs.YtkfbclopkgnacaaGreatDoor
namespace Go.Proofs.YtkfbclopkgnacaaGreatDoor
open Go.RowKit
def atOb (c : Nat → Value) (i : Nat) (y : Ob) (A : Option Addr) (C : Nat) : Prop := c (i * 7) = .string y.kind ∧ c (i * 7 + 1) = .string y.name ∧ c (i * 7 + 2) = .int .i64 y.ver ∧ c (i * 7 + 3) = .int .i64 y.born ∧ c (i * 7 + 4) = .string y.text ∧ c (i * 7 + 5) = .bool y.ending ∧ c (i * 7 + 6) = .slice A y.hn C
theorem atOb_set {c : Nat → Value} {i : Nat} {y : Ob}{A : Option Addr} {C : Nat} (h : atOb c i y A C) {k o : Nat} (hik : ¬ i = k) (h1 : k * 7 ≤ o) (h2 : o < k * 7 + 7) (v : Value) : atOb (setF c o v) i y A C := by
  obtain ⟨a0, a1, a2, a3, a4, a5, a6⟩ := h
  exact ⟨(if_neg (by omega)).trans a0, (if_neg (by omega)).trans a1, (if_neg (by omega)).trans a2, (if_neg (by omega)).trans a3, (if_neg (by omega)).trans a4, (if_neg (by omega)).trans a5, (if_neg (by omega)).trans a6⟩
def mkOb (m : Nat) (o : Ob) : Ob := ⟨mt m, mt (m + 1), (m : Int) + 2, (m : Int) + 3, mt (m + 4), decide (((m : Int) + 5) % 3 = 0), o.hn, fun j => mt (m + 6 + j)⟩
def mkObs (k0 : Nat) (x : Nat → Ob) : Nat → Nat | 0 => k0 | n + 1 => mkObs k0 x n + 6 + (x n).hn
theorem mkObs_mono (k0 : Nat) (x : Nat → Ob) {k n : Nat} (h : k ≤ n) : mkObs k0 x k ≤ mkObs k0 x n := by
  induction n with
  | zero => have : k = 0 := by omega
            subst this; exact Nat.le_refl _
  | succ m ih => rcases Nat.lt_or_ge m k with h1 | h1
                 · have : k = m + 1 := by omega
                   subst this; exact Nat.le_refl _
                 · exact Nat.le_trans (ih h1) (by simp only [mkObs]; omega)
theorem mkObs_pos (k0 : Nat) (x : Nat → Ob) (k : Nat) (h : 1 ≤ k0) : 1 ≤ mkObs k0 x k := Nat.le_trans h (mkObs_mono k0 x (Nat.zero_le k))
def ykOb (k0 : Nat) (x : Nat → Ob) (k i : Nat) : Ob := if i < k then mkOb (mkObs k0 x i) (x i) else x i
theorem ykOb_zero (k0 : Nat) (x : Nat → Ob) : ykOb k0 x 0 = x := funext fun i => if_neg (Nat.not_lt_zero i)
theorem ykOb_lt {k0 : Nat} {x : Nat → Ob} {k i : Nat} (h : i < k) : ykOb k0 x k i = mkOb (mkObs k0 x i) (x i) := if_pos h
theorem ykOb_ge {k0 : Nat} {x : Nat → Ob} {k i : Nat} (h : k ≤ i) : ykOb k0 x k i = x i := if_neg (by omega)
theorem ykOb_ne {k0 : Nat} {x : Nat → Ob} {k i : Nat} (h : ¬ i = k) : ykOb k0 x (k + 1) i = ykOb k0 x k i := by
  unfold ykOb
  by_cases h1 : i < k
  · rw [if_pos h1, if_pos (by omega)]
  · rw [if_neg h1, if_neg (by omega)]
theorem ykOb_hn (k0 : Nat) (x : Nat → Ob) (k i : Nat) : (ykOb k0 x k i).hn = (x i).hn := by unfold ykOb; split <;> rfl
structure ObsAt (w : World) (ad : Option Addr) (g n : Nat) (x : Nat → Ob) (A : Nat → Option Addr) (C : Nat → Nat) (hb : Nat → Nat) : Prop where
  addr : 0 < n → ad = some ⟨g, 0, none⟩
  row : 0 < n → ∃ c, RowF w g (n * 7) c ∧ ∀ i, i < n → atOb c i (x i) (A i) (C i)
  hold : ∀ i, i < n → StrsOwn w (hb i) (hb i + 1) (A i) (x i).hn (x i).hs
  hlt : ∀ i, i < n → (x i).hn ≠ 0 → hb i < w.heap.size
  ap : ApartH g n (fun i => (x i).hn) hb
theorem ObsAt.fr {w w' : World} {ad : Option Addr} {g n : Nat} {x : Nat → Ob} {A : Nat → Option Addr} {C : Nat → Nat} {hb : Nat → Nat} {P : Nat → Prop} (h : ObsAt w ad g n x A C hb) (hf : FrP P w w') (hp : ∀ k, blkH g n (fun i => (x i).hn) hb k → ¬ P k) : ObsAt w' ad g n x A C hb :=
  ⟨h.addr, fun h0 => by obtain ⟨c, r, e⟩ := h.row h0; exact ⟨c, r.fr hf (hp g (Or.inl ⟨h0, rfl⟩)), e⟩, fun i hi => (h.hold i hi).frP hf (fun h0 => ⟨hp (hb i) (Or.inr ⟨i, hi, h0, rfl⟩), h.hlt i hi h0⟩), fun i hi h0 => Nat.lt_of_lt_of_le (h.hlt i hi h0) hf.size, h.ap⟩
theorem ObsAt.grow {w w' : World} {ad : Option Addr} {g n : Nat} {x : Nat → Ob} {A : Nat → Option Addr} {C : Nat → Nat} {hb : Nat → Nat} (h : ObsAt w ad g n x A C hb) (hf : Below w.heap.size w w') : ObsAt w' ad g n x A C hb := h.fr (FrP.of_below (P := fun _ => False) hf) (fun _ _ h => h)
set_option maxRecDepth 100000 in
set_option maxHeartbeats 2000000 in
theorem markObs_own (ad : Option Addr) (g n : Nat) (x : Nat → Ob) (A : Nat → Option Addr) (C : Nat → Nat) (hb : Nat → Nat) (cap k0 : Nat) (w : World) (hl : (n : Int) ≤ 1048576) (hk1 : 1 ≤ (k0 : Int)) (hk2 : (mkObs k0 x n : Int) ≤ 1073741824) (hc : ObsAt w ad g n x A C hb) :
    Calls Tryz.prog 20 #[.slice ad n cap, .int .i64 k0] w fun e w' => e = .returned (.int .i64 (mkObs k0 x n)) ∧ ObsAt w' ad g n (ykOb k0 x n) A C hb ∧ FrP (blkH g n (fun i => (x i).hn) hb) w w' := by
  go_enter Tryz.func20, Tryz.ntmps20
  go_wp2
  go_loopw [1, 5] (fun t i wr => ∃ k : Nat, k ≤ n ∧ i = .int .i64 k ∧ t = .int .i64 (mkObs k0 x k) ∧ FrP (blkH g n (fun i => (x i).hn) hb) w wr ∧ ObsAt wr ad g n (ykOb k0 x k) A C hb) (fun _ i _ => n - (intOf i).toNat)
  case atStart => exact ⟨0, Nat.zero_le _, rfl, rfl, FrP.refl _ _, by rw [ykOb_zero]; exact hc⟩
  case round =>
    obtain ⟨k, hk, rfl, rfl, hfr, ho⟩ := hrel
    clear hc
    by_cases hkn : k < n
    · have hmo := mkObs_mono k0 x (k := k + 1) (n := n) (by omega)
      have hm1 := mkObs_pos k0 x k (by omega)
      have hms : mkObs k0 x (k + 1) = mkObs k0 x k + 6 + (x k).hn := rfl
      have HM : Hid (mkObs k0 x (k + 1) = mkObs k0 x k + 6 + (x k).hn) := hms
      have hm : mkObs k0 x k + 6 + (x k).hn ≤ 1073741824 := by omega
      clear hmo hms
      obtain ⟨m, hme⟩ : ∃ m, mkObs k0 x k = m := ⟨_, rfl⟩
      rw [hme] at hm1 hm HM ⊢
      have HME := hid hme
      clear hme
      obtain rfl := ho.addr (by omega)
      obtain ⟨c, r0, hat⟩ := ho.row (by omega)
      have HO := hid ho
      have HAT := hid hat
      have hfr' := hid hfr
      have h6 : c (k * 7 + 6) = .slice (A k) (x k).hn (C k) := by have := (hat k hkn).2.2.2.2.2.2; rw [ykOb_ge (Nat.le_refl k)] at this; exact this
      have H6 := hid h6
      clear h6
      clear ho hat hfr
      have f0 : FrP (fun q => q = g) wr wr := FrP.refl _ _
      go_wp2_with fail
      refine (markText_at _ (m + 0) (by omega) _ (by omega) (by omega)).mono ?_
      rintro e w1 ⟨rfl, b1⟩
      have r1 := r0.below b1 (by first | exact r0.lt | (simp only [World.size_setCell]; exact r0.lt))
      have f1 := f0.trans (FrP.of_below b1)
      clear r0 f0 b1
      have q0 := r1.cell (k * 7) (by omega)
      have qf1 := r1.free
      go_wp2_with fail
      refine (markText_at _ (m + 1) (by omega) _ (by omega) (by omega)).mono ?_
      rintro e w2 ⟨rfl, b2⟩
      have r2 := (r1.set (o := k * 7) (by omega) _).below b2 (by first | exact r1.lt | (simp only [World.size_setCell]; exact r1.lt))
      have f2 := (f1.setCell (p := ⟨g, k * 7, none⟩) rfl _).trans (FrP.of_below b2)
      clear q0 qf1 r1 f1 b2
      have q1 := r2.cell (k * 7 + 1) (by omega)
      have q2 := r2.cell (k * 7 + 2) (by omega)
      have q3 := r2.cell (k * 7 + 3) (by omega)
      have qf2 := r2.free
      go_wp2_with fail
      refine (markText_at _ (m + 4) (by omega) _ (by omega) (by omega)).mono ?_
      rintro e w3 ⟨rfl, b3⟩
      have r3 := (((r2.set (o := k * 7 + 1) (by omega) _).set (o := k * 7 + 2) (by omega) _).set (o := k * 7 + 3) (by omega) _).below b3 (by first | exact r2.lt | (simp only [World.size_setCell]; exact r2.lt))
      have f3 := (((f2.setCell (p := ⟨g, k * 7 + 1, none⟩) rfl _).setCell (p := ⟨g, k * 7 + 2, none⟩) rfl _).setCell (p := ⟨g, k * 7 + 3, none⟩) rfl _).trans (FrP.of_below b3)
      clear q1 q2 q3 qf2 r2 f2 b3
      have q4 := r3.cell (k * 7 + 4) (by omega)
      have q5 := r3.cell (k * 7 + 5) (by omega)
      have qf3 := r3.free
      have q6 : w3.cell? ⟨g, k * 7 + 6, none⟩ = some (.slice (A k) (x k).hn (C k)) := (r3.cell (k * 7 + 6) (by omega)).trans (congrArg some (Eq.trans (by simp [setF]) H6.out))
      have hkh := HO.out.hlt k hkn
      rw [ykOb_hn] at hkh
      have hkne := HO.out.ap.ne k hkn
      have hho := HO.out.hold k hkn
      rw [ykOb_ge (Nat.le_refl k)] at hho
      have HKH := hid hkh
      have HKN : Hid ((x k).hn ≠ 0 → ¬ hb k = g) := fun h0 => hkne (by show (ykOb k0 x k k).hn ≠ 0; rw [ykOb_hn]; exact h0)
      have HHO := hid hho
      have hz := f3.size
      clear hkh hkne hho
      go_wp2_with fail
      refine (markStrs_own (x k).hn (x k).hs (A k) (C k) _ (m + 6) (by omega) _ (hb k) (fun h0 => (by have := HKH.out h0; simp only [World.size_setCell]; omega)) (by omega) (by omega) (by omega) (HHO.out.frP ((f3.setCell (p := ⟨g, k * 7 + 4, none⟩) rfl _).setCell (p := ⟨g, k * 7 + 5, none⟩) rfl _) (fun h0 => ⟨HKN.out h0, HKH.out h0⟩))).mono ?_
      rintro e w9 ⟨rfl, hs9, f9⟩
      have r9 := ((r3.set (o := k * 7 + 4) (by omega) _).set (o := k * 7 + 5) (by omega) _).fr f9 (fun h0 => HKN.out h0.1 h0.2.symm)
      have F9 := ((f3.setCell (p := ⟨g, k * 7 + 4, none⟩) rfl _).setCell (p := ⟨g, k * 7 + 5, none⟩) rfl _).link f9
      have HO9 : ObsAt w9 (some ⟨g, 0, none⟩) g n (ykOb k0 x (k + 1)) A C hb := by
        refine ⟨fun _ => rfl, fun _ => ⟨_, r9, fun i hi => ?_⟩, fun i hi => ?_, fun i hi h0 => ?_, ?_⟩
        · by_cases e : i = k
          · subst e
            rw [ykOb_lt (Nat.lt_succ_self i), HME.out]
            refine ⟨?_, ?_, ?_, ?_, ?_, ?_, ?_⟩
            all_goals first | (simp [setF, mkOb]; done) | (simp [setF, mkOb]; omega) | (simp [setF, mkOb]; exact rem3 (by omega)) | (exact (by simp [setF]) ▸ H6.out) | (simp [setF, mkOb, H6.out]; done)
          · rw [ykOb_ne e]
            exact (atOb_set (atOb_set (atOb_set (atOb_set (atOb_set (atOb_set (HAT.out i hi) e (k := k) (by omega) (by omega) _) e (k := k) (by omega) (by omega) _) e (k := k) (by omega) (by omega) _) e (k := k) (by omega) (by omega) _) e (k := k) (by omega) (by omega) _) e (k := k) (by omega) (by omega) _)
        · by_cases e : i = k
          · subst e
            rw [ykOb_lt (Nat.lt_succ_self i), HME.out]
            exact hs9
          · rw [ykOb_ne e]
            have hn0 := ykOb_hn k0 x k i
            refine ((HO.out.hold i hi).frP F9 (fun h0 => ⟨HO.out.ap.ne i hi h0, HO.out.hlt i hi h0⟩)).frP f9 (fun h0 => ⟨fun h1 => e (HO.out.ap.inj i k hi hkn h0 (by show (ykOb k0 x k k).hn ≠ 0; rw [ykOb_hn]; exact h1.1) h1.2), Nat.lt_of_lt_of_le (HO.out.hlt i hi h0) F9.size⟩)
        · rw [ykOb_hn] at h0
          exact Nat.lt_of_lt_of_le (HO.out.hlt i hi (by rw [ykOb_hn]; exact h0)) (Nat.le_trans F9.size f9.size)
        · exact HO.out.ap.congr (fun i => by show (ykOb k0 x k i).hn = (ykOb k0 x (k + 1) i).hn; rw [ykOb_hn, ykOb_hn])
      have HO9' := hid HO9
      have HF9 := hid (hfr'.out.trans ((F9.mono (fun q hq => Or.inl ⟨by omega, hq⟩)).trans (f9.mono (fun q hq => Or.inr ⟨k, hkn, hq.1, hq.2⟩))))
      clear q4 q5 q6 qf3 HO9 r9 f9 F9 hs9 r3 f3
      go_wp2
      go_roundw
      case rel => exact ⟨k + 1, by omega, by go_num, by rw [HM.out]; apply congrArg; omega, HF9.out, HO9'.out⟩
      case measure => simp [intOf]; omega
    · have : k = n := by omega
      subst this
      have HO := hid ho
      clear ho
      go_wp2
      go_ret
      exact ⟨rfl, HO.out, hfr⟩
set_option maxRecDepth 100000 in
set_option maxHeartbeats 2000000 in
theorem heldObs_own (ad : Option Addr) (g n : Nat) (x : Nat → Ob) (A : Nat → Option Addr) (C : Nat → Nat) (hb : Nat → Nat) (cap k0 : Nat) (w : World) (hl : (n : Int) ≤ 1048576) (hk1 : 1 ≤ (k0 : Int)) (hk2 : (mkObs k0 x n : Int) ≤ 1073741824) (hc : ObsAt w ad g n (ykOb k0 x n) A C hb) :
    Calls Tryz.prog 23 #[.slice ad n cap, .int .i64 k0] w fun e w' => e = .returned (.int .i64 (mkObs k0 x n)) ∧ Below w.heap.size w w' := by
  have HO := hid hc
  clear hc
  go_enter Tryz.func23, Tryz.ntmps23
  go_wp2
  go_loopw [1, 5] (fun t i wr => ∃ k : Nat, k ≤ n ∧ i = .int .i64 k ∧ t = .int .i64 (mkObs k0 x k) ∧ Below w.heap.size w wr) (fun _ i _ => n - (intOf i).toNat)
  case atStart => exact ⟨0, Nat.zero_le _, rfl, rfl, Below.refl _ _⟩
  case round =>
    obtain ⟨k, hk, rfl, rfl, b0⟩ := hrel
    by_cases hkn : k < n
    · have hmo := mkObs_mono k0 x (k := k + 1) (n := n) (by omega)
      have hm1 := mkObs_pos k0 x k (by omega)
      have hms : mkObs k0 x (k + 1) = mkObs k0 x k + 6 + (x k).hn := rfl
      have HM : Hid (mkObs k0 x (k + 1) = mkObs k0 x k + 6 + (x k).hn) := hms
      have hm : mkObs k0 x k + 6 + (x k).hn ≤ 1073741824 := by omega
      clear hmo hms
      have hadr := HO.out.addr (by omega)
      obtain ⟨c, rr, hat⟩ := HO.out.row (by omega)
      have hak := hat k hkn
      rw [ykOb_lt hkn] at hak
      have hho := HO.out.hold k hkn
      have hhl := HO.out.hlt k hkn
      rw [ykOb_lt hkn] at hho hhl
      obtain ⟨m, hme⟩ : ∃ m, mkObs k0 x k = m := ⟨_, rfl⟩
      rw [hme] at hm1 hm HM hak hho hhl ⊢
      clear hme hat
      subst hadr
      obtain ⟨a0, a1, a2, a3, a4, a5, a6⟩ := hak
      replace a0 : c (k * 7) = .string (mt m) := a0
      replace a1 : c (k * 7 + 1) = .string (mt (m + 1)) := a1
      replace a2 : c (k * 7 + 2) = .int .i64 ((m : Int) + 1 + 1) := a2.trans (by first | (exact congrArg (Value.int .i64) (by first | rfl | (simp only [mkOb]; omega))) | (exact congrArg Value.bool (rem3 (by omega)).symm))
      replace a3 : c (k * 7 + 3) = .int .i64 ((m : Int) + 1 + 1 + 1) := a3.trans (by first | (exact congrArg (Value.int .i64) (by first | rfl | (simp only [mkOb]; omega))) | (exact congrArg Value.bool (rem3 (by omega)).symm))
      replace a4 : c (k * 7 + 4) = .string (mt (m + 4)) := a4
      replace a5 : c (k * 7 + 5) = .bool (((m : Int) + 1 + 1 + 1 + 1 + 1) % 3 == 0) := a5.trans (by first | (exact congrArg (Value.int .i64) (by first | rfl | (simp only [mkOb]; omega))) | (exact congrArg Value.bool (rem3 (by omega)).symm))
      replace a6 : c (k * 7 + 6) = .slice (A k) (x k).hn (C k) := a6
      have A0 := hid a0
      have A1 := hid a1
      have A2 := hid a2
      have A3 := hid a3
      have A4 := hid a4
      have A5 := hid a5
      have A6 := hid a6
      have RR := hid rr
      have hgw := rr.lt
      clear rr a0 a1 a2 a3 a4 a5 a6
      have HHO : Hid (StrsOwn w (hb k) (hb k + 1) (A k) (x k).hn (fun i => mt (m + 6 + i))) := hho
      have HHL : Hid ((x k).hn ≠ 0 → hb k < w.heap.size) := hhl
      clear hho hhl
      have z1 := b0.size
      have qq0 := ((RR.out.below b0 hgw).cell (k * 7) (by omega)).trans (congrArg some A0.out)
      have y0 := subcell qq0 (by show g < _; omega)
      have hne1 : Nonempty (GW wr) := ⟨⟨_, Below.refl _ _⟩⟩
      go_wp2
      refine wp_region_grow (by kernel_rfl) (by kernel_rfl) ?_
      repeat (go_big_quiet_step ((go_at_call 48; go_must (exact grow_of (markText_at _ (m + 0) (by omega) _ (by omega) (by omega))))))
      refine wpQuiet_nil ?_
      rintro w1 ⟨u, hu⟩
      have c1 : Below wr.heap.size wr w1 := hu ▸ u.prop
      have b1 := b0.trans (c1.mono (by omega))
      clear hu u hne1 qq0 y0 c1 
      have z2 := b1.size
      have qq1 := ((RR.out.below b1 hgw).cell (k * 7 + 1) (by omega)).trans (congrArg some A1.out)
      have y1 := subcell qq1 (by show g < _; omega)
      have hne2 : Nonempty (GW w1) := ⟨⟨_, Below.refl _ _⟩⟩
      go_wp2
      refine wp_region_grow (by kernel_rfl) (by kernel_rfl) ?_
      repeat (go_big_quiet_step ((go_at_call 48; go_must (exact grow_of (markText_at _ (m + 1) (by omega) _ (by omega) (by omega))))))
      refine wpQuiet_nil ?_
      rintro w2 ⟨u, hu⟩
      have c2 : Below w1.heap.size w1 w2 := hu ▸ u.prop
      have b2 := b1.trans (c2.mono (by omega))
      clear hu u hne2 qq1 y1 c2 
      have q2 := ((RR.out.below b2 hgw).cell (k * 7 + 2) (by omega)).trans (congrArg some A2.out)
      have q3 := ((RR.out.below b2 hgw).cell (k * 7 + 3) (by omega)).trans (congrArg some A3.out)
      have z3 := b2.size
      have qq4 := ((RR.out.below b2 hgw).cell (k * 7 + 4) (by omega)).trans (congrArg some A4.out)
      have y4 := subcell qq4 (by show g < _; omega)
      have hne3 : Nonempty (GW w2) := ⟨⟨_, Below.refl _ _⟩⟩
      go_wp2
      refine wp_region_grow (by kernel_rfl) (by kernel_rfl) ?_
      repeat (go_big_quiet_step ((go_at_call 48; go_must (exact grow_of (markText_at _ (m + 4) (by omega) _ (by omega) (by omega))))))
      refine wpQuiet_nil ?_
      rintro w3 ⟨u, hu⟩
      have c3 : Below w2.heap.size w2 w3 := hu ▸ u.prop
      have b3 := b2.trans (c3.mono (by omega))
      clear hu u hne3 qq4 y4 c3 q2 q3
      have q5 := ((RR.out.below b3 hgw).cell (k * 7 + 5) (by omega)).trans (congrArg some A5.out)
      have q6 := ((RR.out.below b3 hgw).cell (k * 7 + 6) (by omega)).trans (congrArg some A6.out)
      have zl := b3.size
      go_wp2_with fail
      refine (heldStrs_own (x k).hn (A k) (C k) _ (m + 6) (by omega) _ (hb k) (fun h0 => (by have := HHL.out h0; omega)) (by omega) (by omega) (by omega) (HHO.out.frP (FrP.of_below (P := fun _ => False) b3) (fun h0 => ⟨fun h => h, HHL.out h0⟩))).mono ?_
      rintro e w9 ⟨rfl, c9⟩
      have b9 := b3.trans (c9.mono (by omega))
      clear q6 q5 c9
      go_wp2
      go_roundw
      case rel => exact ⟨k + 1, by omega, by go_num, by rw [HM.out]; apply congrArg; omega, b9⟩
      case measure => simp [intOf]; omega
    · have : k = n := by omega
      subst this
      go_wp2
      go_ret
      exact ⟨rfl, b0⟩
end Go.Proofs.YtkfbclopkgnacaaGreatDoor
namespace Go.Proofs.YtkfbclopkgnacaaGreatDoor
open Go.RowKit
def atCh (c : Nat → Value) (i : Nat) (y : Ch) (A : Option Addr) (C : Nat) : Prop := c (i * 9) = .int .i64 y.ver ∧ c (i * 9 + 1) = .bool y.gone ∧ c (i * 9 + 2) = .string y.ob.kind ∧ c (i * 9 + 3) = .string y.ob.name ∧ c (i * 9 + 4) = .int .i64 y.ob.ver ∧ c (i * 9 + 5) = .int .i64 y.ob.born ∧ c (i * 9 + 6) = .string y.ob.text ∧ c (i * 9 + 7) = .bool y.ob.ending ∧ c (i * 9 + 8) = .slice A y.ob.hn C
theorem atCh_set {c : Nat → Value} {i : Nat} {y : Ch}{A : Option Addr} {C : Nat} (h : atCh c i y A C) {k o : Nat} (hik : ¬ i = k) (h1 : k * 9 ≤ o) (h2 : o < k * 9 + 9) (v : Value) : atCh (setF c o v) i y A C := by
  obtain ⟨a0, a1, a2, a3, a4, a5, a6, a7, a8⟩ := h
  exact ⟨(if_neg (by omega)).trans a0, (if_neg (by omega)).trans a1, (if_neg (by omega)).trans a2, (if_neg (by omega)).trans a3, (if_neg (by omega)).trans a4, (if_neg (by omega)).trans a5, (if_neg (by omega)).trans a6, (if_neg (by omega)).trans a7, (if_neg (by omega)).trans a8⟩
def mkCh (m : Nat) (o : Ch) : Ch := ⟨m, decide (((m : Int) + 1) % 3 = 0), ⟨mt (m + 2), mt (m + 3), (m : Int) + 4, (m : Int) + 5, mt (m + 6), decide (((m : Int) + 7) % 3 = 0), o.ob.hn, fun j => mt (m + 8 + j)⟩⟩
def mkChs (k0 : Nat) (x : Nat → Ch) : Nat → Nat | 0 => k0 | n + 1 => mkChs k0 x n + 8 + (x n).ob.hn
theorem mkChs_mono (k0 : Nat) (x : Nat → Ch) {k n : Nat} (h : k ≤ n) : mkChs k0 x k ≤ mkChs k0 x n := by
  induction n with
  | zero => have : k = 0 := by omega
            subst this; exact Nat.le_refl _
  | succ m ih => rcases Nat.lt_or_ge m k with h1 | h1
                 · have : k = m + 1 := by omega
                   subst this; exact Nat.le_refl _
                 · exact Nat.le_trans (ih h1) (by simp only [mkChs]; omega)
theorem mkChs_pos (k0 : Nat) (x : Nat → Ch) (k : Nat) (h : 1 ≤ k0) : 1 ≤ mkChs k0 x k := Nat.le_trans h (mkChs_mono k0 x (Nat.zero_le k))
def ykCh (k0 : Nat) (x : Nat → Ch) (k i : Nat) : Ch := if i < k then mkCh (mkChs k0 x i) (x i) else x i
theorem ykCh_zero (k0 : Nat) (x : Nat → Ch) : ykCh k0 x 0 = x := funext fun i => if_neg (Nat.not_lt_zero i)
theorem ykCh_lt {k0 : Nat} {x : Nat → Ch} {k i : Nat} (h : i < k) : ykCh k0 x k i = mkCh (mkChs k0 x i) (x i) := if_pos h
theorem ykCh_ge {k0 : Nat} {x : Nat → Ch} {k i : Nat} (h : k ≤ i) : ykCh k0 x k i = x i := if_neg (by omega)
theorem ykCh_ne {k0 : Nat} {x : Nat → Ch} {k i : Nat} (h : ¬ i = k) : ykCh k0 x (k + 1) i = ykCh k0 x k i := by
  unfold ykCh
  by_cases h1 : i < k
  · rw [if_pos h1, if_pos (by omega)]
  · rw [if_neg h1, if_neg (by omega)]
theorem ykCh_hn (k0 : Nat) (x : Nat → Ch) (k i : Nat) : (ykCh k0 x k i).ob.hn = (x i).ob.hn := by unfold ykCh; split <;> rfl
structure ChsAt (w : World) (ad : Option Addr) (g n : Nat) (x : Nat → Ch) (A : Nat → Option Addr) (C : Nat → Nat) (hb : Nat → Nat) : Prop where
  addr : 0 < n → ad = some ⟨g, 0, none⟩
  row : 0 < n → ∃ c, RowF w g (n * 9) c ∧ ∀ i, i < n → atCh c i (x i) (A i) (C i)
  hold : ∀ i, i < n → StrsOwn w (hb i) (hb i + 1) (A i) (x i).ob.hn (x i).ob.hs
  hlt : ∀ i, i < n → (x i).ob.hn ≠ 0 → hb i < w.heap.size
  ap : ApartH g n (fun i => (x i).ob.hn) hb
theorem ChsAt.fr {w w' : World} {ad : Option Addr} {g n : Nat} {x : Nat → Ch} {A : Nat → Option Addr} {C : Nat → Nat} {hb : Nat → Nat} {P : Nat → Prop} (h : ChsAt w ad g n x A C hb) (hf : FrP P w w') (hp : ∀ k, blkH g n (fun i => (x i).ob.hn) hb k → ¬ P k) : ChsAt w' ad g n x A C hb :=
  ⟨h.addr, fun h0 => by obtain ⟨c, r, e⟩ := h.row h0; exact ⟨c, r.fr hf (hp g (Or.inl ⟨h0, rfl⟩)), e⟩, fun i hi => (h.hold i hi).frP hf (fun h0 => ⟨hp (hb i) (Or.inr ⟨i, hi, h0, rfl⟩), h.hlt i hi h0⟩), fun i hi h0 => Nat.lt_of_lt_of_le (h.hlt i hi h0) hf.size, h.ap⟩
theorem ChsAt.grow {w w' : World} {ad : Option Addr} {g n : Nat} {x : Nat → Ch} {A : Nat → Option Addr} {C : Nat → Nat} {hb : Nat → Nat} (h : ChsAt w ad g n x A C hb) (hf : Below w.heap.size w w') : ChsAt w' ad g n x A C hb := h.fr (FrP.of_below (P := fun _ => False) hf) (fun _ _ h => h)
set_option maxRecDepth 100000 in
set_option maxHeartbeats 2000000 in
theorem markChs_own (ad : Option Addr) (g n : Nat) (x : Nat → Ch) (A : Nat → Option Addr) (C : Nat → Nat) (hb : Nat → Nat) (cap k0 : Nat) (w : World) (hl : (n : Int) ≤ 1048576) (hk1 : 1 ≤ (k0 : Int)) (hk2 : (mkChs k0 x n : Int) ≤ 1073741824) (hc : ChsAt w ad g n x A C hb) :
    Calls Tryz.prog 21 #[.slice ad n cap, .int .i64 k0] w fun e w' => e = .returned (.int .i64 (mkChs k0 x n)) ∧ ChsAt w' ad g n (ykCh k0 x n) A C hb ∧ FrP (blkH g n (fun i => (x i).ob.hn) hb) w w' := by
  go_enter Tryz.func21, Tryz.ntmps21
  go_wp2
  go_loopw [1, 5] (fun t i wr => ∃ k : Nat, k ≤ n ∧ i = .int .i64 k ∧ t = .int .i64 (mkChs k0 x k) ∧ FrP (blkH g n (fun i => (x i).ob.hn) hb) w wr ∧ ChsAt wr ad g n (ykCh k0 x k) A C hb) (fun _ i _ => n - (intOf i).toNat)
  case atStart => exact ⟨0, Nat.zero_le _, rfl, rfl, FrP.refl _ _, by rw [ykCh_zero]; exact hc⟩
  case round =>
    obtain ⟨k, hk, rfl, rfl, hfr, ho⟩ := hrel
    clear hc
    by_cases hkn : k < n
    · have hmo := mkChs_mono k0 x (k := k + 1) (n := n) (by omega)
      have hm1 := mkChs_pos k0 x k (by omega)
      have hms : mkChs k0 x (k + 1) = mkChs k0 x k + 8 + (x k).ob.hn := rfl
      have HM : Hid (mkChs k0 x (k + 1) = mkChs k0 x k + 8 + (x k).ob.hn) := hms
      have hm : mkChs k0 x k + 8 + (x k).ob.hn ≤ 1073741824 := by omega
      clear hmo hms
      obtain ⟨m, hme⟩ : ∃ m, mkChs k0 x k = m := ⟨_, rfl⟩
      rw [hme] at hm1 hm HM ⊢
      have HME := hid hme
      clear hme
      obtain rfl := ho.addr (by omega)
      obtain ⟨c, r0, hat⟩ := ho.row (by omega)
      have HO := hid ho
      have HAT := hid hat
      have hfr' := hid hfr
      have h6 : c (k * 9 + 8) = .slice (A k) (x k).ob.hn (C k) := by have := (hat k hkn).2.2.2.2.2.2.2.2; rw [ykCh_ge (Nat.le_refl k)] at this; exact this
      have H6 := hid h6
      clear h6
      clear ho hat hfr
      have f0 : FrP (fun q => q = g) wr wr := FrP.refl _ _
      have q0 := r0.cell (k * 9) (by omega)
      have q1 := r0.cell (k * 9 + 1) (by omega)
      have qf0 := r0.free
      go_wp2_with fail
      refine (markText_at _ (m + 2) (by omega) _ (by omega) (by omega)).mono ?_
      rintro e w1 ⟨rfl, b1⟩
      have r1 := ((r0.set (o := k * 9) (by omega) _).set (o := k * 9 + 1) (by omega) _).below b1 (by first | exact r0.lt | (simp only [World.size_setCell]; exact r0.lt))
      have f1 := ((f0.setCell (p := ⟨g, k * 9, none⟩) rfl _).setCell (p := ⟨g, k * 9 + 1, none⟩) rfl _).trans (FrP.of_below b1)
      clear q0 q1 qf0 r0 f0 b1
      have q2 := r1.cell (k * 9 + 2) (by omega)
      have qf1 := r1.free
      go_wp2_with fail
      refine (markText_at _ (m + 3) (by omega) _ (by omega) (by omega)).mono ?_
      rintro e w2 ⟨rfl, b2⟩
      have r2 := (r1.set (o := k * 9 + 2) (by omega) _).below b2 (by first | exact r1.lt | (simp only [World.size_setCell]; exact r1.lt))
      have f2 := (f1.setCell (p := ⟨g, k * 9 + 2, none⟩) rfl _).trans (FrP.of_below b2)
      clear q2 qf1 r1 f1 b2
      have q3 := r2.cell (k * 9 + 3) (by omega)
      have q4 := r2.cell (k * 9 + 4) (by omega)
      have q5 := r2.cell (k * 9 + 5) (by omega)
      have qf2 := r2.free
      go_wp2_with fail
      refine (markText_at _ (m + 6) (by omega) _ (by omega) (by omega)).mono ?_
      rintro e w3 ⟨rfl, b3⟩
      have r3 := (((r2.set (o := k * 9 + 3) (by omega) _).set (o := k * 9 + 4) (by omega) _).set (o := k * 9 + 5) (by omega) _).below b3 (by first | exact r2.lt | (simp only [World.size_setCell]; exact r2.lt))
      have f3 := (((f2.setCell (p := ⟨g, k * 9 + 3, none⟩) rfl _).setCell (p := ⟨g, k * 9 + 4, none⟩) rfl _).setCell (p := ⟨g, k * 9 + 5, none⟩) rfl _).trans (FrP.of_below b3)
      clear q3 q4 q5 qf2 r2 f2 b3
      have q6 := r3.cell (k * 9 + 6) (by omega)
      have q7 := r3.cell (k * 9 + 7) (by omega)
      have qf3 := r3.free
      have q8 : w3.cell? ⟨g, k * 9 + 8, none⟩ = some (.slice (A k) (x k).ob.hn (C k)) := (r3.cell (k * 9 + 8) (by omega)).trans (congrArg some (Eq.trans (by simp [setF]) H6.out))
      have hkh := HO.out.hlt k hkn
      rw [ykCh_hn] at hkh
      have hkne := HO.out.ap.ne k hkn
      have hho := HO.out.hold k hkn
      rw [ykCh_ge (Nat.le_refl k)] at hho
      have HKH := hid hkh
      have HKN : Hid ((x k).ob.hn ≠ 0 → ¬ hb k = g) := fun h0 => hkne (by show (ykCh k0 x k k).ob.hn ≠ 0; rw [ykCh_hn]; exact h0)
      have HHO := hid hho
      have hz := f3.size
      clear hkh hkne hho
      go_wp2_with fail
      refine (markStrs_own (x k).ob.hn (x k).ob.hs (A k) (C k) _ (m + 8) (by omega) _ (hb k) (fun h0 => (by have := HKH.out h0; simp only [World.size_setCell]; omega)) (by omega) (by omega) (by omega) (HHO.out.frP ((f3.setCell (p := ⟨g, k * 9 + 6, none⟩) rfl _).setCell (p := ⟨g, k * 9 + 7, none⟩) rfl _) (fun h0 => ⟨HKN.out h0, HKH.out h0⟩))).mono ?_
      rintro e w9 ⟨rfl, hs9, f9⟩
      have r9 := ((r3.set (o := k * 9 + 6) (by omega) _).set (o := k * 9 + 7) (by omega) _).fr f9 (fun h0 => HKN.out h0.1 h0.2.symm)
      have F9 := ((f3.setCell (p := ⟨g, k * 9 + 6, none⟩) rfl _).setCell (p := ⟨g, k * 9 + 7, none⟩) rfl _).link f9
      have HO9 : ChsAt w9 (some ⟨g, 0, none⟩) g n (ykCh k0 x (k + 1)) A C hb := by
        refine ⟨fun _ => rfl, fun _ => ⟨_, r9, fun i hi => ?_⟩, fun i hi => ?_, fun i hi h0 => ?_, ?_⟩
        · by_cases e : i = k
          · subst e
            rw [ykCh_lt (Nat.lt_succ_self i), HME.out]
            refine ⟨?_, ?_, ?_, ?_, ?_, ?_, ?_, ?_, ?_⟩
            all_goals first | (simp [setF, mkCh]; done) | (simp [setF, mkCh]; omega) | (simp [setF, mkCh]; exact rem3 (by omega)) | (exact (by simp [setF]) ▸ H6.out) | (simp [setF, mkCh, H6.out]; done)
          · rw [ykCh_ne e]
            exact (atCh_set (atCh_set (atCh_set (atCh_set (atCh_set (atCh_set (atCh_set (atCh_set (HAT.out i hi) e (k := k) (by omega) (by omega) _) e (k := k) (by omega) (by omega) _) e (k := k) (by omega) (by omega) _) e (k := k) (by omega) (by omega) _) e (k := k) (by omega) (by omega) _) e (k := k) (by omega) (by omega) _) e (k := k) (by omega) (by omega) _) e (k := k) (by omega) (by omega) _)
        · by_cases e : i = k
          · subst e
            rw [ykCh_lt (Nat.lt_succ_self i), HME.out]
            exact hs9
          · rw [ykCh_ne e]
            have hn0 := ykCh_hn k0 x k i
            refine ((HO.out.hold i hi).frP F9 (fun h0 => ⟨HO.out.ap.ne i hi h0, HO.out.hlt i hi h0⟩)).frP f9 (fun h0 => ⟨fun h1 => e (HO.out.ap.inj i k hi hkn h0 (by show (ykCh k0 x k k).ob.hn ≠ 0; rw [ykCh_hn]; exact h1.1) h1.2), Nat.lt_of_lt_of_le (HO.out.hlt i hi h0) F9.size⟩)
        · rw [ykCh_hn] at h0
          exact Nat.lt_of_lt_of_le (HO.out.hlt i hi (by rw [ykCh_hn]; exact h0)) (Nat.le_trans F9.size f9.size)
        · exact HO.out.ap.congr (fun i => by show (ykCh k0 x k i).ob.hn = (ykCh k0 x (k + 1) i).ob.hn; rw [ykCh_hn, ykCh_hn])
      have HO9' := hid HO9
      have HF9 := hid (hfr'.out.trans ((F9.mono (fun q hq => Or.inl ⟨by omega, hq⟩)).trans (f9.mono (fun q hq => Or.inr ⟨k, hkn, hq.1, hq.2⟩))))
      clear q6 q7 q8 qf3 HO9 r9 f9 F9 hs9 r3 f3
      go_wp2
      go_roundw
      case rel => exact ⟨k + 1, by omega, by go_num, by rw [HM.out]; apply congrArg; omega, HF9.out, HO9'.out⟩
      case measure => simp [intOf]; omega
    · have : k = n := by omega
      subst this
      have HO := hid ho
      clear ho
      go_wp2
      go_ret
      exact ⟨rfl, HO.out, hfr⟩
end Go.Proofs.YtkfbclopkgnacaaGreatDoor
namespace Go.Proofs.YtkfbclopkgnacaaGreatDoor
open Go.RowKit
def atTi (c : Nat → Value) (i : Nat) (y : Ti) : Prop := c (i * 5) = .string y.client ∧ c (i * 5 + 1) = .int .i64 y.num ∧ c (i * 5 + 2) = .string y.print ∧ c (i * 5 + 3) = .int .i64 y.code ∧ c (i * 5 + 4) = .int .i64 y.ver
theorem atTi_set {c : Nat → Value} {i : Nat} {y : Ti} (h : atTi c i y) {k o : Nat} (hik : ¬ i = k) (h1 : k * 5 ≤ o) (h2 : o < k * 5 + 5) (v : Value) : atTi (setF c o v) i y := by
  obtain ⟨a0, a1, a2, a3, a4⟩ := h
  exact ⟨(if_neg (by omega)).trans a0, (if_neg (by omega)).trans a1, (if_neg (by omega)).trans a2, (if_neg (by omega)).trans a3, (if_neg (by omega)).trans a4⟩
def mkTi (m : Nat) (_ : Ti) : Ti := ⟨mt m, (m : Int) + 1, mt (m + 2), (m : Int) + 3, (m : Int) + 4⟩
def mkTis (k0 : Nat) (x : Nat → Ti) : Nat → Nat | 0 => k0 | n + 1 => mkTis k0 x n + 5
theorem mkTis_mono (k0 : Nat) (x : Nat → Ti) {k n : Nat} (h : k ≤ n) : mkTis k0 x k ≤ mkTis k0 x n := by
  induction n with
  | zero => have : k = 0 := by omega
            subst this; exact Nat.le_refl _
  | succ m ih => rcases Nat.lt_or_ge m k with h1 | h1
                 · have : k = m + 1 := by omega
                   subst this; exact Nat.le_refl _
                 · exact Nat.le_trans (ih h1) (by simp only [mkTis]; omega)
theorem mkTis_pos (k0 : Nat) (x : Nat → Ti) (k : Nat) (h : 1 ≤ k0) : 1 ≤ mkTis k0 x k := Nat.le_trans h (mkTis_mono k0 x (Nat.zero_le k))
def ykTi (k0 : Nat) (x : Nat → Ti) (k i : Nat) : Ti := if i < k then mkTi (mkTis k0 x i) (x i) else x i
theorem ykTi_zero (k0 : Nat) (x : Nat → Ti) : ykTi k0 x 0 = x := funext fun i => if_neg (Nat.not_lt_zero i)
theorem ykTi_lt {k0 : Nat} {x : Nat → Ti} {k i : Nat} (h : i < k) : ykTi k0 x k i = mkTi (mkTis k0 x i) (x i) := if_pos h
theorem ykTi_ge {k0 : Nat} {x : Nat → Ti} {k i : Nat} (h : k ≤ i) : ykTi k0 x k i = x i := if_neg (by omega)
theorem ykTi_ne {k0 : Nat} {x : Nat → Ti} {k i : Nat} (h : ¬ i = k) : ykTi k0 x (k + 1) i = ykTi k0 x k i := by
  unfold ykTi
  by_cases h1 : i < k
  · rw [if_pos h1, if_pos (by omega)]
  · rw [if_neg h1, if_neg (by omega)]
structure TisAt (w : World) (ad : Option Addr) (g n : Nat) (x : Nat → Ti) : Prop where
  addr : 0 < n → ad = some ⟨g, 0, none⟩
  row : 0 < n → ∃ c, RowF w g (n * 5) c ∧ ∀ i, i < n → atTi c i (x i)
theorem TisAt.fr {w w' : World} {ad : Option Addr} {g n : Nat} {x : Nat → Ti} {P : Nat → Prop} (h : TisAt w ad g n x) (hf : FrP P w w') (hp : ∀ k, (fun k => 0 < n ∧ k = g) k → ¬ P k) : TisAt w' ad g n x :=
  ⟨h.addr, fun h0 => by obtain ⟨c, r, e⟩ := h.row h0; exact ⟨c, r.fr hf (hp g (⟨h0, rfl⟩)), e⟩⟩
theorem TisAt.grow {w w' : World} {ad : Option Addr} {g n : Nat} {x : Nat → Ti} (h : TisAt w ad g n x) (hf : Below w.heap.size w w') : TisAt w' ad g n x := h.fr (FrP.of_below (P := fun _ => False) hf) (fun _ _ h => h)
set_option maxRecDepth 100000 in
set_option maxHeartbeats 2000000 in
theorem markTis_own (ad : Option Addr) (g n : Nat) (x : Nat → Ti) (cap k0 : Nat) (w : World) (hl : (n : Int) ≤ 1048576) (hk1 : 1 ≤ (k0 : Int)) (hk2 : (mkTis k0 x n : Int) ≤ 1073741824) (hc : TisAt w ad g n x) :
    Calls Tryz.prog 22 #[.slice ad n cap, .int .i64 k0] w fun e w' => e = .returned (.int .i64 (mkTis k0 x n)) ∧ TisAt w' ad g n (ykTi k0 x n) ∧ FrP (fun k => 0 < n ∧ k = g) w w' := by
  go_enter Tryz.func22, Tryz.ntmps22
  go_wp2
  go_loopw [1, 5] (fun t i wr => ∃ k : Nat, k ≤ n ∧ i = .int .i64 k ∧ t = .int .i64 (mkTis k0 x k) ∧ FrP (fun k => 0 < n ∧ k = g) w wr ∧ TisAt wr ad g n (ykTi k0 x k)) (fun _ i _ => n - (intOf i).toNat)
  case atStart => exact ⟨0, Nat.zero_le _, rfl, rfl, FrP.refl _ _, by rw [ykTi_zero]; exact hc⟩
  case round =>
    obtain ⟨k, hk, rfl, rfl, hfr, ho⟩ := hrel
    clear hc
    by_cases hkn : k < n
    · have hmo := mkTis_mono k0 x (k := k + 1) (n := n) (by omega)
      have hm1 := mkTis_pos k0 x k (by omega)
      have hms : mkTis k0 x (k + 1) = mkTis k0 x k + 5 := rfl
      have HM : Hid (mkTis k0 x (k + 1) = mkTis k0 x k + 5) := hms
      have hm : mkTis k0 x k + 5 ≤ 1073741824 := by omega
      clear hmo hms
      obtain ⟨m, hme⟩ : ∃ m, mkTis k0 x k = m := ⟨_, rfl⟩
      rw [hme] at hm1 hm HM ⊢
      have HME := hid hme
      clear hme
      obtain rfl := ho.addr (by omega)
      obtain ⟨c, r0, hat⟩ := ho.row (by omega)
      have HO := hid ho
      have HAT := hid hat
      have hfr' := hid hfr
      clear ho hat hfr
      have f0 : FrP (fun q => q = g) wr wr := FrP.refl _ _
      go_wp2_with fail
      refine (markText_at _ (m + 0) (by omega) _ (by omega) (by omega)).mono ?_
      rintro e w1 ⟨rfl, b1⟩
      have r1 := r0.below b1 (by first | exact r0.lt | (simp only [World.size_setCell]; exact r0.lt))
      have f1 := f0.trans (FrP.of_below b1)
      clear r0 f0 b1
      have q0 := r1.cell (k * 5) (by omega)
      have q1 := r1.cell (k * 5 + 1) (by omega)
      have qf1 := r1.free
      go_wp2_with fail
      refine (markText_at _ (m + 2) (by omega) _ (by omega) (by omega)).mono ?_
      rintro e w2 ⟨rfl, b2⟩
      have r2 := ((r1.set (o := k * 5) (by omega) _).set (o := k * 5 + 1) (by omega) _).below b2 (by first | exact r1.lt | (simp only [World.size_setCell]; exact r1.lt))
      have f2 := ((f1.setCell (p := ⟨g, k * 5, none⟩) rfl _).setCell (p := ⟨g, k * 5 + 1, none⟩) rfl _).trans (FrP.of_below b2)
      clear q0 q1 qf1 r1 f1 b2
      have q2 := r2.cell (k * 5 + 2) (by omega)
      have q3 := r2.cell (k * 5 + 3) (by omega)
      have q4 := r2.cell (k * 5 + 4) (by omega)
      have qf2 := r2.free
      go_wp2
      go_roundw
      case rel =>
        refine ⟨k + 1, by omega, by go_num, by rw [HM.out]; apply congrArg; omega, hfr'.out.trans (FrP.mono (((f2.setCell (p := ⟨g, k * 5 + 2, none⟩) rfl _).setCell (p := ⟨g, k * 5 + 3, none⟩) rfl _).setCell (p := ⟨g, k * 5 + 4, none⟩) rfl _) (fun q hq => ⟨by omega, hq⟩)), fun _ => rfl, fun _ => ⟨_, (((r2.set (o := k * 5 + 2) (by omega) _).set (o := k * 5 + 3) (by omega) _).set (o := k * 5 + 4) (by omega) _), fun i hi => ?_⟩⟩
        by_cases e : i = k
        · subst e
          rw [ykTi_lt (Nat.lt_succ_self i), HME.out]
          refine ⟨?_, ?_, ?_, ?_, ?_⟩
          all_goals first | (simp [setF, mkTi]; done) | (simp [setF, mkTi]; omega) | (simp [setF, mkTi]; exact rem3 (by omega))
        · rw [ykTi_ne e]
          exact (atTi_set (atTi_set (atTi_set (atTi_set (atTi_set (HAT.out i hi) e (k := k) (by omega) (by omega) _) e (k := k) (by omega) (by omega) _) e (k := k) (by omega) (by omega) _) e (k := k) (by omega) (by omega) _) e (k := k) (by omega) (by omega) _)
      case measure => simp [intOf]; omega
    · have : k = n := by omega
      subst this
      have HO := hid ho
      clear ho
      go_wp2
      go_ret
      exact ⟨rfl, HO.out, hfr⟩
end Go.Proofs.YtkfbclopkgnacaaGreatDoor
namespace Go.Proofs.YtkfbclopkgnacaaGreatDoor
open Go.RowKit
theorem ObsAt.blt {w : World} {ad : Option Addr} {g n : Nat} {x : Nat → Ob} {A : Nat → Option Addr} {C hb : Nat → Nat} (h : ObsAt w ad g n x A C hb) {k : Nat} (hk : blkH g n (fun i => (x i).hn) hb k) : k < w.heap.size := by
  rcases hk with ⟨h0, rfl⟩ | ⟨i, hi, h0, rfl⟩
  · obtain ⟨c, r, _⟩ := h.row h0; exact r.lt
  · exact h.hlt i hi h0
theorem ChsAt.blt {w : World} {ad : Option Addr} {g n : Nat} {x : Nat → Ch} {A : Nat → Option Addr} {C hb : Nat → Nat} (h : ChsAt w ad g n x A C hb) {k : Nat} (hk : blkH g n (fun i => (x i).ob.hn) hb k) : k < w.heap.size := by
  rcases hk with ⟨h0, rfl⟩ | ⟨i, hi, h0, rfl⟩
  · obtain ⟨c, r, _⟩ := h.row h0; exact r.lt
  · exact h.hlt i hi h0
theorem TisAt.blt {w : World} {ad : Option Addr} {g n : Nat} {x : Nat → Ti} (h : TisAt w ad g n x) {k : Nat} (hk : 0 < n ∧ k = g) : k < w.heap.size := by
  obtain ⟨h0, rfl⟩ := hk
  obtain ⟨c, r, _⟩ := h.row h0; exact r.lt
/-- where a book's lists lie -/
structure Pl where
  a1 : Option Addr
  a2 : Option Addr
  a3 : Option Addr
  g1 : Nat
  g2 : Nat
  g3 : Nat
  A1 : Nat → Option Addr
  C1 : Nat → Nat
  h1 : Nat → Nat
  A2 : Nat → Option Addr
  C2 : Nat → Nat
  h2 : Nat → Nat
def blk1 (p : Pl) (x : Bk) (k : Nat) : Prop := blkH p.g1 x.on (fun i => (x.os i).hn) p.h1 k
def blk2 (p : Pl) (x : Bk) (k : Nat) : Prop := blkH p.g2 x.hn (fun i => (x.hs i).ob.hn) p.h2 k
def blk3 (p : Pl) (x : Bk) (k : Nat) : Prop := 0 < x.tn ∧ k = p.g3
def blkB (p : Pl) (x : Bk) (k : Nat) : Prop := blk1 p x k ∨ (blk2 p x k ∨ blk3 p x k)
structure BkAt (w : World) (x : Bk) (p : Pl) : Prop where
  o : ObsAt w p.a1 p.g1 x.on x.os p.A1 p.C1 p.h1
  h : ChsAt w p.a2 p.g2 x.hn x.hs p.A2 p.C2 p.h2
  t : TisAt w p.a3 p.g3 x.tn x.ts
  d12 : ∀ k, blk1 p x k → ¬ blk2 p x k
  d13 : ∀ k, blk1 p x k → ¬ blk3 p x k
  d23 : ∀ k, blk2 p x k → ¬ blk3 p x k
theorem BkAt.blt {w : World} {x : Bk} {p : Pl} (h : BkAt w x p) {k : Nat} (hk : blkB p x k) : k < w.heap.size := by
  rcases hk with h1 | h1 | h1
  · exact h.o.blt h1
  · exact h.h.blt h1
  · exact h.t.blt h1
theorem BkAt.fr {w w' : World} {x : Bk} {p : Pl} {P : Nat → Prop} (h : BkAt w x p) (hf : FrP P w w') (hp : ∀ k, blkB p x k → ¬ P k) : BkAt w' x p :=
  ⟨h.o.fr hf (fun k hk => hp k (Or.inl hk)), h.h.fr hf (fun k hk => hp k (Or.inr (Or.inl hk))), h.t.fr hf (fun k hk => hp k (Or.inr (Or.inr hk))), h.d12, h.d13, h.d23⟩
theorem BkAt.grow {w w' : World} {x : Bk} {p : Pl} (h : BkAt w x p) (hf : Below w.heap.size w w') : BkAt w' x p := h.fr (FrP.of_below (P := fun _ => False) hf) (fun _ _ h => h)
def mkBk (k0 : Nat) (x : Bk) : Nat := mkTis (mkChs (mkObs k0 x.os x.on) x.hs x.hn) x.ts x.tn
def ykBk (k0 : Nat) (x : Bk) : Bk := { x with os := ykOb k0 x.os x.on, hs := ykCh (mkObs k0 x.os x.on) x.hs x.hn, ts := ykTi (mkChs (mkObs k0 x.os x.on) x.hs x.hn) x.ts x.tn }
theorem blk1_yk (p : Pl) (k0 : Nat) (x : Bk) : blk1 p (ykBk k0 x) = blk1 p x := by
  unfold blk1 ykBk
  simp only [ykOb_hn]
theorem blk2_yk (p : Pl) (k0 : Nat) (x : Bk) : blk2 p (ykBk k0 x) = blk2 p x := by
  unfold blk2 ykBk
  simp only [ykCh_hn]
theorem blk3_yk (p : Pl) (k0 : Nat) (x : Bk) : blk3 p (ykBk k0 x) = blk3 p x := rfl
theorem blkB_yk (p : Pl) (k0 : Nat) (x : Bk) : blkB p (ykBk k0 x) = blkB p x := by
  unfold blkB
  rw [blk1_yk, blk2_yk, blk3_yk]
set_option maxRecDepth 100000 in
set_option maxHeartbeats 1000000 in
theorem markBk_own (x : Bk) (p : Pl) (c1 c2 c3 k0 : Nat) (w : World) (l1 : (x.on : Int) ≤ 1048576) (l2 : (x.hn : Int) ≤ 1048576) (l3 : (x.tn : Int) ≤ 1048576) (hk1 : 1 ≤ (k0 : Int)) (hk2 : (mkBk k0 x : Int) ≤ 1073741824) (hc : BkAt w x p) :
    Calls Tryz.prog 7 #[.agg #[.int .i64 x.now, .int .i64 x.floor, .slice p.a1 x.on c1, .slice p.a2 x.hn c2, .slice p.a3 x.tn c3], .int .i64 k0] w fun e w' => e = .returned (.int .i64 (mkBk k0 x)) ∧ BkAt w' (ykBk k0 x) p ∧ FrP (blkB p x) w w' := by
  have m1 := mkObs_pos k0 x.os x.on (by omega)
  have m2 := mkChs_pos (mkObs k0 x.os x.on) x.hs x.hn m1
  have n2 := mkChs_mono (mkObs k0 x.os x.on) x.hs (Nat.zero_le x.hn)
  have n3 := mkTis_mono (mkChs (mkObs k0 x.os x.on) x.hs x.hn) x.ts (Nat.zero_le x.tn)
  have hk3 : (mkTis (mkChs (mkObs k0 x.os x.on) x.hs x.hn) x.ts x.tn : Int) ≤ 1073741824 := hk2
  simp only [mkChs, mkTis] at n2 n3
  have HC := hid hc
  have hA := hid (hc.grow (below_alloc w (.cells #[.int .i64 x.now, .int .i64 x.floor, .slice p.a1 x.on c1, .slice p.a2 x.hn c2, .slice p.a3 x.tn c3] 26)))
  clear hc hk2
  go_enter Tryz.func7, Tryz.ntmps7
  go_wp2_with fail
  refine (markObs_own p.a1 p.g1 x.on x.os p.A1 p.C1 p.h1 c1 k0 _ l1 hk1 (by omega) hA.out.o).mono ?_
  rintro e w1 ⟨rfl, o1, f1⟩
  have q3 : w1.cell? ⟨w.heap.size, 3, none⟩ = some (.slice p.a2 x.hn c2) := (f1.cell (p := ⟨w.heap.size, 3, none⟩) (by simp) (fun h => Nat.lt_irrefl _ (HC.out.o.blt h))).trans (World.cell?_alloc_new _ _ _ _)
  have q4 : w1.cell? ⟨w.heap.size, 4, none⟩ = some (.slice p.a3 x.tn c3) := (f1.cell (p := ⟨w.heap.size, 4, none⟩) (by simp) (fun h => Nat.lt_irrefl _ (HC.out.o.blt h))).trans (World.cell?_alloc_new _ _ _ _)
  have O1 := hid o1
  have F1 := hid f1
  have H1 := hid (hA.out.h.fr f1 (fun k h2 h1 => HC.out.d12 k h1 h2))
  have T1 := hid (hA.out.t.fr f1 (fun k h2 h1 => HC.out.d13 k h1 h2))
  have z1 : w.heap.size < w1.heap.size := by have := f1.size; simp at this; omega
  clear o1 f1 hA
  go_wp2_with fail
  refine (markChs_own p.a2 p.g2 x.hn x.hs p.A2 p.C2 p.h2 c2 (mkObs k0 x.os x.on) _ l2 (by omega) (by omega) H1.out).mono ?_
  rintro e w2 ⟨rfl, o2, f2⟩
  have r4 := (f2.cell (p := ⟨w.heap.size, 4, none⟩) z1 (fun h => Nat.lt_irrefl _ (HC.out.h.blt h))).trans q4
  have O2 := hid o2
  have F2 := hid f2
  have O1' := hid (O1.out.fr f2 (fun k h1 h2 => HC.out.d12 k (by have := h1; simp only [ykOb_hn] at this; exact this) h2))
  have T2 := hid (T1.out.fr f2 (fun k h2 h1 => HC.out.d23 k h1 h2))
  clear o2 f2 q3 q4 O1 T1 H1
  go_wp2_with fail
  refine (markTis_own p.a3 p.g3 x.tn x.ts c3 (mkChs (mkObs k0 x.os x.on) x.hs x.hn) _ l3 (by omega) hk3 T2.out).mono ?_
  rintro e w3 ⟨rfl, o3, f3⟩
  have O3 := hid o3
  have F3 := hid f3
  clear o3 f3 r4
  go_wp2
  go_ret
  have d1 := HC.out.d12
  have d2 := HC.out.d13
  have d3 := HC.out.d23
  refine ⟨rfl, ⟨O1'.out.fr F3.out (fun k h1 h2 => d2 k (by have := h1; simp only [ykOb_hn] at this; exact this) h2), O2.out.fr F3.out (fun k h1 h2 => d3 k (by have := h1; simp only [ykCh_hn] at this; exact this) h2), O3.out, by rw [blk1_yk, blk2_yk]; exact d1, by rw [blk1_yk, blk3_yk]; exact d2, by rw [blk2_yk, blk3_yk]; exact d3⟩, ?_⟩
  exact ((FrP.of_below (below_alloc w _)).trans (F1.out.mono (fun k h => Or.inl h))).trans ((F2.out.mono (fun k h => Or.inr (Or.inl h))).trans (F3.out.mono (fun k h => Or.inr (Or.inr h))))
end Go.Proofs.YtkfbclopkgnacaaGreatDoor
