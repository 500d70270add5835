import Derived.Test.YtkcgfjnmkbbnoaaQ
import Derived.Test.YtkcgfjnmkbbnoaaS
import Derived.Laws.IdiomStrings
import Derived.Deep.RegionWith
namespace Go.Proofs.Ytkcgfjnmkbbnoaa
open Go.RowKit
def mtGo : Nat → Nat → List UInt8 → List UInt8
  | 0, _, acc => acc
  | f + 1, k, acc => if k = 0 then acc else mtGo f (k / 10) ((48 + UInt8.ofNat (k % 10)) :: acc)
theorem mtGo_zero (f : Nat) (acc : List UInt8) : mtGo f 0 acc = acc := by cases f <;> simp [mtGo]
theorem mtGo_succ (f k : Nat) (acc : List UInt8) (h : k ≤ f) (hk : 0 < k) : mtGo f k acc = mtGo (f - 1) (k / 10) ((48 + UInt8.ofNat (k % 10)) :: acc) := by
  obtain ⟨f, rfl⟩ : ∃ g, f = g + 1 := ⟨f - 1, by omega⟩
  conv => lhs; unfold mtGo
  rw [if_neg (by omega)]; rfl
def mt (k : Nat) : ByteArray := ⟨(109 :: mtGo k k []).toArray⟩
theorem mt_conv (w : World) (x : Int) (hx0 : 0 ≤ x) (hx1 : x < 256) : (convert 83 9 (Value.slice (some ⟨w.heap.size, 0, none⟩) 1 1)).run Try.prog (w.alloc (.cells #[.int .u8 x] 5)) = .ok (.string ⟨#[UInt8.ofNat x.toNat]⟩) (w.alloc (.cells #[.int .u8 x] 5)) := by
  have := run_convert_bytes_back (P := Try.prog) (w.alloc (.cells #[.int .u8 x] 5)) 83 9 5 ⟨w.heap.size, 0, none⟩ 1 [UInt8.ofNat x.toNat] Try.underlying83 Try.underlying5 Try.underlying9 (by
    intro i hi
    have : i = 0 := by simpa using hi
    subst this
    have e : ((⟨w.heap.size, 0, none⟩ : Addr).add 0) = ⟨w.heap.size, 0, none⟩ := by simp [Addr.add]
    rw [e, World.cell?_alloc_new]
    simp
    omega)
  simpa using this
set_option maxRecDepth 100000 in
set_option maxHeartbeats 400000 in
theorem markText_any (k : Nat) (w : World) (h1 : 1 ≤ (k : Int)) (h2 : (k : Int) ≤ 1099511627776) :
    Calls Try.prog 28 #[.int .i64 k] w fun e w' => e = .returned (.string (mt k)) ∧ Below w.heap.size w w' := by
  go_enter Try.func28, Try.ntmps28
  go_wp2
  go_loopw [0, 3] (fun t o wr => ∃ (j f : Nat) (acc : List UInt8), t = .int .i64 j ∧ o = .string ⟨acc.toArray⟩ ∧ j ≤ f ∧ acc.length + j ≤ k ∧ mtGo f j acc = mtGo k k [] ∧ Below w.heap.size w wr) (fun t _ _ => (intOf t).toNat)
  case atStart => exact ⟨k, k, [], rfl, rfl, Nat.le_refl _, by simp, rfl, Below.refl _ _⟩
  case round =>
    obtain ⟨j, f, acc, rfl, rfl, hjf, hal, hgo, hb⟩ := hrel
    have HG := hid hgo
    clear hgo
    have hsz : ((⟨acc.toArray⟩ : ByteArray).size) = acc.length := by simp [ByteArray.size]
    by_cases hj0 : 0 < (j : Int)
    · have hcv' := mt_conv wr (48 + (j : Int) % 10) (by omega) (by omega)
      go_wp2
      go_roundw
      case rel => exact ⟨j / 10, f - 1, _ :: acc, by go_num, rfl, by omega, by simp; omega, by rw [← HG.out, mtGo_succ f j acc hjf (by omega)], hb.alloc hb.size _⟩
      case measure => simp [intOf]; omega
    · have hj : j = 0 := by omega
      subst hj
      have HG2 : Hid (acc = mtGo k k []) := by have := HG.out; rw [mtGo_zero] at this; exact this
      clear HG
      go_wp2
      go_ret
      refine ⟨?_, hb⟩
      rw [mt, ← HG2.out]
      exact congrArg (fun x => Ending.returned (Value.string x)) rfl
theorem markStep {wr w1 : World} {lo hi b off n k k0 : Nat} {s : Nat → ByteArray} (hown : StrsOwn wr lo hi (some ⟨b, off, none⟩) n (fun i => if i < k then mt (k0 + i) else s i)) (hb1 : Below wr.heap.size wr w1) (hhi : hi ≤ wr.heap.size) (hkn : k < n) {u : Value} (hu : w1.cell? ⟨b, off + k, none⟩ = some u) :
    StrsOwn (w1.setCell ⟨b, off + k, none⟩ (.string (mt (k0 + k)))) lo hi (some ⟨b, off, none⟩) n (fun i => if i < k + 1 then mt (k0 + i) else s i) := by
  intro i hi'
  obtain ⟨b', off', e, e1, e2, e3, e4⟩ := hown i hi'
  cases e
  refine ⟨b, off, rfl, e1, e2, ?_, by rw [World.frozen?_setCell, hb1.frozen (p := ⟨b, off + i, none⟩) (Nat.lt_of_lt_of_le e2 hhi)]; exact e4⟩
  by_cases e : i = k
  · subst e
    rw [World.cell?_setCell_same _ _ _ hu]; dsimp only; rw [if_pos (by omega)]
  · rw [World.cell?_setCell_other _ _ _ _ (fun h => e (by injection h; omega)), hb1.cell (p := ⟨b, off + i, none⟩) (Nat.lt_of_lt_of_le e2 hhi), e3]
    dsimp only
    by_cases h : i < k
    · rw [if_pos h, if_pos (by omega)]
    · rw [if_neg h, if_neg (by omega)]
set_option maxRecDepth 100000 in
set_option maxHeartbeats 400000 in
theorem markStrs_any (n : Nat) (s : Nat → ByteArray) (ad : Option Addr) (cap k0 : Nat) (w : World) (lo hi : Nat) (hhi : hi ≤ w.heap.size) (hl : (n : Int) ≤ 1073741824) (hk1 : 1 ≤ (k0 : Int)) (hk2 : (k0 : Int) ≤ 1073741824)
    (hc : StrsOwn w lo hi ad n s) :
    Calls Try.prog 43 #[.slice ad n cap, .int .i64 k0] w fun e w' => e = .returned (.int .i64 (k0 + n : Nat)) ∧ StrsOwn w' lo hi ad n (fun i => mt (k0 + i)) ∧ Fr lo hi w w' := by
  go_enter Try.func43, Try.ntmps43
  go_wp2
  go_loopw [1, 5] (fun t i wr => ∃ k : Nat, k ≤ n ∧ i = .int .i64 k ∧ t = .int .i64 (k0 + k : Nat) ∧ Fr lo hi w wr ∧ StrsOwn wr lo hi ad n (fun i => if i < k then mt (k0 + i) else s i)) (fun _ i _ => n - (intOf i).toNat)
  case atStart => exact ⟨0, Nat.zero_le _, rfl, rfl, Fr.refl _ _ _, by simpa using hc⟩
  case round =>
    obtain ⟨k, hk, rfl, rfl, hfr, hown⟩ := hrel
    clear hc
    by_cases hkn : k < n
    · obtain ⟨b, off, rfl, hlo, hbh, hcx, hfx⟩ := hown k hkn
      go_wp2_with (go_at_call 28; refine (markText_any (k0 + k) _ (by omega) (by omega)).mono ?_; rintro e w1 ⟨rfl, hb1⟩; have hcx1 := (hb1.cell (p := ⟨b, off + k, none⟩) (Nat.lt_of_lt_of_le hbh (Nat.le_trans hhi hfr.size))).trans hcx; have hfx1 := (hb1.frozen (p := ⟨b, off + k, none⟩) (Nat.lt_of_lt_of_le hbh (Nat.le_trans hhi hfr.size))).trans hfx)
      go_roundw
      case rel => exact ⟨k + 1, by omega, by go_num, by go_num, (hfr.trans (Fr.of_below hb1)).setCell hlo hbh _, markStep hown hb1 (Nat.le_trans hhi hfr.size) hkn hcx1⟩
      case measure => simp [intOf]; omega
    · have : k = n := by omega
      subst this
      have HR : Hid (StrsOwn wr lo hi ad k (fun i => mt (k0 + i))) := fun i hi' => by
        have := hown i hi'
        dsimp only at this
        rwa [if_pos hi'] at this
      clear hown
      go_wp2
      go_ret
      exact ⟨rfl, HR.out, hfr⟩
set_option maxRecDepth 100000 in
set_option maxHeartbeats 400000 in
theorem heldStrs_any (n : Nat) (ad : Option Addr) (cap k0 : Nat) (w : World) (lo hi : Nat) (hhi : hi ≤ w.heap.size) (hl : (n : Int) ≤ 1073741824) (hk1 : 1 ≤ (k0 : Int)) (hk2 : (k0 : Int) ≤ 1073741824)
    (hc : StrsOwn w lo hi ad n (fun i => mt (k0 + i))) :
    Calls Try.prog 47 #[.slice ad n cap, .int .i64 k0] w fun e w' => e = .returned (.int .i64 (k0 + n : Nat)) ∧ Below w.heap.size w w' := by
  go_enter Try.func47, Try.ntmps47
  go_wp2
  go_loopw [1, 5] (fun t i wr => ∃ k : Nat, k ≤ n ∧ i = .int .i64 k ∧ t = .int .i64 (k0 + k : Nat) ∧ Below w.heap.size w wr) (fun _ i _ => n - (intOf i).toNat)
  case atStart => exact ⟨0, Nat.zero_le _, rfl, rfl, Below.refl _ _⟩
  case round =>
    obtain ⟨k, hk, rfl, rfl, hb⟩ := hrel
    by_cases hkn : k < n
    · obtain ⟨b, off, rfl, hlo, hbh, hcx, hfx⟩ := hc k hkn
      clear hc hfx
      have hcx1 : wr.cell? ⟨b, off + k, none⟩ = some (.string (mt (k0 + k))) := (hb.cell (p := ⟨b, off + k, none⟩) (by show b < _; omega)).trans hcx
      clear hcx
      go_wp2
      go_region_with (go_at_call 28; refine (markText_any (k0 + k) _ (by omega) (by omega)).mono ?_; rintro e w1 ⟨rfl, hb1⟩; have hcx2 := (hb1.cell (p := ⟨b, off + k, none⟩) (Nat.lt_of_lt_of_le hbh (Nat.le_trans hhi hb.size))).trans hcx1)
      all_goals
        go_wp2
        go_roundw
        case rel => exact ⟨k + 1, by omega, by go_num, by go_num, hb.drew.trans (hb1.mono hb.size)⟩
        case measure => simp [intOf]; omega
    · have : k = n := by omega
      subst this
      clear hc
      go_wp2
      go_ret
      exact ⟨rfl, hb⟩
/-- w' is w but for the blocks of P, and for new blocks -/
structure FrP (P : Nat → Prop) (w w' : World) : Prop where
  os : w'.os = w.os
  tape : w'.tape = w.tape
  output : w'.output = w.output
  size : w.heap.size ≤ w'.heap.size
  block : ∀ k, k < w.heap.size → ¬ P k → w'.heap[k]? = w.heap[k]?
theorem FrP.refl (P : Nat → Prop) (w : World) : FrP P w w := ⟨rfl, rfl, rfl, Nat.le_refl _, fun _ _ _ => rfl⟩
theorem FrP.trans {P : Nat → Prop} {a b c : World} (h : FrP P a b) (k : FrP P b c) : FrP P a c :=
  ⟨k.os.trans h.os, k.tape.trans h.tape, k.output.trans h.output, Nat.le_trans h.size k.size, fun i hi ho => (k.block i (Nat.lt_of_lt_of_le hi h.size) ho).trans (h.block i hi ho)⟩
theorem FrP.of_below {P : Nat → Prop} {w w' : World} (h : Below w.heap.size w w') : FrP P w w' := ⟨h.os, h.tape, h.output, h.size, fun i hi _ => h.block i hi⟩
theorem FrP.mono {P Q : Nat → Prop} {w w' : World} (h : FrP P w w') (e : ∀ k, P k → Q k) : FrP Q w w' := ⟨h.os, h.tape, h.output, h.size, fun i hi hq => h.block i hi (fun hp => hq (e i hp))⟩
theorem FrP.setCell {P : Nat → Prop} {a w : World} (h : FrP P a w) {p : Addr} (hp : P p.block) (u : Value) : FrP P a (w.setCell p u) :=
  h.trans ⟨rfl, rfl, rfl, by simp [World.setCell], fun k _ ho => Below.heap_setCell _ _ _ _ (fun e => ho (e ▸ hp))⟩
theorem FrP.cell {P : Nat → Prop} {w w' : World} (h : FrP P w w') {p : Addr} (hp : p.block < w.heap.size) (ho : ¬ P p.block) : w'.cell? p = w.cell? p := World.cell?_of_block (w := w) (h.block p.block hp ho)
theorem FrP.frozen {P : Nat → Prop} {w w' : World} (h : FrP P w w') {p : Addr} (hp : p.block < w.heap.size) (ho : ¬ P p.block) : w'.frozen? p = w.frozen? p := World.frozen?_of_block (w := w) (h.block p.block hp ho)
theorem FrP.below {P : Nat → Prop} {w w' : World} (h : FrP P w w') {B : Nat} (hB : ∀ k, k < B → ¬ P k) (hs : B ≤ w.heap.size) : Below B w w' := ⟨h.os, h.tape, h.output, h.size, fun k hk => h.block k (by omega) (hB k hk)⟩
theorem FrP.of_fr {P : Nat → Prop} {lo hi : Nat} {w w' : World} (h : Fr lo hi w w') (e : ∀ k, lo ≤ k → k < hi → P k) : FrP P w w' := ⟨h.os, h.tape, h.output, h.size, fun k hk ho => h.block k hk (by
  rcases Nat.lt_or_ge k lo with h1 | h1
  · exact Or.inl h1
  · rcases Nat.lt_or_ge k hi with h2 | h2
    · exact absurd (e k h1 h2) ho
    · exact Or.inr h2)⟩
theorem FrP.link {P Q : Nat → Prop} {a b c : World} (h : FrP P a b) (_ : FrP Q b c) : FrP P a b := h
/-- the first m cells of block g, of which none is frozen -/
structure RowF (w : World) (g m : Nat) (c : Nat → Value) : Prop where
  lt : g < w.heap.size
  free : ∀ j, w.frozen? ⟨g, j, none⟩ = false
  cell : ∀ j, j < m → w.cell? ⟨g, j, none⟩ = some (c j)
def setF (c : Nat → Value) (o : Nat) (v : Value) : Nat → Value := fun j => if j = o then v else c j
theorem RowF.set {w : World} {g m : Nat} {c : Nat → Value} (h : RowF w g m c) {o : Nat} (ho : o < m) (v : Value) : RowF (w.setCell ⟨g, o, none⟩ v) g m (setF c o v) :=
  ⟨by rw [World.size_setCell]; exact h.lt, fun j => by rw [World.frozen?_setCell]; exact h.free j, fun j hj => by
    unfold setF
    by_cases e : j = o
    · subst e; rw [if_pos rfl]; exact World.cell?_setCell_same _ _ _ (h.cell j hj)
    · rw [if_neg e, World.cell?_setCell_other _ _ _ _ (fun q => e (by injection q with _ q2; exact q2.symm))]; exact h.cell j hj⟩
theorem RowF.below {w w' : World} {g m B : Nat} {c : Nat → Value} (h : RowF w g m c) (hb : Below B w w') (hB : g < B) : RowF w' g m c :=
  ⟨Nat.lt_of_lt_of_le h.lt hb.size, fun j => (hb.frozen (p := ⟨g, j, none⟩) hB).trans (h.free j), fun j hj => (hb.cell (p := ⟨g, j, none⟩) hB).trans (h.cell j hj)⟩
theorem RowF.fr {w w' : World} {g m : Nat} {c : Nat → Value} {P : Nat → Prop} (h : RowF w g m c) (hb : FrP P w w') (hg : ¬ P g) : RowF w' g m c :=
  ⟨Nat.lt_of_lt_of_le h.lt hb.size, fun j => (hb.frozen (p := ⟨g, j, none⟩) h.lt hg).trans (h.free j), fun j hj => (hb.cell (p := ⟨g, j, none⟩) h.lt hg).trans (h.cell j hj)⟩
theorem StrsOwn.frP {w w' : World} {b : Nat} {ad : Option Addr} {n : Nat} {s : Nat → ByteArray} {P : Nat → Prop} (h : StrsOwn w b (b + 1) ad n s) (hb : FrP P w w') (hn : n ≠ 0 → ¬ P b ∧ b < w.heap.size) : StrsOwn w' b (b + 1) ad n s := fun i hi => by
  obtain ⟨q, off, e1, e2, e3, e4, e5⟩ := h i hi
  have : q = b := by omega
  subst this
  obtain ⟨h1, h2⟩ := hn (by omega)
  exact ⟨q, off, e1, e2, e3, (hb.cell (p := ⟨q, off + i, none⟩) h2 h1).trans e4, (hb.frozen (p := ⟨q, off + i, none⟩) h2 h1).trans e5⟩
theorem markText_at (k : Int) (m : Nat) (hk : k = m) (w : World) (h1 : 1 ≤ k) (h2 : k ≤ 1099511627776) :
    Calls Try.prog 28 #[.int .i64 k] w fun e w' => e = .returned (.string (mt m)) ∧ Below w.heap.size w w' := by
  subst hk
  exact markText_any m w h1 h2
theorem markStrs_own (n : Nat) (s : Nat → ByteArray) (ad : Option Addr) (cap : Nat) (k : Int) (m : Nat) (hk : k = m) (w : World) (b : Nat) (hlt : n ≠ 0 → b < w.heap.size) (hl : (n : Int) ≤ 1073741824) (hk1 : 1 ≤ k) (hk2 : k ≤ 1073741824)
    (hc : StrsOwn w b (b + 1) ad n s) :
    Calls Try.prog 43 #[.slice ad n cap, .int .i64 k] w fun e w' => e = .returned (.int .i64 (k + n)) ∧ StrsOwn w' b (b + 1) ad n (fun i => mt (m + i)) ∧ FrP (fun q => n ≠ 0 ∧ q = b) w w' := by
  subst hk
  by_cases h0 : n = 0
  · subst h0
    exact (markStrs_any 0 s ad cap m w 0 0 (Nat.zero_le _) hl hk1 hk2 (fun i hi => absurd hi (Nat.not_lt_zero _))).mono fun e w' ⟨e1, _, e3⟩ => ⟨e1, fun i hi => absurd hi (Nat.not_lt_zero _), FrP.of_fr e3 (fun k h1 h2 => absurd h2 (Nat.not_lt_zero _))⟩
  · exact (markStrs_any n s ad cap m w b (b + 1) (hlt h0) hl hk1 hk2 hc).mono fun e w' ⟨e1, e2, e3⟩ => ⟨e1, e2, FrP.of_fr e3 (fun k h1 h2 => ⟨h0, by omega⟩)⟩
theorem heldStrs_own (n : Nat) (ad : Option Addr) (cap : Nat) (k : Int) (m : Nat) (hk : k = m) (w : World) (b : Nat) (hlt : n ≠ 0 → b < w.heap.size) (hl : (n : Int) ≤ 1073741824) (hk1 : 1 ≤ k) (hk2 : k ≤ 1073741824)
    (hc : StrsOwn w b (b + 1) ad n (fun i => mt (m + i))) :
    Calls Try.prog 47 #[.slice ad n cap, .int .i64 k] w fun e w' => e = .returned (.int .i64 (k + n)) ∧ Below w.heap.size w w' := by
  subst hk
  by_cases h0 : n = 0
  · subst h0
    exact heldStrs_any 0 ad cap m w 0 0 (Nat.zero_le _) hl hk1 hk2 (fun i hi => absurd hi (Nat.not_lt_zero _))
  · exact heldStrs_any n ad cap m w b (b + 1) (hlt h0) hl hk1 hk2 hc
/-- the holds' blocks are apart from g and from one another -/
structure ApartH (g n : Nat) (N : Nat → Nat) (hb : Nat → Nat) : Prop where
  ne : ∀ i, i < n → N i ≠ 0 → hb i ≠ g
  inj : ∀ i j, i < n → j < n → N i ≠ 0 → N j ≠ 0 → hb i = hb j → i = j
theorem ApartH.congr {g n : Nat} {N N' : Nat → Nat} {hb : Nat → Nat} (h : ApartH g n N hb) (e : ∀ i, N i = N' i) : ApartH g n N' hb := by
  have : N = N' := funext e
  subst this; exact h
theorem rem3 {a b : Int} (h : a = b) : (a % 3 == 0) = decide (b % 3 = 0) := by subst h; rfl
def blkH (g n : Nat) (N : Nat → Nat) (hb : Nat → Nat) (k : Nat) : Prop := (0 < n ∧ k = g) ∨ ∃ i, i < n ∧ N i ≠ 0 ∧ k = hb i
theorem markStepI {wr : World} {lo hi b off n k k0 : Nat} {s : Nat → Int} (hown : IntsOwn wr lo hi (some ⟨b, off, none⟩) n (fun i => if i < k then (k0 + i : Nat) else s i)) {u : Value} (hu : wr.cell? ⟨b, off + k, none⟩ = some u) :
    IntsOwn (wr.setCell ⟨b, off + k, none⟩ (.int .i64 (k0 + k : Nat))) lo hi (some ⟨b, off, none⟩) n (fun i => if i < k + 1 then (k0 + i : Nat) else s i) := by
  intro i hi'
  obtain ⟨b', off', e, e1, e2, e3, e4⟩ := hown i hi'
  cases e
  refine ⟨b, off, rfl, e1, e2, ?_, by rw [World.frozen?_setCell]; exact e4⟩
  by_cases e : i = k
  · subst e
    rw [World.cell?_setCell_same _ _ _ hu]; dsimp only; rw [if_pos (by omega)]
  · rw [World.cell?_setCell_other _ _ _ _ (fun h => e (by injection h; omega)), e3]
    dsimp only
    by_cases h : i < k
    · rw [if_pos h, if_pos (by omega)]
    · rw [if_neg h, if_neg (by omega)]
set_option maxRecDepth 100000 in
set_option maxHeartbeats 400000 in
theorem markInts_any (n : Nat) (s : Nat → Int) (ad : Option Addr) (cap k0 : Nat) (w : World) (lo hi : Nat) (_hhi : hi ≤ w.heap.size) (hl : (n : Int) ≤ 1073741824) (hk1 : 1 ≤ (k0 : Int)) (hk2 : (k0 : Int) ≤ 1073741824)
    (hc : IntsOwn w lo hi ad n s) :
    Calls Try.prog 44 #[.slice ad n cap, .int .i64 k0] w fun e w' => e = .returned (.int .i64 (k0 + n : Nat)) ∧ IntsOwn w' lo hi ad n (fun i => (k0 + i : Nat)) ∧ Fr lo hi w w' := by
  go_enter Try.func44, Try.ntmps44
  go_wp2
  go_loopw [1, 5] (fun t i wr => ∃ k : Nat, k ≤ n ∧ i = .int .i64 k ∧ t = .int .i64 (k0 + k : Nat) ∧ Fr lo hi w wr ∧ IntsOwn wr lo hi ad n (fun i => if i < k then (k0 + i : Nat) else s i)) (fun _ i _ => n - (intOf i).toNat)
  case atStart => exact ⟨0, Nat.zero_le _, rfl, rfl, Fr.refl _ _ _, by simpa using hc⟩
  case round =>
    obtain ⟨k, hk, rfl, rfl, hfr, hown⟩ := hrel
    clear hc
    by_cases hkn : k < n
    · obtain ⟨b, off, rfl, hlo, hbh, hcx, hfx⟩ := hown k hkn
      go_wp2
      go_roundw
      case rel => exact ⟨k + 1, by omega, by go_num, by go_num, hfr.setCell hlo hbh _, markStepI hown hcx⟩
      case measure => simp [intOf]; omega
    · have : k = n := by omega
      subst this
      have HR : Hid (IntsOwn wr lo hi ad k (fun i => (k0 + i : Nat))) := fun i hi' => by
        have := hown i hi'
        dsimp only at this
        rwa [if_pos hi'] at this
      clear hown
      go_wp2
      go_ret
      exact ⟨rfl, HR.out, hfr⟩
theorem IntsOwn.frP {w w' : World} {b : Nat} {ad : Option Addr} {n : Nat} {s : Nat → Int} {P : Nat → Prop} (h : IntsOwn w b (b + 1) ad n s) (hb : FrP P w w') (hn : n ≠ 0 → ¬ P b ∧ b < w.heap.size) : IntsOwn w' b (b + 1) ad n s := fun i hi => by
  obtain ⟨q, off, e1, e2, e3, e4, e5⟩ := h i hi
  have : q = b := by omega
  subst this
  obtain ⟨h1, h2⟩ := hn (by omega)
  exact ⟨q, off, e1, e2, e3, (hb.cell (p := ⟨q, off + i, none⟩) h2 h1).trans e4, (hb.frozen (p := ⟨q, off + i, none⟩) h2 h1).trans e5⟩
theorem markInts_own (n : Nat) (s : Nat → Int) (ad : Option Addr) (cap : Nat) (k : Int) (m : Nat) (hk : k = m) (w : World) (b : Nat) (hlt : n ≠ 0 → b < w.heap.size) (hl : (n : Int) ≤ 1073741824) (hk1 : 1 ≤ k) (hk2 : k ≤ 1073741824)
    (hc : IntsOwn w b (b + 1) ad n s) :
    Calls Try.prog 44 #[.slice ad n cap, .int .i64 k] w fun e w' => e = .returned (.int .i64 (k + n)) ∧ IntsOwn w' b (b + 1) ad n (fun i => (m + i : Nat)) ∧ FrP (fun q => n ≠ 0 ∧ q = b) w w' := by
  subst hk
  by_cases h0 : n = 0
  · subst h0
    exact (markInts_any 0 s ad cap m w 0 0 (Nat.zero_le _) hl hk1 hk2 (fun i hi => absurd hi (Nat.not_lt_zero _))).mono fun e w' ⟨e1, _, e3⟩ => ⟨e1, fun i hi => absurd hi (Nat.not_lt_zero _), FrP.of_fr e3 (fun k h1 h2 => absurd h2 (Nat.not_lt_zero _))⟩
  · exact (markInts_any n s ad cap m w b (b + 1) (hlt h0) hl hk1 hk2 hc).mono fun e w' ⟨e1, e2, e3⟩ => ⟨e1, e2, FrP.of_fr e3 (fun k h1 h2 => ⟨h0, by omega⟩)⟩
end Go.Proofs.Ytkcgfjnmkbbnoaa
