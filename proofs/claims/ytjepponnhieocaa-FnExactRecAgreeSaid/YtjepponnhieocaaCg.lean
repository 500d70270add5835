import Derived.Test.YtjepponnhieocaaQ
import Derived.Test.YtjepponnhieocaaS
import Derived.Laws.IdiomStrings
import Derived.Deep.RegionWith
import Derived.Laws.IdiomCopy
import Derived.Laws.CopyOwn
import Derived.Test.YtjepponnhieocaaRg
import Derived.Test.YtjepponnhieocaaNc
import Derived.Test.YtjepponnhieocaaU
import Derived.Deep.AppendSrc
import Derived.Maps.AppendAt
import Derived.Test.YtjepponnhieocaaWz
import Derived.Test.YtjepponnhieocaaNb
import Derived.Test.YtjepponnhieocaaW
namespace Go.Proofs.Ytjepponnhieocaa
open Go.RowKit
def mtGo : Nat → Nat → List UInt8 → List UInt8
  | 0, _, acc => acc
  | f + 1, k, acc => if k = 0 then acc else mtGo f (k / 10) ((48 + UInt8.ofNat (k % 10)) :: acc)
theorem mtGo_zero (f : Nat) (acc : List UInt8) : mtGo f 0 acc = acc := by cases f <;> simp [mtGo]
theorem mtGo_succ (f k : Nat) (acc : List UInt8) (h : k ≤ f) (hk : 0 < k) : mtGo f k acc = mtGo (f - 1) (k / 10) ((48 + UInt8.ofNat (k % 10)) :: acc) := by
  obtain ⟨f, rfl⟩ : ∃ g, f = g + 1 := ⟨f - 1, by omega⟩
  conv => lhs; unfold mtGo
  rw [if_neg (by omega)]; rfl
def mt (k : Nat) : ByteArray := ⟨(109 :: mtGo k k []).toArray⟩
theorem mt_conv (w : World) (x : Int) (hx0 : 0 ≤ x) (hx1 : x < 256) : (convert 149 9 (Value.slice (some ⟨w.heap.size, 0, none⟩) 1 1)).run Try.prog (w.alloc (.cells #[.int .u8 x] 5)) = .ok (.string ⟨#[UInt8.ofNat x.toNat]⟩) (w.alloc (.cells #[.int .u8 x] 5)) := by
  have := run_convert_bytes_back (P := Try.prog) (w.alloc (.cells #[.int .u8 x] 5)) 149 9 5 ⟨w.heap.size, 0, none⟩ 1 [UInt8.ofNat x.toNat] Try.underlying149 Try.underlying5 Try.underlying9 (by
    intro i hi
    have : i = 0 := by simpa using hi
    subst this
    have e : ((⟨w.heap.size, 0, none⟩ : Addr).add 0) = ⟨w.heap.size, 0, none⟩ := by simp [Addr.add]
    rw [e, World.cell?_alloc_new]
    simp
    omega)
  simpa using this
set_option maxRecDepth 100000 in
set_option maxHeartbeats 400000 in
theorem markText_any (k : Nat) (w : World) (h1 : 1 ≤ (k : Int)) (h2 : (k : Int) ≤ 1099511627776) :
    Calls Try.prog 79 #[.int .i64 k] w fun e w' => e = .returned (.string (mt k)) ∧ Below w.heap.size w w' := by
  go_enter Try.func79, Try.ntmps79
  go_wp2
  go_loopw [0, 3] (fun t o wr => ∃ (j f : Nat) (acc : List UInt8), t = .int .i64 j ∧ o = .string ⟨acc.toArray⟩ ∧ j ≤ f ∧ acc.length + j ≤ k ∧ mtGo f j acc = mtGo k k [] ∧ Below w.heap.size w wr) (fun t _ _ => (intOf t).toNat)
  case atStart => exact ⟨k, k, [], rfl, rfl, Nat.le_refl _, by simp, rfl, Below.refl _ _⟩
  case round =>
    obtain ⟨j, f, acc, rfl, rfl, hjf, hal, hgo, hb⟩ := hrel
    have HG := hid hgo
    clear hgo
    have hsz : ((⟨acc.toArray⟩ : ByteArray).size) = acc.length := by simp [ByteArray.size]
    by_cases hj0 : 0 < (j : Int)
    · have hcv' := mt_conv wr (48 + (j : Int) % 10) (by omega) (by omega)
      go_wp2
      go_roundw
      case rel => exact ⟨j / 10, f - 1, _ :: acc, by go_num, rfl, by omega, by simp; omega, by rw [← HG.out, mtGo_succ f j acc hjf (by omega)], hb.alloc hb.size _⟩
      case measure => simp [intOf]; omega
    · have hj : j = 0 := by omega
      subst hj
      have HG2 : Hid (acc = mtGo k k []) := by have := HG.out; rw [mtGo_zero] at this; exact this
      clear HG
      go_wp2
      go_ret
      refine ⟨?_, hb⟩
      rw [mt, ← HG2.out]
      exact congrArg (fun x => Ending.returned (Value.string x)) rfl
theorem markStep {wr w1 : World} {lo hi b off n k k0 : Nat} {s : Nat → ByteArray} (hown : StrsOwn wr lo hi (some ⟨b, off, none⟩) n (fun i => if i < k then mt (k0 + i) else s i)) (hb1 : Below wr.heap.size wr w1) (hhi : hi ≤ wr.heap.size) (hkn : k < n) {u : Value} (hu : w1.cell? ⟨b, off + k, none⟩ = some u) :
    StrsOwn (w1.setCell ⟨b, off + k, none⟩ (.string (mt (k0 + k)))) lo hi (some ⟨b, off, none⟩) n (fun i => if i < k + 1 then mt (k0 + i) else s i) := by
  intro i hi'
  obtain ⟨b', off', e, e1, e2, e3, e4⟩ := hown i hi'
  cases e
  refine ⟨b, off, rfl, e1, e2, ?_, by rw [World.frozen?_setCell, hb1.frozen (p := ⟨b, off + i, none⟩) (Nat.lt_of_lt_of_le e2 hhi)]; exact e4⟩
  by_cases e : i = k
  · subst e
    rw [World.cell?_setCell_same _ _ _ hu]; dsimp only; rw [if_pos (by omega)]
  · rw [World.cell?_setCell_other _ _ _ _ (fun h => e (by injection h; omega)), hb1.cell (p := ⟨b, off + i, none⟩) (Nat.lt_of_lt_of_le e2 hhi), e3]
    dsimp only
    by_cases h : i < k
    · rw [if_pos h, if_pos (by omega)]
    · rw [if_neg h, if_neg (by omega)]
set_option maxRecDepth 100000 in
set_option maxHeartbeats 400000 in
theorem markStrs_any (n : Nat) (s : Nat → ByteArray) (ad : Option Addr) (cap k0 : Nat) (w : World) (lo hi : Nat) (hhi : hi ≤ w.heap.size) (hl : (n : Int) ≤ 1073741824) (hk1 : 1 ≤ (k0 : Int)) (hk2 : (k0 : Int) ≤ 1073741824)
    (hc : StrsOwn w lo hi ad n s) :
    Calls Try.prog 28 #[.slice ad n cap, .int .i64 k0] w fun e w' => e = .returned (.int .i64 (k0 + n : Nat)) ∧ StrsOwn w' lo hi ad n (fun i => mt (k0 + i)) ∧ Fr lo hi w w' := by
  go_enter Try.func28, Try.ntmps28
  go_wp2
  go_loopw [1, 5] (fun t i wr => ∃ k : Nat, k ≤ n ∧ i = .int .i64 k ∧ t = .int .i64 (k0 + k : Nat) ∧ Fr lo hi w wr ∧ StrsOwn wr lo hi ad n (fun i => if i < k then mt (k0 + i) else s i)) (fun _ i _ => n - (intOf i).toNat)
  case atStart => exact ⟨0, Nat.zero_le _, rfl, rfl, Fr.refl _ _ _, by simpa using hc⟩
  case round =>
    obtain ⟨k, hk, rfl, rfl, hfr, hown⟩ := hrel
    clear hc
    by_cases hkn : k < n
    · obtain ⟨b, off, rfl, hlo, hbh, hcx, hfx⟩ := hown k hkn
      go_wp2_with (go_at_call 79; refine (markText_any (k0 + k) _ (by omega) (by omega)).mono ?_; rintro e w1 ⟨rfl, hb1⟩; have hcx1 := (hb1.cell (p := ⟨b, off + k, none⟩) (Nat.lt_of_lt_of_le hbh (Nat.le_trans hhi hfr.size))).trans hcx; have hfx1 := (hb1.frozen (p := ⟨b, off + k, none⟩) (Nat.lt_of_lt_of_le hbh (Nat.le_trans hhi hfr.size))).trans hfx)
      go_roundw
      case rel => exact ⟨k + 1, by omega, by go_num, by go_num, (hfr.trans (Fr.of_below hb1)).setCell hlo hbh _, markStep hown hb1 (Nat.le_trans hhi hfr.size) hkn hcx1⟩
      case measure => simp [intOf]; omega
    · have : k = n := by omega
      subst this
      have HR : Hid (StrsOwn wr lo hi ad k (fun i => mt (k0 + i))) := fun i hi' => by
        have := hown i hi'
        dsimp only at this
        rwa [if_pos hi'] at this
      clear hown
      go_wp2
      go_ret
      exact ⟨rfl, HR.out, hfr⟩
set_option maxRecDepth 100000 in
set_option maxHeartbeats 400000 in
theorem heldStrs_any (n : Nat) (ad : Option Addr) (cap k0 : Nat) (w : World) (lo hi : Nat) (hhi : hi ≤ w.heap.size) (hl : (n : Int) ≤ 1073741824) (hk1 : 1 ≤ (k0 : Int)) (hk2 : (k0 : Int) ≤ 1073741824)
    (hc : StrsOwn w lo hi ad n (fun i => mt (k0 + i))) :
    Calls Try.prog 29 #[.slice ad n cap, .int .i64 k0] w fun e w' => e = .returned (.int .i64 (k0 + n : Nat)) ∧ Below w.heap.size w w' := by
  go_enter Try.func29, Try.ntmps29
  go_wp2
  go_loopw [1, 5] (fun t i wr => ∃ k : Nat, k ≤ n ∧ i = .int .i64 k ∧ t = .int .i64 (k0 + k : Nat) ∧ Below w.heap.size w wr) (fun _ i _ => n - (intOf i).toNat)
  case atStart => exact ⟨0, Nat.zero_le _, rfl, rfl, Below.refl _ _⟩
  case round =>
    obtain ⟨k, hk, rfl, rfl, hb⟩ := hrel
    by_cases hkn : k < n
    · obtain ⟨b, off, rfl, hlo, hbh, hcx, hfx⟩ := hc k hkn
      clear hc hfx
      have hcx1 : wr.cell? ⟨b, off + k, none⟩ = some (.string (mt (k0 + k))) := (hb.cell (p := ⟨b, off + k, none⟩) (by show b < _; omega)).trans hcx
      clear hcx
      go_wp2
      go_region_with (go_at_call 79; refine (markText_any (k0 + k) _ (by omega) (by omega)).mono ?_; rintro e w1 ⟨rfl, hb1⟩; have hcx2 := (hb1.cell (p := ⟨b, off + k, none⟩) (Nat.lt_of_lt_of_le hbh (Nat.le_trans hhi hb.size))).trans hcx1)
      all_goals
        go_wp2
        go_roundw
        case rel => exact ⟨k + 1, by omega, by go_num, by go_num, hb.drew.trans (hb1.mono hb.size)⟩
        case measure => simp [intOf]; omega
    · have : k = n := by omega
      subst this
      clear hc
      go_wp2
      go_ret
      exact ⟨rfl, hb⟩
/-- w' is w but for the blocks of P, and for new blocks -/
structure FrP (P : Nat → Prop) (w w' : World) : Prop where
  os : w'.os = w.os
  tape : w'.tape = w.tape
  output : w'.output = w.output
  size : w.heap.size ≤ w'.heap.size
  block : ∀ k, k < w.heap.size → ¬ P k → w'.heap[k]? = w.heap[k]?
theorem FrP.refl (P : Nat → Prop) (w : World) : FrP P w w := ⟨rfl, rfl, rfl, Nat.le_refl _, fun _ _ _ => rfl⟩
theorem FrP.trans {P : Nat → Prop} {a b c : World} (h : FrP P a b) (k : FrP P b c) : FrP P a c :=
  ⟨k.os.trans h.os, k.tape.trans h.tape, k.output.trans h.output, Nat.le_trans h.size k.size, fun i hi ho => (k.block i (Nat.lt_of_lt_of_le hi h.size) ho).trans (h.block i hi ho)⟩
theorem FrP.of_below {P : Nat → Prop} {w w' : World} (h : Below w.heap.size w w') : FrP P w w' := ⟨h.os, h.tape, h.output, h.size, fun i hi _ => h.block i hi⟩
theorem FrP.mono {P Q : Nat → Prop} {w w' : World} (h : FrP P w w') (e : ∀ k, P k → Q k) : FrP Q w w' := ⟨h.os, h.tape, h.output, h.size, fun i hi hq => h.block i hi (fun hp => hq (e i hp))⟩
theorem FrP.setCell {P : Nat → Prop} {a w : World} (h : FrP P a w) {p : Addr} (hp : P p.block) (u : Value) : FrP P a (w.setCell p u) :=
  h.trans ⟨rfl, rfl, rfl, by simp [World.setCell], fun k _ ho => Below.heap_setCell _ _ _ _ (fun e => ho (e ▸ hp))⟩
theorem FrP.cell {P : Nat → Prop} {w w' : World} (h : FrP P w w') {p : Addr} (hp : p.block < w.heap.size) (ho : ¬ P p.block) : w'.cell? p = w.cell? p := World.cell?_of_block (w := w) (h.block p.block hp ho)
theorem FrP.frozen {P : Nat → Prop} {w w' : World} (h : FrP P w w') {p : Addr} (hp : p.block < w.heap.size) (ho : ¬ P p.block) : w'.frozen? p = w.frozen? p := World.frozen?_of_block (w := w) (h.block p.block hp ho)
theorem FrP.below {P : Nat → Prop} {w w' : World} (h : FrP P w w') {B : Nat} (hB : ∀ k, k < B → ¬ P k) (hs : B ≤ w.heap.size) : Below B w w' := ⟨h.os, h.tape, h.output, h.size, fun k hk => h.block k (by omega) (hB k hk)⟩
theorem FrP.of_fr {P : Nat → Prop} {lo hi : Nat} {w w' : World} (h : Fr lo hi w w') (e : ∀ k, lo ≤ k → k < hi → P k) : FrP P w w' := ⟨h.os, h.tape, h.output, h.size, fun k hk ho => h.block k hk (by
  rcases Nat.lt_or_ge k lo with h1 | h1
  · exact Or.inl h1
  · rcases Nat.lt_or_ge k hi with h2 | h2
    · exact absurd (e k h1 h2) ho
    · exact Or.inr h2)⟩
theorem FrP.link {P Q : Nat → Prop} {a b c : World} (h : FrP P a b) (_ : FrP Q b c) : FrP P a b := h
/-- the first m cells of block g, of which none is frozen -/
structure RowF (w : World) (g m : Nat) (c : Nat → Value) : Prop where
  lt : g < w.heap.size
  free : ∀ j, w.frozen? ⟨g, j, none⟩ = false
  cell : ∀ j, j < m → w.cell? ⟨g, j, none⟩ = some (c j)
def setF (c : Nat → Value) (o : Nat) (v : Value) : Nat → Value := fun j => if j = o then v else c j
theorem RowF.set {w : World} {g m : Nat} {c : Nat → Value} (h : RowF w g m c) {o : Nat} (ho : o < m) (v : Value) : RowF (w.setCell ⟨g, o, none⟩ v) g m (setF c o v) :=
  ⟨by rw [World.size_setCell]; exact h.lt, fun j => by rw [World.frozen?_setCell]; exact h.free j, fun j hj => by
    unfold setF
    by_cases e : j = o
    · subst e; rw [if_pos rfl]; exact World.cell?_setCell_same _ _ _ (h.cell j hj)
    · rw [if_neg e, World.cell?_setCell_other _ _ _ _ (fun q => e (by injection q with _ q2; exact q2.symm))]; exact h.cell j hj⟩
theorem RowF.below {w w' : World} {g m B : Nat} {c : Nat → Value} (h : RowF w g m c) (hb : Below B w w') (hB : g < B) : RowF w' g m c :=
  ⟨Nat.lt_of_lt_of_le h.lt hb.size, fun j => (hb.frozen (p := ⟨g, j, none⟩) hB).trans (h.free j), fun j hj => (hb.cell (p := ⟨g, j, none⟩) hB).trans (h.cell j hj)⟩
theorem RowF.fr {w w' : World} {g m : Nat} {c : Nat → Value} {P : Nat → Prop} (h : RowF w g m c) (hb : FrP P w w') (hg : ¬ P g) : RowF w' g m c :=
  ⟨Nat.lt_of_lt_of_le h.lt hb.size, fun j => (hb.frozen (p := ⟨g, j, none⟩) h.lt hg).trans (h.free j), fun j hj => (hb.cell (p := ⟨g, j, none⟩) h.lt hg).trans (h.cell j hj)⟩
theorem StrsOwn.frP {w w' : World} {b : Nat} {ad : Option Addr} {n : Nat} {s : Nat → ByteArray} {P : Nat → Prop} (h : StrsOwn w b (b + 1) ad n s) (hb : FrP P w w') (hn : n ≠ 0 → ¬ P b ∧ b < w.heap.size) : StrsOwn w' b (b + 1) ad n s := fun i hi => by
  obtain ⟨q, off, e1, e2, e3, e4, e5⟩ := h i hi
  have : q = b := by omega
  subst this
  obtain ⟨h1, h2⟩ := hn (by omega)
  exact ⟨q, off, e1, e2, e3, (hb.cell (p := ⟨q, off + i, none⟩) h2 h1).trans e4, (hb.frozen (p := ⟨q, off + i, none⟩) h2 h1).trans e5⟩
theorem markText_at (k : Int) (m : Nat) (hk : k = m) (w : World) (h1 : 1 ≤ k) (h2 : k ≤ 1099511627776) :
    Calls Try.prog 79 #[.int .i64 k] w fun e w' => e = .returned (.string (mt m)) ∧ Below w.heap.size w w' := by
  subst hk
  exact markText_any m w h1 h2
theorem markStrs_own (n : Nat) (s : Nat → ByteArray) (ad : Option Addr) (cap : Nat) (k : Int) (m : Nat) (hk : k = m) (w : World) (b : Nat) (hlt : n ≠ 0 → b < w.heap.size) (hl : (n : Int) ≤ 1073741824) (hk1 : 1 ≤ k) (hk2 : k ≤ 1073741824)
    (hc : StrsOwn w b (b + 1) ad n s) :
    Calls Try.prog 28 #[.slice ad n cap, .int .i64 k] w fun e w' => e = .returned (.int .i64 (k + n)) ∧ StrsOwn w' b (b + 1) ad n (fun i => mt (m + i)) ∧ FrP (fun q => n ≠ 0 ∧ q = b) w w' := by
  subst hk
  by_cases h0 : n = 0
  · subst h0
    exact (markStrs_any 0 s ad cap m w 0 0 (Nat.zero_le _) hl hk1 hk2 (fun i hi => absurd hi (Nat.not_lt_zero _))).mono fun e w' ⟨e1, _, e3⟩ => ⟨e1, fun i hi => absurd hi (Nat.not_lt_zero _), FrP.of_fr e3 (fun k h1 h2 => absurd h2 (Nat.not_lt_zero _))⟩
  · exact (markStrs_any n s ad cap m w b (b + 1) (hlt h0) hl hk1 hk2 hc).mono fun e w' ⟨e1, e2, e3⟩ => ⟨e1, e2, FrP.of_fr e3 (fun k h1 h2 => ⟨h0, by omega⟩)⟩
theorem heldStrs_own (n : Nat) (ad : Option Addr) (cap : Nat) (k : Int) (m : Nat) (hk : k = m) (w : World) (b : Nat) (hlt : n ≠ 0 → b < w.heap.size) (hl : (n : Int) ≤ 1073741824) (hk1 : 1 ≤ k) (hk2 : k ≤ 1073741824)
    (hc : StrsOwn w b (b + 1) ad n (fun i => mt (m + i))) :
    Calls Try.prog 29 #[.slice ad n cap, .int .i64 k] w fun e w' => e = .returned (.int .i64 (k + n)) ∧ Below w.heap.size w w' := by
  subst hk
  by_cases h0 : n = 0
  · subst h0
    exact heldStrs_any 0 ad cap m w 0 0 (Nat.zero_le _) hl hk1 hk2 (fun i hi => absurd hi (Nat.not_lt_zero _))
  · exact heldStrs_any n ad cap m w b (b + 1) (hlt h0) hl hk1 hk2 hc
/-- the holds' blocks are apart from g and from one another -/
structure ApartH (g n : Nat) (N : Nat → Nat) (hb : Nat → Nat) : Prop where
  ne : ∀ i, i < n → N i ≠ 0 → hb i ≠ g
  inj : ∀ i j, i < n → j < n → N i ≠ 0 → N j ≠ 0 → hb i = hb j → i = j
theorem ApartH.congr {g n : Nat} {N N' : Nat → Nat} {hb : Nat → Nat} (h : ApartH g n N hb) (e : ∀ i, N i = N' i) : ApartH g n N' hb := by
  have : N = N' := funext e
  subst this; exact h
theorem rem3 {a b : Int} (h : a = b) : (a % 3 == 0) = decide (b % 3 = 0) := by subst h; rfl
def blkH (g n : Nat) (N : Nat → Nat) (hb : Nat → Nat) (k : Nat) : Prop := (0 < n ∧ k = g) ∨ ∃ i, i < n ∧ N i ≠ 0 ∧ k = hb i
theorem markStepI {wr : World} {lo hi b off n k k0 : Nat} {s : Nat → Int} (hown : IntsOwn wr lo hi (some ⟨b, off, none⟩) n (fun i => if i < k then (k0 + i : Nat) else s i)) {u : Value} (hu : wr.cell? ⟨b, off + k, none⟩ = some u) :
    IntsOwn (wr.setCell ⟨b, off + k, none⟩ (.int .i64 (k0 + k : Nat))) lo hi (some ⟨b, off, none⟩) n (fun i => if i < k + 1 then (k0 + i : Nat) else s i) := by
  intro i hi'
  obtain ⟨b', off', e, e1, e2, e3, e4⟩ := hown i hi'
  cases e
  refine ⟨b, off, rfl, e1, e2, ?_, by rw [World.frozen?_setCell]; exact e4⟩
  by_cases e : i = k
  · subst e
    rw [World.cell?_setCell_same _ _ _ hu]; dsimp only; rw [if_pos (by omega)]
  · rw [World.cell?_setCell_other _ _ _ _ (fun h => e (by injection h; omega)), e3]
    dsimp only
    by_cases h : i < k
    · rw [if_pos h, if_pos (by omega)]
    · rw [if_neg h, if_neg (by omega)]
set_option maxRecDepth 100000 in
set_option maxHeartbeats 400000 in
theorem markInts_any (n : Nat) (s : Nat → Int) (ad : Option Addr) (cap k0 : Nat) (w : World) (lo hi : Nat) (_hhi : hi ≤ w.heap.size) (hl : (n : Int) ≤ 1073741824) (hk1 : 1 ≤ (k0 : Int)) (hk2 : (k0 : Int) ≤ 1073741824)
    (hc : IntsOwn w lo hi ad n s) :
    Calls Try.prog 76 #[.slice ad n cap, .int .i64 k0] w fun e w' => e = .returned (.int .i64 (k0 + n : Nat)) ∧ IntsOwn w' lo hi ad n (fun i => (k0 + i : Nat)) ∧ Fr lo hi w w' := by
  go_enter Try.func76, Try.ntmps76
  go_wp2
  go_loopw [1, 5] (fun t i wr => ∃ k : Nat, k ≤ n ∧ i = .int .i64 k ∧ t = .int .i64 (k0 + k : Nat) ∧ Fr lo hi w wr ∧ IntsOwn wr lo hi ad n (fun i => if i < k then (k0 + i : Nat) else s i)) (fun _ i _ => n - (intOf i).toNat)
  case atStart => exact ⟨0, Nat.zero_le _, rfl, rfl, Fr.refl _ _ _, by simpa using hc⟩
  case round =>
    obtain ⟨k, hk, rfl, rfl, hfr, hown⟩ := hrel
    clear hc
    by_cases hkn : k < n
    · obtain ⟨b, off, rfl, hlo, hbh, hcx, hfx⟩ := hown k hkn
      go_wp2
      go_roundw
      case rel => exact ⟨k + 1, by omega, by go_num, by go_num, hfr.setCell hlo hbh _, markStepI hown hcx⟩
      case measure => simp [intOf]; omega
    · have : k = n := by omega
      subst this
      have HR : Hid (IntsOwn wr lo hi ad k (fun i => (k0 + i : Nat))) := fun i hi' => by
        have := hown i hi'
        dsimp only at this
        rwa [if_pos hi'] at this
      clear hown
      go_wp2
      go_ret
      exact ⟨rfl, HR.out, hfr⟩
theorem IntsOwn.frP {w w' : World} {b : Nat} {ad : Option Addr} {n : Nat} {s : Nat → Int} {P : Nat → Prop} (h : IntsOwn w b (b + 1) ad n s) (hb : FrP P w w') (hn : n ≠ 0 → ¬ P b ∧ b < w.heap.size) : IntsOwn w' b (b + 1) ad n s := fun i hi => by
  obtain ⟨q, off, e1, e2, e3, e4, e5⟩ := h i hi
  have : q = b := by omega
  subst this
  obtain ⟨h1, h2⟩ := hn (by omega)
  exact ⟨q, off, e1, e2, e3, (hb.cell (p := ⟨q, off + i, none⟩) h2 h1).trans e4, (hb.frozen (p := ⟨q, off + i, none⟩) h2 h1).trans e5⟩
theorem markInts_own (n : Nat) (s : Nat → Int) (ad : Option Addr) (cap : Nat) (k : Int) (m : Nat) (hk : k = m) (w : World) (b : Nat) (hlt : n ≠ 0 → b < w.heap.size) (hl : (n : Int) ≤ 1073741824) (hk1 : 1 ≤ k) (hk2 : k ≤ 1073741824)
    (hc : IntsOwn w b (b + 1) ad n s) :
    Calls Try.prog 76 #[.slice ad n cap, .int .i64 k] w fun e w' => e = .returned (.int .i64 (k + n)) ∧ IntsOwn w' b (b + 1) ad n (fun i => (m + i : Nat)) ∧ FrP (fun q => n ≠ 0 ∧ q = b) w w' := by
  subst hk
  by_cases h0 : n = 0
  · subst h0
    exact (markInts_any 0 s ad cap m w 0 0 (Nat.zero_le _) hl hk1 hk2 (fun i hi => absurd hi (Nat.not_lt_zero _))).mono fun e w' ⟨e1, _, e3⟩ => ⟨e1, fun i hi => absurd hi (Nat.not_lt_zero _), FrP.of_fr e3 (fun k h1 h2 => absurd h2 (Nat.not_lt_zero _))⟩
  · exact (markInts_any n s ad cap m w b (b + 1) (hlt h0) hl hk1 hk2 hc).mono fun e w' ⟨e1, e2, e3⟩ => ⟨e1, e2, FrP.of_fr e3 (fun k h1 h2 => ⟨h0, by omega⟩)⟩
end Go.Proofs.Ytjepponnhieocaa
namespace Go.Proofs.Ytjepponnhieocaa
open Go.RowKit
/-- the mark of a slot -/
def slM (m : Nat) : Sl := ⟨m, mt (m + 1)⟩
def atSl (c : Nat → Value) (i : Nat) (y : Sl) : Prop := c (i * 2) = .int .i64 y.bal ∧ c (i * 2 + 1) = .string y.text
theorem atSl_set {c : Nat → Value} {i : Nat} {y : Sl} (h : atSl c i y) {k o : Nat} (hik : ¬ i = k) (h1 : k * 2 ≤ o) (h2 : o < k * 2 + 2) (v : Value) : atSl (setF c o v) i y := by
  obtain ⟨a0, a1⟩ := h
  exact ⟨(if_neg (by omega)).trans a0, (if_neg (by omega)).trans a1⟩
def mkSl (m : Nat) (_ : Sl) : Sl := slM m
def mkSls (k0 : Nat) (x : Nat → Sl) : Nat → Nat | 0 => k0 | n + 1 => mkSls k0 x n + 2
theorem mkSls_mono (k0 : Nat) (x : Nat → Sl) {k n : Nat} (h : k ≤ n) : mkSls k0 x k ≤ mkSls k0 x n := by
  induction n with
  | zero => have : k = 0 := by omega
            subst this; exact Nat.le_refl _
  | succ m ih => rcases Nat.lt_or_ge m k with h1 | h1
                 · have : k = m + 1 := by omega
                   subst this; exact Nat.le_refl _
                 · exact Nat.le_trans (ih h1) (by simp only [mkSls]; omega)
theorem mkSls_pos (k0 : Nat) (x : Nat → Sl) (k : Nat) (h : 1 ≤ k0) : 1 ≤ mkSls k0 x k := Nat.le_trans h (mkSls_mono k0 x (Nat.zero_le k))
def ykSl (k0 : Nat) (x : Nat → Sl) (k i : Nat) : Sl := if i < k then mkSl (mkSls k0 x i) (x i) else x i
theorem ykSl_zero (k0 : Nat) (x : Nat → Sl) : ykSl k0 x 0 = x := funext fun i => if_neg (Nat.not_lt_zero i)
theorem ykSl_lt {k0 : Nat} {x : Nat → Sl} {k i : Nat} (h : i < k) : ykSl k0 x k i = mkSl (mkSls k0 x i) (x i) := if_pos h
theorem ykSl_ge {k0 : Nat} {x : Nat → Sl} {k i : Nat} (h : k ≤ i) : ykSl k0 x k i = x i := if_neg (by omega)
theorem ykSl_ne {k0 : Nat} {x : Nat → Sl} {k i : Nat} (h : ¬ i = k) : ykSl k0 x (k + 1) i = ykSl k0 x k i := by
  unfold ykSl
  by_cases h1 : i < k
  · rw [if_pos h1, if_pos (by omega)]
  · rw [if_neg h1, if_neg (by omega)]
structure SlsAt (w : World) (ad : Option Addr) (g n : Nat) (x : Nat → Sl) : Prop where
  addr : 0 < n → ad = some ⟨g, 0, none⟩
  row : 0 < n → ∃ c, RowF w g (n * 2) c ∧ ∀ i, i < n → atSl c i (x i)
theorem SlsAt.fr {w w' : World} {ad : Option Addr} {g n : Nat} {x : Nat → Sl} {P : Nat → Prop} (h : SlsAt w ad g n x) (hf : FrP P w w') (hp : ∀ k, (fun k => 0 < n ∧ k = g) k → ¬ P k) : SlsAt w' ad g n x :=
  ⟨h.addr, fun h0 => by obtain ⟨c, r, e⟩ := h.row h0; exact ⟨c, r.fr hf (hp g (⟨h0, rfl⟩)), e⟩⟩
theorem SlsAt.grow {w w' : World} {ad : Option Addr} {g n : Nat} {x : Nat → Sl} (h : SlsAt w ad g n x) (hf : Below w.heap.size w w') : SlsAt w' ad g n x := h.fr (FrP.of_below (P := fun _ => False) hf) (fun _ _ h => h)
set_option maxRecDepth 100000 in
set_option maxHeartbeats 2000000 in
theorem markSls_own (ad : Option Addr) (g n : Nat) (x : Nat → Sl) (cap k0 : Nat) (w : World) (hl : (n : Int) ≤ 1073741824) (hk1 : 1 ≤ (k0 : Int)) (hk2 : (mkSls k0 x n : Int) ≤ 1073741824) (hc : SlsAt w ad g n x) :
    Calls Try.prog 77 #[.slice ad n cap, .int .i64 k0] w fun e w' => e = .returned (.int .i64 (mkSls k0 x n)) ∧ SlsAt w' ad g n (ykSl k0 x n) ∧ FrP (fun k => 0 < n ∧ k = g) w w' := by
  go_enter Try.func77, Try.ntmps77
  go_wp2
  go_loopw [1, 5] (fun t i wr => ∃ k : Nat, k ≤ n ∧ i = .int .i64 k ∧ t = .int .i64 (mkSls k0 x k) ∧ FrP (fun k => 0 < n ∧ k = g) w wr ∧ SlsAt wr ad g n (ykSl k0 x k)) (fun _ i _ => n - (intOf i).toNat)
  case atStart => exact ⟨0, Nat.zero_le _, rfl, rfl, FrP.refl _ _, by rw [ykSl_zero]; exact hc⟩
  case round =>
    obtain ⟨k, hk, rfl, rfl, hfr, ho⟩ := hrel
    clear hc
    by_cases hkn : k < n
    · have hmo := mkSls_mono k0 x (k := k + 1) (n := n) (by omega)
      have hm1 := mkSls_pos k0 x k (by omega)
      have hms : mkSls k0 x (k + 1) = mkSls k0 x k + 2 := rfl
      have HM : Hid (mkSls k0 x (k + 1) = mkSls k0 x k + 2) := hms
      have hm : mkSls k0 x k + 2 ≤ 1073741824 := by omega
      clear hmo hms
      obtain ⟨m, hme⟩ : ∃ m, mkSls k0 x k = m := ⟨_, rfl⟩
      rw [hme] at hm1 hm HM ⊢
      have HME := hid hme
      clear hme
      obtain rfl := ho.addr (by omega)
      obtain ⟨c, r0, hat⟩ := ho.row (by omega)
      have HO := hid ho
      have HAT := hid hat
      have hfr' := hid hfr
      clear ho hat hfr
      have f0 : FrP (fun q => q = g) wr wr := FrP.refl _ _
      have q0 := r0.cell (k * 2) (by omega)
      have qf0 := r0.free
      go_wp2_with fail
      refine (markText_at _ (m + 1) (by omega) _ (by omega) (by omega)).mono ?_
      rintro e w1 ⟨rfl, b1⟩
      have r1 := (r0.set (o := k * 2) (by omega) _).below b1 (by first | exact r0.lt | (simp only [World.size_setCell]; exact r0.lt))
      have f1 := (f0.setCell (p := ⟨g, k * 2, none⟩) rfl _).trans (FrP.of_below b1)
      clear q0 qf0 r0 f0 b1
      have q1 := r1.cell (k * 2 + 1) (by omega)
      have qf1 := r1.free
      go_wp2
      go_roundw
      case rel =>
        refine ⟨k + 1, by omega, by go_num, by rw [HM.out]; apply congrArg; omega, hfr'.out.trans (FrP.mono (f1.setCell (p := ⟨g, k * 2 + 1, none⟩) rfl _) (fun q hq => ⟨by omega, hq⟩)), fun _ => rfl, fun _ => ⟨_, (r1.set (o := k * 2 + 1) (by omega) _), fun i hi => ?_⟩⟩
        by_cases e : i = k
        · subst e
          rw [ykSl_lt (Nat.lt_succ_self i), HME.out]
          refine ⟨?_, ?_⟩
          all_goals first | (simp [setF, mkSl, slM]; done) | (simp [setF, mkSl, slM]; omega) | (simp [setF, mkSl, slM]; exact rem3 (by omega))
        · rw [ykSl_ne e]
          exact (atSl_set (atSl_set (HAT.out i hi) e (k := k) (by omega) (by omega) _) e (k := k) (by omega) (by omega) _)
      case measure => simp [intOf]; omega
    · have : k = n := by omega
      subst this
      have HO := hid ho
      clear ho
      go_wp2
      go_ret
      exact ⟨rfl, HO.out, hfr⟩
theorem mkSls_eq (k0 : Nat) (x : Nat → Sl) : ∀ n, mkSls k0 x n = k0 + 2 * n
  | 0 => rfl
  | n + 1 => by rw [mkSls, mkSls_eq k0 x n]; omega
theorem SlsAt.congr {w : World} {ad : Option Addr} {g n : Nat} {x y : Nat → Sl} (h : SlsAt w ad g n x) (e : ∀ i, i < n → x i = y i) : SlsAt w ad g n y :=
  ⟨h.addr, fun h0 => by obtain ⟨c, r, a⟩ := h.row h0; exact ⟨c, r, fun i hi => e i hi ▸ a i hi⟩⟩
theorem SlsAt.frP {w w' : World} {ad : Option Addr} {g n : Nat} {x : Nat → Sl} {P : Nat → Prop} (h : SlsAt w ad g n x) (hf : FrP P w w') (hn : n ≠ 0 → ¬ P g ∧ g < w.heap.size) : SlsAt w' ad g n x :=
  h.fr hf (fun k hk => by obtain ⟨h0, rfl⟩ := hk; exact (hn (by omega)).1)
theorem ykSl_at {k0 : Nat} {x : Nat → Sl} {n i : Nat} (h : i < n) : ykSl k0 x n i = slM (k0 + 2 * i) := by rw [ykSl_lt h, mkSls_eq]; rfl
theorem markSls_in (n : Nat) (s : Nat → Sl) (ad : Option Addr) (cap : Nat) (k : Int) (m : Nat) (hk : k = m) (w : World) (b : Nat) (_hlt : n ≠ 0 → b < w.heap.size) (hl : (n : Int) ≤ 1073741824) (hk1 : 1 ≤ k) (hk2 : k + 2 * n ≤ 1073741824)
    (hc : SlsAt w ad b n s) :
    Calls Try.prog 77 #[.slice ad n cap, .int .i64 k] w fun e w' => e = .returned (.int .i64 (k + 2 * n)) ∧ SlsAt w' ad b n (fun i => slM (m + 2 * i)) ∧ FrP (fun q => n ≠ 0 ∧ q = b) w w' := by
  subst hk
  refine (markSls_own ad b n s cap m w hl hk1 (by rw [mkSls_eq]; omega) hc).mono fun e w' ⟨e1, e2, e3⟩ => ⟨?_, e2.congr (fun i hi => ykSl_at hi), e3.mono (fun q hq => ⟨by omega, hq.2⟩)⟩
  rw [e1, mkSls_eq]
  exact congrArg (fun z => Ending.returned (Value.int .i64 z)) (by omega)
end Go.Proofs.Ytjepponnhieocaa
namespace Go.Proofs.Ytjepponnhieocaa
open Go.RowKit
theorem after6 {w0 w1 : World} {g m : Nat} {c : Nat → Value} {o0 o1 o2 o3 o4 o5 : Nat} {v0 v1 v2 v3 v4 v5 : Value} (b : Below ((((((w0.setCell ⟨g, o0, none⟩ v0).setCell ⟨g, o1, none⟩ v1).setCell ⟨g, o2, none⟩ v2).setCell ⟨g, o3, none⟩ v3).setCell ⟨g, o4, none⟩ v4).setCell ⟨g, o5, none⟩ v5).heap.size ((((((w0.setCell ⟨g, o0, none⟩ v0).setCell ⟨g, o1, none⟩ v1).setCell ⟨g, o2, none⟩ v2).setCell ⟨g, o3, none⟩ v3).setCell ⟨g, o4, none⟩ v4).setCell ⟨g, o5, none⟩ v5) w1) (r : RowF w0 g m c) (h : o0 < m ∧ o1 < m ∧ o2 < m ∧ o3 < m ∧ o4 < m ∧ o5 < m) : RowF w1 g m (setF (setF (setF (setF (setF (setF c o0 v0) o1 v1) o2 v2) o3 v3) o4 v4) o5 v5) ∧ FrP (fun q => q = g) w0 w1 := by
  obtain ⟨h0, h1, h2, h3, h4, h5⟩ := h
  have r6 := (((((r.set h0 v0).set h1 v1).set h2 v2).set h3 v3).set h4 v4).set h5 v5
  have f6 := ((((((FrP.refl (fun q => q = g) w0).setCell (p := ⟨g, o0, none⟩) rfl v0).setCell (p := ⟨g, o1, none⟩) rfl v1).setCell (p := ⟨g, o2, none⟩) rfl v2).setCell (p := ⟨g, o3, none⟩) rfl v3).setCell (p := ⟨g, o4, none⟩) rfl v4).setCell (p := ⟨g, o5, none⟩) rfl v5
  exact ⟨r6.below b r6.lt, f6.trans (FrP.of_below b)⟩
def atMs (c : Nat → Value) (i : Nat) (y : Ms) (A : Option Addr) (C : Nat) : Prop := c (i * 8) = .int .i64 y.kind ∧ c (i * 8 + 1) = .int .i64 y.from_ ∧ c (i * 8 + 2) = .int .i64 y.to ∧ c (i * 8 + 3) = .int .i64 y.bal ∧ c (i * 8 + 4) = .int .i64 y.ix ∧ c (i * 8 + 5) = .int .i64 y.kn ∧ c (i * 8 + 6) = .string y.text ∧ c (i * 8 + 7) = .slice A y.n C
theorem atMs_set {c : Nat → Value} {i : Nat} {y : Ms}{A : Option Addr} {C : Nat} (h : atMs c i y A C) {k o : Nat} (hik : ¬ i = k) (h1 : k * 8 ≤ o) (h2 : o < k * 8 + 8) (v : Value) : atMs (setF c o v) i y A C := by
  obtain ⟨a0, a1, a2, a3, a4, a5, a6, a7⟩ := h
  exact ⟨(if_neg (by omega)).trans a0, (if_neg (by omega)).trans a1, (if_neg (by omega)).trans a2, (if_neg (by omega)).trans a3, (if_neg (by omega)).trans a4, (if_neg (by omega)).trans a5, (if_neg (by omega)).trans a6, (if_neg (by omega)).trans a7⟩
def mkMs (m : Nat) (o : Ms) : Ms := ⟨m, (m : Int) + 1, (m : Int) + 2, (m : Int) + 3, (m : Int) + 4, (m : Int) + 5, mt (m + 6), o.n, fun j => slM (m + 7 + 2 * j)⟩
def mkMss (k0 : Nat) (x : Nat → Ms) : Nat → Nat | 0 => k0 | n + 1 => mkMss k0 x n + 7 + 2 * (x n).n
theorem mkMss_mono (k0 : Nat) (x : Nat → Ms) {k n : Nat} (h : k ≤ n) : mkMss k0 x k ≤ mkMss k0 x n := by
  induction n with
  | zero => have : k = 0 := by omega
            subst this; exact Nat.le_refl _
  | succ m ih => rcases Nat.lt_or_ge m k with h1 | h1
                 · have : k = m + 1 := by omega
                   subst this; exact Nat.le_refl _
                 · exact Nat.le_trans (ih h1) (by simp only [mkMss]; omega)
theorem mkMss_pos (k0 : Nat) (x : Nat → Ms) (k : Nat) (h : 1 ≤ k0) : 1 ≤ mkMss k0 x k := Nat.le_trans h (mkMss_mono k0 x (Nat.zero_le k))
def ykMs (k0 : Nat) (x : Nat → Ms) (k i : Nat) : Ms := if i < k then mkMs (mkMss k0 x i) (x i) else x i
theorem ykMs_zero (k0 : Nat) (x : Nat → Ms) : ykMs k0 x 0 = x := funext fun i => if_neg (Nat.not_lt_zero i)
theorem ykMs_lt {k0 : Nat} {x : Nat → Ms} {k i : Nat} (h : i < k) : ykMs k0 x k i = mkMs (mkMss k0 x i) (x i) := if_pos h
theorem ykMs_ge {k0 : Nat} {x : Nat → Ms} {k i : Nat} (h : k ≤ i) : ykMs k0 x k i = x i := if_neg (by omega)
theorem ykMs_ne {k0 : Nat} {x : Nat → Ms} {k i : Nat} (h : ¬ i = k) : ykMs k0 x (k + 1) i = ykMs k0 x k i := by
  unfold ykMs
  by_cases h1 : i < k
  · rw [if_pos h1, if_pos (by omega)]
  · rw [if_neg h1, if_neg (by omega)]
theorem ykMs_hn (k0 : Nat) (x : Nat → Ms) (k i : Nat) : (ykMs k0 x k i).n = (x i).n := by unfold ykMs; split <;> rfl
structure MssAt (w : World) (ad : Option Addr) (g n : Nat) (x : Nat → Ms) (A : Nat → Option Addr) (C : Nat → Nat) (hb : Nat → Nat) : Prop where
  addr : 0 < n → ad = some ⟨g, 0, none⟩
  row : 0 < n → ∃ c, RowF w g (n * 8) c ∧ ∀ i, i < n → atMs c i (x i) (A i) (C i)
  hold : ∀ i, i < n → SlsAt w (A i) (hb i) (x i).n (x i).s
  hlt : ∀ i, i < n → (x i).n ≠ 0 → hb i < w.heap.size
  ap : ApartH g n (fun i => (x i).n) hb
theorem MssAt.fr {w w' : World} {ad : Option Addr} {g n : Nat} {x : Nat → Ms} {A : Nat → Option Addr} {C : Nat → Nat} {hb : Nat → Nat} {P : Nat → Prop} (h : MssAt w ad g n x A C hb) (hf : FrP P w w') (hp : ∀ k, blkH g n (fun i => (x i).n) hb k → ¬ P k) : MssAt w' ad g n x A C hb :=
  ⟨h.addr, fun h0 => by obtain ⟨c, r, e⟩ := h.row h0; exact ⟨c, r.fr hf (hp g (Or.inl ⟨h0, rfl⟩)), e⟩, fun i hi => (h.hold i hi).frP hf (fun h0 => ⟨hp (hb i) (Or.inr ⟨i, hi, h0, rfl⟩), h.hlt i hi h0⟩), fun i hi h0 => Nat.lt_of_lt_of_le (h.hlt i hi h0) hf.size, h.ap⟩
theorem MssAt.grow {w w' : World} {ad : Option Addr} {g n : Nat} {x : Nat → Ms} {A : Nat → Option Addr} {C : Nat → Nat} {hb : Nat → Nat} (h : MssAt w ad g n x A C hb) (hf : Below w.heap.size w w') : MssAt w' ad g n x A C hb := h.fr (FrP.of_below (P := fun _ => False) hf) (fun _ _ h => h)
set_option maxRecDepth 100000 in
set_option maxHeartbeats 2000000 in
theorem markMss_own (ad : Option Addr) (g n : Nat) (x : Nat → Ms) (A : Nat → Option Addr) (C : Nat → Nat) (hb : Nat → Nat) (cap k0 : Nat) (w : World) (hl : (n : Int) ≤ 1048576) (hk1 : 1 ≤ (k0 : Int)) (hk2 : (mkMss k0 x n : Int) ≤ 1073741824) (hc : MssAt w ad g n x A C hb) :
    Calls Try.prog 38 #[.slice ad n cap, .int .i64 k0] w fun e w' => e = .returned (.int .i64 (mkMss k0 x n)) ∧ MssAt w' ad g n (ykMs k0 x n) A C hb ∧ FrP (blkH g n (fun i => (x i).n) hb) w w' := by
  go_enter Try.func38, Try.ntmps38
  go_wp2
  go_loopw [1, 5] (fun t i wr => ∃ k : Nat, k ≤ n ∧ i = .int .i64 k ∧ t = .int .i64 (mkMss k0 x k) ∧ FrP (blkH g n (fun i => (x i).n) hb) w wr ∧ MssAt wr ad g n (ykMs k0 x k) A C hb) (fun _ i _ => n - (intOf i).toNat)
  case atStart => exact ⟨0, Nat.zero_le _, rfl, rfl, FrP.refl _ _, by rw [ykMs_zero]; exact hc⟩
  case round =>
    obtain ⟨k, hk, rfl, rfl, hfr, ho⟩ := hrel
    clear hc
    by_cases hkn : k < n
    · have hmo := mkMss_mono k0 x (k := k + 1) (n := n) (by omega)
      have hm1 := mkMss_pos k0 x k (by omega)
      have hms : mkMss k0 x (k + 1) = mkMss k0 x k + 7 + 2 * (x k).n := rfl
      have HM : Hid (mkMss k0 x (k + 1) = mkMss k0 x k + 7 + 2 * (x k).n) := hms
      have hm : mkMss k0 x k + 7 + 2 * (x k).n ≤ 1073741824 := by omega
      clear hmo hms
      obtain ⟨m, hme⟩ : ∃ m, mkMss k0 x k = m := ⟨_, rfl⟩
      rw [hme] at hm1 hm HM ⊢
      have HME := hid hme
      clear hme
      obtain rfl := ho.addr (by omega)
      obtain ⟨c, r0, hat⟩ := ho.row (by omega)
      have HO := hid ho
      have HAT := hid hat
      have hfr' := hid hfr
      have h6 : c (k * 8 + 7) = .slice (A k) (x k).n (C k) := by have := (hat k hkn).2.2.2.2.2.2.2; rw [ykMs_ge (Nat.le_refl k)] at this; exact this
      have H6 := hid h6
      clear h6
      clear ho hat hfr
      have f0 : FrP (fun q => q = g) wr wr := FrP.refl _ _
      have q0 := r0.cell (k * 8) (by omega)
      have q1 := r0.cell (k * 8 + 1) (by omega)
      have q2 := r0.cell (k * 8 + 2) (by omega)
      have q3 := r0.cell (k * 8 + 3) (by omega)
      have q4 := r0.cell (k * 8 + 4) (by omega)
      have q5 := r0.cell (k * 8 + 5) (by omega)
      have qf0 := r0.free
      go_wp2_with fail
      refine (markText_at _ (m + 6) (by omega) _ (by omega) (by omega)).mono ?_
      rintro e w1 ⟨rfl, b1⟩
      obtain ⟨r1, f1⟩ := after6 b1 r0 ⟨by omega, by omega, by omega, by omega, by omega, by omega⟩
      clear q0 q1 q2 q3 q4 q5 qf0 r0 f0 b1
      have q6 := r1.cell (k * 8 + 6) (by omega)
      have qf1 := r1.free
      have q7 : w1.cell? ⟨g, k * 8 + 7, none⟩ = some (.slice (A k) (x k).n (C k)) := (r1.cell (k * 8 + 7) (by omega)).trans (congrArg some (Eq.trans (by simp [setF]) H6.out))
      have hkh := HO.out.hlt k hkn
      rw [ykMs_hn] at hkh
      have hkne := HO.out.ap.ne k hkn
      have hho := HO.out.hold k hkn
      rw [ykMs_ge (Nat.le_refl k)] at hho
      have HKH := hid hkh
      have HKN : Hid ((x k).n ≠ 0 → ¬ hb k = g) := fun h0 => hkne (by show (ykMs k0 x k k).n ≠ 0; rw [ykMs_hn]; exact h0)
      have HHO := hid hho
      have hz := f1.size
      clear hkh hkne hho
      go_wp2_with fail
      refine (markSls_in (x k).n (x k).s (A k) (C k) _ (m + 7) (by omega) _ (hb k) (fun h0 => (by have := HKH.out h0; simp only [World.size_setCell]; omega)) (by omega) (by omega) (by omega) (HHO.out.frP (f1.setCell (p := ⟨g, k * 8 + 6, none⟩) rfl _) (fun h0 => ⟨HKN.out h0, HKH.out h0⟩))).mono ?_
      rintro e w9 ⟨rfl, hs9, f9⟩
      have r9 := (r1.set (o := k * 8 + 6) (by omega) _).fr f9 (fun h0 => HKN.out h0.1 h0.2.symm)
      have F9 := (f1.setCell (p := ⟨g, k * 8 + 6, none⟩) rfl _).link f9
      have HO9 : MssAt w9 (some ⟨g, 0, none⟩) g n (ykMs k0 x (k + 1)) A C hb := by
        refine ⟨fun _ => rfl, fun _ => ⟨_, r9, fun i hi => ?_⟩, fun i hi => ?_, fun i hi h0 => ?_, ?_⟩
        · by_cases e : i = k
          · subst e
            rw [ykMs_lt (Nat.lt_succ_self i), HME.out]
            refine ⟨?_, ?_, ?_, ?_, ?_, ?_, ?_, ?_⟩
            all_goals first | (simp [setF, mkMs]; done) | (simp [setF, mkMs]; omega) | (simp [setF, mkMs]; exact rem3 (by omega)) | (exact (by simp [setF]) ▸ H6.out) | (simp [setF, mkMs, H6.out]; done)
          · rw [ykMs_ne e]
            exact (atMs_set (atMs_set (atMs_set (atMs_set (atMs_set (atMs_set (atMs_set (HAT.out i hi) e (k := k) (by omega) (by omega) _) e (k := k) (by omega) (by omega) _) e (k := k) (by omega) (by omega) _) e (k := k) (by omega) (by omega) _) e (k := k) (by omega) (by omega) _) e (k := k) (by omega) (by omega) _) e (k := k) (by omega) (by omega) _)
        · by_cases e : i = k
          · subst e
            rw [ykMs_lt (Nat.lt_succ_self i), HME.out]
            exact hs9
          · rw [ykMs_ne e]
            have hn0 := ykMs_hn k0 x k i
            refine ((HO.out.hold i hi).frP F9 (fun h0 => ⟨HO.out.ap.ne i hi h0, HO.out.hlt i hi h0⟩)).frP f9 (fun h0 => ⟨fun h1 => e (HO.out.ap.inj i k hi hkn h0 (by show (ykMs k0 x k k).n ≠ 0; rw [ykMs_hn]; exact h1.1) h1.2), Nat.lt_of_lt_of_le (HO.out.hlt i hi h0) F9.size⟩)
        · rw [ykMs_hn] at h0
          exact Nat.lt_of_lt_of_le (HO.out.hlt i hi (by rw [ykMs_hn]; exact h0)) (Nat.le_trans F9.size f9.size)
        · exact HO.out.ap.congr (fun i => by show (ykMs k0 x k i).n = (ykMs k0 x (k + 1) i).n; rw [ykMs_hn, ykMs_hn])
      have HO9' := hid HO9
      have HF9 := hid (hfr'.out.trans ((F9.mono (fun q hq => Or.inl ⟨by omega, hq⟩)).trans (f9.mono (fun q hq => Or.inr ⟨k, hkn, hq.1, hq.2⟩))))
      clear q6 q7 qf1 HO9 r9 f9 F9 hs9 r1 f1
      go_wp2
      go_roundw
      case rel => exact ⟨k + 1, by omega, by go_num, by rw [HM.out]; apply congrArg; omega, HF9.out, HO9'.out⟩
      case measure => simp [intOf]; omega
    · have : k = n := by omega
      subst this
      have HO := hid ho
      clear ho
      go_wp2
      go_ret
      exact ⟨rfl, HO.out, hfr⟩
end Go.Proofs.Ytjepponnhieocaa
namespace Go.Proofs.Ytjepponnhieocaa
open Go.RowKit
def atAk (c : Nat → Value) (i : Nat) (y : Ak) (A : Option Addr) (C : Nat) : Prop := c (i * 2) = .int .i64 y.ix ∧ c (i * 2 + 1) = .slice A y.n C
theorem atAk_set {c : Nat → Value} {i : Nat} {y : Ak}{A : Option Addr} {C : Nat} (h : atAk c i y A C) {k o : Nat} (hik : ¬ i = k) (h1 : k * 2 ≤ o) (h2 : o < k * 2 + 2) (v : Value) : atAk (setF c o v) i y A C := by
  obtain ⟨a0, a1⟩ := h
  exact ⟨(if_neg (by omega)).trans a0, (if_neg (by omega)).trans a1⟩
def mkAk (m : Nat) (o : Ak) : Ak := ⟨m, o.n, fun j => ((m + 1 + j : Nat) : Int)⟩
def mkAks (k0 : Nat) (x : Nat → Ak) : Nat → Nat | 0 => k0 | n + 1 => mkAks k0 x n + 1 + (x n).n
theorem mkAks_mono (k0 : Nat) (x : Nat → Ak) {k n : Nat} (h : k ≤ n) : mkAks k0 x k ≤ mkAks k0 x n := by
  induction n with
  | zero => have : k = 0 := by omega
            subst this; exact Nat.le_refl _
  | succ m ih => rcases Nat.lt_or_ge m k with h1 | h1
                 · have : k = m + 1 := by omega
                   subst this; exact Nat.le_refl _
                 · exact Nat.le_trans (ih h1) (by simp only [mkAks]; omega)
theorem mkAks_pos (k0 : Nat) (x : Nat → Ak) (k : Nat) (h : 1 ≤ k0) : 1 ≤ mkAks k0 x k := Nat.le_trans h (mkAks_mono k0 x (Nat.zero_le k))
def ykAk (k0 : Nat) (x : Nat → Ak) (k i : Nat) : Ak := if i < k then mkAk (mkAks k0 x i) (x i) else x i
theorem ykAk_zero (k0 : Nat) (x : Nat → Ak) : ykAk k0 x 0 = x := funext fun i => if_neg (Nat.not_lt_zero i)
theorem ykAk_lt {k0 : Nat} {x : Nat → Ak} {k i : Nat} (h : i < k) : ykAk k0 x k i = mkAk (mkAks k0 x i) (x i) := if_pos h
theorem ykAk_ge {k0 : Nat} {x : Nat → Ak} {k i : Nat} (h : k ≤ i) : ykAk k0 x k i = x i := if_neg (by omega)
theorem ykAk_ne {k0 : Nat} {x : Nat → Ak} {k i : Nat} (h : ¬ i = k) : ykAk k0 x (k + 1) i = ykAk k0 x k i := by
  unfold ykAk
  by_cases h1 : i < k
  · rw [if_pos h1, if_pos (by omega)]
  · rw [if_neg h1, if_neg (by omega)]
theorem ykAk_hn (k0 : Nat) (x : Nat → Ak) (k i : Nat) : (ykAk k0 x k i).n = (x i).n := by unfold ykAk; split <;> rfl
structure AksAt (w : World) (ad : Option Addr) (g n : Nat) (x : Nat → Ak) (A : Nat → Option Addr) (C : Nat → Nat) (hb : Nat → Nat) : Prop where
  addr : 0 < n → ad = some ⟨g, 0, none⟩
  row : 0 < n → ∃ c, RowF w g (n * 2) c ∧ ∀ i, i < n → atAk c i (x i) (A i) (C i)
  hold : ∀ i, i < n → IntsOwn w (hb i) (hb i + 1) (A i) (x i).n (x i).s
  hlt : ∀ i, i < n → (x i).n ≠ 0 → hb i < w.heap.size
  ap : ApartH g n (fun i => (x i).n) hb
theorem AksAt.fr {w w' : World} {ad : Option Addr} {g n : Nat} {x : Nat → Ak} {A : Nat → Option Addr} {C : Nat → Nat} {hb : Nat → Nat} {P : Nat → Prop} (h : AksAt w ad g n x A C hb) (hf : FrP P w w') (hp : ∀ k, blkH g n (fun i => (x i).n) hb k → ¬ P k) : AksAt w' ad g n x A C hb :=
  ⟨h.addr, fun h0 => by obtain ⟨c, r, e⟩ := h.row h0; exact ⟨c, r.fr hf (hp g (Or.inl ⟨h0, rfl⟩)), e⟩, fun i hi => (h.hold i hi).frP hf (fun h0 => ⟨hp (hb i) (Or.inr ⟨i, hi, h0, rfl⟩), h.hlt i hi h0⟩), fun i hi h0 => Nat.lt_of_lt_of_le (h.hlt i hi h0) hf.size, h.ap⟩
theorem AksAt.grow {w w' : World} {ad : Option Addr} {g n : Nat} {x : Nat → Ak} {A : Nat → Option Addr} {C : Nat → Nat} {hb : Nat → Nat} (h : AksAt w ad g n x A C hb) (hf : Below w.heap.size w w') : AksAt w' ad g n x A C hb := h.fr (FrP.of_below (P := fun _ => False) hf) (fun _ _ h => h)
set_option maxRecDepth 100000 in
set_option maxHeartbeats 2000000 in
theorem markAks_own (ad : Option Addr) (g n : Nat) (x : Nat → Ak) (A : Nat → Option Addr) (C : Nat → Nat) (hb : Nat → Nat) (cap k0 : Nat) (w : World) (hl : (n : Int) ≤ 1048576) (hk1 : 1 ≤ (k0 : Int)) (hk2 : (mkAks k0 x n : Int) ≤ 1073741824) (hc : AksAt w ad g n x A C hb) :
    Calls Try.prog 78 #[.slice ad n cap, .int .i64 k0] w fun e w' => e = .returned (.int .i64 (mkAks k0 x n)) ∧ AksAt w' ad g n (ykAk k0 x n) A C hb ∧ FrP (blkH g n (fun i => (x i).n) hb) w w' := by
  go_enter Try.func78, Try.ntmps78
  go_wp2
  go_loopw [1, 5] (fun t i wr => ∃ k : Nat, k ≤ n ∧ i = .int .i64 k ∧ t = .int .i64 (mkAks k0 x k) ∧ FrP (blkH g n (fun i => (x i).n) hb) w wr ∧ AksAt wr ad g n (ykAk k0 x k) A C hb) (fun _ i _ => n - (intOf i).toNat)
  case atStart => exact ⟨0, Nat.zero_le _, rfl, rfl, FrP.refl _ _, by rw [ykAk_zero]; exact hc⟩
  case round =>
    obtain ⟨k, hk, rfl, rfl, hfr, ho⟩ := hrel
    clear hc
    by_cases hkn : k < n
    · have hmo := mkAks_mono k0 x (k := k + 1) (n := n) (by omega)
      have hm1 := mkAks_pos k0 x k (by omega)
      have hms : mkAks k0 x (k + 1) = mkAks k0 x k + 1 + (x k).n := rfl
      have HM : Hid (mkAks k0 x (k + 1) = mkAks k0 x k + 1 + (x k).n) := hms
      have hm : mkAks k0 x k + 1 + (x k).n ≤ 1073741824 := by omega
      clear hmo hms
      obtain ⟨m, hme⟩ : ∃ m, mkAks k0 x k = m := ⟨_, rfl⟩
      rw [hme] at hm1 hm HM ⊢
      have HME := hid hme
      clear hme
      obtain rfl := ho.addr (by omega)
      obtain ⟨c, r0, hat⟩ := ho.row (by omega)
      have HO := hid ho
      have HAT := hid hat
      have hfr' := hid hfr
      have h6 : c (k * 2 + 1) = .slice (A k) (x k).n (C k) := by have := (hat k hkn).2; rw [ykAk_ge (Nat.le_refl k)] at this; exact this
      have H6 := hid h6
      clear h6
      clear ho hat hfr
      have f0 : FrP (fun q => q = g) wr wr := FrP.refl _ _
      have q0 := r0.cell (k * 2) (by omega)
      have qf0 := r0.free
      have q1 : wr.cell? ⟨g, k * 2 + 1, none⟩ = some (.slice (A k) (x k).n (C k)) := (r0.cell (k * 2 + 1) (by omega)).trans (congrArg some (Eq.trans (by simp) H6.out))
      have hkh := HO.out.hlt k hkn
      rw [ykAk_hn] at hkh
      have hkne := HO.out.ap.ne k hkn
      have hho := HO.out.hold k hkn
      rw [ykAk_ge (Nat.le_refl k)] at hho
      have HKH := hid hkh
      have HKN : Hid ((x k).n ≠ 0 → ¬ hb k = g) := fun h0 => hkne (by show (ykAk k0 x k k).n ≠ 0; rw [ykAk_hn]; exact h0)
      have HHO := hid hho
      have hz := f0.size
      clear hkh hkne hho
      go_wp2_with fail
      refine (markInts_own (x k).n (x k).s (A k) (C k) _ (m + 1) (by omega) _ (hb k) (fun h0 => (by have := HKH.out h0; simp only [World.size_setCell]; omega)) (by omega) (by omega) (by omega) (HHO.out.frP (f0.setCell (p := ⟨g, k * 2, none⟩) rfl _) (fun h0 => ⟨HKN.out h0, HKH.out h0⟩))).mono ?_
      rintro e w9 ⟨rfl, hs9, f9⟩
      have r9 := (r0.set (o := k * 2) (by omega) _).fr f9 (fun h0 => HKN.out h0.1 h0.2.symm)
      have F9 := (f0.setCell (p := ⟨g, k * 2, none⟩) rfl _).link f9
      have HO9 : AksAt w9 (some ⟨g, 0, none⟩) g n (ykAk k0 x (k + 1)) A C hb := by
        refine ⟨fun _ => rfl, fun _ => ⟨_, r9, fun i hi => ?_⟩, fun i hi => ?_, fun i hi h0 => ?_, ?_⟩
        · by_cases e : i = k
          · subst e
            rw [ykAk_lt (Nat.lt_succ_self i), HME.out]
            refine ⟨?_, ?_⟩
            all_goals first | (simp [setF, mkAk]; done) | (simp [setF, mkAk]; omega) | (simp [setF, mkAk]; exact rem3 (by omega)) | (exact (by simp [setF]) ▸ H6.out) | (simp [setF, mkAk, H6.out]; done)
          · rw [ykAk_ne e]
            exact (atAk_set (HAT.out i hi) e (k := k) (by omega) (by omega) _)
        · by_cases e : i = k
          · subst e
            rw [ykAk_lt (Nat.lt_succ_self i), HME.out]
            exact hs9
          · rw [ykAk_ne e]
            have hn0 := ykAk_hn k0 x k i
            refine ((HO.out.hold i hi).frP F9 (fun h0 => ⟨HO.out.ap.ne i hi h0, HO.out.hlt i hi h0⟩)).frP f9 (fun h0 => ⟨fun h1 => e (HO.out.ap.inj i k hi hkn h0 (by show (ykAk k0 x k k).n ≠ 0; rw [ykAk_hn]; exact h1.1) h1.2), Nat.lt_of_lt_of_le (HO.out.hlt i hi h0) F9.size⟩)
        · rw [ykAk_hn] at h0
          exact Nat.lt_of_lt_of_le (HO.out.hlt i hi (by rw [ykAk_hn]; exact h0)) (Nat.le_trans F9.size f9.size)
        · exact HO.out.ap.congr (fun i => by show (ykAk k0 x k i).n = (ykAk k0 x (k + 1) i).n; rw [ykAk_hn, ykAk_hn])
      have HO9' := hid HO9
      have HF9 := hid (hfr'.out.trans ((F9.mono (fun q hq => Or.inl ⟨by omega, hq⟩)).trans (f9.mono (fun q hq => Or.inr ⟨k, hkn, hq.1, hq.2⟩))))
      clear q0 q1 qf0 HO9 r9 f9 F9 hs9 r0 f0
      go_wp2
      go_roundw
      case rel => exact ⟨k + 1, by omega, by go_num, by rw [HM.out]; apply congrArg; omega, HF9.out, HO9'.out⟩
      case measure => simp [intOf]; omega
    · have : k = n := by omega
      subst this
      have HO := hid ho
      clear ho
      go_wp2
      go_ret
      exact ⟨rfl, HO.out, hfr⟩
end Go.Proofs.Ytjepponnhieocaa
namespace Go.Proofs.Ytjepponnhieocaa
open Go.RowKit
/-- where the lists of a recorder lie: a block each, and a block for each message's slots and each ack's numbers -/
structure RcP where
  A : RcA
  g0 : Nat
  g1 : Nat
  g2 : Nat
  g3 : Nat
  g4 : Nat
  g5 : Nat
  g6 : Nat
  HA : Nat → Option Addr
  HC : Nat → Nat
  Hb : Nat → Nat
  AA : Nat → Option Addr
  AC : Nat → Nat
  Ab : Nat → Nat
/-- the blocks of list j -/
def rb (p : RcP) (r : Rc) (j k : Nat) : Prop :=
  match j with
  | 0 => r.sf.n ≠ 0 ∧ k = p.g0
  | 1 => r.dk.n ≠ 0 ∧ k = p.g1
  | 2 => blkH p.g2 r.hn (fun i => (r.hs i).n) p.Hb k
  | 3 => r.wn ≠ 0 ∧ k = p.g3
  | 4 => r.yn ≠ 0 ∧ k = p.g4
  | 5 => r.bn ≠ 0 ∧ k = p.g5
  | _ => blkH p.g6 r.an (fun i => (r.as_ i).n) p.Ab k
def rbs (p : RcP) (r : Rc) (k : Nat) : Prop := ∃ j, j < 7 ∧ rb p r j k
structure RcAt (w : World) (r : Rc) (p : RcP) : Prop where
  o0 : SlsAt w p.A.sa p.g0 r.sf.n r.sf.s
  o1 : SlsAt w p.A.da p.g1 r.dk.n r.dk.s
  o2 : MssAt w p.A.ha p.g2 r.hn r.hs p.HA p.HC p.Hb
  o3 : StrsOwn w p.g3 (p.g3 + 1) p.A.wa r.wn r.ws
  o4 : IntsOwn w p.g4 (p.g4 + 1) p.A.ya r.yn r.ys
  o5 : SlsAt w p.A.ba p.g5 r.bn r.bs
  o6 : AksAt w p.A.aa p.g6 r.an r.as_ p.AA p.AC p.Ab
  lt : ∀ k, rbs p r k → k < w.heap.size
  ap : ∀ i j k, i < 7 → j < 7 → rb p r i k → rb p r j k → i = j
theorem rb_lt {w : World} {r : Rc} {p : RcP} (h : RcAt w r p) {j k : Nat} (hj : j < 7) (hk : rb p r j k) : k < w.heap.size := h.lt k ⟨j, hj, hk⟩
theorem RcAt.fr {w w' : World} {r : Rc} {p : RcP} {P : Nat → Prop} (h : RcAt w r p) (hf : FrP P w w') (hp : ∀ k, rbs p r k → ¬ P k) : RcAt w' r p :=
  ⟨h.o0.frP hf (fun h0 => ⟨hp _ ⟨0, by omega, h0, rfl⟩, rb_lt h (j := 0) (by omega) ⟨h0, rfl⟩⟩),
   h.o1.frP hf (fun h0 => ⟨hp _ ⟨1, by omega, h0, rfl⟩, rb_lt h (j := 1) (by omega) ⟨h0, rfl⟩⟩),
   h.o2.fr hf (fun k hk => hp k ⟨2, by omega, hk⟩),
   h.o3.frP hf (fun h0 => ⟨hp _ ⟨3, by omega, h0, rfl⟩, rb_lt h (j := 3) (by omega) ⟨h0, rfl⟩⟩),
   h.o4.frP hf (fun h0 => ⟨hp _ ⟨4, by omega, h0, rfl⟩, rb_lt h (j := 4) (by omega) ⟨h0, rfl⟩⟩),
   h.o5.frP hf (fun h0 => ⟨hp _ ⟨5, by omega, h0, rfl⟩, rb_lt h (j := 5) (by omega) ⟨h0, rfl⟩⟩),
   h.o6.fr hf (fun k hk => hp k ⟨6, by omega, hk⟩),
   fun k hk => Nat.lt_of_lt_of_le (h.lt k hk) hf.size, h.ap⟩
theorem RcAt.grow {w w' : World} {r : Rc} {p : RcP} (h : RcAt w r p) (hf : Below w.heap.size w w') : RcAt w' r p := h.fr (FrP.of_below (P := fun _ => False) hf) (fun _ _ h => h)
theorem ykMs_n (k0 : Nat) (x : Nat → Ms) (n : Nat) : (fun i => (ykMs k0 x n i).n) = fun i => (x i).n := funext fun i => ykMs_hn k0 x n i
theorem ykAk_n (k0 : Nat) (x : Nat → Ak) (n : Nat) : (fun i => (ykAk k0 x n i).n) = fun i => (x i).n := funext fun i => ykAk_hn k0 x n i
theorem RcAt.set0 {w w' : World} {r : Rc} {p : RcP} (h : RcAt w r p) {s : Nat → Sl} (o : SlsAt w' p.A.sa p.g0 r.sf.n s) (hf : FrP (rb p r 0) w w') : RcAt w' { r with sf := { r.sf with s := s } } p := by
  have hrb : ∀ i k, rb p { r with sf := { r.sf with s := s } } i k ↔ rb p r i k := fun i k => by
    unfold rb
    split <;> first | exact Iff.rfl
  exact ⟨o, h.o1.frP hf (fun h0 => ⟨fun hq => by have := h.ap 1 0 _ (by omega) (by omega) ⟨h0, rfl⟩ hq; omega, rb_lt h (j := 1) (by omega) ⟨h0, rfl⟩⟩), h.o2.fr hf (fun k hk hq => by have := h.ap 2 0 k (by omega) (by omega) hk hq; omega), h.o3.frP hf (fun h0 => ⟨fun hq => by have := h.ap 3 0 _ (by omega) (by omega) ⟨h0, rfl⟩ hq; omega, rb_lt h (j := 3) (by omega) ⟨h0, rfl⟩⟩), h.o4.frP hf (fun h0 => ⟨fun hq => by have := h.ap 4 0 _ (by omega) (by omega) ⟨h0, rfl⟩ hq; omega, rb_lt h (j := 4) (by omega) ⟨h0, rfl⟩⟩), h.o5.frP hf (fun h0 => ⟨fun hq => by have := h.ap 5 0 _ (by omega) (by omega) ⟨h0, rfl⟩ hq; omega, rb_lt h (j := 5) (by omega) ⟨h0, rfl⟩⟩), h.o6.fr hf (fun k hk hq => by have := h.ap 6 0 k (by omega) (by omega) hk hq; omega),
    fun k hk => Nat.lt_of_lt_of_le (h.lt k (by obtain ⟨i, hi, hk⟩ := hk; exact ⟨i, hi, (hrb i k).1 hk⟩)) hf.size, fun i i' k h1 h2 h3 h4 => h.ap i i' k h1 h2 ((hrb i k).1 h3) ((hrb i' k).1 h4)⟩
theorem RcAt.set1 {w w' : World} {r : Rc} {p : RcP} (h : RcAt w r p) {s : Nat → Sl} (o : SlsAt w' p.A.da p.g1 r.dk.n s) (hf : FrP (rb p r 1) w w') : RcAt w' { r with dk := { r.dk with s := s } } p := by
  have hrb : ∀ i k, rb p { r with dk := { r.dk with s := s } } i k ↔ rb p r i k := fun i k => by
    unfold rb
    split <;> first | exact Iff.rfl
  exact ⟨h.o0.frP hf (fun h0 => ⟨fun hq => by have := h.ap 0 1 _ (by omega) (by omega) ⟨h0, rfl⟩ hq; omega, rb_lt h (j := 0) (by omega) ⟨h0, rfl⟩⟩), o, h.o2.fr hf (fun k hk hq => by have := h.ap 2 1 k (by omega) (by omega) hk hq; omega), h.o3.frP hf (fun h0 => ⟨fun hq => by have := h.ap 3 1 _ (by omega) (by omega) ⟨h0, rfl⟩ hq; omega, rb_lt h (j := 3) (by omega) ⟨h0, rfl⟩⟩), h.o4.frP hf (fun h0 => ⟨fun hq => by have := h.ap 4 1 _ (by omega) (by omega) ⟨h0, rfl⟩ hq; omega, rb_lt h (j := 4) (by omega) ⟨h0, rfl⟩⟩), h.o5.frP hf (fun h0 => ⟨fun hq => by have := h.ap 5 1 _ (by omega) (by omega) ⟨h0, rfl⟩ hq; omega, rb_lt h (j := 5) (by omega) ⟨h0, rfl⟩⟩), h.o6.fr hf (fun k hk hq => by have := h.ap 6 1 k (by omega) (by omega) hk hq; omega),
    fun k hk => Nat.lt_of_lt_of_le (h.lt k (by obtain ⟨i, hi, hk⟩ := hk; exact ⟨i, hi, (hrb i k).1 hk⟩)) hf.size, fun i i' k h1 h2 h3 h4 => h.ap i i' k h1 h2 ((hrb i k).1 h3) ((hrb i' k).1 h4)⟩
theorem RcAt.set2 {w w' : World} {r : Rc} {p : RcP} (h : RcAt w r p) {s : Nat → Ms} (o : MssAt w' p.A.ha p.g2 r.hn s p.HA p.HC p.Hb) (hf : FrP (rb p r 2) w w') (e : (fun i => (s i).n) = fun i => (r.hs i).n) : RcAt w' { r with hs := s } p := by
  have hrb : ∀ i k, rb p { r with hs := s } i k ↔ rb p r i k := fun i k => by
    unfold rb
    split <;> first | exact Iff.rfl | (dsimp only; rw [e])
  exact ⟨h.o0.frP hf (fun h0 => ⟨fun hq => by have := h.ap 0 2 _ (by omega) (by omega) ⟨h0, rfl⟩ hq; omega, rb_lt h (j := 0) (by omega) ⟨h0, rfl⟩⟩), h.o1.frP hf (fun h0 => ⟨fun hq => by have := h.ap 1 2 _ (by omega) (by omega) ⟨h0, rfl⟩ hq; omega, rb_lt h (j := 1) (by omega) ⟨h0, rfl⟩⟩), o, h.o3.frP hf (fun h0 => ⟨fun hq => by have := h.ap 3 2 _ (by omega) (by omega) ⟨h0, rfl⟩ hq; omega, rb_lt h (j := 3) (by omega) ⟨h0, rfl⟩⟩), h.o4.frP hf (fun h0 => ⟨fun hq => by have := h.ap 4 2 _ (by omega) (by omega) ⟨h0, rfl⟩ hq; omega, rb_lt h (j := 4) (by omega) ⟨h0, rfl⟩⟩), h.o5.frP hf (fun h0 => ⟨fun hq => by have := h.ap 5 2 _ (by omega) (by omega) ⟨h0, rfl⟩ hq; omega, rb_lt h (j := 5) (by omega) ⟨h0, rfl⟩⟩), h.o6.fr hf (fun k hk hq => by have := h.ap 6 2 k (by omega) (by omega) hk hq; omega),
    fun k hk => Nat.lt_of_lt_of_le (h.lt k (by obtain ⟨i, hi, hk⟩ := hk; exact ⟨i, hi, (hrb i k).1 hk⟩)) hf.size, fun i i' k h1 h2 h3 h4 => h.ap i i' k h1 h2 ((hrb i k).1 h3) ((hrb i' k).1 h4)⟩
theorem RcAt.set3 {w w' : World} {r : Rc} {p : RcP} (h : RcAt w r p) {s : Nat → ByteArray} (o : StrsOwn w' p.g3 (p.g3 + 1) p.A.wa r.wn s) (hf : FrP (rb p r 3) w w') : RcAt w' { r with ws := s } p := by
  have hrb : ∀ i k, rb p { r with ws := s } i k ↔ rb p r i k := fun i k => by
    unfold rb
    split <;> first | exact Iff.rfl
  exact ⟨h.o0.frP hf (fun h0 => ⟨fun hq => by have := h.ap 0 3 _ (by omega) (by omega) ⟨h0, rfl⟩ hq; omega, rb_lt h (j := 0) (by omega) ⟨h0, rfl⟩⟩), h.o1.frP hf (fun h0 => ⟨fun hq => by have := h.ap 1 3 _ (by omega) (by omega) ⟨h0, rfl⟩ hq; omega, rb_lt h (j := 1) (by omega) ⟨h0, rfl⟩⟩), h.o2.fr hf (fun k hk hq => by have := h.ap 2 3 k (by omega) (by omega) hk hq; omega), o, h.o4.frP hf (fun h0 => ⟨fun hq => by have := h.ap 4 3 _ (by omega) (by omega) ⟨h0, rfl⟩ hq; omega, rb_lt h (j := 4) (by omega) ⟨h0, rfl⟩⟩), h.o5.frP hf (fun h0 => ⟨fun hq => by have := h.ap 5 3 _ (by omega) (by omega) ⟨h0, rfl⟩ hq; omega, rb_lt h (j := 5) (by omega) ⟨h0, rfl⟩⟩), h.o6.fr hf (fun k hk hq => by have := h.ap 6 3 k (by omega) (by omega) hk hq; omega),
    fun k hk => Nat.lt_of_lt_of_le (h.lt k (by obtain ⟨i, hi, hk⟩ := hk; exact ⟨i, hi, (hrb i k).1 hk⟩)) hf.size, fun i i' k h1 h2 h3 h4 => h.ap i i' k h1 h2 ((hrb i k).1 h3) ((hrb i' k).1 h4)⟩
theorem RcAt.set4 {w w' : World} {r : Rc} {p : RcP} (h : RcAt w r p) {s : Nat → Int} (o : IntsOwn w' p.g4 (p.g4 + 1) p.A.ya r.yn s) (hf : FrP (rb p r 4) w w') : RcAt w' { r with ys := s } p := by
  have hrb : ∀ i k, rb p { r with ys := s } i k ↔ rb p r i k := fun i k => by
    unfold rb
    split <;> first | exact Iff.rfl
  exact ⟨h.o0.frP hf (fun h0 => ⟨fun hq => by have := h.ap 0 4 _ (by omega) (by omega) ⟨h0, rfl⟩ hq; omega, rb_lt h (j := 0) (by omega) ⟨h0, rfl⟩⟩), h.o1.frP hf (fun h0 => ⟨fun hq => by have := h.ap 1 4 _ (by omega) (by omega) ⟨h0, rfl⟩ hq; omega, rb_lt h (j := 1) (by omega) ⟨h0, rfl⟩⟩), h.o2.fr hf (fun k hk hq => by have := h.ap 2 4 k (by omega) (by omega) hk hq; omega), h.o3.frP hf (fun h0 => ⟨fun hq => by have := h.ap 3 4 _ (by omega) (by omega) ⟨h0, rfl⟩ hq; omega, rb_lt h (j := 3) (by omega) ⟨h0, rfl⟩⟩), o, h.o5.frP hf (fun h0 => ⟨fun hq => by have := h.ap 5 4 _ (by omega) (by omega) ⟨h0, rfl⟩ hq; omega, rb_lt h (j := 5) (by omega) ⟨h0, rfl⟩⟩), h.o6.fr hf (fun k hk hq => by have := h.ap 6 4 k (by omega) (by omega) hk hq; omega),
    fun k hk => Nat.lt_of_lt_of_le (h.lt k (by obtain ⟨i, hi, hk⟩ := hk; exact ⟨i, hi, (hrb i k).1 hk⟩)) hf.size, fun i i' k h1 h2 h3 h4 => h.ap i i' k h1 h2 ((hrb i k).1 h3) ((hrb i' k).1 h4)⟩
theorem RcAt.set5 {w w' : World} {r : Rc} {p : RcP} (h : RcAt w r p) {s : Nat → Sl} (o : SlsAt w' p.A.ba p.g5 r.bn s) (hf : FrP (rb p r 5) w w') : RcAt w' { r with bs := s } p := by
  have hrb : ∀ i k, rb p { r with bs := s } i k ↔ rb p r i k := fun i k => by
    unfold rb
    split <;> first | exact Iff.rfl
  exact ⟨h.o0.frP hf (fun h0 => ⟨fun hq => by have := h.ap 0 5 _ (by omega) (by omega) ⟨h0, rfl⟩ hq; omega, rb_lt h (j := 0) (by omega) ⟨h0, rfl⟩⟩), h.o1.frP hf (fun h0 => ⟨fun hq => by have := h.ap 1 5 _ (by omega) (by omega) ⟨h0, rfl⟩ hq; omega, rb_lt h (j := 1) (by omega) ⟨h0, rfl⟩⟩), h.o2.fr hf (fun k hk hq => by have := h.ap 2 5 k (by omega) (by omega) hk hq; omega), h.o3.frP hf (fun h0 => ⟨fun hq => by have := h.ap 3 5 _ (by omega) (by omega) ⟨h0, rfl⟩ hq; omega, rb_lt h (j := 3) (by omega) ⟨h0, rfl⟩⟩), h.o4.frP hf (fun h0 => ⟨fun hq => by have := h.ap 4 5 _ (by omega) (by omega) ⟨h0, rfl⟩ hq; omega, rb_lt h (j := 4) (by omega) ⟨h0, rfl⟩⟩), o, h.o6.fr hf (fun k hk hq => by have := h.ap 6 5 k (by omega) (by omega) hk hq; omega),
    fun k hk => Nat.lt_of_lt_of_le (h.lt k (by obtain ⟨i, hi, hk⟩ := hk; exact ⟨i, hi, (hrb i k).1 hk⟩)) hf.size, fun i i' k h1 h2 h3 h4 => h.ap i i' k h1 h2 ((hrb i k).1 h3) ((hrb i' k).1 h4)⟩
theorem RcAt.set6 {w w' : World} {r : Rc} {p : RcP} (h : RcAt w r p) {s : Nat → Ak} (o : AksAt w' p.A.aa p.g6 r.an s p.AA p.AC p.Ab) (hf : FrP (rb p r 6) w w') (e : (fun i => (s i).n) = fun i => (r.as_ i).n) : RcAt w' { r with as_ := s } p := by
  have hrb : ∀ i k, rb p { r with as_ := s } i k ↔ rb p r i k := fun i k => by
    unfold rb
    split <;> first | exact Iff.rfl | (dsimp only; rw [e])
  exact ⟨h.o0.frP hf (fun h0 => ⟨fun hq => by have := h.ap 0 6 _ (by omega) (by omega) ⟨h0, rfl⟩ hq; omega, rb_lt h (j := 0) (by omega) ⟨h0, rfl⟩⟩), h.o1.frP hf (fun h0 => ⟨fun hq => by have := h.ap 1 6 _ (by omega) (by omega) ⟨h0, rfl⟩ hq; omega, rb_lt h (j := 1) (by omega) ⟨h0, rfl⟩⟩), h.o2.fr hf (fun k hk hq => by have := h.ap 2 6 k (by omega) (by omega) hk hq; omega), h.o3.frP hf (fun h0 => ⟨fun hq => by have := h.ap 3 6 _ (by omega) (by omega) ⟨h0, rfl⟩ hq; omega, rb_lt h (j := 3) (by omega) ⟨h0, rfl⟩⟩), h.o4.frP hf (fun h0 => ⟨fun hq => by have := h.ap 4 6 _ (by omega) (by omega) ⟨h0, rfl⟩ hq; omega, rb_lt h (j := 4) (by omega) ⟨h0, rfl⟩⟩), h.o5.frP hf (fun h0 => ⟨fun hq => by have := h.ap 5 6 _ (by omega) (by omega) ⟨h0, rfl⟩ hq; omega, rb_lt h (j := 5) (by omega) ⟨h0, rfl⟩⟩), o,
    fun k hk => Nat.lt_of_lt_of_le (h.lt k (by obtain ⟨i, hi, hk⟩ := hk; exact ⟨i, hi, (hrb i k).1 hk⟩)) hf.size, fun i i' k h1 h2 h3 h4 => h.ap i i' k h1 h2 ((hrb i k).1 h3) ((hrb i' k).1 h4)⟩
def kk1 (k0 : Nat) (r : Rc) : Nat := k0 + 2 * r.sf.n
def kk2 (k0 : Nat) (r : Rc) : Nat := kk1 k0 r + 2 * r.dk.n
def kk3 (k0 : Nat) (r : Rc) : Nat := mkMss (kk2 k0 r) r.hs r.hn
def kk4 (k0 : Nat) (r : Rc) : Nat := kk3 k0 r + r.wn
def kk5 (k0 : Nat) (r : Rc) : Nat := kk4 k0 r + r.yn
def kk6 (k0 : Nat) (r : Rc) : Nat := kk5 k0 r + 2 * r.bn
theorem Holds.frP {W W' : World} {B : Nat} {c : Array Value} {P : Nat → Prop} (h : Holds W B c) (hb : FrP P W W') (hB : B < W.heap.size) (ho : ¬ P B) : Holds W' B c := fun i => (hb.cell (p := ⟨B, i, none⟩) hB ho).trans (h i)
/-- how far marks go -/
def mkRc (k0 : Nat) (r : Rc) : Nat := mkAks (kk6 k0 r) r.as_ r.an
/-- a recorder whose lists are marked -/
def ykRc (k0 : Nat) (r : Rc) : Rc := { r with sf := { r.sf with s := fun i => slM (k0 + 2 * i) }, dk := { r.dk with s := fun i => slM (kk1 k0 r + 2 * i) }, hs := ykMs (kk2 k0 r) r.hs r.hn, ws := fun i => mt (kk3 k0 r + i), ys := fun i => ((kk4 k0 r + i : Nat) : Int), bs := fun i => slM (kk5 k0 r + 2 * i), as_ := ykAk (kk6 k0 r) r.as_ r.an }
theorem rb_yk (p : RcP) (k0 : Nat) (r : Rc) (j k : Nat) : rb p (ykRc k0 r) j k ↔ rb p r j k := by
  unfold rb ykRc
  split <;> first | exact Iff.rfl | (dsimp only; rw [ykMs_n]) | (dsimp only; rw [ykAk_n])
theorem rbs_yk (p : RcP) (k0 : Nat) (r : Rc) (k : Nat) : rbs p (ykRc k0 r) k ↔ rbs p r k :=
  ⟨fun ⟨j, h1, h2⟩ => ⟨j, h1, (rb_yk p k0 r j k).1 h2⟩, fun ⟨j, h1, h2⟩ => ⟨j, h1, (rb_yk p k0 r j k).2 h2⟩⟩
theorem kk_mono (k0 : Nat) (r : Rc) : k0 ≤ kk1 k0 r ∧ kk1 k0 r ≤ kk2 k0 r ∧ kk2 k0 r ≤ kk3 k0 r ∧ kk3 k0 r ≤ kk4 k0 r ∧ kk4 k0 r ≤ kk5 k0 r ∧ kk5 k0 r ≤ kk6 k0 r ∧ kk6 k0 r ≤ mkRc k0 r :=
  ⟨by unfold kk1; omega, by unfold kk2; omega, by unfold kk3; exact mkMss_mono (kk2 k0 r) r.hs (k := 0) (n := r.hn) (Nat.zero_le _), by unfold kk4; omega, by unfold kk5; omega, by unfold kk6; omega, by unfold mkRc; exact mkAks_mono (kk6 k0 r) r.as_ (k := 0) (n := r.an) (Nat.zero_le _)⟩
set_option maxRecDepth 100000 in
set_option maxHeartbeats 4000000 in
theorem markDk_in (d : Dk) (ad : Option Addr) (cap : Nat) (k : Int) (m : Nat) (hk : k = m) (w : World) (b : Nat) (hlt : d.n ≠ 0 → b < w.heap.size) (hl : (d.n : Int) ≤ 1073741824) (hk1 : 1 ≤ k) (hk2 : k + 2 * d.n ≤ 1073741824) (hc : SlsAt w ad b d.n d.s) :
    Calls Try.prog 75 #[dkV d ad cap, .int .i64 k] w fun e w' => e = .returned (.int .i64 (k + 2 * d.n)) ∧ SlsAt w' ad b d.n (fun i => slM (m + 2 * i)) ∧ FrP (fun q => d.n ≠ 0 ∧ q = b) w w' := by
  subst hk
  have HC := hid hc
  clear hc
  go_enter Try.func75, Try.ntmps75
  go_wp2_with fail
  refine (markSls_in d.n d.s ad cap _ m rfl _ b (fun h => Nat.lt_of_lt_of_le (hlt h) (by simp)) hl hk1 hk2 (HC.out.grow (below_alloc _ _))).mono ?_
  rintro e w1 ⟨rfl, h1, f1⟩
  have H1 := hid h1
  have F1 := hid ((FrP.of_below (below_alloc _ _)).trans f1)
  clear h1 f1
  go_wp2
  go_ret
  exact ⟨rfl, H1.out, F1.out⟩
set_option maxRecDepth 100000 in
set_option maxHeartbeats 4000000 in
theorem markRc_any (r : Rc) (p : RcP) (k0 : Nat) (w : World) (hm : RcSmall r) (hk1 : 1 ≤ k0) (hk2 : mkRc k0 r ≤ 1073741824) (hc : RcAt w r p) :
    Calls Try.prog 27 #[rcV r p.A, .int .i64 k0] w fun e w' => e = .returned (.int .i64 (mkRc k0 r)) ∧ RcAt w' (ykRc k0 r) p ∧ FrP (rbs p r) w w' := by
  have HM := hid hm
  have HC := hid hc
  clear hm hc
  obtain ⟨m0, m1, m2, m3, m4, m5, m6⟩ := kk_mono k0 r
  have e1 : kk1 k0 r ≤ k0 + 2 * r.sf.n := Nat.le_refl _
  have d1 : k0 + 2 * r.sf.n ≤ kk1 k0 r := Nat.le_refl _
  have e2 : kk2 k0 r ≤ kk1 k0 r + 2 * r.dk.n := Nat.le_refl _
  have d2 : kk1 k0 r + 2 * r.dk.n ≤ kk2 k0 r := Nat.le_refl _
  have e4 : kk4 k0 r ≤ kk3 k0 r + r.wn := Nat.le_refl _
  have d4 : kk3 k0 r + r.wn ≤ kk4 k0 r := Nat.le_refl _
  have e5 : kk5 k0 r ≤ kk4 k0 r + r.yn := Nat.le_refl _
  have d5 : kk4 k0 r + r.yn ≤ kk5 k0 r := Nat.le_refl _
  have e6 : kk6 k0 r ≤ kk5 k0 r + 2 * r.bn := Nat.le_refl _
  have d6 : kk5 k0 r + 2 * r.bn ≤ kk6 k0 r := Nat.le_refl _
  have E3 := hid (show kk3 k0 r = mkMss (kk2 k0 r) r.hs r.hn from rfl)
  have E7 := hid (show mkRc k0 r = mkAks (kk6 k0 r) r.as_ r.an from rfl)
  have Y := hid (show ykRc k0 r = { r with sf := { r.sf with s := fun i => slM (k0 + 2 * i) }, dk := { r.dk with s := fun i => slM (kk1 k0 r + 2 * i) }, hs := ykMs (kk2 k0 r) r.hs r.hn, ws := fun i => mt (kk3 k0 r + i), ys := fun i => ((kk4 k0 r + i : Nat) : Int), bs := fun i => slM (kk5 k0 r + 2 * i), as_ := ykAk (kk6 k0 r) r.as_ r.an } from rfl)
  generalize mkRc k0 r = k7 at *
  generalize kk6 k0 r = k6 at *
  generalize kk5 k0 r = k5 at *
  generalize kk4 k0 r = k4 at *
  generalize kk3 k0 r = k3 at *
  generalize kk2 k0 r = k2 at *
  generalize kk1 k0 r = k1 at *
  have hB0 := below_alloc w (.cells (rcC r p.A) 58)
  have H0 := holds_new w (rcC r p.A) 58
  have hz0 : w.heap.size < (w.alloc (.cells (rcC r p.A) 58)).heap.size := by simp
  have R0 := hid (HC.out.grow hB0)
  have F0 := hid (FrP.of_below (P := rbs p r) hB0)
  go_enter Try.func27, Try.ntmps27
  go_wp2_with fail
  refine (markDk_in r.sf p.A.sa p.A.sc _ k0 (by omega) _ p.g0 (fun h0 => R0.out.lt _ ⟨0, by omega, h0, rfl⟩) (by have := HM.out.sf; omega) (by omega) (by omega) R0.out.o0).mono ?_
  rintro e w1 ⟨rfl, o0, f0⟩
  rw [show (k0 : Int) + 2 * r.sf.n = k1 by omega]
  have R1 := hid (R0.out.set0 o0 f0)
  have F1 := hid (F0.out.trans (f0.mono (fun q hq => (⟨0, by omega, hq⟩ : rbs p r q))))
  have H1 : Holds w1 w.heap.size (rcC r p.A) := Holds.frP H0 f0 (by first | exact hz0 | omega) (fun hq => by have := HC.out.lt _ (⟨0, by omega, hq⟩ : rbs p r _); omega)
  have hz1 : w.heap.size < w1.heap.size := Nat.lt_of_lt_of_le hz0 f0.size
  clear o0 f0 R0 F0 H0
  obtain ⟨p0, p1, p2, p3, p4, p5, p6, p7, p8, p9, p10, p11, p12, p13, p14, p15, p16, p17⟩ := holds18 H1
  go_wp2_with fail
  refine (markDk_in r.dk p.A.da p.A.dc _ k1 (by omega) _ p.g1 (fun h0 => R1.out.lt _ ⟨1, by omega, h0, rfl⟩) (by have := HM.out.dk; omega) (by omega) (by omega) R1.out.o1).mono ?_
  rintro e w2 ⟨rfl, o1, f1⟩
  rw [show (k1 : Int) + 2 * r.dk.n = k2 by omega]
  have R2 := hid (R1.out.set1 o1 f1)
  have F2 := hid (F1.out.trans (f1.mono (fun q hq => (⟨1, by omega, hq⟩ : rbs p r q))))
  have H2 : Holds w2 w.heap.size (rcC r p.A) := Holds.frP H1 f1 (by first | exact hz1 | omega) (fun hq => by have := HC.out.lt _ (⟨1, by omega, hq⟩ : rbs p r _); omega)
  have hz2 : w.heap.size < w2.heap.size := Nat.lt_of_lt_of_le hz1 f1.size
  clear o1 f1 R1 F1 H1 p0 p1 p2 p3 p4 p5 p6 p7 p8 p9 p10 p11 p12 p13 p14 p15 p16 p17
  obtain ⟨p0, p1, p2, p3, p4, p5, p6, p7, p8, p9, p10, p11, p12, p13, p14, p15, p16, p17⟩ := holds18 H2
  go_wp2_with fail
  refine (markMss_own p.A.ha p.g2 r.hn r.hs p.HA p.HC p.Hb p.A.hc k2 _ HM.out.hn (by omega) (by rw [← E3.out]; omega) R2.out.o2).mono ?_
  rintro e w3 ⟨rfl, o2, f2⟩
  rw [← E3.out]
  have R3 := hid (R2.out.set2 o2 f2 (ykMs_n _ _ _))
  have F3 := hid (F2.out.trans (f2.mono (fun q hq => (⟨2, by omega, hq⟩ : rbs p r q))))
  have H3 : Holds w3 w.heap.size (rcC r p.A) := Holds.frP H2 f2 (by first | exact hz2 | omega) (fun hq => by have := HC.out.lt _ (⟨2, by omega, hq⟩ : rbs p r _); omega)
  have hz3 : w.heap.size < w3.heap.size := Nat.lt_of_lt_of_le hz2 f2.size
  clear o2 f2 R2 F2 H2 p0 p1 p2 p3 p4 p5 p6 p7 p8 p9 p10 p11 p12 p13 p14 p15 p16 p17
  obtain ⟨p0, p1, p2, p3, p4, p5, p6, p7, p8, p9, p10, p11, p12, p13, p14, p15, p16, p17⟩ := holds18 H3
  go_wp2_with fail
  refine (markStrs_own r.wn r.ws p.A.wa p.A.wc _ k3 (by omega) _ p.g3 (fun h0 => R3.out.lt _ ⟨3, by omega, h0, rfl⟩) (by have := HM.out.wn; omega) (by omega) (by omega) R3.out.o3).mono ?_
  rintro e w4 ⟨rfl, o3, f3⟩
  rw [show (k3 : Int) + r.wn = k4 by omega]
  have R4 := hid (R3.out.set3 o3 f3)
  have F4 := hid (F3.out.trans (f3.mono (fun q hq => (⟨3, by omega, hq⟩ : rbs p r q))))
  have H4 : Holds w4 w.heap.size (rcC r p.A) := Holds.frP H3 f3 (by first | exact hz3 | omega) (fun hq => by have := HC.out.lt _ (⟨3, by omega, hq⟩ : rbs p r _); omega)
  have hz4 : w.heap.size < w4.heap.size := Nat.lt_of_lt_of_le hz3 f3.size
  clear o3 f3 R3 F3 H3 p0 p1 p2 p3 p4 p5 p6 p7 p8 p9 p10 p11 p12 p13 p14 p15 p16 p17
  obtain ⟨p0, p1, p2, p3, p4, p5, p6, p7, p8, p9, p10, p11, p12, p13, p14, p15, p16, p17⟩ := holds18 H4
  go_wp2_with fail
  refine (markInts_own r.yn r.ys p.A.ya p.A.yc _ k4 (by omega) _ p.g4 (fun h0 => R4.out.lt _ ⟨4, by omega, h0, rfl⟩) (by have := HM.out.yn; omega) (by omega) (by omega) R4.out.o4).mono ?_
  rintro e w5 ⟨rfl, o4, f4⟩
  rw [show (k4 : Int) + r.yn = k5 by omega]
  have R5 := hid (R4.out.set4 o4 f4)
  have F5 := hid (F4.out.trans (f4.mono (fun q hq => (⟨4, by omega, hq⟩ : rbs p r q))))
  have H5 : Holds w5 w.heap.size (rcC r p.A) := Holds.frP H4 f4 (by first | exact hz4 | omega) (fun hq => by have := HC.out.lt _ (⟨4, by omega, hq⟩ : rbs p r _); omega)
  have hz5 : w.heap.size < w5.heap.size := Nat.lt_of_lt_of_le hz4 f4.size
  clear o4 f4 R4 F4 H4 p0 p1 p2 p3 p4 p5 p6 p7 p8 p9 p10 p11 p12 p13 p14 p15 p16 p17
  obtain ⟨p0, p1, p2, p3, p4, p5, p6, p7, p8, p9, p10, p11, p12, p13, p14, p15, p16, p17⟩ := holds18 H5
  go_wp2_with fail
  refine (markSls_in r.bn r.bs p.A.ba p.A.bc _ k5 (by omega) _ p.g5 (fun h0 => R5.out.lt _ ⟨5, by omega, h0, rfl⟩) (by have := HM.out.bn; omega) (by omega) (by omega) R5.out.o5).mono ?_
  rintro e w6 ⟨rfl, o5, f5⟩
  rw [show (k5 : Int) + 2 * r.bn = k6 by omega]
  have R6 := hid (R5.out.set5 o5 f5)
  have F6 := hid (F5.out.trans (f5.mono (fun q hq => (⟨5, by omega, hq⟩ : rbs p r q))))
  have H6 : Holds w6 w.heap.size (rcC r p.A) := Holds.frP H5 f5 (by first | exact hz5 | omega) (fun hq => by have := HC.out.lt _ (⟨5, by omega, hq⟩ : rbs p r _); omega)
  have hz6 : w.heap.size < w6.heap.size := Nat.lt_of_lt_of_le hz5 f5.size
  clear o5 f5 R5 F5 H5 p0 p1 p2 p3 p4 p5 p6 p7 p8 p9 p10 p11 p12 p13 p14 p15 p16 p17
  obtain ⟨p0, p1, p2, p3, p4, p5, p6, p7, p8, p9, p10, p11, p12, p13, p14, p15, p16, p17⟩ := holds18 H6
  go_wp2_with fail
  refine (markAks_own p.A.aa p.g6 r.an r.as_ p.AA p.AC p.Ab p.A.ac k6 _ HM.out.an (by omega) (by rw [← E7.out]; omega) R6.out.o6).mono ?_
  rintro e w7 ⟨rfl, o6, f6⟩
  rw [← E7.out]
  have R7 := hid (R6.out.set6 o6 f6 (ykAk_n _ _ _))
  have F7 := hid (F6.out.trans (f6.mono (fun q hq => (⟨6, by omega, hq⟩ : rbs p r q))))
  clear o6 f6 R6 F6 H6 p0 p1 p2 p3 p4 p5 p6 p7 p8 p9 p10 p11 p12 p13 p14 p15 p16 p17
  go_wp2
  go_ret
  exact ⟨rfl, Y.out ▸ R7.out, F7.out⟩
end Go.Proofs.Ytjepponnhieocaa
namespace Go.Proofs.Ytjepponnhieocaa
open Go.RowKit
theorem run_copy_many {P : Program} (w : World) (dT sT ty elem : TypeId) (b o dLen dCap : Nat) (a : Addr) (sLen sCap z : Nat) (cs : List Value)
    (hu : P.underlying dT = some (.slice elem)) (hs : (P.info? elem).map (·.size) = some z) (hn : cs.length = Nat.min sLen dLen * z)
    (hsrc : ∀ j v, cs[j]? = some v → w.cell? (a.add j) = some v) (hc : ∀ j, j < cs.length → (w.cell? ⟨b, o + j, none⟩).isSome = true) (hf : ∀ j, j < cs.length → w.frozen? ⟨b, o + j, none⟩ = false) (h1 : ∀ v ∈ cs, v.oneCell' = true) :
    (Builtin.copy_ #[dT, sT] ty #[.slice (some ⟨b, o, none⟩) dLen dCap, .slice (some a) sLen sCap]).run P w = .ok (goInt (Nat.min sLen dLen)) (w.setCells b o cs) := by
  have hl := run_loadCells_list (P := P) w a cs hsrc
  have hst := run_storeCells_cells (P := P) b o cs 0 w (by simpa using hc) (by simpa using hf) h1
  cases hq : P.info? elem with
  | none => simp [hq] at hs
  | some i =>
    have hi : i.size = z := by simpa [hq] using hs
    simp [Builtin.copy_, run_underlying hu, Builtin.lenOf, Builtin.firstCells, sizeOf, typeInfo, hq, hi, ← hn, hl, hst]
/-- m cells of values of one cell each, at ad -/
structure SrcRow (w : World) (lo hi : Nat) (ad : Option Addr) (m : Nat) (c : Nat → Value) : Prop where
  at_ : ∀ j, j < m → ∃ b off, ad = some ⟨b, off, none⟩ ∧ lo ≤ b ∧ b < hi ∧ w.cell? ⟨b, off + j, none⟩ = some (c j)
  one : ∀ j, j < m → (c j).oneCell' = true
def rowCells (m : Nat) (c : Nat → Value) : List Value := (List.range m).map c
theorem rowCells_len (m : Nat) (c : Nat → Value) : (rowCells m c).length = m := by simp [rowCells]
theorem rowCells_get {m : Nat} {c : Nat → Value} {j : Nat} {u : Value} (h : (rowCells m c)[j]? = some u) : j < m ∧ u = c j := by
  simp only [rowCells, List.getElem?_map] at h
  rcases Nat.lt_or_ge j m with h1 | h1
  · rw [List.getElem?_eq_getElem (by simpa using h1)] at h
    simp at h
    exact ⟨h1, h.symm⟩
  · rw [List.getElem?_eq_none (by simpa using h1)] at h
    cases h
theorem rowCells_at {m : Nat} {c : Nat → Value} {j : Nat} (h : j < (rowCells m c).length) : (rowCells m c)[j] = c j := by simp [rowCells]
theorem RowF.filled {w : World} {g m : Nat} (c : Nat → Value) (h : Room w g m) : RowF (w.setCells g 0 (rowCells m c)) g m c :=
  ⟨by rw [size_setCells]; exact h.lt, fun j => by rw [World.frozen?_setCells]; exact h.free j, fun j hj => by
    have := World.cell?_setCells_in g (rowCells m c) 0 w (fun j hj => by
      rw [rowCells_len] at hj
      obtain ⟨u, hu⟩ := h.has j hj
      rw [Nat.zero_add, hu]; rfl) j (by rw [rowCells_len]; exact hj)
    rw [Nat.zero_add, rowCells_at] at this
    exact this⟩
def rowOf (z : Nat) (f : Nat → List Value) (j : Nat) : Value := (f (j / z)).getD (j % z) undef
theorem rowOf_at {z : Nat} {f : Nat → List Value} {i k : Nat} (hk : k < z) : rowOf z f (i * z + k) = (f i).getD k undef := by
  unfold rowOf
  have h1 : (i * z + k) / z = i := by rw [Nat.add_comm, Nat.add_mul_div_right _ _ (by omega), Nat.div_eq_of_lt hk]; omega
  have h2 : (i * z + k) % z = k := by rw [Nat.add_comm, Nat.add_mul_mod_self_right]; exact Nat.mod_eq_of_lt hk
  rw [h1, h2]
theorem SrcRow.of {w : World} {lo hi : Nat} {ad : Option Addr} {n z : Nat} {f : Nat → List Value} (hz : 0 < z) (hl : ∀ i, i < n → (f i).length = z)
    (h : ∀ i, i < n → ∃ b off, ad = some ⟨b, off, none⟩ ∧ lo ≤ b ∧ b < hi ∧ ∀ k, k < z → w.cell? ⟨b, off + i * z + k, none⟩ = (f i)[k]?) (h1 : ∀ i, i < n → ∀ v ∈ f i, v.oneCell' = true) : SrcRow w lo hi ad (n * z) (rowOf z f) := by
  have key : ∀ j, j < n * z → j / z < n ∧ j % z < z ∧ j = j / z * z + j % z := fun j hj => ⟨Nat.div_lt_of_lt_mul (by rw [Nat.mul_comm]; exact hj), Nat.mod_lt _ hz, by rw [Nat.mul_comm]; exact (Nat.div_add_mod j z).symm⟩
  refine ⟨fun j hj => ?_, fun j hj => ?_⟩
  · obtain ⟨k1, k2, k3⟩ := key j hj
    obtain ⟨b, off, e1, e2, e3, e4⟩ := h (j / z) k1
    refine ⟨b, off, e1, e2, e3, ?_⟩
    have := e4 (j % z) k2
    rw [show off + j / z * z + j % z = off + j by omega] at this
    rw [this, rowOf, List.getD_eq_getElem?_getD, List.getElem?_eq_getElem (by rw [hl _ k1]; exact k2)]
    rfl
  · obtain ⟨k1, k2, k3⟩ := key j hj
    refine h1 (j / z) k1 _ ?_
    rw [rowOf, List.getD_eq_getElem?_getD, List.getElem?_eq_getElem (by rw [hl _ k1]; exact k2)]
    exact List.getElem_mem _
def slR (x : Nat → Sl) (i : Nat) : List Value := [.int .i64 (x i).bal, .string (x i).text]
theorem SlsIn.src {w : World} {lo hi : Nat} {ad : Option Addr} {n : Nat} {x : Nat → Sl} (h : SlsIn w lo hi ad n x) : SrcRow w lo hi ad (n * 2) (rowOf 2 (slR x)) :=
  SrcRow.of (by omega) (fun _ _ => rfl) (fun i hi' => by
    obtain ⟨b, off, e1, e2, e3, e4⟩ := h i hi'
    refine ⟨b, off, e1, e2, e3, fun k hk => ?_⟩
    rcases (show k = 0 ∨ k = 1 by omega) with rfl | rfl
    · exact e4.c0
    · exact e4.c1) (fun i _ v hv => by
    simp only [slR, List.mem_cons, List.not_mem_nil, or_false] at hv
    rcases hv with rfl | rfl <;> rfl)
theorem slR_at (x : Nat → Sl) (i : Nat) : atSl (rowOf 2 (slR x)) i (x i) := ⟨rowOf_at (i := i) (k := 0) (by omega), rowOf_at (i := i) (k := 1) (by omega)⟩
def msR (x : Nat → Ms) (A : Nat → Option Addr) (C : Nat → Nat) (i : Nat) : List Value := [.int .i64 (x i).kind, .int .i64 (x i).from_, .int .i64 (x i).to, .int .i64 (x i).bal, .int .i64 (x i).ix, .int .i64 (x i).kn, .string (x i).text, .slice (A i) (x i).n (C i)]
theorem msR_at (x : Nat → Ms) (A : Nat → Option Addr) (C : Nat → Nat) (i : Nat) : atMs (rowOf 8 (msR x A C)) i (x i) (A i) (C i) := ⟨rowOf_at (i := i) (k := 0) (by omega), rowOf_at (i := i) (k := 1) (by omega), rowOf_at (i := i) (k := 2) (by omega), rowOf_at (i := i) (k := 3) (by omega), rowOf_at (i := i) (k := 4) (by omega), rowOf_at (i := i) (k := 5) (by omega), rowOf_at (i := i) (k := 6) (by omega), rowOf_at (i := i) (k := 7) (by omega)⟩
theorem skolC {β : Type} {n : Nat} (d : β) {p : Nat → β → Prop} (h : ∀ i, i < n → ∃ x, p i x) : ∃ f : Nat → β, ∀ i, i < n → p i (f i) := by
  have h' : ∀ i, ∃ x, i < n → p i x := fun i => by
    by_cases hi : i < n
    · obtain ⟨x, hx⟩ := h i hi; exact ⟨x, fun _ => hx⟩
    · exact ⟨d, fun e => absurd e hi⟩
  obtain ⟨f, hf⟩ := Classical.skolem.1 h'
  exact ⟨f, hf⟩
theorem MssIn.src {w : World} {lo hi : Nat} {ad : Option Addr} {n : Nat} {x : Nat → Ms} (h : MssIn w lo hi ad n x) : ∃ (A : Nat → Option Addr) (C : Nat → Nat), SrcRow w lo hi ad (n * 8) (rowOf 8 (msR x A C)) ∧ (∀ i, i < n → SlsIn w lo hi (A i) (x i).n (x i).s) := by
  obtain ⟨F, hF⟩ := skolC (n := n) ((none, 0) : (Option Addr × Nat)) (p := fun i q => (∃ b off, ad = some ⟨b, off, none⟩ ∧ lo ≤ b ∧ b < hi ∧ MsCells w b (off + i * 8) (x i) q.1 q.2) ∧ SlsIn w lo hi q.1 (x i).n (x i).s) (fun i hi' => by
    obtain ⟨b, off, ah, ch, e1, e2, e3, e4, e5⟩ := h i hi'
    exact ⟨(ah, ch), ⟨b, off, e1, e2, e3, e4⟩, e5⟩)
  refine ⟨fun i => (F i).1, fun i => (F i).2, SrcRow.of (by omega) (fun _ _ => rfl) (fun i hi' => ?_) (fun i _ v hv => ?_), fun i hi' => (hF i hi').2⟩
  · obtain ⟨⟨b, off, e1, e2, e3, e4⟩, _⟩ := hF i hi'
    refine ⟨b, off, e1, e2, e3, fun k hk => ?_⟩
    rcases (show k = 0 ∨ k = 1 ∨ k = 2 ∨ k = 3 ∨ k = 4 ∨ k = 5 ∨ k = 6 ∨ k = 7 by omega) with rfl | rfl | rfl | rfl | rfl | rfl | rfl | rfl
    · exact e4.c0
    · exact e4.c1
    · exact e4.c2
    · exact e4.c3
    · exact e4.c4
    · exact e4.c5
    · exact e4.c6
    · exact e4.c7
  · simp only [msR, List.mem_cons, List.not_mem_nil, or_false] at hv
    rcases hv with rfl | rfl | rfl | rfl | rfl | rfl | rfl | rfl <;> rfl
def akR (x : Nat → Ak) (A : Nat → Option Addr) (C : Nat → Nat) (i : Nat) : List Value := [.int .i64 (x i).ix, .slice (A i) (x i).n (C i)]
theorem akR_at (x : Nat → Ak) (A : Nat → Option Addr) (C : Nat → Nat) (i : Nat) : atAk (rowOf 2 (akR x A C)) i (x i) (A i) (C i) := ⟨rowOf_at (i := i) (k := 0) (by omega), rowOf_at (i := i) (k := 1) (by omega)⟩
theorem AksIn.src {w : World} {lo hi : Nat} {ad : Option Addr} {n : Nat} {x : Nat → Ak} (h : AksIn w lo hi ad n x) : ∃ (A : Nat → Option Addr) (C : Nat → Nat), SrcRow w lo hi ad (n * 2) (rowOf 2 (akR x A C)) ∧ (∀ i, i < n → IntsIn w lo hi (A i) (x i).n (x i).s) := by
  obtain ⟨F, hF⟩ := skolC (n := n) ((none, 0) : (Option Addr × Nat)) (p := fun i q => (∃ b off, ad = some ⟨b, off, none⟩ ∧ lo ≤ b ∧ b < hi ∧ AkCells w b (off + i * 2) (x i) q.1 q.2) ∧ IntsIn w lo hi q.1 (x i).n (x i).s) (fun i hi' => by
    obtain ⟨b, off, ah, ch, e1, e2, e3, e4, e5⟩ := h i hi'
    exact ⟨(ah, ch), ⟨b, off, e1, e2, e3, e4⟩, e5⟩)
  refine ⟨fun i => (F i).1, fun i => (F i).2, SrcRow.of (by omega) (fun _ _ => rfl) (fun i hi' => ?_) (fun i _ v hv => ?_), fun i hi' => (hF i hi').2⟩
  · obtain ⟨⟨b, off, e1, e2, e3, e4⟩, _⟩ := hF i hi'
    refine ⟨b, off, e1, e2, e3, fun k hk => ?_⟩
    rcases (show k = 0 ∨ k = 1 by omega) with rfl | rfl
    · exact e4.c0
    · exact e4.c1
  · simp only [akR, List.mem_cons, List.not_mem_nil, or_false] at hv
    rcases hv with rfl | rfl <;> rfl
theorem StrsIn.src {w : World} {lo hi : Nat} {ad : Option Addr} {n : Nat} {s : Nat → ByteArray} (h : StrsIn w lo hi ad n s) : SrcRow w lo hi ad (n * 1) (fun j => .string (s j)) :=
  ⟨fun j hj => h j (by omega), fun _ _ => rfl⟩
theorem IntsIn.src {w : World} {lo hi : Nat} {ad : Option Addr} {n : Nat} {s : Nat → Int} (h : IntsIn w lo hi ad n s) : SrcRow w lo hi ad (n * 1) (fun j => .int .i64 (s j)) :=
  ⟨fun j hj => h j (by omega), fun _ _ => rfl⟩
theorem RowF.strs {w : World} {g n : Nat} {s : Nat → ByteArray} (h : RowF w g (n * 1) (fun j => .string (s j))) : StrsOwn w g (g + 1) (some ⟨g, 0, none⟩) n s := fun i hi =>
  ⟨g, 0, rfl, Nat.le_refl _, Nat.lt_succ_self _, by rw [Nat.zero_add]; exact h.cell i (by omega), by rw [Nat.zero_add]; exact h.free i⟩
theorem RowF.ints {w : World} {g n : Nat} {s : Nat → Int} (h : RowF w g (n * 1) (fun j => .int .i64 (s j))) : IntsOwn w g (g + 1) (some ⟨g, 0, none⟩) n s := fun i hi =>
  ⟨g, 0, rfl, Nat.le_refl _, Nat.lt_succ_self _, by rw [Nat.zero_add]; exact h.cell i (by omega), by rw [Nat.zero_add]; exact h.free i⟩
end Go.Proofs.Ytjepponnhieocaa
namespace Go.Proofs.Ytjepponnhieocaa
open Go.RowKit
def updF {α : Type} (f : Nat → α) (k : Nat) (v : α) : Nat → α := fun i => if i = k then v else f i
theorem updF_same {α : Type} (f : Nat → α) (k : Nat) (v : α) : updF f k v k = v := if_pos rfl
theorem updF_ne {α : Type} (f : Nat → α) {k i : Nat} (v : α) (h : ¬ i = k) : updF f k v i = f i := if_neg h
/-- a list of which k elements have lists of their own -/
structure CpMs (w : World) (g n k : Nat) (x : Nat → Ms) (A0 A : Nat → Option Addr) (C hb : Nat → Nat) : Prop where
  row : 0 < n → ∃ c, RowF w g (n * 8) c ∧ ∀ i, i < n → atMs c i (x i) (A i) (C i)
  src : ∀ i, k ≤ i → i < n → A i = A0 i
  hold : ∀ i, i < k → SlsAt w (A i) (hb i) (x i).n (x i).s
  hlt : ∀ i, i < k → (x i).n ≠ 0 → g < hb i ∧ hb i < w.heap.size
  inj : ∀ i j, i < k → j < k → (x i).n ≠ 0 → (x j).n ≠ 0 → hb i = hb j → i = j
theorem CpMs.put {w w1 : World} {g n k : Nat} {x : Nat → Ms} {A0 A : Nat → Option Addr} {C hb : Nat → Nat} (h : CpMs w g n k x A0 A C hb) (hk : k < n) (hb1 : Below w.heap.size w w1) {ad' : Option Addr} {cap' b' : Nat} (hb' : w.heap.size ≤ b') (hlt' : (x k).n ≠ 0 → b' < w1.heap.size) (ho : SlsAt w1 ad' b' (x k).n (x k).s) :
    CpMs (w1.setCell ⟨g, k * 8 + 7, none⟩ (.slice ad' (x k).n cap')) g n (k + 1) x A0 (updF A k ad') (updF C k cap') (updF hb k b') := by
  obtain ⟨c, r, hat⟩ := h.row (by omega)
  have hgw := r.lt
  have F : FrP (fun q => q = g) w1 (w1.setCell ⟨g, k * 8 + 7, none⟩ (.slice ad' (x k).n cap')) := (FrP.refl (fun q => q = g) w1).setCell (p := ⟨g, k * 8 + 7, none⟩) rfl _
  refine ⟨fun _ => ⟨_, ((r.below hb1 hgw).set (o := k * 8 + 7) (by omega) _), fun i hi => ?_⟩, fun i h1 h2 => ?_, fun i hi => ?_, fun i hi h0 => ?_, fun i j hi hj h0 h1 e => ?_⟩
  · by_cases e : i = k
    · subst e
      have a0 := hat i hi
      rw [updF_same, updF_same]
      obtain ⟨a0, a1, a2, a3, a4, a5, a6, a7⟩ := a0
      exact ⟨(if_neg (by omega)).trans a0, (if_neg (by omega)).trans a1, (if_neg (by omega)).trans a2, (if_neg (by omega)).trans a3, (if_neg (by omega)).trans a4, (if_neg (by omega)).trans a5, (if_neg (by omega)).trans a6, if_pos rfl⟩
    · rw [updF_ne _ _ e, updF_ne _ _ e]
      exact atMs_set (hat i hi) e (k := k) (by omega) (by omega) _
  · rw [updF_ne _ _ (by omega)]
    exact h.src i (by omega) h2
  · by_cases e : i = k
    · subst e
      rw [updF_same, updF_same]
      exact ho.frP (P := fun q => q = g) F (fun h0 => ⟨by omega, hlt' h0⟩)
    · rw [updF_ne _ _ e, updF_ne _ _ e]
      exact (h.hold i (by omega)).frP (P := fun q => q = g) ((FrP.of_below hb1).trans F) (fun h0 => ⟨fun e => Nat.lt_irrefl _ (e ▸ (h.hlt i (by omega) h0).1), (h.hlt i (by omega) h0).2⟩)
  · simp only [World.size_setCell]
    by_cases e : i = k
    · subst e
      rw [updF_same]
      exact ⟨by omega, hlt' h0⟩
    · rw [updF_ne _ _ e]
      exact ⟨(h.hlt i (by omega) h0).1, Nat.lt_of_lt_of_le (h.hlt i (by omega) h0).2 hb1.size⟩
  · by_cases e1 : i = k
    · by_cases e2 : j = k
      · rw [e1, e2]
      · subst e1
        rw [updF_same, updF_ne _ _ e2] at e
        have := (h.hlt j (by omega) h1).2
        omega
    · by_cases e2 : j = k
      · subst e2
        rw [updF_same, updF_ne _ _ e1] at e
        have := (h.hlt i (by omega) h0).2
        omega
      · rw [updF_ne _ _ e1, updF_ne _ _ e2] at e
        exact h.inj i j (by omega) (by omega) h0 h1 e
theorem CpMs.done {w : World} {ad : Option Addr} {g n : Nat} {x : Nat → Ms} {A0 A : Nat → Option Addr} {C hb : Nat → Nat} (h : CpMs w g n n x A0 A C hb) (ha : 0 < n → ad = some ⟨g, 0, none⟩) : MssAt w ad g n x A C hb :=
  ⟨ha, h.row, h.hold, fun i hi h0 => (h.hlt i hi h0).2, ⟨fun i hi h0 e => Nat.lt_irrefl _ (e ▸ (h.hlt i hi h0).1), h.inj⟩⟩
theorem CpMs.rng {w : World} {g n : Nat} {x : Nat → Ms} {A0 A : Nat → Option Addr} {C hb : Nat → Nat} (h : CpMs w g n n x A0 A C hb) {k : Nat} (hk : blkH g n (fun i => (x i).n) hb k) : g ≤ k ∧ k < w.heap.size := by
  rcases hk with ⟨h0, rfl⟩ | ⟨i, hi, h0, rfl⟩
  · obtain ⟨c, r, _⟩ := h.row h0; exact ⟨Nat.le_refl _, r.lt⟩
  · exact ⟨Nat.le_of_lt (h.hlt i hi h0).1, (h.hlt i hi h0).2⟩
theorem CpMs.grow {w w' : World} {g n k : Nat} {x : Nat → Ms} {A0 A : Nat → Option Addr} {C hb : Nat → Nat} (h : CpMs w g n k x A0 A C hb) (hf : Below w.heap.size w w') : CpMs w' g n k x A0 A C hb :=
  ⟨fun h0 => by obtain ⟨c, r, e⟩ := h.row h0; exact ⟨c, r.below hf r.lt, e⟩, h.src, fun i hi => (h.hold i hi).frP (FrP.of_below (P := fun _ => False) hf) (fun h0 => ⟨fun h => h, (h.hlt i hi h0).2⟩), fun i hi h0 => ⟨(h.hlt i hi h0).1, Nat.lt_of_lt_of_le (h.hlt i hi h0).2 hf.size⟩, h.inj⟩
/-- a list of which k elements have lists of their own -/
structure CpAk (w : World) (g n k : Nat) (x : Nat → Ak) (A0 A : Nat → Option Addr) (C hb : Nat → Nat) : Prop where
  row : 0 < n → ∃ c, RowF w g (n * 2) c ∧ ∀ i, i < n → atAk c i (x i) (A i) (C i)
  src : ∀ i, k ≤ i → i < n → A i = A0 i
  hold : ∀ i, i < k → IntsOwn w (hb i) ((hb i) + 1) (A i) (x i).n (x i).s
  hlt : ∀ i, i < k → (x i).n ≠ 0 → g < hb i ∧ hb i < w.heap.size
  inj : ∀ i j, i < k → j < k → (x i).n ≠ 0 → (x j).n ≠ 0 → hb i = hb j → i = j
theorem CpAk.put {w w1 : World} {g n k : Nat} {x : Nat → Ak} {A0 A : Nat → Option Addr} {C hb : Nat → Nat} (h : CpAk w g n k x A0 A C hb) (hk : k < n) (hb1 : Below w.heap.size w w1) {ad' : Option Addr} {cap' b' : Nat} (hb' : w.heap.size ≤ b') (hlt' : (x k).n ≠ 0 → b' < w1.heap.size) (ho : IntsOwn w1 b' (b' + 1) ad' (x k).n (x k).s) :
    CpAk (w1.setCell ⟨g, k * 2 + 1, none⟩ (.slice ad' (x k).n cap')) g n (k + 1) x A0 (updF A k ad') (updF C k cap') (updF hb k b') := by
  obtain ⟨c, r, hat⟩ := h.row (by omega)
  have hgw := r.lt
  have F : FrP (fun q => q = g) w1 (w1.setCell ⟨g, k * 2 + 1, none⟩ (.slice ad' (x k).n cap')) := (FrP.refl (fun q => q = g) w1).setCell (p := ⟨g, k * 2 + 1, none⟩) rfl _
  refine ⟨fun _ => ⟨_, ((r.below hb1 hgw).set (o := k * 2 + 1) (by omega) _), fun i hi => ?_⟩, fun i h1 h2 => ?_, fun i hi => ?_, fun i hi h0 => ?_, fun i j hi hj h0 h1 e => ?_⟩
  · by_cases e : i = k
    · subst e
      have a0 := hat i hi
      rw [updF_same, updF_same]
      obtain ⟨a0, a1⟩ := a0
      exact ⟨(if_neg (by omega)).trans a0, if_pos rfl⟩
    · rw [updF_ne _ _ e, updF_ne _ _ e]
      exact atAk_set (hat i hi) e (k := k) (by omega) (by omega) _
  · rw [updF_ne _ _ (by omega)]
    exact h.src i (by omega) h2
  · by_cases e : i = k
    · subst e
      rw [updF_same, updF_same]
      exact ho.frP (P := fun q => q = g) F (fun h0 => ⟨by omega, hlt' h0⟩)
    · rw [updF_ne _ _ e, updF_ne _ _ e]
      exact (h.hold i (by omega)).frP (P := fun q => q = g) ((FrP.of_below hb1).trans F) (fun h0 => ⟨fun e => Nat.lt_irrefl _ (e ▸ (h.hlt i (by omega) h0).1), (h.hlt i (by omega) h0).2⟩)
  · simp only [World.size_setCell]
    by_cases e : i = k
    · subst e
      rw [updF_same]
      exact ⟨by omega, hlt' h0⟩
    · rw [updF_ne _ _ e]
      exact ⟨(h.hlt i (by omega) h0).1, Nat.lt_of_lt_of_le (h.hlt i (by omega) h0).2 hb1.size⟩
  · by_cases e1 : i = k
    · by_cases e2 : j = k
      · rw [e1, e2]
      · subst e1
        rw [updF_same, updF_ne _ _ e2] at e
        have := (h.hlt j (by omega) h1).2
        omega
    · by_cases e2 : j = k
      · subst e2
        rw [updF_same, updF_ne _ _ e1] at e
        have := (h.hlt i (by omega) h0).2
        omega
      · rw [updF_ne _ _ e1, updF_ne _ _ e2] at e
        exact h.inj i j (by omega) (by omega) h0 h1 e
theorem CpAk.done {w : World} {ad : Option Addr} {g n : Nat} {x : Nat → Ak} {A0 A : Nat → Option Addr} {C hb : Nat → Nat} (h : CpAk w g n n x A0 A C hb) (ha : 0 < n → ad = some ⟨g, 0, none⟩) : AksAt w ad g n x A C hb :=
  ⟨ha, h.row, h.hold, fun i hi h0 => (h.hlt i hi h0).2, ⟨fun i hi h0 e => Nat.lt_irrefl _ (e ▸ (h.hlt i hi h0).1), h.inj⟩⟩
theorem CpAk.rng {w : World} {g n : Nat} {x : Nat → Ak} {A0 A : Nat → Option Addr} {C hb : Nat → Nat} (h : CpAk w g n n x A0 A C hb) {k : Nat} (hk : blkH g n (fun i => (x i).n) hb k) : g ≤ k ∧ k < w.heap.size := by
  rcases hk with ⟨h0, rfl⟩ | ⟨i, hi, h0, rfl⟩
  · obtain ⟨c, r, _⟩ := h.row h0; exact ⟨Nat.le_refl _, r.lt⟩
  · exact ⟨Nat.le_of_lt (h.hlt i hi h0).1, (h.hlt i hi h0).2⟩
theorem CpAk.grow {w w' : World} {g n k : Nat} {x : Nat → Ak} {A0 A : Nat → Option Addr} {C hb : Nat → Nat} (h : CpAk w g n k x A0 A C hb) (hf : Below w.heap.size w w') : CpAk w' g n k x A0 A C hb :=
  ⟨fun h0 => by obtain ⟨c, r, e⟩ := h.row h0; exact ⟨c, r.below hf r.lt, e⟩, h.src, fun i hi => (h.hold i hi).frP (FrP.of_below (P := fun _ => False) hf) (fun h0 => ⟨fun h => h, (h.hlt i hi h0).2⟩), fun i hi h0 => ⟨(h.hlt i hi h0).1, Nat.lt_of_lt_of_le (h.hlt i hi h0).2 hf.size⟩, h.inj⟩
end Go.Proofs.Ytjepponnhieocaa
namespace Go.Proofs.Ytjepponnhieocaa
open Go.RowKit
theorem SrcRow.below {w w' : World} {B lo hi : Nat} {ad : Option Addr} {m : Nat} {c : Nat → Value} (h : SrcRow w lo hi ad m c) (hb : Below B w w') (hB : hi ≤ B) : SrcRow w' lo hi ad m c :=
  ⟨fun j hj => by obtain ⟨b, off, e1, e2, e3, e4⟩ := h.at_ j hj; exact ⟨b, off, e1, e2, e3, (hb.cell (p := ⟨b, off + j, none⟩) (by show b < B; omega)).trans e4⟩, h.one⟩
/-- a box: its cells, none of them frozen -/
structure Bx (w : World) (b : Nat) (c : Array Value) : Prop where
  cell : Holds w b c
  free : ∀ i, w.frozen? ⟨b, i, none⟩ = false
  lt : b < w.heap.size
theorem Bx.below {w w' : World} {b B : Nat} {c : Array Value} (h : Bx w b c) (hb : Below B w w') (hB : b < B) : Bx w' b c :=
  ⟨h.cell.below hb hB, fun i => (hb.frozen (p := ⟨b, i, none⟩) hB).trans (h.free i), Nat.lt_of_lt_of_le h.lt hb.size⟩
theorem Bx.frP {w w' : World} {b : Nat} {c : Array Value} {P : Nat → Prop} (h : Bx w b c) (hb : FrP P w w') (ho : ¬ P b) : Bx w' b c :=
  ⟨h.cell.frP hb h.lt ho, fun i => (hb.frozen (p := ⟨b, i, none⟩) h.lt ho).trans (h.free i), Nat.lt_of_lt_of_le h.lt hb.size⟩
theorem Bx.to {w : World} {b : Nat} {c c' : Array Value} {i : Nat} {v : Value} (h : Bx w b c) (hc : Holds (w.setCell ⟨b, i, none⟩ v) b c') : Bx (w.setCell ⟨b, i, none⟩ v) b c' :=
  ⟨hc, fun j => by rw [World.frozen?_setCell]; exact h.free j, by rw [World.size_setCell]; exact h.lt⟩
theorem Bx.there {w : World} {b : Nat} {c : Array Value} (h : Bx w b c) : w.there b 0 c.size := Holds.there h.cell h.free
theorem RcAt.ofRows {w : World} {r : Rc} {p : RcP} (z : Nat → Nat) (o0 : SlsAt w p.A.sa p.g0 r.sf.n r.sf.s) (o1 : SlsAt w p.A.da p.g1 r.dk.n r.dk.s) (o2 : MssAt w p.A.ha p.g2 r.hn r.hs p.HA p.HC p.Hb) (o3 : StrsOwn w p.g3 (p.g3 + 1) p.A.wa r.wn r.ws) (o4 : IntsOwn w p.g4 (p.g4 + 1) p.A.ya r.yn r.ys) (o5 : SlsAt w p.A.ba p.g5 r.bn r.bs) (o6 : AksAt w p.A.aa p.g6 r.an r.as_ p.AA p.AC p.Ab)
    (hz : ∀ j, j < 7 → z j ≤ z (j + 1)) (ht : z 7 ≤ w.heap.size) (hr : ∀ j k, j < 7 → rb p r j k → z j ≤ k ∧ k < z (j + 1)) : RcAt w r p := by
  have mono : ∀ a b, a ≤ b → b ≤ 7 → z a ≤ z b := fun a b hab hb => by
    induction b with
    | zero => have : a = 0 := by omega
              subst this; exact Nat.le_refl _
    | succ m ih =>
      rcases Nat.lt_or_ge m a with h | h
      · have : a = m + 1 := by omega
        subst this; exact Nat.le_refl _
      · exact Nat.le_trans (ih h (by omega)) (hz m (by omega))
  refine ⟨o0, o1, o2, o3, o4, o5, o6, fun k hk => ?_, fun i j k hi hj h1 h2 => ?_⟩
  · obtain ⟨j, hj, hk⟩ := hk
    have := (hr j k hj hk).2
    have := mono (j + 1) 7 (by omega) (by omega)
    omega
  · have e1 := hr i k hi h1
    have e2 := hr j k hj h2
    rcases Nat.lt_trichotomy i j with h | h | h
    · have := mono (i + 1) j (by omega) (by omega); omega
    · exact h
    · have := mono (j + 1) i (by omega) (by omega); omega
def copyReg11G (s q g n cap k : Nat) (a : Option Addr) (c : Nat) (y : Ak) (W : World) (i : Nat) (v : Value) (X : World) : Prop :=
  match i with
  | 0 => v = .pointer (some ⟨s, 16, none⟩)
  | 1 => v = .slice (some ⟨g, 0, none⟩) n cap
  | 2 => v = .int .i64 k
  | 3 => v = .pointer (some ⟨q, 1, none⟩)
  | 4 => v = .slice a y.n c
  | 5 => ∃ ad' cap' b', v = .slice ad' y.n cap' ∧ W.heap.size ≤ b' ∧ (y.n ≠ 0 → b' < X.heap.size) ∧ IntsOwn X b' (b' + 1) ad' y.n y.s
  | 6 => v = .pointer (some ⟨g, k * 2, none⟩)
  | 7 => v = .pointer (some ⟨g, k * 2 + 1, none⟩)
  | _ => True
end Go.Proofs.Ytjepponnhieocaa
namespace Go.Proofs.Ytjepponnhieocaa
open Go.RowKit
/-- lists with no room behind them -/
structure RcTight (r : Rc) (A : RcA) : Prop where
  sc : A.sc = r.sf.n
  dc : A.dc = r.dk.n
  hc : A.hc = r.hn
  wc : A.wc = r.wn
  yc : A.yc = r.yn
  bc : A.bc = r.bn
  ac : A.ac = r.an
  da : r.dk.n = 0 → A.da = none
end Go.Proofs.Ytjepponnhieocaa
namespace Go.Proofs.Ytjepponnhieocaa
open Go.RowKit
theorem wpList_append_run {P : Program} {ops : Array Oper} {rest : List Oper} {o : Oper} {a : Act} {w : World} {Q : Exit → Act → World → Prop} (hgd : o.guard = none) (s x : Operand) (t tx : TypeId)
    (ho : o.op = .call { callee := .builtin .append, args := #[s, x], argTypes := #[t, tx] }) (v xv v2 : Value) (w2 : World) (hs : a.eval s = v) (hx : a.eval x = xv) (hr : (Builtin.append_ #[t, tx] o.type #[v, xv]).run P w = .ok v2 w2)
    (h : wpList P ops Q rest (a.put o.dst v2) w2) : wpList P ops Q (o :: rest) a w := by
  refine wpList_plain hgd fun K hK => ?_
  unfold Oper.wp execOp
  simp only [ho, resolve, invoke, builtin, Sem.run_bind, Sem.run_pure, Result.andThen_ok, List.map_toArray, List.map_cons, List.map_nil, hs, hx, hr]
  exact hK _ _ h
def catF (c : Nat → Value) (m : Nat) (d : Nat → Value) (j : Nat) : Value := if j < m then c j else d (j - m)
theorem rowCells_cat (c d : Nat → Value) (m k : Nat) : rowCells m c ++ rowCells k d = rowCells (m + k) (catF c m d) := by
  apply List.ext_getElem
  · simp [rowCells]
  · intro j h1 h2
    have hj : j < m + k := by simpa [rowCells] using h2
    rw [rowCells_at, List.getElem_append]
    unfold catF
    by_cases h : j < m
    · rw [dif_pos (by rw [rowCells_len]; exact h), rowCells_at, if_pos h]
    · rw [dif_neg (by rw [rowCells_len]; exact h), if_neg h, rowCells_at]
      simp only [rowCells_len]
theorem SrcRow.cells {P : Program} {w : World} {lo hi : Nat} {ad : Option Addr} {n z cap : Nat} {c : Nat → Value} (h : SrcRow w lo hi ad (n * z) c) (hz : 0 < z) : (Builtin.firstCells z n (.slice ad n cap)).run P w = .ok (rowCells (n * z) c).toArray w := by
  cases ad with
  | none =>
    have h0 : n = 0 := by
      rcases Nat.eq_zero_or_pos n with h0 | h0
      · exact h0
      · obtain ⟨b, off, e, _⟩ := h.at_ 0 (Nat.mul_pos h0 hz)
        cases e
    subst h0
    rw [run_firstCells_none]
    simp [rowCells]
  | some a =>
    refine run_firstCells_some w z n a n cap _ (by rw [rowCells_len]) (fun j v hv => ?_)
    obtain ⟨h1, rfl⟩ := rowCells_get hv
    obtain ⟨b, off, e, _, _, e4⟩ := h.at_ j h1
    cases e
    rw [show ((⟨b, off, none⟩ : Addr).add j) = ⟨b, off + j, none⟩ by simp [Addr.add]]
    exact e4
theorem SrcRow.drew {w : World} {lo hi : Nat} {ad : Option Addr} {m : Nat} {c : Nat → Value} (h : SrcRow w lo hi ad m c) : SrcRow w.drew lo hi ad m c := ⟨fun j hj => h.at_ j hj, h.one⟩
theorem SrcRow.src {P : Program} {w : World} {lo hi : Nat} {ad : Option Addr} {n z cap : Nat} {c : Nat → Value} (h : SrcRow w lo hi ad (n * z) c) (hz : 0 < z) {t e : TypeId} (ht : P.underlying t = some (.slice e)) : Src P z t (.slice ad n cap) n (rowCells (n * z) c) w :=
  ⟨.inl ⟨e, ht⟩, fun _ => rfl, h.cells hz, h.drew.cells hz, by rw [rowCells_len], fun u hu => by
    obtain ⟨j, hj, rfl⟩ := List.mem_map.1 hu
    exact h.one j (by simpa using hj)⟩
/-- an append that finds no room -/
theorem append_grow {P : Program} (w : World) (t ty e : TypeId) (z bytes : Nat) (zv : Value) (ht : P.underlying t = some (.slice e)) (hinf : (P.info? e).map (fun i => (i.zero, i.size, i.bytes)) = some (some zv, z, bytes)) (hz : 0 < z)
    (lo hi lo2 hi2 : Nat) (ad : Option Addr) (n cap : Nat) (c : Nat → Value) (hc : SrcRow w lo hi ad (n * z) c) (ad2 : Option Addr) (m cap2 : Nat) (d : Nat → Value) (hd : SrcRow w lo2 hi2 ad2 (m * z) d)
    (hg : cap < n + m) (h63 : ((n + m : Nat) : Int) ≤ 9223372036854775807) (hb : (n + m) * bytes ≤ 140737488355328) :
    ∃ cap' w', (Builtin.append_ #[t, t] ty #[.slice ad n cap, .slice ad2 m cap2]).run P w = .ok (.slice (some ⟨w.heap.size, 0, none⟩) (n + m) cap') w' ∧ RowF w' w.heap.size ((n + m) * z) (catF c (n * z) d) ∧ Below w.heap.size w w' ∧ n + m ≤ cap' ∧ (zv.cells.size = z → Room w' w.heap.size (cap' * z)) := by
  obtain ⟨i0, hi0, hz0, hz1, hz2⟩ := info_parts hinf
  have hrun := run_append_grow_src (P := P) w t t ty e i0 zv ht hi0 hz0 ad n cap (rowCells (n * z) c) (by rw [hz1]; exact hc.drew.cells hz) (.slice ad2 m cap2) m (rowCells (m * z) d) (by rw [hz1]; exact hd.src hz ht) hg h63 (growslice_fits hg (by rw [hz2]; exact hb))
  rw [rowCells_cat] at hrun
  have hcg := grownCap_ge w (n + m) cap e
  refine ⟨_, _, hrun, ⟨?_, fun j => ?_, fun j hj => ?_⟩, ((Below.refl _ _).drew).alloc (Nat.le_refl _) _, hcg, fun hzs => ⟨fun j hj => ?_, fun j => ?_, ?_⟩⟩
  · rw [World.size_alloc]; exact Nat.lt_succ_self _
  · have := World.frozen?_alloc_mark w.drew ((rowCells (n * z + m * z) (catF c (n * z) d)).toArray ++ Builtin.zeroCells zv.cells (grownCap w (n + m) cap e - (n + m))) e 0 0 j
    rw [show w.drew.heap.size = w.heap.size from rfl] at this
    simpa using this
  · have := World.cell?_alloc_new w.drew ((rowCells (n * z + m * z) (catF c (n * z) d)).toArray ++ Builtin.zeroCells zv.cells (grownCap w (n + m) cap e - (n + m))) e j
    rw [show w.drew.heap.size = w.heap.size from rfl] at this
    have hj' : j < n * z + m * z := by rw [Nat.add_mul] at hj; exact hj
    rw [this, Array.getElem?_append_left (by simp [rowCells_len, hj']), List.getElem?_toArray, List.getElem?_eq_getElem (by rw [rowCells_len]; exact hj'), rowCells_at]
  · have := World.cell?_alloc_new w.drew ((rowCells (n * z + m * z) (catF c (n * z) d)).toArray ++ Builtin.zeroCells zv.cells (grownCap w (n + m) cap e - (n + m))) e j
    rw [show w.drew.heap.size = w.heap.size from rfl] at this
    have hs : ((rowCells (n * z + m * z) (catF c (n * z) d)).toArray ++ Builtin.zeroCells zv.cells (grownCap w (n + m) cap e - (n + m))).size = grownCap w (n + m) cap e * z := by
      rw [Array.size_append, size_zeroCells, hzs, List.size_toArray, rowCells_len, ← Nat.add_mul, ← Nat.add_mul]
      congr 1
      omega
    rw [this, Array.getElem?_eq_getElem (by omega)]
    exact ⟨_, rfl⟩
  · have := World.frozen?_alloc_mark w.drew ((rowCells (n * z + m * z) (catF c (n * z) d)).toArray ++ Builtin.zeroCells zv.cells (grownCap w (n + m) cap e - (n + m))) e 0 0 j
    rw [show w.drew.heap.size = w.heap.size from rfl] at this
    simpa using this
  · rw [World.size_alloc]; exact Nat.lt_succ_self _
theorem StrsIn.take {w : World} {lo hi : Nat} {ad : Option Addr} {n m : Nat} {s : Nat → ByteArray} (h : StrsIn w lo hi ad n s) (hm : m ≤ n) : StrsIn w lo hi ad m s := fun i hi' => h i (by omega)
theorem SlsIn.take {w : World} {lo hi : Nat} {ad : Option Addr} {n m : Nat} {x : Nat → Sl} (h : SlsIn w lo hi ad n x) (hm : m ≤ n) : SlsIn w lo hi ad m x := fun i hi' => h i (by omega)
theorem beq_dec (a b : ByteArray) : (a.toList == b.toList) = decide (a = b) := by
  by_cases h : a = b
  · subst h; simp
  · rw [beq_ne h]; simp [h]
set_option maxRecDepth 100000 in
set_option maxHeartbeats 4000000 in
theorem known_any (d : Dk) (ad : Option Addr) (cap : Nat) (w : World) (h0 : 0 ≤ d.kn) (h1 : d.kn ≤ d.n) (hcap : d.n ≤ cap) (hsome : ∃ g, ad = some ⟨g, 0, none⟩ ∨ (ad = none ∧ d.n = 0 ∧ cap = 0)) :
    Calls Try.prog 103 #[dkV d ad cap] w fun e w' => ∃ cap', e = .returned (.slice ad d.kn.toNat cap') ∧ Below w.heap.size w w' := by
  obtain ⟨k, hk⟩ : ∃ k : Nat, d.kn = k := ⟨d.kn.toNat, by omega⟩
  rw [hk]
  rw [hk] at h0 h1
  have hkk : k ≤ d.n := by omega
  obtain ⟨g, rfl | ⟨rfl, hn0, rfl⟩⟩ := hsome
  · go_enter Try.func103, Try.ntmps103
    go_wp2
    go_ret
    exact ⟨_, by first | rfl | simp, below_alloc _ _⟩
  · obtain rfl : k = 0 := by omega
    go_enter Try.func103, Try.ntmps103
    go_wp2
    go_ret
    exact ⟨_, by first | rfl | simp, below_alloc _ _⟩
end Go.Proofs.Ytjepponnhieocaa
namespace Go.Proofs.Ytjepponnhieocaa
open Go.RowKit
theorem RowF.congr {w : World} {g m : Nat} {c d : Nat → Value} (h : RowF w g m c) (e : ∀ j, j < m → c j = d j) : RowF w g m d := ⟨h.lt, h.free, fun j hj => (h.cell j hj).trans (congrArg some (e j hj))⟩
theorem one_src (w : World) (a : ByteArray) : SrcRow (w.alloc (.cells #[.string a] 9)) w.heap.size (w.heap.size + 1) (some ⟨w.heap.size, 0, none⟩) (1 * 1) (fun _ => .string a) :=
  ⟨fun j hj => ⟨w.heap.size, 0, rfl, Nat.le_refl _, Nat.lt_succ_self _, by
    obtain rfl : j = 0 := by omega
    exact holds_new w #[.string a] 9 0⟩, fun _ _ => rfl⟩
/-- whether a text becomes a wish -/
def wishOk (r : Rc) (a : ByteArray) : Bool := inB a.size 1 100 && (decide ((r.wn : Int) < 20) && (!hasB r.wn r.ws a && !hasB r.dk.kn.toNat (fun i => (r.dk.s i).text) a))
/-- a recorder with one more wish -/
abbrev wishY (r : Rc) (a : ByteArray) : Rc := { r with wn := r.wn + 1, ws := updF r.ws r.wn a }
def wishR (r : Rc) (a : ByteArray) : Rc := if wishOk r a then wishY r a else r
abbrev wishP (p : RcP) (g c : Nat) : RcP := { p with A := { p.A with wa := some ⟨g, 0, none⟩, wc := c }, g3 := g }
theorem SlsAt.isIn {w : World} {ad : Option Addr} {g n : Nat} {x : Nat → Sl} (h : SlsAt w ad g n x) {lo hi : Nat} (hlo : n ≠ 0 → lo ≤ g ∧ g < hi) : SlsIn w lo hi ad n x := fun i hi' => by
  obtain ⟨c, r, a⟩ := h.row (by omega)
  obtain ⟨a0, a1⟩ := a i hi'
  have := hlo (by omega)
  exact ⟨g, 0, h.addr (by omega), this.1, this.2, ⟨by rw [Nat.zero_add]; exact (r.cell _ (by omega)).trans (congrArg some a0), by rw [Nat.zero_add]; exact (r.cell _ (by omega)).trans (congrArg some a1)⟩⟩
theorem StrsOwn.in0 {w : World} {b : Nat} {ad : Option Addr} {n : Nat} {s : Nat → ByteArray} (h : StrsOwn w b (b + 1) ad n s) {lo hi : Nat} (hlo : n ≠ 0 → lo ≤ b ∧ b < hi) : StrsIn w lo hi ad n s := fun i hi' => by
  obtain ⟨q, off, e1, e2, e3, e4, _⟩ := h i hi'
  have := hlo (by omega)
  exact ⟨q, off, e1, by omega, by omega, e4⟩
theorem IntsOwn.in0 {w : World} {b : Nat} {ad : Option Addr} {n : Nat} {s : Nat → Int} (h : IntsOwn w b (b + 1) ad n s) {lo hi : Nat} (hlo : n ≠ 0 → lo ≤ b ∧ b < hi) : IntsIn w lo hi ad n s := fun i hi' => by
  obtain ⟨q, off, e1, e2, e3, e4, _⟩ := h i hi'
  have := hlo (by omega)
  exact ⟨q, off, e1, by omega, by omega, e4⟩
theorem MssAt.isIn {w : World} {ad : Option Addr} {g n : Nat} {x : Nat → Ms} {A : Nat → Option Addr} {C hb : Nat → Nat} (h : MssAt w ad g n x A C hb) {lo hi : Nat} (hlo : ∀ k, blkH g n (fun i => (x i).n) hb k → lo ≤ k ∧ k < hi) : MssIn w lo hi ad n x := fun i hi' => by
  obtain ⟨c, r, a⟩ := h.row (by omega)
  obtain ⟨a0, a1, a2, a3, a4, a5, a6, a7⟩ := a i hi'
  have := hlo g (Or.inl ⟨by omega, rfl⟩)
  exact ⟨g, 0, A i, C i, h.addr (by omega), this.1, this.2, by rw [Nat.zero_add]; exact ⟨(r.cell _ (by omega)).trans (congrArg some a0), (r.cell _ (by omega)).trans (congrArg some a1), (r.cell _ (by omega)).trans (congrArg some a2), (r.cell _ (by omega)).trans (congrArg some a3), (r.cell _ (by omega)).trans (congrArg some a4), (r.cell _ (by omega)).trans (congrArg some a5), (r.cell _ (by omega)).trans (congrArg some a6), (r.cell _ (by omega)).trans (congrArg some a7)⟩, (h.hold i hi').isIn (fun h0 => hlo _ (Or.inr ⟨i, hi', h0, rfl⟩))⟩
theorem AksAt.isIn {w : World} {ad : Option Addr} {g n : Nat} {x : Nat → Ak} {A : Nat → Option Addr} {C hb : Nat → Nat} (h : AksAt w ad g n x A C hb) {lo hi : Nat} (hlo : ∀ k, blkH g n (fun i => (x i).n) hb k → lo ≤ k ∧ k < hi) : AksIn w lo hi ad n x := fun i hi' => by
  obtain ⟨c, r, a⟩ := h.row (by omega)
  obtain ⟨a0, a1⟩ := a i hi'
  have := hlo g (Or.inl ⟨by omega, rfl⟩)
  exact ⟨g, 0, A i, C i, h.addr (by omega), this.1, this.2, by rw [Nat.zero_add]; exact ⟨(r.cell _ (by omega)).trans (congrArg some a0), (r.cell _ (by omega)).trans (congrArg some a1)⟩, (h.hold i hi').in0 (fun h0 => hlo _ (Or.inr ⟨i, hi', h0, rfl⟩))⟩
theorem RcAt.isIn {w : World} {r : Rc} {p : RcP} (h : RcAt w r p) {lo hi : Nat} (hlo : ∀ k, rbs p r k → lo ≤ k ∧ k < hi) : RcIn w lo hi r p.A :=
  ⟨h.o0.isIn (fun h0 => hlo _ ⟨0, by omega, h0, rfl⟩), h.o1.isIn (fun h0 => hlo _ ⟨1, by omega, h0, rfl⟩), h.o2.isIn (fun k hk => hlo _ ⟨2, by omega, hk⟩), h.o3.in0 (fun h0 => hlo _ ⟨3, by omega, h0, rfl⟩), h.o4.in0 (fun h0 => hlo _ ⟨4, by omega, h0, rfl⟩), h.o5.isIn (fun h0 => hlo _ ⟨5, by omega, h0, rfl⟩), h.o6.isIn (fun k hk => hlo _ ⟨6, by omega, hk⟩)⟩
theorem rb_wish (p : RcP) (r : Rc) (a : ByteArray) (g c j k : Nat) (hj : ¬ j = 3) : rb (wishP p g c) (wishY r a) j k ↔ rb p r j k := by
  unfold rb
  split <;> first | exact Iff.rfl | exact absurd rfl hj
theorem RcAt.wish {w w' : World} {r : Rc} {p : RcP} {P : Nat → Prop} (h : RcAt w r p) (hf : FrP P w w') (hp : ∀ k, rbs p r k → ¬ P k) {g c : Nat} (a : ByteArray) (hg : w.heap.size ≤ g) (hl : g < w'.heap.size) (o : StrsOwn w' g (g + 1) (some ⟨g, 0, none⟩) (r.wn + 1) (updF r.ws r.wn a)) : RcAt w' (wishY r a) (wishP p g c) := by
  have h' := h.fr hf hp
  refine ⟨h'.o0, h'.o1, h'.o2, o, h'.o4, h'.o5, h'.o6, fun k hk => ?_, fun i j k hi hj h1 h2 => ?_⟩
  · obtain ⟨j, hj, hk⟩ := hk
    by_cases e : j = 3
    · subst e; have : k = g := hk.2; omega
    · exact h'.lt k ⟨j, hj, (rb_wish p r a g c j k e).1 hk⟩
  · by_cases e : i = 3
    · by_cases e2 : j = 3
      · omega
      · subst e
        have e3 : k = g := h1.2
        have := h.lt k ⟨j, hj, (rb_wish p r a g c j k e2).1 h2⟩
        omega
    · by_cases e2 : j = 3
      · subst e2
        have e3 : k = g := h2.2
        have := h.lt k ⟨i, hi, (rb_wish p r a g c i k e).1 h1⟩
        omega
      · exact h'.ap i j k hi hj ((rb_wish p r a g c i k e).1 h1) ((rb_wish p r a g c j k e2).1 h2)
end Go.Proofs.Ytjepponnhieocaa
namespace Go.Proofs.Ytjepponnhieocaa
open Go.RowKit
theorem Bx.new (w : World) (c : Array Value) (t : TypeId) : Bx (w.alloc (.cells c t)) w.heap.size c := ⟨holds_new w c t, fun i => World.frozen?_alloc_at _ _ _ _ rfl, by simp⟩
theorem Bx.new2 (w : World) (c d : Array Value) (t t2 : TypeId) : Bx ((w.alloc (.cells c t)).alloc (.cells d t2)) w.heap.size c ∧ Bx ((w.alloc (.cells c t)).alloc (.cells d t2)) (w.heap.size + 1) d :=
  ⟨(Bx.new w c t).below (below_alloc _ _) (by simp), by have := Bx.new (w.alloc (.cells c t)) d t2; rw [World.size_alloc] at this; exact this⟩
theorem wpList_store_box {P : Program} {ops : Array Oper} {rest : List Oper} {op : Oper} {a : Act} {w : World} {Q : Exit → Act → World → Prop} (hgd : op.guard = none) (ty : TypeId) (x y : Operand) (ho : op.op = .store ty x y)
    (b : Nat) (cs : List Value) (hx : a.eval x = .pointer (some ⟨b, 0, none⟩)) (hy : a.eval y = .agg cs.toArray) {c : Array Value}
    (hb : Bx w b c) (hsz : c.size = cs.length) (hi : (P.info? ty).map (·.size) = some cs.length) (h1 : ∀ v ∈ cs, v.oneCell' = true)
    (h : ∀ W2 : World, Bx W2 b cs.toArray → Fr b (b + 1) w W2 → W2.heap.size = w.heap.size → wpList P ops Q rest (a.put op.dst undef) W2) : wpList P ops Q (op :: rest) a w := by
  have ht : w.there b 0 cs.length := hsz ▸ hb.there
  refine wpList_store_mid hgd ty x y ho b 0 cs.toArray hx hy (by simpa using ht) (by simpa using hi) (all_oneCell_toArray h1) (h _ ⟨fun i => ?_, fun i => ?_, ?_⟩ (fr_setCells _ _ _ _) (size_setCells _ _ _ _))
  · rcases Nat.lt_or_ge i cs.length with hl | hl
    · have := World.rangeAt_setCells_same w b 0 cs ht i cs[i] (List.getElem?_eq_getElem hl)
      rw [Nat.zero_add] at this
      rw [List.getElem?_toArray, List.getElem?_eq_getElem hl]
      exact this
    · rw [World.cell?_setCells_out b cs 0 w ⟨b, i, none⟩ (fun _ _ => Or.inr (by show 0 + cs.length ≤ i; omega)), hb.cell i, Array.getElem?_eq_none (by omega), List.getElem?_toArray, List.getElem?_eq_none (by omega)]
  · rw [World.frozen?_setCells]; exact hb.free i
  · rw [size_setCells]; exact hb.lt
abbrev pN : RcP := ⟨rcA0, 0, 0, 0, 0, 0, 0, 0, fun _ => none, fun _ => 0, fun _ => 0, fun _ => none, fun _ => 0, fun _ => 0⟩
theorem rb_none (n o : Int) (u : Bool) (j k : Nat) : ¬ rb pN (rc0 n o u) j k := by
  unfold rb
  split
  · exact fun h => h.1 rfl
  · exact fun h => h.1 rfl
  · rintro (⟨h, _⟩ | ⟨i, h, _⟩) <;> exact absurd h (Nat.not_lt_zero _)
  · exact fun h => h.1 rfl
  · exact fun h => h.1 rfl
  · exact fun h => h.1 rfl
  · rintro (⟨h, _⟩ | ⟨i, h, _⟩) <;> exact absurd h (Nat.not_lt_zero _)
theorem RcAt.none (w : World) (n o : Int) (u : Bool) : RcAt w (rc0 n o u) pN :=
  ⟨⟨fun h => absurd h (Nat.lt_irrefl _), fun h => absurd h (Nat.lt_irrefl _)⟩, ⟨fun h => absurd h (Nat.lt_irrefl _), fun h => absurd h (Nat.lt_irrefl _)⟩, ⟨fun h => absurd h (Nat.lt_irrefl _), fun h => absurd h (Nat.lt_irrefl _), fun _i hi => absurd hi (Nat.not_lt_zero _), fun _i hi => absurd hi (Nat.not_lt_zero _), ⟨fun _i hi => absurd hi (Nat.not_lt_zero _), fun _i _j hi => absurd hi (Nat.not_lt_zero _)⟩⟩, fun _i hi => absurd hi (Nat.not_lt_zero _), fun _i hi => absurd hi (Nat.not_lt_zero _), ⟨fun h => absurd h (Nat.lt_irrefl _), fun h => absurd h (Nat.lt_irrefl _)⟩, ⟨fun h => absurd h (Nat.lt_irrefl _), fun h => absurd h (Nat.lt_irrefl _), fun _i hi => absurd hi (Nat.not_lt_zero _), fun _i hi => absurd hi (Nat.not_lt_zero _), ⟨fun _i hi => absurd hi (Nat.not_lt_zero _), fun _i _j hi => absurd hi (Nat.not_lt_zero _)⟩⟩,
   fun k ⟨j, _, hk⟩ => absurd hk (rb_none n o u j k), fun i _j k _ _ h => absurd h (rb_none n o u i k)⟩
theorem dkB_known {d : Dk} (h : dkB d = true) : 0 ≤ d.kn ∧ d.kn ≤ d.n := by
  simp only [dkB, Bool.and_eq_true] at h
  exact inB_of h.2.2.2.1
theorem rcB_disk {r : Rc} (h : rcB r = true) : dkB r.dk = true := by
  simp only [rcB, restB, Bool.and_eq_true] at h
  exact h.2.2.2.1
end Go.Proofs.Ytjepponnhieocaa
namespace Go.Proofs.Ytjepponnhieocaa
open Go.RowKit
/-- append of a list to an empty one -/
theorem append_empty {P : Program} (w : World) (t ty e : TypeId) (z bytes : Nat) (zv : Value) (ht : P.underlying t = some (.slice e)) (hinf : (P.info? e).map (fun i => (i.zero, i.size, i.bytes)) = some (some zv, z, bytes)) (hz : 0 < z)
    (lo hi b : Nat) (ad : Option Addr) (n cap : Nat) (c : Nat → Value) (hc : SrcRow w lo hi ad (n * z) c) (h63 : (n : Int) ≤ 9223372036854775807) (hb : n * bytes ≤ 140737488355328) :
    ∃ ad' cap' w', (Builtin.append_ #[t, t] ty #[.slice (some ⟨b, 0, none⟩) 0 0, .slice ad n cap]).run P w = .ok (.slice ad' n cap') w' ∧ (0 < n → ad' = some ⟨w.heap.size, 0, none⟩ ∧ RowF w' w.heap.size (n * z) c) ∧ Below w.heap.size w w' ∧ n ≤ cap' ∧ (n = 0 → cap' = 0) ∧ (0 < n → zv.cells.size = z → Room w' w.heap.size (cap' * z)) ∧ (∃ g, ad' = some ⟨g, 0, none⟩) := by
  rcases Nat.eq_zero_or_pos n with h0 | h0
  · subst h0
    obtain ⟨i0, hi0, hz0, hz1, hz2⟩ := info_parts hinf
    have hs : Src P z t (.slice ad 0 cap) 0 [] w := by
      have := hc.src (cap := cap) hz ht
      rw [Nat.zero_mul] at this
      exact this
    have hrun := run_append_room_src (P := P) w t t ty e i0 ht hi0 b 0 0 0 (.slice ad 0 cap) 0 [] (by rw [hz1]; exact hs) (Nat.le_refl _) (fun j hj => absurd hj (Nat.not_lt_zero _)) (fun j hj => absurd hj (Nat.not_lt_zero _))
    exact ⟨_, _, _, hrun, fun h => absurd h (Nat.lt_irrefl _), Below.refl _ _, Nat.le_refl _, fun _ => rfl, fun h => absurd h (Nat.lt_irrefl _), ⟨_, rfl⟩⟩
  · obtain ⟨cap', w', h1, h2, h3, h4, h5⟩ := append_grow (P := P) w t ty e z bytes zv ht hinf hz 0 0 lo hi (some ⟨b, 0, none⟩) 0 0 (fun _ => undef) ⟨fun j hj => absurd hj (by rw [Nat.zero_mul]; exact Nat.not_lt_zero _), fun j hj => absurd hj (by rw [Nat.zero_mul]; exact Nat.not_lt_zero _)⟩ ad n cap c hc (by omega) (by omega) (by rw [Nat.zero_add]; exact hb)
    rw [Nat.zero_add] at h1 h2 h4
    refine ⟨_, cap', w', h1, fun _ => ⟨rfl, h2.congr (fun j _ => ?_)⟩, h3, h4, fun h => absurd h (by omega), fun _ => h5, ⟨_, rfl⟩⟩
    unfold catF
    rw [Nat.zero_mul, if_neg (Nat.not_lt_zero _), Nat.sub_zero]
theorem FrP.of_grown {w w' : World} {row : Option Nat} (h : w.grownBy w' row) : FrP (fun q => row = some q) w w' := ⟨h.os, h.tape, h.output, h.size, fun k hk ho => h.block k hk (fun e => ho e.symm)⟩
theorem ownsRow_fr {w w' : World} {base e z n : Nat} {v : Value} {xs : List Value} {P : Nat → Prop} (h : w.ownsRow base e z v n xs) (hf : FrP P w w') (hp : ∀ g, v.ownBlock = some g → ¬ P g) : w'.ownsRow base e z v n xs := by
  refine ⟨h.1, ?_⟩
  rcases h.2 with h0 | ⟨g, cap, cur, rfl, h1, h2, h3⟩
  · exact Or.inl h0
  · exact Or.inr ⟨g, cap, cur, rfl, h1, (hf.block g (Array.getElem?_eq_some_iff.1 h2).1 (hp g rfl)).trans h2, h3⟩
theorem alloc_news (w : World) (l : List Value) (t : TypeId) : ∀ j u, l[j]? = some u → (w.alloc (.cells l.toArray t)).cell? ((⟨w.heap.size, 0, none⟩ : Addr).add j) = some u := by
  intro j u h
  rw [show ((⟨w.heap.size, 0, none⟩ : Addr).add j) = ⟨w.heap.size, j, none⟩ by unfold Addr.add; split <;> simp_all, World.cell?_alloc_new]
  simpa using h
def appF (c : Nat → Value) (m : Nat) (news : List Value) : Nat → Value := fun j => if j < m then c j else news.getD (j - m) (.int .i64 0)
theorem appF_zero (c : Nat → Value) (m : Nat) (news : List Value) : appF c m news m = news.getD 0 (.int .i64 0) := by
  unfold appF
  rw [if_neg (Nat.lt_irrefl _), Nat.sub_self]
theorem appF_at (c : Nat → Value) (m : Nat) (news : List Value) (j : Nat) : appF c m news (m + j) = news.getD j (.int .i64 0) := by
  unfold appF
  rw [if_neg (by omega), Nat.add_sub_cancel_left]
theorem rowCells_append (c : Nat → Value) (m : Nat) (news : List Value) : rowCells m c ++ news = rowCells (m + news.length) (appF c m news) := by
  apply List.ext_getElem
  · simp [rowCells]
  · intro j h1 h2
    have hj : j < m + news.length := by simpa [rowCells] using h2
    rw [rowCells_at, List.getElem_append]
    unfold appF
    by_cases h : j < m
    · rw [dif_pos (by rw [rowCells_len]; exact h), rowCells_at, if_pos h]
    · rw [dif_neg (by rw [rowCells_len]; exact h), if_neg h]
      simp only [rowCells_len]
      rw [List.getD_eq_getElem?_getD, List.getElem?_eq_getElem (by omega)]
      rfl
theorem row_of_own {w : World} {base e z n g cap : Nat} {c : Nat → Value} (h : w.ownsRow base e z (.slice (some ⟨g, 0, none⟩) n cap) n (rowCells (n * z) c)) : RowF w g (n * z) c := by
  refine ⟨(h.lt g rfl).2, fun j => h.frozenAt j, fun j hj => ?_⟩
  rw [h.cellAt j hj, List.getElem?_eq_getElem (by rw [rowCells_len]; exact hj), rowCells_at]
/-- a list that is being built by appends -/
structure BdMs (w : World) (base : Nat) (v : Value) (k : Nat) (x : Nat → Ms) (A : Nat → Option Addr) (C hb : Nat → Nat) : Prop where
  row : ∃ c, w.ownsRow base 80 8 v k (rowCells (k * 8) c) ∧ ∀ i, i < k → atMs c i (x i) (A i) (C i)
  hold : ∀ i, i < k → SlsAt w (A i) (hb i) (x i).n (x i).s
  hlt : ∀ i, i < k → (x i).n ≠ 0 → base ≤ hb i ∧ hb i < w.heap.size
  ne : ∀ i, i < k → (x i).n ≠ 0 → v.ownBlock ≠ some (hb i)
  inj : ∀ i j, i < k → j < k → (x i).n ≠ 0 → (x j).n ≠ 0 → hb i = hb j → i = j
theorem BdMs.fr {w : World} {base : Nat} {v : Value} {k : Nat} {x : Nat → Ms} {A : Nat → Option Addr} {C hb : Nat → Nat} {w' : World} {P : Nat → Prop} (h : BdMs w base v k x A C hb) (hf : FrP P w w') (hp : ∀ q, base ≤ q → q < w.heap.size → ¬ P q) : BdMs w' base v k x A C hb :=
  ⟨by obtain ⟨c, r, e⟩ := h.row; exact ⟨c, ownsRow_fr r hf (fun g hg => hp g (r.lt g hg).1 (r.lt g hg).2), e⟩, fun i hi => (h.hold i hi).frP hf (fun h0 => ⟨hp _ (h.hlt i hi h0).1 (h.hlt i hi h0).2, (h.hlt i hi h0).2⟩), fun i hi h0 => ⟨(h.hlt i hi h0).1, Nat.lt_of_lt_of_le (h.hlt i hi h0).2 hf.size⟩, h.ne, h.inj⟩
theorem BdMs.grow {w : World} {base : Nat} {v : Value} {k : Nat} {x : Nat → Ms} {A : Nat → Option Addr} {C hb : Nat → Nat} {w' : World} (h : BdMs w base v k x A C hb) (hf : Below w.heap.size w w') : BdMs w' base v k x A C hb := h.fr (FrP.of_below (P := fun _ => False) hf) (fun _ _ _ h => h)
theorem BdMs.app {w : World} {base : Nat} {v : Value} {k : Nat} {x : Nat → Ms} {A : Nat → Option Addr} {C hb : Nat → Nat} {w' : World} {v' : Value} {c : Nat → Value} {ad' : Option Addr} {cap' b' : Nat} (h : BdMs w base v k x A C hb) (hat : ∀ i, i < k → atMs c i (x i) (A i) (C i))
    (ho : w'.ownsRow base 80 8 v' (k + 1) (rowCells (k * 8) c ++ [.int .i64 (x k).kind, .int .i64 (x k).from_, .int .i64 (x k).to, .int .i64 (x k).bal, .int .i64 (x k).ix, .int .i64 (x k).kn, .string (x k).text, .slice ad' (x k).n cap'])) (hg : w.grownBy w' v.ownBlock) (hw : v'.ownBlock = v.ownBlock ∨ v'.ownBlock = some w.heap.size)
    (hs : SlsAt w ad' b' (x k).n (x k).s) (hl : (x k).n ≠ 0 → base ≤ b' ∧ b' < w.heap.size) (hv : (x k).n ≠ 0 → v.ownBlock ≠ some b') (hd : ∀ i, i < k → (x i).n ≠ 0 → (x k).n ≠ 0 → hb i ≠ b') :
    BdMs w' base v' (k + 1) x (updF A k ad') (updF C k cap') (updF hb k b') := by
  have F := FrP.of_grown hg
  refine ⟨⟨appF c (k * 8) [.int .i64 (x k).kind, .int .i64 (x k).from_, .int .i64 (x k).to, .int .i64 (x k).bal, .int .i64 (x k).ix, .int .i64 (x k).kn, .string (x k).text, .slice ad' (x k).n cap'], ?_, fun i hi => ?_⟩, fun i hi => ?_, fun i hi h0 => ?_, fun i hi h0 => ?_, fun i j hi hj h0 h1 e => ?_⟩
  · rw [rowCells_append] at ho
    have e : k * 8 + ([.int .i64 (x k).kind, .int .i64 (x k).from_, .int .i64 (x k).to, .int .i64 (x k).bal, .int .i64 (x k).ix, .int .i64 (x k).kn, .string (x k).text, .slice ad' (x k).n cap'] : List Value).length = (k + 1) * 8 := by show k * 8 + 8 = _; omega
    rw [e] at ho
    exact ho
  · by_cases e : i = k
    · subst e
      rw [updF_same, updF_same]
      exact ⟨appF_zero _ _ _, appF_at _ _ _ 1, appF_at _ _ _ 2, appF_at _ _ _ 3, appF_at _ _ _ 4, appF_at _ _ _ 5, appF_at _ _ _ 6, appF_at _ _ _ 7⟩
    · rw [updF_ne _ _ e, updF_ne _ _ e]
      obtain ⟨a0, a1, a2, a3, a4, a5, a6, a7⟩ := hat i (by omega)
      exact ⟨(if_pos (by omega)).trans a0, (if_pos (by omega)).trans a1, (if_pos (by omega)).trans a2, (if_pos (by omega)).trans a3, (if_pos (by omega)).trans a4, (if_pos (by omega)).trans a5, (if_pos (by omega)).trans a6, (if_pos (by omega)).trans a7⟩
  · by_cases e : i = k
    · subst e
      rw [updF_same, updF_same]
      exact hs.frP F (fun h0 => ⟨hv h0, (hl h0).2⟩)
    · rw [updF_ne _ _ e, updF_ne _ _ e]
      exact (h.hold i (by omega)).frP F (fun h0 => ⟨h.ne i (by omega) h0, (h.hlt i (by omega) h0).2⟩)
  · by_cases e : i = k
    · subst e
      rw [updF_same]
      exact ⟨(hl h0).1, Nat.lt_of_lt_of_le (hl h0).2 hg.size⟩
    · rw [updF_ne _ _ e]
      exact ⟨(h.hlt i (by omega) h0).1, Nat.lt_of_lt_of_le (h.hlt i (by omega) h0).2 hg.size⟩
  · by_cases e : i = k
    · subst e
      rw [updF_same]
      rcases hw with hw | hw
      · rw [hw]; exact hv h0
      · rw [hw]; intro q; cases q; exact Nat.lt_irrefl _ (hl h0).2
    · rw [updF_ne _ _ e]
      rcases hw with hw | hw
      · rw [hw]; exact h.ne i (by omega) h0
      · rw [hw]; intro q
        have h2 := (h.hlt i (by omega) h0).2
        injection q with q
        omega
  · by_cases e1 : i = k
    · by_cases e2 : j = k
      · rw [e1, e2]
      · subst e1
        rw [updF_same, updF_ne _ _ e2] at e
        exact absurd e.symm (hd j (by omega) h1 h0)
    · by_cases e2 : j = k
      · subst e2
        rw [updF_same, updF_ne _ _ e1] at e
        exact absurd e (hd i (by omega) h0 h1)
      · rw [updF_ne _ _ e1, updF_ne _ _ e2] at e
        exact h.inj i j (by omega) (by omega) h0 h1 e
theorem BdMs.done {w : World} {base : Nat} {v : Value} {k : Nat} {x : Nat → Ms} {A : Nat → Option Addr} {C hb : Nat → Nat} (h : BdMs w base v k x A C hb) : ∃ ad cap g, v = .slice ad k cap ∧ MssAt w ad g k x A C hb ∧ ∀ q, blkH g k (fun i => (x i).n) hb q → base ≤ q := by
  obtain ⟨c, r, hat⟩ := h.row
  rcases r.2 with ⟨rfl, rfl⟩ | ⟨g, cap, cur, rfl, h1, _⟩
  · exact ⟨none, 0, 0, rfl, ⟨fun h0 => absurd h0 (Nat.lt_irrefl _), fun h0 => absurd h0 (Nat.lt_irrefl _), fun i hi => absurd hi (Nat.not_lt_zero _), fun i hi => absurd hi (Nat.not_lt_zero _), ⟨fun i hi => absurd hi (Nat.not_lt_zero _), fun i j hi => absurd hi (Nat.not_lt_zero _)⟩⟩, fun q hq => by
      rcases hq with ⟨h0, _⟩ | ⟨i, hi, _⟩
      · exact absurd h0 (Nat.lt_irrefl _)
      · exact absurd hi (Nat.not_lt_zero _)⟩
  · refine ⟨_, cap, g, rfl, ⟨fun _ => rfl, fun _ => ⟨c, row_of_own r, hat⟩, h.hold, fun i hi h0 => (h.hlt i hi h0).2, ⟨fun i hi h0 e => h.ne i hi h0 (by rw [e]; rfl), h.inj⟩⟩, fun q hq => ?_⟩
    rcases hq with ⟨h0, rfl⟩ | ⟨i, hi, h0, rfl⟩
    · exact h1
    · exact (h.hlt i hi h0).1
/-- a list that is being built by appends -/
structure BdAk (w : World) (base : Nat) (v : Value) (k : Nat) (x : Nat → Ak) (A : Nat → Option Addr) (C hb : Nat → Nat) : Prop where
  row : ∃ c, w.ownsRow base 142 2 v k (rowCells (k * 2) c) ∧ ∀ i, i < k → atAk c i (x i) (A i) (C i)
  hold : ∀ i, i < k → IntsOwn w (hb i) ((hb i) + 1) (A i) (x i).n (x i).s
  hlt : ∀ i, i < k → (x i).n ≠ 0 → base ≤ hb i ∧ hb i < w.heap.size
  ne : ∀ i, i < k → (x i).n ≠ 0 → v.ownBlock ≠ some (hb i)
  inj : ∀ i j, i < k → j < k → (x i).n ≠ 0 → (x j).n ≠ 0 → hb i = hb j → i = j
theorem BdAk.fr {w : World} {base : Nat} {v : Value} {k : Nat} {x : Nat → Ak} {A : Nat → Option Addr} {C hb : Nat → Nat} {w' : World} {P : Nat → Prop} (h : BdAk w base v k x A C hb) (hf : FrP P w w') (hp : ∀ q, base ≤ q → q < w.heap.size → ¬ P q) : BdAk w' base v k x A C hb :=
  ⟨by obtain ⟨c, r, e⟩ := h.row; exact ⟨c, ownsRow_fr r hf (fun g hg => hp g (r.lt g hg).1 (r.lt g hg).2), e⟩, fun i hi => (h.hold i hi).frP hf (fun h0 => ⟨hp _ (h.hlt i hi h0).1 (h.hlt i hi h0).2, (h.hlt i hi h0).2⟩), fun i hi h0 => ⟨(h.hlt i hi h0).1, Nat.lt_of_lt_of_le (h.hlt i hi h0).2 hf.size⟩, h.ne, h.inj⟩
theorem BdAk.grow {w : World} {base : Nat} {v : Value} {k : Nat} {x : Nat → Ak} {A : Nat → Option Addr} {C hb : Nat → Nat} {w' : World} (h : BdAk w base v k x A C hb) (hf : Below w.heap.size w w') : BdAk w' base v k x A C hb := h.fr (FrP.of_below (P := fun _ => False) hf) (fun _ _ _ h => h)
theorem BdAk.app {w : World} {base : Nat} {v : Value} {k : Nat} {x : Nat → Ak} {A : Nat → Option Addr} {C hb : Nat → Nat} {w' : World} {v' : Value} {c : Nat → Value} {ad' : Option Addr} {cap' b' : Nat} (h : BdAk w base v k x A C hb) (hat : ∀ i, i < k → atAk c i (x i) (A i) (C i))
    (ho : w'.ownsRow base 142 2 v' (k + 1) (rowCells (k * 2) c ++ [.int .i64 (x k).ix, .slice ad' (x k).n cap'])) (hg : w.grownBy w' v.ownBlock) (hw : v'.ownBlock = v.ownBlock ∨ v'.ownBlock = some w.heap.size)
    (hs : IntsOwn w b' (b' + 1) ad' (x k).n (x k).s) (hl : (x k).n ≠ 0 → base ≤ b' ∧ b' < w.heap.size) (hv : (x k).n ≠ 0 → v.ownBlock ≠ some b') (hd : ∀ i, i < k → (x i).n ≠ 0 → (x k).n ≠ 0 → hb i ≠ b') :
    BdAk w' base v' (k + 1) x (updF A k ad') (updF C k cap') (updF hb k b') := by
  have F := FrP.of_grown hg
  refine ⟨⟨appF c (k * 2) [.int .i64 (x k).ix, .slice ad' (x k).n cap'], ?_, fun i hi => ?_⟩, fun i hi => ?_, fun i hi h0 => ?_, fun i hi h0 => ?_, fun i j hi hj h0 h1 e => ?_⟩
  · rw [rowCells_append] at ho
    have e : k * 2 + ([.int .i64 (x k).ix, .slice ad' (x k).n cap'] : List Value).length = (k + 1) * 2 := by show k * 2 + 2 = _; omega
    rw [e] at ho
    exact ho
  · by_cases e : i = k
    · subst e
      rw [updF_same, updF_same]
      exact ⟨appF_zero _ _ _, appF_at _ _ _ 1⟩
    · rw [updF_ne _ _ e, updF_ne _ _ e]
      obtain ⟨a0, a1⟩ := hat i (by omega)
      exact ⟨(if_pos (by omega)).trans a0, (if_pos (by omega)).trans a1⟩
  · by_cases e : i = k
    · subst e
      rw [updF_same, updF_same]
      exact hs.frP F (fun h0 => ⟨hv h0, (hl h0).2⟩)
    · rw [updF_ne _ _ e, updF_ne _ _ e]
      exact (h.hold i (by omega)).frP F (fun h0 => ⟨h.ne i (by omega) h0, (h.hlt i (by omega) h0).2⟩)
  · by_cases e : i = k
    · subst e
      rw [updF_same]
      exact ⟨(hl h0).1, Nat.lt_of_lt_of_le (hl h0).2 hg.size⟩
    · rw [updF_ne _ _ e]
      exact ⟨(h.hlt i (by omega) h0).1, Nat.lt_of_lt_of_le (h.hlt i (by omega) h0).2 hg.size⟩
  · by_cases e : i = k
    · subst e
      rw [updF_same]
      rcases hw with hw | hw
      · rw [hw]; exact hv h0
      · rw [hw]; intro q; cases q; exact Nat.lt_irrefl _ (hl h0).2
    · rw [updF_ne _ _ e]
      rcases hw with hw | hw
      · rw [hw]; exact h.ne i (by omega) h0
      · rw [hw]; intro q
        have h2 := (h.hlt i (by omega) h0).2
        injection q with q
        omega
  · by_cases e1 : i = k
    · by_cases e2 : j = k
      · rw [e1, e2]
      · subst e1
        rw [updF_same, updF_ne _ _ e2] at e
        exact absurd e.symm (hd j (by omega) h1 h0)
    · by_cases e2 : j = k
      · subst e2
        rw [updF_same, updF_ne _ _ e1] at e
        exact absurd e (hd i (by omega) h0 h1)
      · rw [updF_ne _ _ e1, updF_ne _ _ e2] at e
        exact h.inj i j (by omega) (by omega) h0 h1 e
theorem BdAk.done {w : World} {base : Nat} {v : Value} {k : Nat} {x : Nat → Ak} {A : Nat → Option Addr} {C hb : Nat → Nat} (h : BdAk w base v k x A C hb) : ∃ ad cap g, v = .slice ad k cap ∧ AksAt w ad g k x A C hb ∧ ∀ q, blkH g k (fun i => (x i).n) hb q → base ≤ q := by
  obtain ⟨c, r, hat⟩ := h.row
  rcases r.2 with ⟨rfl, rfl⟩ | ⟨g, cap, cur, rfl, h1, _⟩
  · exact ⟨none, 0, 0, rfl, ⟨fun h0 => absurd h0 (Nat.lt_irrefl _), fun h0 => absurd h0 (Nat.lt_irrefl _), fun i hi => absurd hi (Nat.not_lt_zero _), fun i hi => absurd hi (Nat.not_lt_zero _), ⟨fun i hi => absurd hi (Nat.not_lt_zero _), fun i j hi => absurd hi (Nat.not_lt_zero _)⟩⟩, fun q hq => by
      rcases hq with ⟨h0, _⟩ | ⟨i, hi, _⟩
      · exact absurd h0 (Nat.lt_irrefl _)
      · exact absurd hi (Nat.not_lt_zero _)⟩
  · refine ⟨_, cap, g, rfl, ⟨fun _ => rfl, fun _ => ⟨c, row_of_own r, hat⟩, h.hold, fun i hi h0 => (h.hlt i hi h0).2, ⟨fun i hi h0 e => h.ne i hi h0 (by rw [e]; rfl), h.inj⟩⟩, fun q hq => ?_⟩
    rcases hq with ⟨h0, rfl⟩ | ⟨i, hi, h0, rfl⟩
    · exact h1
    · exact (h.hlt i hi h0).1
end Go.Proofs.Ytjepponnhieocaa
namespace Go.Proofs.Ytjepponnhieocaa
open Go.RowKit
theorem MssAt.blt {w : World} {ad : Option Addr} {g n : Nat} {x : Nat → Ms} {A : Nat → Option Addr} {C hb : Nat → Nat} (h : MssAt w ad g n x A C hb) {k : Nat} (hk : blkH g n (fun i => (x i).n) hb k) : k < w.heap.size := by
  rcases hk with ⟨h0, rfl⟩ | ⟨i, hi, h0, rfl⟩
  · obtain ⟨c, r, _⟩ := h.row h0; exact r.lt
  · exact h.hlt i hi h0
theorem AksAt.blt {w : World} {ad : Option Addr} {g n : Nat} {x : Nat → Ak} {A : Nat → Option Addr} {C hb : Nat → Nat} (h : AksAt w ad g n x A C hb) {k : Nat} (hk : blkH g n (fun i => (x i).n) hb k) : k < w.heap.size := by
  rcases hk with ⟨h0, rfl⟩ | ⟨i, hi, h0, rfl⟩
  · obtain ⟨c, r, _⟩ := h.row h0; exact r.lt
  · exact h.hlt i hi h0
end Go.Proofs.Ytjepponnhieocaa
