import Derived.Test.YtcmimbohmninkaaGreatDoorRows
import Derived.WalkKit
import Derived.WalkSpells
import Derived.WalkLawsBesides
import Derived.Laws.IdiomStrings
import Derived.Deep.RegionWith
namespace Go.Proofs.YtcmimbohmninkaaGreatDoor
open Go.RowKit
theorem hid {p : Prop} (h : p) : Hid p := h
/-- the n strings at ad, in blocks lo .. hi -/
def StrsIn (w : World) (lo hi : Nat) (ad : Option Addr) (n : Nat) (s : Nat → ByteArray) : Prop :=
  ∀ i, i < n → ∃ b off, ad = some ⟨b, off, none⟩ ∧ lo ≤ b ∧ b < hi ∧ w.cell? ⟨b, off + i, none⟩ = some (.string (s i))
def StrsOwn (w : World) (lo hi : Nat) (ad : Option Addr) (n : Nat) (s : Nat → ByteArray) : Prop :=
  ∀ i, i < n → ∃ b off, ad = some ⟨b, off, none⟩ ∧ lo ≤ b ∧ b < hi ∧ w.cell? ⟨b, off + i, none⟩ = some (.string (s i)) ∧ w.frozen? ⟨b, off + i, none⟩ = false
theorem Tryz.info9 : (Tryz.prog.info? 9).map (fun i => (i.zero, i.size, i.bytes)) = some (some (.string ByteArray.empty), 1, 16) := by kernel_rfl

theorem toStrs_rel {w' : World} {g n : Nat} {base : Nat} {xs : List Value}
    (ho : w'.ownsRow base 9 1 (.slice (some ⟨g, 0, none⟩) n n) n xs) :
    (∀ j, j < n → ∃ u, w'.cell? ⟨g, j, none⟩ = some u) ∧ (∀ j, w'.frozen? ⟨g, j, none⟩ = false) ∧ g < w'.heap.size := by
  refine ⟨fun j hj => ?_, fun j => ho.frozenAt j, ?_⟩
  · rw [ho.cellAt j (by omega)]
    have : j < xs.length := by rw [ho.1]; omega
    exact ⟨xs[j], by simp [this]⟩
  · rcases ho.2 with ⟨h, _⟩ | ⟨g', cap, cur, h, _, hh, _⟩
    · simp at h
    · simp only [Value.slice.injEq, Option.some.injEq, Addr.mk.injEq, and_true, true_and] at h
      obtain ⟨rfl, rfl⟩ := h
      exact (Array.getElem?_eq_some_iff.1 hh).1

theorem toStrs_step {w wr : World} {n k : Nat} {s : Nat → ByteArray} (hb : Below w.heap.size w wr) (hsz : w.heap.size < wr.heap.size) (hce : ∀ j, j < n → ∃ u, wr.cell? ⟨w.heap.size, j, none⟩ = some u)
    (hfr : ∀ j, wr.frozen? ⟨w.heap.size, j, none⟩ = false) (hd : ∀ j, j < k → wr.cell? ⟨w.heap.size, j, none⟩ = some (.string (s j))) (hk : k < n) :
    let w2 := wr.setCell ⟨w.heap.size, k, none⟩ (.string (s k))
    Below w.heap.size w w2 ∧ w.heap.size < w2.heap.size ∧ (∀ j, j < n → ∃ u, w2.cell? ⟨w.heap.size, j, none⟩ = some u) ∧ (∀ j, w2.frozen? ⟨w.heap.size, j, none⟩ = false) ∧ ∀ j, j < k + 1 → w2.cell? ⟨w.heap.size, j, none⟩ = some (.string (s j)) := by
  refine ⟨hb.setCell (Nat.le_refl _) _, by simpa [World.setCell] using hsz, fun j hj => ?_, fun j => by rw [World.frozen?_setCell]; exact hfr j, fun j hj => ?_⟩
  · obtain ⟨u, hu⟩ := hce j hj
    exact cell?_setCell_some hu
  · obtain ⟨u, hu⟩ := hce k hk
    by_cases e : j = k
    · subst e; exact World.cell?_setCell_same _ _ _ hu
    · rw [World.cell?_setCell_other _ _ _ _ (fun h => e (by cases h; rfl))]
      exact hd j (by omega)
def sumTo (f : Nat → Nat) : Nat → Nat | 0 => 0 | k + 1 => sumTo f k + f k
theorem sumTo_mono (f : Nat → Nat) {k n : Nat} (h : k ≤ n) : sumTo f k ≤ sumTo f n := by
  induction n with
  | zero => have : k = 0 := by omega
            subst this; exact Nat.le_refl _
  | succ m ih => rcases Nat.lt_or_ge m k with h1 | h1
                 · have : k = m + 1 := by omega
                   subst this; exact Nat.le_refl _
                 · exact Nat.le_trans (ih h1) (by simp [sumTo])
def szStrs (n : Nat) (s : Nat → ByteArray) : Nat := n + sumTo (fun i => (s i).size) n
def szOut (left : Int) (s : Nat) : Int := if (s : Int) ≤ left then left - s else -1
theorem szOut_no {left : Int} {s : Nat} (h : left < s) : szOut left s = -1 := if_neg (by omega)
theorem szOut_yes {left : Int} {s : Nat} (h : (s : Int) ≤ left) : szOut left s = left - s := if_pos h
theorem ret_int {k : IntKind} {a b : Int} (h : a = b) : Ending.returned (.int k a) = .returned (.int k b) := by rw [h]
end Go.Proofs.YtcmimbohmninkaaGreatDoor
namespace Go.Proofs.YtcmimbohmninkaaGreatDoor
open Go.RowKit
/-- w' is w but for what lies in blocks lo .. hi, and for new blocks -/
structure Fr (lo hi : Nat) (w w' : World) : Prop where
  os : w'.os = w.os
  tape : w'.tape = w.tape
  output : w'.output = w.output
  size : w.heap.size ≤ w'.heap.size
  block : ∀ k, k < w.heap.size → (k < lo ∨ hi ≤ k) → w'.heap[k]? = w.heap[k]?
theorem Fr.refl (lo hi : Nat) (w : World) : Fr lo hi w w := ⟨rfl, rfl, rfl, Nat.le_refl _, fun _ _ _ => rfl⟩
theorem Fr.trans {lo hi : Nat} {a b c : World} (h : Fr lo hi a b) (k : Fr lo hi b c) : Fr lo hi a c :=
  ⟨k.os.trans h.os, k.tape.trans h.tape, k.output.trans h.output, Nat.le_trans h.size k.size, fun i hi ho => (k.block i (Nat.lt_of_lt_of_le hi h.size) ho).trans (h.block i hi ho)⟩
theorem Fr.of_below {lo hi : Nat} {w w' : World} (h : Below w.heap.size w w') : Fr lo hi w w' := ⟨h.os, h.tape, h.output, h.size, fun i hi _ => h.block i hi⟩
theorem Fr.setCell {lo hi : Nat} {a w : World} (h : Fr lo hi a w) {p : Addr} (h1 : lo ≤ p.block) (h2 : p.block < hi) (u : Value) : Fr lo hi a (w.setCell p u) :=
  h.trans ⟨rfl, rfl, rfl, by simp [World.setCell], fun k _ ho => Below.heap_setCell _ _ _ _ (by omega)⟩
theorem Fr.cell {lo hi : Nat} {w w' : World} (h : Fr lo hi w w') {p : Addr} (hp : p.block < w.heap.size) (ho : p.block < lo ∨ hi ≤ p.block) : w'.cell? p = w.cell? p := World.cell?_of_block (w := w) (h.block p.block hp ho)
theorem Fr.frozen {lo hi : Nat} {w w' : World} (h : Fr lo hi w w') {p : Addr} (hp : p.block < w.heap.size) (ho : p.block < lo ∨ hi ≤ p.block) : w'.frozen? p = w.frozen? p := World.frozen?_of_block (w := w) (h.block p.block hp ho)
theorem Fr.below {lo hi : Nat} {w w' : World} (h : Fr lo hi w w') {B : Nat} (hB : B ≤ lo) (hs : B ≤ w.heap.size) : Below B w w' := ⟨h.os, h.tape, h.output, h.size, fun k hk => h.block k (by omega) (Or.inl (by omega))⟩
def mtGo : Nat → Nat → List UInt8 → List UInt8
  | 0, _, acc => acc
  | f + 1, k, acc => if k = 0 then acc else mtGo f (k / 10) ((48 + UInt8.ofNat (k % 10)) :: acc)
theorem mtGo_zero (f : Nat) (acc : List UInt8) : mtGo f 0 acc = acc := by cases f <;> simp [mtGo]
theorem mtGo_succ (f k : Nat) (acc : List UInt8) (h : k ≤ f) (hk : 0 < k) : mtGo f k acc = mtGo (f - 1) (k / 10) ((48 + UInt8.ofNat (k % 10)) :: acc) := by
  obtain ⟨f, rfl⟩ : ∃ g, f = g + 1 := ⟨f - 1, by omega⟩
  conv => lhs; unfold mtGo
  rw [if_neg (by omega)]; rfl
def mt (k : Nat) : ByteArray := ⟨(109 :: mtGo k k []).toArray⟩
theorem mt_conv (w : World) (x : Int) (hx0 : 0 ≤ x) (hx1 : x < 256) : (convert 48 9 (Value.slice (some ⟨w.heap.size, 0, none⟩) 1 1)).run Tryz.prog (w.alloc (.cells #[.int .u8 x] 5)) = .ok (.string ⟨#[UInt8.ofNat x.toNat]⟩) (w.alloc (.cells #[.int .u8 x] 5)) := by
  have := run_convert_bytes_back (P := Tryz.prog) (w.alloc (.cells #[.int .u8 x] 5)) 48 9 5 ⟨w.heap.size, 0, none⟩ 1 [UInt8.ofNat x.toNat] Tryz.underlying48 Tryz.underlying5 Tryz.underlying9 (by
    intro i hi
    have : i = 0 := by simpa using hi
    subst this
    have e : ((⟨w.heap.size, 0, none⟩ : Addr).add 0) = ⟨w.heap.size, 0, none⟩ := by simp [Addr.add]
    rw [e, World.cell?_alloc_new]
    simp
    omega)
  simpa using this
theorem markStep {wr w1 : World} {lo hi b off n k k0 : Nat} {s : Nat → ByteArray} (hown : StrsOwn wr lo hi (some ⟨b, off, none⟩) n (fun i => if i < k then mt (k0 + i) else s i)) (hb1 : Below wr.heap.size wr w1) (hhi : hi ≤ wr.heap.size) (hkn : k < n) {u : Value} (hu : w1.cell? ⟨b, off + k, none⟩ = some u) :
    StrsOwn (w1.setCell ⟨b, off + k, none⟩ (.string (mt (k0 + k)))) lo hi (some ⟨b, off, none⟩) n (fun i => if i < k + 1 then mt (k0 + i) else s i) := by
  intro i hi'
  obtain ⟨b', off', e, e1, e2, e3, e4⟩ := hown i hi'
  cases e
  refine ⟨b, off, rfl, e1, e2, ?_, by rw [World.frozen?_setCell, hb1.frozen (p := ⟨b, off + i, none⟩) (Nat.lt_of_lt_of_le e2 hhi)]; exact e4⟩
  by_cases e : i = k
  · subst e
    rw [World.cell?_setCell_same _ _ _ hu]; dsimp only; rw [if_pos (by omega)]
  · rw [World.cell?_setCell_other _ _ _ _ (fun h => e (by injection h; omega)), hb1.cell (p := ⟨b, off + i, none⟩) (Nat.lt_of_lt_of_le e2 hhi), e3]
    dsimp only
    by_cases h : i < k
    · rw [if_pos h, if_pos (by omega)]
    · rw [if_neg h, if_neg (by omega)]
end Go.Proofs.YtcmimbohmninkaaGreatDoor
