import Derived.Test.YtkfbclopkgnacaaGreatDoorRows
import Derived.WalkKit
import Derived.WalkSpells
import Derived.WalkLawsBesides
import Derived.Laws.IdiomStrings
import Derived.Deep.RegionWith
import Derived.Deep.QuietTactic
import Derived.BigQuiet
import Derived.Deep.Light
namespace Go.Proofs.YtkfbclopkgnacaaGreatDoor
open Go.RowKit
theorem hid {p : Prop} (h : p) : Hid p := h
/-- the n strings at ad, in blocks lo .. hi -/
def StrsIn (w : World) (lo hi : Nat) (ad : Option Addr) (n : Nat) (s : Nat → ByteArray) : Prop :=
  ∀ i, i < n → ∃ b off, ad = some ⟨b, off, none⟩ ∧ lo ≤ b ∧ b < hi ∧ w.cell? ⟨b, off + i, none⟩ = some (.string (s i))
def StrsOwn (w : World) (lo hi : Nat) (ad : Option Addr) (n : Nat) (s : Nat → ByteArray) : Prop :=
  ∀ i, i < n → ∃ b off, ad = some ⟨b, off, none⟩ ∧ lo ≤ b ∧ b < hi ∧ w.cell? ⟨b, off + i, none⟩ = some (.string (s i)) ∧ w.frozen? ⟨b, off + i, none⟩ = false
theorem Tryz.info9 : (Tryz.prog.info? 9).map (fun i => (i.zero, i.size, i.bytes)) = some (some (.string ByteArray.empty), 1, 16) := by kernel_rfl

theorem toStrs_rel {w' : World} {g n : Nat} {base : Nat} {xs : List Value}
    (ho : w'.ownsRow base 9 1 (.slice (some ⟨g, 0, none⟩) n n) n xs) :
    (∀ j, j < n → ∃ u, w'.cell? ⟨g, j, none⟩ = some u) ∧ (∀ j, w'.frozen? ⟨g, j, none⟩ = false) ∧ g < w'.heap.size := by
  refine ⟨fun j hj => ?_, fun j => ho.frozenAt j, ?_⟩
  · rw [ho.cellAt j (by omega)]
    have : j < xs.length := by rw [ho.1]; omega
    exact ⟨xs[j], by simp [this]⟩
  · rcases ho.2 with ⟨h, _⟩ | ⟨g', cap, cur, h, _, hh, _⟩
    · simp at h
    · simp only [Value.slice.injEq, Option.some.injEq, Addr.mk.injEq, and_true, true_and] at h
      obtain ⟨rfl, rfl⟩ := h
      exact (Array.getElem?_eq_some_iff.1 hh).1

theorem toStrs_step {w wr : World} {n k : Nat} {s : Nat → ByteArray} (hb : Below w.heap.size w wr) (hsz : w.heap.size < wr.heap.size) (hce : ∀ j, j < n → ∃ u, wr.cell? ⟨w.heap.size, j, none⟩ = some u)
    (hfr : ∀ j, wr.frozen? ⟨w.heap.size, j, none⟩ = false) (hd : ∀ j, j < k → wr.cell? ⟨w.heap.size, j, none⟩ = some (.string (s j))) (hk : k < n) :
    let w2 := wr.setCell ⟨w.heap.size, k, none⟩ (.string (s k))
    Below w.heap.size w w2 ∧ w.heap.size < w2.heap.size ∧ (∀ j, j < n → ∃ u, w2.cell? ⟨w.heap.size, j, none⟩ = some u) ∧ (∀ j, w2.frozen? ⟨w.heap.size, j, none⟩ = false) ∧ ∀ j, j < k + 1 → w2.cell? ⟨w.heap.size, j, none⟩ = some (.string (s j)) := by
  refine ⟨hb.setCell (Nat.le_refl _) _, by simpa [World.setCell] using hsz, fun j hj => ?_, fun j => by rw [World.frozen?_setCell]; exact hfr j, fun j hj => ?_⟩
  · obtain ⟨u, hu⟩ := hce j hj
    exact cell?_setCell_some hu
  · obtain ⟨u, hu⟩ := hce k hk
    by_cases e : j = k
    · subst e; exact World.cell?_setCell_same _ _ _ hu
    · rw [World.cell?_setCell_other _ _ _ _ (fun h => e (by cases h; rfl))]
      exact hd j (by omega)
def sumTo (f : Nat → Nat) : Nat → Nat | 0 => 0 | k + 1 => sumTo f k + f k
theorem sumTo_mono (f : Nat → Nat) {k n : Nat} (h : k ≤ n) : sumTo f k ≤ sumTo f n := by
  induction n with
  | zero => have : k = 0 := by omega
            subst this; exact Nat.le_refl _
  | succ m ih => rcases Nat.lt_or_ge m k with h1 | h1
                 · have : k = m + 1 := by omega
                   subst this; exact Nat.le_refl _
                 · exact Nat.le_trans (ih h1) (by simp [sumTo])
def szStrs (n : Nat) (s : Nat → ByteArray) : Nat := n + sumTo (fun i => (s i).size) n
def szOut (left : Int) (s : Nat) : Int := if (s : Int) ≤ left then left - s else -1
theorem szOut_no {left : Int} {s : Nat} (h : left < s) : szOut left s = -1 := if_neg (by omega)
theorem szOut_yes {left : Int} {s : Nat} (h : (s : Int) ≤ left) : szOut left s = left - s := if_pos h
theorem ret_int {k : IntKind} {a b : Int} (h : a = b) : Ending.returned (.int k a) = .returned (.int k b) := by rw [h]
end Go.Proofs.YtkfbclopkgnacaaGreatDoor
namespace Go.Proofs.YtkfbclopkgnacaaGreatDoor
open Go.RowKit
/-- w' is w but for what lies in blocks lo .. hi, and for new blocks -/
structure Fr (lo hi : Nat) (w w' : World) : Prop where
  os : w'.os = w.os
  tape : w'.tape = w.tape
  output : w'.output = w.output
  size : w.heap.size ≤ w'.heap.size
  block : ∀ k, k < w.heap.size → (k < lo ∨ hi ≤ k) → w'.heap[k]? = w.heap[k]?
theorem Fr.refl (lo hi : Nat) (w : World) : Fr lo hi w w := ⟨rfl, rfl, rfl, Nat.le_refl _, fun _ _ _ => rfl⟩
theorem Fr.trans {lo hi : Nat} {a b c : World} (h : Fr lo hi a b) (k : Fr lo hi b c) : Fr lo hi a c :=
  ⟨k.os.trans h.os, k.tape.trans h.tape, k.output.trans h.output, Nat.le_trans h.size k.size, fun i hi ho => (k.block i (Nat.lt_of_lt_of_le hi h.size) ho).trans (h.block i hi ho)⟩
theorem Fr.of_below {lo hi : Nat} {w w' : World} (h : Below w.heap.size w w') : Fr lo hi w w' := ⟨h.os, h.tape, h.output, h.size, fun i hi _ => h.block i hi⟩
theorem Fr.setCell {lo hi : Nat} {a w : World} (h : Fr lo hi a w) {p : Addr} (h1 : lo ≤ p.block) (h2 : p.block < hi) (u : Value) : Fr lo hi a (w.setCell p u) :=
  h.trans ⟨rfl, rfl, rfl, by simp [World.setCell], fun k _ ho => Below.heap_setCell _ _ _ _ (by omega)⟩
theorem Fr.cell {lo hi : Nat} {w w' : World} (h : Fr lo hi w w') {p : Addr} (hp : p.block < w.heap.size) (ho : p.block < lo ∨ hi ≤ p.block) : w'.cell? p = w.cell? p := World.cell?_of_block (w := w) (h.block p.block hp ho)
theorem Fr.frozen {lo hi : Nat} {w w' : World} (h : Fr lo hi w w') {p : Addr} (hp : p.block < w.heap.size) (ho : p.block < lo ∨ hi ≤ p.block) : w'.frozen? p = w.frozen? p := World.frozen?_of_block (w := w) (h.block p.block hp ho)
theorem Fr.below {lo hi : Nat} {w w' : World} (h : Fr lo hi w w') {B : Nat} (hB : B ≤ lo) (hs : B ≤ w.heap.size) : Below B w w' := ⟨h.os, h.tape, h.output, h.size, fun k hk => h.block k (by omega) (Or.inl (by omega))⟩
def mtGo : Nat → Nat → List UInt8 → List UInt8
  | 0, _, acc => acc
  | f + 1, k, acc => if k = 0 then acc else mtGo f (k / 10) ((48 + UInt8.ofNat (k % 10)) :: acc)
theorem mtGo_zero (f : Nat) (acc : List UInt8) : mtGo f 0 acc = acc := by cases f <;> simp [mtGo]
theorem mtGo_succ (f k : Nat) (acc : List UInt8) (h : k ≤ f) (hk : 0 < k) : mtGo f k acc = mtGo (f - 1) (k / 10) ((48 + UInt8.ofNat (k % 10)) :: acc) := by
  obtain ⟨f, rfl⟩ : ∃ g, f = g + 1 := ⟨f - 1, by omega⟩
  conv => lhs; unfold mtGo
  rw [if_neg (by omega)]; rfl
def mt (k : Nat) : ByteArray := ⟨(109 :: mtGo k k []).toArray⟩
theorem mt_conv (w : World) (x : Int) (hx0 : 0 ≤ x) (hx1 : x < 256) : (convert 54 9 (Value.slice (some ⟨w.heap.size, 0, none⟩) 1 1)).run Tryz.prog (w.alloc (.cells #[.int .u8 x] 5)) = .ok (.string ⟨#[UInt8.ofNat x.toNat]⟩) (w.alloc (.cells #[.int .u8 x] 5)) := by
  have := run_convert_bytes_back (P := Tryz.prog) (w.alloc (.cells #[.int .u8 x] 5)) 54 9 5 ⟨w.heap.size, 0, none⟩ 1 [UInt8.ofNat x.toNat] Tryz.underlying54 Tryz.underlying5 Tryz.underlying9 (by
    intro i hi
    have : i = 0 := by simpa using hi
    subst this
    have e : ((⟨w.heap.size, 0, none⟩ : Addr).add 0) = ⟨w.heap.size, 0, none⟩ := by simp [Addr.add]
    rw [e, World.cell?_alloc_new]
    simp
    omega)
  simpa using this
theorem markStep {wr w1 : World} {lo hi b off n k k0 : Nat} {s : Nat → ByteArray} (hown : StrsOwn wr lo hi (some ⟨b, off, none⟩) n (fun i => if i < k then mt (k0 + i) else s i)) (hb1 : Below wr.heap.size wr w1) (hhi : hi ≤ wr.heap.size) (hkn : k < n) {u : Value} (hu : w1.cell? ⟨b, off + k, none⟩ = some u) :
    StrsOwn (w1.setCell ⟨b, off + k, none⟩ (.string (mt (k0 + k)))) lo hi (some ⟨b, off, none⟩) n (fun i => if i < k + 1 then mt (k0 + i) else s i) := by
  intro i hi'
  obtain ⟨b', off', e, e1, e2, e3, e4⟩ := hown i hi'
  cases e
  refine ⟨b, off, rfl, e1, e2, ?_, by rw [World.frozen?_setCell, hb1.frozen (p := ⟨b, off + i, none⟩) (Nat.lt_of_lt_of_le e2 hhi)]; exact e4⟩
  by_cases e : i = k
  · subst e
    rw [World.cell?_setCell_same _ _ _ hu]; dsimp only; rw [if_pos (by omega)]
  · rw [World.cell?_setCell_other _ _ _ _ (fun h => e (by injection h; omega)), hb1.cell (p := ⟨b, off + i, none⟩) (Nat.lt_of_lt_of_le e2 hhi), e3]
    dsimp only
    by_cases h : i < k
    · rw [if_pos h, if_pos (by omega)]
    · rw [if_neg h, if_neg (by omega)]
end Go.Proofs.YtkfbclopkgnacaaGreatDoor
namespace Go.Proofs.YtkfbclopkgnacaaGreatDoor
open Go.RowKit
theorem StrsIn.below {w w' : World} {B lo hi : Nat} {ad : Option Addr} {n : Nat} {s : Nat → ByteArray} (h : StrsIn w lo hi ad n s) (hb : Below B w w') (hB : hi ≤ B) : StrsIn w' lo hi ad n s := fun i hi' => by
  obtain ⟨b, off, e1, e2, e3, e4⟩ := h i hi'
  exact ⟨b, off, e1, e2, e3, (hb.cell (p := ⟨b, off + i, none⟩) (Nat.lt_of_lt_of_le e3 hB)).trans e4⟩
theorem StrsIn.alloc {w : World} {lo hi : Nat} {ad : Option Addr} {n : Nat} {s : Nat → ByteArray} (h : StrsIn w lo hi ad n s) (hB : hi ≤ w.heap.size) (o : Obj) : StrsIn (w.alloc o) lo hi ad n s :=
  h.below ((Below.refl w.heap.size w).alloc (Nat.le_refl _) o) hB
theorem szOut_lt {l : Int} {s : Nat} (h : szOut l s < 0) : l < s := by
  unfold szOut at h; split at h <;> omega
theorem szOut_ge {l : Int} {s : Nat} (h : 0 ≤ szOut l s) : (s : Int) ≤ l ∧ szOut l s = l - s := by
  unfold szOut at *; split at h
  · rw [if_pos (by assumption)]; exact ⟨by assumption, rfl⟩
  · omega
set_option maxRecDepth 100000 in
set_option maxHeartbeats 400000 in
theorem eqStrs_any (n : Nat) (s : Nat → ByteArray) (ad ad2 : Option Addr) (cap cap2 : Nat) (w : World) (lo hi lo2 hi2 : Nat) (hl : (n : Int) ≤ 140737488355328)
    (hc : StrsIn w lo hi ad n s) (hc2 : StrsIn w lo2 hi2 ad2 n s) :
    Calls Tryz.prog 74 #[.slice ad n cap, .slice ad2 n cap2] w fun e w' => e = .returned (.bool true) ∧ ∃ q, w' = w.drewN q := by
  go_enter Tryz.func74, Tryz.ntmps74
  go_wp2
  go_loopw [5] (fun i wr => ∃ k : Nat, k ≤ n ∧ i = .int .i64 k ∧ ∃ q, wr = w.drewN q) (fun i _ => n - (intOf i).toNat)
  case atStart => exact ⟨0, Nat.zero_le _, rfl, 0, rfl⟩
  case round =>
    obtain ⟨k, hk, rfl, q, rfl⟩ := hrel
    by_cases hkn : k < n
    · obtain ⟨b, off, rfl, hlo, hbh, hcx⟩ := hc k hkn
      obtain ⟨b2, off2, rfl, hlo2, hbh2, hcx2⟩ := hc2 k hkn
      clear hc hc2
      go_wp2
      go_quiet (fail)
      go_wp2
      go_roundw
      case rel => exact ⟨k + 1, by omega, by go_num, _, rfl⟩
      case measure => simp [intOf]; omega
    · have : k = n := by omega
      subst this
      clear hc hc2
      go_wp2
      go_ret
      exact ⟨rfl, q, rfl⟩
structure Ob where
  kind : ByteArray
  name : ByteArray
  ver : Int
  born : Int
  text : ByteArray
  ending : Bool
  hn : Nat
  hs : Nat → ByteArray
def szOb (o : Ob) : Nat := o.kind.size + o.name.size + o.text.size + szStrs o.hn o.hs
end Go.Proofs.YtkfbclopkgnacaaGreatDoor
namespace Go.Proofs.YtkfbclopkgnacaaGreatDoor
open Go.RowKit
def inB (n lo hi : Int) : Bool := decide (lo ≤ n) && decide (n ≤ hi)
theorem inB_yes {n lo hi : Int} (h : lo ≤ n ∧ n ≤ hi) : inB n lo hi = true := by simp [inB, h.1, h.2]
theorem inB_no {n lo hi : Int} (h : n < lo ∨ hi < n) : inB n lo hi = false := by
  rcases h with h | h <;> simp [inB] <;> omega
theorem inB_of {n lo hi : Int} (h : inB n lo hi = true) : lo ≤ n ∧ n ≤ hi := by simpa [inB] using h
theorem ret_bool {a b : Bool} (h : a = b) : Ending.returned (.bool a) = .returned (.bool b) := by rw [h]
def allTo (p : Nat → Bool) : Nat → Bool | 0 => true | k + 1 => allTo p k && p k
theorem allTo_iff {p : Nat → Bool} : ∀ {n : Nat}, allTo p n = true ↔ ∀ i, i < n → p i = true
  | 0 => ⟨fun _ i h => absurd h (Nat.not_lt_zero _), fun _ => rfl⟩
  | n + 1 => by
    simp only [allTo, Bool.and_eq_true, allTo_iff (n := n)]
    exact ⟨fun h i hi => by rcases Nat.lt_or_ge i n with h1 | h1
                            · exact h.1 i h1
                            · have : i = n := by omega
                              subst this; exact h.2, fun h => ⟨fun i hi => h i (by omega), h n (by omega)⟩⟩
theorem allTo_no {p : Nat → Bool} {n i : Nat} (hi : i < n) (h : p i = false) : allTo p n = false := by
  cases hc : allTo p n with
  | false => rfl
  | true => rw [allTo_iff.1 hc i hi] at h; cases h
def nbB (c : UInt8) : Bool := (decide (97 ≤ c.toNat) && decide (c.toNat ≤ 122)) || (decide (48 ≤ c.toNat) && decide (c.toNat ≤ 57)) || c.toNat == 45 || c.toNat == 46
def byteAt (s : ByteArray) (i : Nat) : UInt8 := if h : i < s.size then s[i] else 0
def nameB (s : ByteArray) : Bool := inB s.size 1 20 && allTo (fun i => nbB (byteAt s i)) s.size
theorem byteAt_eq (s : ByteArray) (k : Nat) (h : k < s.size) : byteAt s k = s[k] := dif_pos h
set_option maxRecDepth 100000 in
set_option maxHeartbeats 400000 in
theorem in_any (n lo hi : Int) (w : World) : Calls Tryz.prog 51 #[.int .i64 n, .int .i64 lo, .int .i64 hi] w fun e w' => e = .returned (.bool (inB n lo hi)) ∧ w' = w := by
  by_cases h1 : lo ≤ n
  · by_cases h2 : n ≤ hi
    · have e := inB_yes ⟨h1, h2⟩
      have HE := hid e
      clear e
      go_enter Tryz.func51, Tryz.ntmps51
      go_wp2
      go_ret
      exact ⟨ret_bool HE.out.symm, rfl⟩
    · have HE := hid (inB_no (n := n) (lo := lo) (hi := hi) (Or.inr (by omega)))
      go_enter Tryz.func51, Tryz.ntmps51
      go_wp2
      go_ret
      exact ⟨ret_bool HE.out.symm, rfl⟩
  · have HE := hid (inB_no (n := n) (lo := lo) (hi := hi) (Or.inl (by omega)))
    go_enter Tryz.func51, Tryz.ntmps51
    go_wp2
    go_ret
    exact ⟨ret_bool HE.out.symm, rfl⟩
set_option maxRecDepth 100000 in
set_option maxHeartbeats 400000 in
theorem within_any (n lo hi : Int) (w : World) : Calls Tryz.prog 92 #[.int .i64 n, .int .i64 lo, .int .i64 hi] w fun e w' => e = .returned (.bool (inB n lo hi)) ∧ w' = w := by
  by_cases h1 : lo ≤ n
  · by_cases h2 : n ≤ hi
    · have e := inB_yes ⟨h1, h2⟩
      have HE := hid e
      clear e
      go_enter Tryz.func92, Tryz.ntmps92
      go_wp2
      go_ret
      exact ⟨ret_bool HE.out.symm, rfl⟩
    · have HE := hid (inB_no (n := n) (lo := lo) (hi := hi) (Or.inr (by omega)))
      go_enter Tryz.func92, Tryz.ntmps92
      go_wp2
      go_ret
      exact ⟨ret_bool HE.out.symm, rfl⟩
  · have HE := hid (inB_no (n := n) (lo := lo) (hi := hi) (Or.inl (by omega)))
    go_enter Tryz.func92, Tryz.ntmps92
    go_wp2
    go_ret
    exact ⟨ret_bool HE.out.symm, rfl⟩
set_option maxRecDepth 100000 in
set_option maxHeartbeats 400000 in
theorem nameByte_any (c : UInt8) (w : World) : Calls Tryz.prog 140 #[.int .u8 (c.toNat : Int)] w fun e w' => e = .returned (.bool (nbB c)) ∧ w' = w := by
  go_enter Tryz.func140, Tryz.ntmps140
  go_wp2
  all_goals
    go_ret
    refine ⟨ret_bool ?_, rfl⟩
    rw [Bool.eq_iff_iff]
    simp [nbB]
    try omega
def ltB (a b : ByteArray) : Bool := Op.bytesLess a.toList b.toList
set_option maxRecDepth 100000 in
set_option maxHeartbeats 400000 in
theorem textBefore_any (a b : ByteArray) (w : World) : Calls Tryz.prog 142 #[.string a, .string b] w fun e w' => e = .returned (.bool (ltB a b)) ∧ w' = w := by
  go_enter Tryz.func142, Tryz.ntmps142
  go_wp2
  go_ret
  exact ⟨rfl, rfl⟩
theorem nameB_no1 {s : ByteArray} (h : inB s.size 1 20 = false) : nameB s = false := by unfold nameB; rw [h]; rfl
theorem nameB_no2 {s : ByteArray} {k : Nat} (hk : k < s.size) (h : nbB (byteAt s k) = false) : nameB s = false := by unfold nameB; rw [allTo_no hk h]; simp
theorem nameB_yes {s : ByteArray} (h : inB s.size 1 20 = true) (h2 : ∀ i, i < s.size → nbB (byteAt s i) = true) : nameB s = true := by unfold nameB; rw [h, allTo_iff.2 h2]; rfl
set_option maxRecDepth 100000 in
set_option maxHeartbeats 800000 in
theorem isName_any (s : ByteArray) (w : World) (hs : (s.size : Int) ≤ 140737488355328) : Calls Tryz.prog 124 #[.string s] w fun e w' => e = .returned (.bool (nameB s)) ∧ w' = w := by
  by_cases h1 : (s.size : Int) < 1
  · have HE := hid (nameB_no1 (s := s) (inB_no (Or.inl h1)))
    go_enter Tryz.func124, Tryz.ntmps124
    go_wp2
    go_ret
    exact ⟨ret_bool HE.out.symm, rfl⟩
  by_cases h2 : (20 : Int) < s.size
  · have HE := hid (nameB_no1 (s := s) (inB_no (Or.inr h2)))
    go_enter Tryz.func124, Tryz.ntmps124
    go_wp2
    go_ret
    exact ⟨ret_bool HE.out.symm, rfl⟩
  go_enter Tryz.func124, Tryz.ntmps124
  go_wp2
  go_loop [14] (fun i => ∃ k : Nat, k ≤ s.size ∧ i = .int .i64 k ∧ ∀ j, j < k → nbB (byteAt s j) = true) (fun i => s.size - (intOf i).toNat)
  case atStart => exact ⟨0, Nat.zero_le _, rfl, fun j hj => absurd hj (Nat.not_lt_zero _)⟩
  case round =>
    obtain ⟨k, hk, rfl, hall⟩ := hrel
    by_cases hkn : k < s.size
    · have HB := hid (byteAt_eq s k hkn)
      have HA := hid hall
      clear hall
      cases hc : nbB (byteAt s k) with
      | false =>
        have HE := hid (nameB_no2 hkn hc)
        have hc' : nbB s[k] = false := by rw [← HB.out]; exact hc
        clear hc
        go_wp2_with (go_at_call 140; refine (nameByte_any _ _).mono ?_; rintro e w1 ⟨rfl, rfl⟩)
        go_ret
        exact ⟨ret_bool HE.out.symm, rfl⟩
      | true =>
        have HE := hid hc
        have hc' : nbB s[k] = true := by rw [← HB.out]; exact hc
        clear hc
        go_wp2_with (go_at_call 140; refine (nameByte_any _ _).mono ?_; rintro e w1 ⟨rfl, rfl⟩)
        go_round
        case rel => exact ⟨k + 1, by omega, by go_num, fun j hj => by
          rcases Nat.lt_or_ge j k with h3 | h3
          · exact HA.out j h3
          · have : j = k := by omega
            subst this; exact HE.out⟩
        case measure => simp [intOf]; omega
    · have HE := hid (nameB_yes (s := s) (inB_yes ⟨by omega, by omega⟩) (fun i hi => hall i (by omega)))
      clear hall
      go_wp2
      go_ret
      exact ⟨ret_bool HE.out.symm, rfl⟩
set_option maxRecDepth 100000 in
set_option maxHeartbeats 800000 in
theorem nameOk_any (s : ByteArray) (w : World) (hs : (s.size : Int) ≤ 140737488355328) : Calls Tryz.prog 81 #[.string s] w fun e w' => e = .returned (.bool (nameB s)) ∧ w' = w := by
  cases hin : inB s.size 1 20 with
  | false =>
    have HE := hid (nameB_no1 (s := s) hin)
    go_enter Tryz.func81, Tryz.ntmps81
    go_wp2_with (go_at_call 51; refine (in_any _ _ _ _).mono ?_; rintro e w1 ⟨rfl, rfl⟩)
    go_ret
    exact ⟨ret_bool HE.out.symm, rfl⟩
  | true =>
    have HI := hid hin
    go_enter Tryz.func81, Tryz.ntmps81
    go_wp2_with (go_at_call 51; refine (in_any _ _ _ _).mono ?_; rintro e w1 ⟨rfl, rfl⟩)
    go_loop [3] (fun i => ∃ k : Nat, k ≤ s.size ∧ i = .int .i64 k ∧ ∀ j, j < k → nbB (byteAt s j) = true) (fun i => s.size - (intOf i).toNat)
    case atStart => exact ⟨0, Nat.zero_le _, rfl, fun j hj => absurd hj (Nat.not_lt_zero _)⟩
    case round =>
      obtain ⟨k, hk, rfl, hall⟩ := hrel
      by_cases hkn : k < s.size
      · have HB := hid (byteAt_eq s k hkn)
        have HA := hid hall
        clear hall hin
        go_wp2
        all_goals first
          | (go_ret
             refine ⟨ret_bool (nameB_no2 hkn ?_).symm, rfl⟩
             rw [HB.out]
             clear HB HA HI
             go_light
             simp only [Bool.not_eq_true', decide_eq_false_iff_not, beq_eq_false_iff_ne, ne_eq] at *
             simp only [nbB, Bool.or_eq_false_iff, Bool.and_eq_false_iff, decide_eq_false_iff_not, beq_eq_false_iff_ne, ne_eq]
             omega)
          | (have h9 : nbB (byteAt s k) = true := by
               rw [HB.out]
               clear HB HA HI
               go_light
               simp only [Bool.not_eq_false', decide_eq_true_eq, beq_iff_eq] at *
               simp only [nbB, Bool.or_eq_true, Bool.and_eq_true, decide_eq_true_eq, beq_iff_eq]
               omega
             go_round
             case rel => exact ⟨k + 1, by omega, by go_num, fun j hj => by
               rcases Nat.lt_or_ge j k with h3 | h3
               · exact HA.out j h3
               · have : j = k := by omega
                 subst this; exact h9⟩
             case measure => simp [intOf]; omega)
      · have HE := hid (nameB_yes (s := s) HI.out (fun i hi => hall i (by omega)))
        clear hall hin
        go_wp2
        go_ret
        exact ⟨ret_bool HE.out.symm, rfl⟩
end Go.Proofs.YtkfbclopkgnacaaGreatDoor
