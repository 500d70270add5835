import Derived.Test.YtkecnaaacbckoaaOb
import Derived.Test.YtkecnaaacbckoaaGj
namespace Go.Proofs.Ytkecnaaacbckoaa
open Go.RowKit
def pfB (s p : ByteArray) : Bool := decide (p.size ≤ s.size) && ((s.extract 0 p.size).toList == p.toList)
def lkB (o : Ob) (ki pr : ByteArray) : Bool := (ki.toList == [] || o.kind.toList == ki.toList) && pfB o.name pr
/-- which of the first k are picked -/
def flt (p : Nat → Bool) : Nat → List Nat
  | 0 => []
  | k + 1 => if p k then flt p k ++ [k] else flt p k
theorem flt_yes {p : Nat → Bool} {k : Nat} (h : p k = true) : flt p (k + 1) = flt p k ++ [k] := by rw [flt, if_pos h]
theorem flt_no {p : Nat → Bool} {k : Nat} (h : p k = false) : flt p (k + 1) = flt p k := by
  rw [flt, if_neg (by rw [h]; decide)]
theorem flt_len (p : Nat → Bool) : ∀ k, (flt p k).length ≤ k
  | 0 => Nat.le_refl _
  | k + 1 => by
    have := flt_len p k
    unfold flt
    split <;> simp <;> omega
theorem flt_lt {p : Nat → Bool} : ∀ {k i : Nat}, i ∈ flt p k → i < k
  | 0, _, h => by cases h
  | k + 1, i, h => by
    unfold flt at h
    split at h
    · rw [List.mem_append] at h
      rcases h with h | h
      · have := flt_lt h; omega
      · have : i = k := by simpa using h
        omega
    · have := flt_lt h; omega
def pick {α : Type} (x : Nat → α) (l : List Nat) : Nat → α := fun j => x (l.getD j 0)
theorem pick_old {α : Type} {x : Nat → α} {l : List Nat} {k i : Nat} (h : i < l.length) : pick x (l ++ [k]) i = pick x l i := by
  unfold pick
  rw [List.getD_eq_getElem?_getD, List.getD_eq_getElem?_getD, List.getElem?_append_left h]
theorem pick_new {α : Type} {x : Nat → α} {l : List Nat} {k : Nat} : pick x (l ++ [k]) l.length = x k := by
  unfold pick
  simp
theorem pick_mem {α : Type} {x : Nat → α} {p : Nat → Bool} {n i : Nat} (h : i < (flt p n).length) : ∃ k, k < n ∧ pick x (flt p n) i = x k := by
  refine ⟨(flt p n).getD i 0, ?_, rfl⟩
  rw [List.getD_eq_getElem?_getD, List.getElem?_eq_getElem h]
  exact flt_lt (List.getElem_mem h)
theorem BdOb.congr {w : World} {base : Nat} {v : Value} {k : Nat} {x y : Nat → Ob} {A : Nat → Option Addr} {C hb : Nat → Nat} (h : BdOb w base v k x A C hb) (e : ∀ i, i < k → x i = y i) : BdOb w base v k y A C hb :=
  ⟨by obtain ⟨c, r, q⟩ := h.row; exact ⟨c, r, fun i hi => e i hi ▸ q i hi⟩, fun i hi => e i hi ▸ h.hold i hi, fun i hi h0 => h.hlt i hi (by rw [e i hi]; exact h0), fun i hi h0 => h.ne i hi (by rw [e i hi]; exact h0), fun i j hi hj h0 h1 => h.inj i j hi hj (by rw [e i hi]; exact h0) (by rw [e j hj]; exact h1)⟩
theorem BdOb.push {w : World} {base : Nat} {v : Value} {l : List Nat} {k : Nat} {x : Nat → Ob} {A : Nat → Option Addr} {C hb : Nat → Nat} {w' : World} {v' : Value} {c : Nat → Value} {ad' : Option Addr} {cap' b' : Nat} (h : BdOb w base v l.length (pick x l) A C hb) (hat : ∀ i, i < l.length → atOb c i (pick x l i) (A i) (C i))
    (ho : w'.ownsRow base 50 7 v' (l.length + 1) (rowCells (l.length * 7) c ++ [.string (x k).kind, .string (x k).name, .int .i64 (x k).ver, .int .i64 (x k).born, .string (x k).text, .bool (x k).ending, .slice ad' (x k).hn cap'])) (hg : w.grownBy w' v.ownBlock) (hw : v'.ownBlock = v.ownBlock ∨ v'.ownBlock = some w.heap.size)
    (hs : StrsOwn w b' (b' + 1) ad' (x k).hn (x k).hs) (hl : (x k).hn ≠ 0 → base ≤ b' ∧ b' < w.heap.size) (hv : (x k).hn ≠ 0 → v.ownBlock ≠ some b') (hd : ∀ i, i < l.length → (pick x l i).hn ≠ 0 → (x k).hn ≠ 0 → hb i ≠ b') :
    BdOb w' base v' (l ++ [k]).length (pick x (l ++ [k])) (updF A l.length ad') (updF C l.length cap') (updF hb l.length b') := by
  have e : (l ++ [k]).length = l.length + 1 := by simp
  rw [e]
  have hp : pick x (l ++ [k]) l.length = x k := pick_new
  refine BdOb.app (x := pick x (l ++ [k])) (h.congr (fun i hi => (pick_old hi).symm)) (c := c) (fun i hi => by rw [pick_old hi]; exact hat i hi) (by rw [hp]; exact ho) hg hw (by rw [hp]; exact hs) (by rw [hp]; exact hl) (by rw [hp]; exact hv) (fun i hi => by rw [hp, pick_old hi]; exact hd i hi)
def Holds (W : World) (B : Nat) (c : Array Value) : Prop := ∀ i, W.cell? ⟨B, i, none⟩ = c[i]?
theorem Holds.fr {W W' : World} {B lo hi : Nat} {c : Array Value} (h : Holds W B c) (hb : Fr lo hi W W') (hB : B < W.heap.size) (ho : B < lo ∨ hi ≤ B) : Holds W' B c := fun i => (hb.cell (p := ⟨B, i, none⟩) hB ho).trans (h i)
theorem Holds.below {W W' : World} {B n : Nat} {c : Array Value} (h : Holds W B c) (hb : Below n W W') (hB : B < n) : Holds W' B c := fun i => (hb.cell (p := ⟨B, i, none⟩) hB).trans (h i)
theorem holds_new (w : World) (c : Array Value) (t : TypeId) : Holds (w.alloc (.cells c t)) w.heap.size c := fun i => World.cell?_alloc_new w c t i
def bkCells (x : Bk) (a1 a2 a3 : Option Addr) (c1 c2 c3 : Nat) : Array Value := #[.int .i64 x.now, .int .i64 x.floor, .slice a1 x.on c1, .slice a2 x.hn c2, .slice a3 x.tn c3]
def obCells (y : Ob) (ad : Option Addr) (c : Nat) : Array Value := #[.string y.kind, .string y.name, .int .i64 y.ver, .int .i64 y.born, .string y.text, .bool y.ending, .slice ad y.hn c]
theorem holds_bk {W : World} {B : Nat} {x : Bk} {a1 a2 a3 : Option Addr} {c1 c2 c3 : Nat} (h : Holds W B (bkCells x a1 a2 a3 c1 c2 c3)) :
    W.cell? ⟨B, 0, none⟩ = some (.int .i64 x.now) ∧ W.cell? ⟨B, 1, none⟩ = some (.int .i64 x.floor) ∧ W.cell? ⟨B, 2, none⟩ = some (.slice a1 x.on c1) ∧ W.cell? ⟨B, 3, none⟩ = some (.slice a2 x.hn c2) ∧ W.cell? ⟨B, 4, none⟩ = some (.slice a3 x.tn c3) := ⟨h 0, h 1, h 2, h 3, h 4⟩
theorem holds_ob {W : World} {B : Nat} {y : Ob} {ad : Option Addr} {c : Nat} (h : Holds W B (obCells y ad c)) :
    W.cell? ⟨B, 0, none⟩ = some (.string y.kind) ∧ W.cell? ⟨B, 1, none⟩ = some (.string y.name) ∧ W.cell? ⟨B, 2, none⟩ = some (.int .i64 y.ver) ∧ W.cell? ⟨B, 3, none⟩ = some (.int .i64 y.born) ∧ W.cell? ⟨B, 4, none⟩ = some (.string y.text) ∧ W.cell? ⟨B, 5, none⟩ = some (.bool y.ending) ∧ W.cell? ⟨B, 6, none⟩ = some (.slice ad y.hn c) := ⟨h 0, h 1, h 2, h 3, h 4, h 5, h 6⟩
end Go.Proofs.Ytkecnaaacbckoaa
