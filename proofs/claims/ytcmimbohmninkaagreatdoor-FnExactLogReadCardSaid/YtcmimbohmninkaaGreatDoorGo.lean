import Derived.Test.YtcmimbohmninkaaGreatDoorM
namespace Go.Proofs.YtcmimbohmninkaaGreatDoor
open Go.RowKit
theorem below_alloc (w : World) (o : Obj) : Below w.heap.size w (w.alloc o) := (Below.refl _ _).alloc (Nat.le_refl _) o
theorem below_alloc' (w : World) (o : Obj) : Below w.heap.size w (w.alloc o) := (Below.refl _ _).alloc (Nat.le_refl _) o
structure Wr where
  op : Int
  kind : ByteArray
  name : ByteArray
  seen : Int
  text : ByteArray
  hold : ByteArray
structure WrFit (w : Wr) : Prop where
  k : (w.kind.size : Int) ≤ 140737488355328
  n : (w.name.size : Int) ≤ 140737488355328
  t : (w.text.size : Int) ≤ 140737488355328
  h : (w.hold.size : Int) ≤ 140737488355328
def emB (s : ByteArray) : Bool := decide (s = ⟨#[]⟩)
def useB (w : Wr) : Bool :=
  if w.op = 1 then decide (w.seen = 0) else if w.op = 2 then emB w.hold else if w.op = 3 then emB w.text && emB w.hold else if w.op = 4 then emB w.text && !emB w.hold else if w.op = 5 then emB w.text && !emB w.hold else false
def comB (w : Wr) : Bool := nameB w.kind && (nameB w.name && (decide (0 ≤ w.seen) && (decide (w.text.size ≤ 300) && (emB w.hold || nameB w.hold))))
def wrB (w : Wr) : Bool := comB w && useB w
theorem toList_inj0 {a b : ByteArray} (h : a.toList = b.toList) : a = b := by
  cases a with | mk a => cases b with | mk b =>
  have h2 : a.toList = b.toList := by simpa [ByteArray.toList_eq] using h
  exact congrArg ByteArray.mk (Array.ext' h2)
theorem em_ne {s : ByteArray} (h : ¬ s = ⟨#[]⟩) : (s.toList == (⟨#[]⟩ : ByteArray).toList) = false := by
  cases hb : (s.toList == (⟨#[]⟩ : ByteArray).toList) with
  | false => rfl
  | true => exact absurd (toList_inj0 (by simpa using hb)) h
theorem em_list {s : ByteArray} (h : ¬ s = ⟨#[]⟩) : ¬ s.toList = [] := fun e => h (toList_inj0 (e.trans (by simp [ByteArray.toList_eq])))
end Go.Proofs.YtcmimbohmninkaaGreatDoor
