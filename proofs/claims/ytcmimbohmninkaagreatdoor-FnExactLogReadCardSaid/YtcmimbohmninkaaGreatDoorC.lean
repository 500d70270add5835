import Derived.Test.YtcmimbohmninkaaGreatDoorB
import Derived.Deep.QuietTactic
import Derived.BigQuiet
namespace Go.Proofs.YtcmimbohmninkaaGreatDoor
open Go.RowKit
theorem StrsIn.below {w w' : World} {B lo hi : Nat} {ad : Option Addr} {n : Nat} {s : Nat → ByteArray} (h : StrsIn w lo hi ad n s) (hb : Below B w w') (hB : hi ≤ B) : StrsIn w' lo hi ad n s := fun i hi' => by
  obtain ⟨b, off, e1, e2, e3, e4⟩ := h i hi'
  exact ⟨b, off, e1, e2, e3, (hb.cell (p := ⟨b, off + i, none⟩) (Nat.lt_of_lt_of_le e3 hB)).trans e4⟩
theorem StrsIn.alloc {w : World} {lo hi : Nat} {ad : Option Addr} {n : Nat} {s : Nat → ByteArray} (h : StrsIn w lo hi ad n s) (hB : hi ≤ w.heap.size) (o : Obj) : StrsIn (w.alloc o) lo hi ad n s :=
  h.below ((Below.refl w.heap.size w).alloc (Nat.le_refl _) o) hB
theorem szOut_lt {l : Int} {s : Nat} (h : szOut l s < 0) : l < s := by
  unfold szOut at h; split at h <;> omega
theorem szOut_ge {l : Int} {s : Nat} (h : 0 ≤ szOut l s) : (s : Int) ≤ l ∧ szOut l s = l - s := by
  unfold szOut at *; split at h
  · rw [if_pos (by assumption)]; exact ⟨by assumption, rfl⟩
  · omega
structure Ob where
  kind : ByteArray
  name : ByteArray
  ver : Int
  born : Int
  text : ByteArray
  ending : Bool
  hn : Nat
  hs : Nat → ByteArray
def szOb (o : Ob) : Nat := o.kind.size + o.name.size + o.text.size + szStrs o.hn o.hs
end Go.Proofs.YtcmimbohmninkaaGreatDoor
