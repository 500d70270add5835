import Derived.Test.YtkbghbbaldjinaaGreatDoorFl
import Derived.Test.YtkbghbbaldjinaaGreatDoorFf
namespace Go.Proofs.YtkbghbbaldjinaaGreatDoor
open Go.RowKit
theorem ba_append (a b : ByteArray) : (a ++ b).data.toList = a.data.toList ++ b.data.toList := by simp
theorem ba_mk (l : List UInt8) : (⟨l.toArray⟩ : ByteArray).data.toList = l := by simp
theorem ba_ext {a b : ByteArray} (h : a.data.toList = b.data.toList) : a = b := by
  cases a; cases b
  simp only at h
  rw [Array.toList_inj.1 h]
theorem inter_cons (sep : List UInt8) : ∀ (a : List UInt8) (xs : List (List UInt8)), sep.intercalate (a :: xs) = a ++ xs.flatMap (fun s => sep ++ s)
  | a, [] => by simp [List.intercalate]
  | a, b :: xs => by
    have ih := inter_cons sep b xs
    unfold List.intercalate at ih ⊢
    rw [List.intersperse_cons_cons]
    simp only [List.flatten_cons, List.flatMap_cons]
    rw [ih]
    simp
theorem joinL_cons (a : ByteArray) (xs : List ByteArray) : joinL (a :: xs) = a.data.toList ++ xs.flatMap (fun s => 32 :: s.data.toList) := by
  unfold joinL Lib.join
  rw [List.map_cons, inter_cons, List.flatMap_map]
  rfl
theorem lineS_l (xs : List ByteArray) : (lineS xs).data.toList = joinL xs ++ [10] := by
  unfold lineS
  rw [ba_append, ba_mk]
theorem flat_len {m : Nat} : ∀ (xs : List ByteArray), (∀ s ∈ xs, s.size ≤ m) → (xs.flatMap (fun s => 32 :: s.data.toList)).length ≤ xs.length * (m + 1)
  | [], _ => by simp
  | a :: xs, h => by
    have ih := flat_len xs (fun s hs => h s (List.mem_cons_of_mem _ hs))
    have ha := h a (by simp)
    have e : a.data.toList.length = a.size := by rw [Array.length_toList]; rfl
    rw [List.flatMap_cons, List.length_append, List.length_cons, e, List.length_cons, Nat.succ_mul]
    omega
theorem joinL_len {m : Nat} {a : ByteArray} {xs : List ByteArray} (h : ∀ s ∈ a :: xs, s.size ≤ m) : (joinL (a :: xs)).length ≤ (xs.length + 1) * (m + 1) := by
  have h1 := flat_len xs (fun s hs => h s (List.mem_cons_of_mem _ hs))
  have ha := h a (by simp)
  have e : a.data.toList.length = a.size := by rw [Array.length_toList]; rfl
  rw [joinL_cons, List.length_append, e, Nat.succ_mul]
  omega
theorem hdTo_l (s0 : ByteArray) (hs : Nat → ByteArray) : ∀ k, (hdTo s0 hs k).data.toList = s0.data.toList ++ ((List.range k).map hs).flatMap (fun s => 32 :: s.data.toList)
  | 0 => by simp [hdTo]
  | k + 1 => by
    rw [hdTo, ba_append, ba_append, hdTo_l s0 hs k, List.range_succ, List.map_append, List.flatMap_append]
    simp
def endW : ByteArray := ⟨#[101, 110, 100, 105, 110, 103]⟩
def goneW : ByteArray := ⟨#[103, 111, 110, 101]⟩
def six (o : Ob) : List ByteArray := [o.kind, o.name, dS o.ver.toNat, dS o.born.toNat, wrdS o.ending endW, quS o.text]
def hol (o : Ob) : List ByteArray := (List.range o.hn).map o.hs
theorem en_l (b : Bool) : (enS b).data.toList = (wrdS b endW).data.toList ++ [32] := by cases b <;> rfl
theorem gn_l (b : Bool) : (gS b).data.toList = (wrdS b goneW).data.toList ++ [32] := by cases b <;> rfl
theorem objS_l (o : Ob) : (objS o o.ver.toNat o.born.toNat).data.toList = o.kind.data.toList ++ ((six o).tail ++ hol o).flatMap (fun s => 32 :: s.data.toList) ++ [10] := by
  unfold objS obj0
  rw [ba_append, hdTo_l]
  simp only [ba_append, en_l]
  unfold six hol
  simp
theorem oLine_l (o : Ob) : (lineS ([⟨#[111, 98, 106, 101, 99, 116]⟩] ++ six o ++ hol o)).data.toList = (oLine o).data.toList := by
  rw [lineS_l]
  show joinL (⟨#[111, 98, 106, 101, 99, 116]⟩ :: (six o ++ hol o)) ++ [10] = _
  rw [joinL_cons]
  unfold oLine
  rw [ba_append, objS_l]
  unfold six
  simp
theorem cLine_l (c : Ch) : (lineS ([⟨#[99, 104, 97, 110, 103, 101]⟩, wrdS c.gone goneW] ++ six c.ob ++ hol c.ob)).data.toList = (cLine c).data.toList := by
  rw [lineS_l]
  show joinL (⟨#[99, 104, 97, 110, 103, 101]⟩ :: (wrdS c.gone goneW :: (six c.ob ++ hol c.ob))) ++ [10] = _
  rw [joinL_cons]
  unfold cLine
  rw [ba_append, ba_append, objS_l, gn_l]
  unfold six
  simp
theorem headS_l (a b : Nat) : (lineS [⟨#[98, 111, 111, 107]⟩, dS a, dS b]).data.toList = (headS a b).data.toList := by
  rw [lineS_l, joinL_cons]
  unfold headS
  simp only [ba_append]
  simp
theorem tLine_l (t : Ti) : (lineS [⟨#[116, 105, 99, 107, 101, 116]⟩, t.client, dS t.num.toNat, dS t.code.toNat, dS t.ver.toNat, quS t.print]).data.toList = (tLine t).data.toList := by
  rw [lineS_l, joinL_cons]
  unfold tLine
  simp only [ba_append]
  simp
theorem six_size {o : Ob} (h : ObV o) : ∀ s ∈ six o ++ hol o, s.size ≤ 3000002 := by
  intro s hs
  have h1 := h.sm.k
  have h2 := h.sm.n
  have h3 := dS_size h.lv
  have h4 := dS_size h.lb
  have h5 := quS_size h.sm.t
  have h6 : (wrdS o.ending endW).size ≤ 6 := by cases o.ending <;> decide
  unfold six hol at hs
  simp only [List.mem_append, List.mem_cons, List.not_mem_nil, or_false, List.mem_map, List.mem_range] at hs
  rcases hs with (rfl | rfl | rfl | rfl | rfl | rfl) | ⟨i, hi, rfl⟩
  · omega
  · omega
  · omega
  · omega
  · omega
  · omega
  · have := h.sm.s i hi
    omega
end Go.Proofs.YtkbghbbaldjinaaGreatDoor
