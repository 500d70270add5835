import Derived.Test.YtcmimbohmninkaaDoorLc
import Derived.Test.YtcmimbohmninkaaDoorFj
import Derived.Test.YtcmimbohmninkaaDoorFs
import Derived.Laws.EntriesVeiled
namespace Go.Proofs.YtcmimbohmninkaaDoor
open Go.RowKit
/-- what a field is: a writer and a reader of one part -/
def FldV (X : World) (v : Value) (a b : Nat) (p : Addr) : Prop :=
  ∃ g, v = .agg #[.func (.func a) #[] #[.pointer (some ⟨g, 0, none⟩)], .func (.func b) #[] #[.pointer (some ⟨g, 0, none⟩)]] ∧ g < X.heap.size ∧ X.cell? ⟨g, 0, none⟩ = some (.pointer (some p))
def FldAt (X : World) (e : Ending) (a b : Nat) (p : Addr) : Prop :=
  ∃ g, e = .returned (.agg #[.func (.func a) #[] #[.pointer (some ⟨g, 0, none⟩)], .func (.func b) #[] #[.pointer (some ⟨g, 0, none⟩)]]) ∧ g < X.heap.size ∧ X.cell? ⟨g, 0, none⟩ = some (.pointer (some p))
theorem FldV.below {X Y : World} {v : Value} {a b : Nat} {p : Addr} (h : FldV X v a b p) (hb : Below X.heap.size X Y) : FldV Y v a b p := by
  obtain ⟨g, e, l, c⟩ := h
  exact ⟨g, e, Nat.lt_of_lt_of_le l hb.size, (hb.cell (p := ⟨g, 0, none⟩) l).trans c⟩
set_option maxRecDepth 100000 in
set_option maxHeartbeats 1000000 in
theorem logWord_any (p : Addr) (w : World) : Calls Tryd.prog 35 #[.pointer (some p)] w fun e w' => FldAt w' e 46 47 p ∧ Below w.heap.size w w' := by
  go_enter Tryd.func35, Tryd.ntmps35
  go_wp2
  refine bodyPost_ret (v := .agg #[.func (.func 46) #[] #[.pointer (some ⟨w.heap.size, 0, none⟩)], .func (.func 47) #[] #[.pointer (some ⟨w.heap.size, 0, none⟩)]]) (by simp [results, Tryd.results35, go_sem]) rfl ?_
  refine ⟨⟨w.heap.size, rfl, ?_, ?_⟩, ?_⟩
  · simp only [World.size_alloc]; omega
  · simp [go_sem]
  · exact (below_alloc _ _).alloc (by simp) _
set_option maxRecDepth 100000 in
set_option maxHeartbeats 1000000 in
theorem logNumber_any (p : Addr) (w : World) : Calls Tryd.prog 36 #[.pointer (some p)] w fun e w' => FldAt w' e 48 50 p ∧ Below w.heap.size w w' := by
  go_enter Tryd.func36, Tryd.ntmps36
  go_wp2
  refine bodyPost_ret (v := .agg #[.func (.func 48) #[] #[.pointer (some ⟨w.heap.size, 0, none⟩)], .func (.func 50) #[] #[.pointer (some ⟨w.heap.size, 0, none⟩)]]) (by simp [results, Tryd.results36, go_sem]) rfl ?_
  refine ⟨⟨w.heap.size, rfl, ?_, ?_⟩, ?_⟩
  · simp only [World.size_alloc]; omega
  · simp [go_sem]
  · exact (below_alloc _ _).alloc (by simp) _
set_option maxRecDepth 100000 in
set_option maxHeartbeats 1000000 in
theorem logHold_any (p : Addr) (w : World) : Calls Tryd.prog 37 #[.pointer (some p)] w fun e w' => FldAt w' e 52 53 p ∧ Below w.heap.size w w' := by
  go_enter Tryd.func37, Tryd.ntmps37
  go_wp2
  refine bodyPost_ret (v := .agg #[.func (.func 52) #[] #[.pointer (some ⟨w.heap.size, 0, none⟩)], .func (.func 53) #[] #[.pointer (some ⟨w.heap.size, 0, none⟩)]]) (by simp [results, Tryd.results37, go_sem]) rfl ?_
  refine ⟨⟨w.heap.size, rfl, ?_, ?_⟩, ?_⟩
  · simp only [World.size_alloc]; omega
  · simp [go_sem]
  · exact (below_alloc _ _).alloc (by simp) _
set_option maxRecDepth 100000 in
set_option maxHeartbeats 1000000 in
theorem logQuoted_any (p : Addr) (w : World) : Calls Tryd.prog 38 #[.pointer (some p)] w fun e w' => FldAt w' e 54 56 p ∧ Below w.heap.size w w' := by
  go_enter Tryd.func38, Tryd.ntmps38
  go_wp2
  refine bodyPost_ret (v := .agg #[.func (.func 54) #[] #[.pointer (some ⟨w.heap.size, 0, none⟩)], .func (.func 56) #[] #[.pointer (some ⟨w.heap.size, 0, none⟩)]]) (by simp [results, Tryd.results38, go_sem]) rfl ?_
  refine ⟨⟨w.heap.size, rfl, ?_, ?_⟩, ?_⟩
  · simp only [World.size_alloc]; omega
  · simp [go_sem]
  · exact (below_alloc _ _).alloc (by simp) _
set_option maxRecDepth 100000 in
set_option maxHeartbeats 1000000 in
theorem word1_any (g b o : Nat) (s : ByteArray) (w : World) (h0 : w.cell? ⟨g, 0, none⟩ = some (.pointer (some ⟨b, o, none⟩))) (h1 : w.cell? ⟨b, o, none⟩ = some (.string s)) :
    Calls Tryd.prog 46 #[.pointer (some ⟨g, 0, none⟩)] w fun e w' => e = .returned (.string s) ∧ Below w.heap.size w w' := by
  go_enter Tryd.func46, Tryd.ntmps46
  go_wp2
  go_ret
  exact ⟨rfl, Below.refl _ _⟩
set_option maxRecDepth 100000 in
set_option maxHeartbeats 1000000 in
theorem number1_any (g b o : Nat) (n : Nat) (hn : (n : Int) ≤ 4611686018427387904) (w : World) (ht : Tab w) (h0 : w.cell? ⟨g, 0, none⟩ = some (.pointer (some ⟨b, o, none⟩))) (h1 : w.cell? ⟨b, o, none⟩ = some (.int .i64 n)) :
    Calls Tryd.prog 48 #[.pointer (some ⟨g, 0, none⟩)] w fun e w' => e = .returned (.string ⟨(Lib.decDigits n).toArray⟩) ∧ Below w.heap.size w w' := by
  have HT := hid ht
  clear ht
  go_enter Tryd.func48, Tryd.ntmps48
  go_wp2_with (go_at_call 49; go_must (refine (itoa_any n hn w HT.out).mono ?_; rintro e w1 ⟨rfl, hb1⟩))
  go_ret
  exact ⟨rfl, hb1⟩
/-- what stands for a hold -/
def holdS (s : ByteArray) : ByteArray := if s = ⟨#[]⟩ then ⟨#[42]⟩ else s
set_option maxRecDepth 100000 in
set_option maxHeartbeats 1000000 in
theorem hold1_any (g b o : Nat) (s : ByteArray) (w : World) (h0 : w.cell? ⟨g, 0, none⟩ = some (.pointer (some ⟨b, o, none⟩))) (h1 : w.cell? ⟨b, o, none⟩ = some (.string s)) :
    Calls Tryd.prog 52 #[.pointer (some ⟨g, 0, none⟩)] w fun e w' => e = .returned (.string (holdS s)) ∧ Below w.heap.size w w' := by
  by_cases h : s = ⟨#[]⟩
  · subst h
    go_enter Tryd.func52, Tryd.ntmps52
    go_wp2
    go_ret
    exact ⟨by rw [show holdS ⟨#[]⟩ = ⟨#[42]⟩ from if_pos rfl]; rfl, Below.refl _ _⟩
  · have hie : s.toList.isEmpty = false := by
      cases hq : s.toList with
      | nil => exact absurd hq (em_list h)
      | cons a l => rfl
    have HE := hid (show holdS s = s from if_neg h)
    go_enter Tryd.func52, Tryd.ntmps52
    go_wp2
    go_ret
    exact ⟨by rw [HE.out]; rfl, Below.refl _ _⟩
set_option maxRecDepth 100000 in
set_option maxHeartbeats 1000000 in
theorem quoted1_any (g b o : Nat) (s : ByteArray) (hs : (s.size : Int) ≤ 1099511627776) (w : World) (h0 : w.cell? ⟨g, 0, none⟩ = some (.pointer (some ⟨b, o, none⟩))) (h1 : w.cell? ⟨b, o, none⟩ = some (.string s)) :
    Calls Tryd.prog 54 #[.pointer (some ⟨g, 0, none⟩)] w fun e w' => e = .returned (.string ⟨(quL s).toArray⟩) ∧ Below w.heap.size w w' := by
  go_enter Tryd.func54, Tryd.ntmps54
  go_wp2_with (go_at_call 55; go_must (refine (implQuote_any s w hs).mono ?_; rintro e w1 ⟨rfl, hb1⟩))
  go_ret
  exact ⟨rfl, hb1⟩
end Go.Proofs.YtcmimbohmninkaaDoor
