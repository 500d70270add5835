import Derived.Test.YtcmimbohmninkaaGreatDoorLc
import Derived.Test.YtcmimbohmninkaaGreatDoorFj
import Derived.Test.YtcmimbohmninkaaGreatDoorFs
import Derived.Laws.EntriesVeiled
namespace Go.Proofs.YtcmimbohmninkaaGreatDoor
open Go.RowKit
/-- what a field is: a writer and a reader of one part -/
def FldV (X : World) (v : Value) (a b : Nat) (p : Addr) : Prop :=
  ∃ g, v = .agg #[.func (.func a) #[] #[.pointer (some ⟨g, 0, none⟩)], .func (.func b) #[] #[.pointer (some ⟨g, 0, none⟩)]] ∧ g < X.heap.size ∧ X.cell? ⟨g, 0, none⟩ = some (.pointer (some p))
def FldAt (X : World) (e : Ending) (a b : Nat) (p : Addr) : Prop :=
  ∃ g, e = .returned (.agg #[.func (.func a) #[] #[.pointer (some ⟨g, 0, none⟩)], .func (.func b) #[] #[.pointer (some ⟨g, 0, none⟩)]]) ∧ g < X.heap.size ∧ X.cell? ⟨g, 0, none⟩ = some (.pointer (some p))
theorem FldV.below {X Y : World} {v : Value} {a b : Nat} {p : Addr} (h : FldV X v a b p) (hb : Below X.heap.size X Y) : FldV Y v a b p := by
  obtain ⟨g, e, l, c⟩ := h
  exact ⟨g, e, Nat.lt_of_lt_of_le l hb.size, (hb.cell (p := ⟨g, 0, none⟩) l).trans c⟩
set_option maxRecDepth 100000 in
set_option maxHeartbeats 1000000 in
theorem logWord_any (p : Addr) (w : World) : Calls Tryz.prog 39 #[.pointer (some p)] w fun e w' => FldAt w' e 50 51 p ∧ Below w.heap.size w w' := by
  go_enter Tryz.func39, Tryz.ntmps39
  go_wp2
  refine bodyPost_ret (v := .agg #[.func (.func 50) #[] #[.pointer (some ⟨w.heap.size, 0, none⟩)], .func (.func 51) #[] #[.pointer (some ⟨w.heap.size, 0, none⟩)]]) (by simp [results, Tryz.results39, go_sem]) rfl ?_
  refine ⟨⟨w.heap.size, rfl, ?_, ?_⟩, ?_⟩
  · simp only [World.size_alloc]; omega
  · simp [go_sem]
  · exact (below_alloc _ _).alloc (by simp) _
set_option maxRecDepth 100000 in
set_option maxHeartbeats 1000000 in
theorem logNumber_any (p : Addr) (w : World) : Calls Tryz.prog 40 #[.pointer (some p)] w fun e w' => FldAt w' e 52 54 p ∧ Below w.heap.size w w' := by
  go_enter Tryz.func40, Tryz.ntmps40
  go_wp2
  refine bodyPost_ret (v := .agg #[.func (.func 52) #[] #[.pointer (some ⟨w.heap.size, 0, none⟩)], .func (.func 54) #[] #[.pointer (some ⟨w.heap.size, 0, none⟩)]]) (by simp [results, Tryz.results40, go_sem]) rfl ?_
  refine ⟨⟨w.heap.size, rfl, ?_, ?_⟩, ?_⟩
  · simp only [World.size_alloc]; omega
  · simp [go_sem]
  · exact (below_alloc _ _).alloc (by simp) _
set_option maxRecDepth 100000 in
set_option maxHeartbeats 1000000 in
theorem logHold_any (p : Addr) (w : World) : Calls Tryz.prog 41 #[.pointer (some p)] w fun e w' => FldAt w' e 56 57 p ∧ Below w.heap.size w w' := by
  go_enter Tryz.func41, Tryz.ntmps41
  go_wp2
  refine bodyPost_ret (v := .agg #[.func (.func 56) #[] #[.pointer (some ⟨w.heap.size, 0, none⟩)], .func (.func 57) #[] #[.pointer (some ⟨w.heap.size, 0, none⟩)]]) (by simp [results, Tryz.results41, go_sem]) rfl ?_
  refine ⟨⟨w.heap.size, rfl, ?_, ?_⟩, ?_⟩
  · simp only [World.size_alloc]; omega
  · simp [go_sem]
  · exact (below_alloc _ _).alloc (by simp) _
set_option maxRecDepth 100000 in
set_option maxHeartbeats 1000000 in
theorem logQuoted_any (p : Addr) (w : World) : Calls Tryz.prog 42 #[.pointer (some p)] w fun e w' => FldAt w' e 58 60 p ∧ Below w.heap.size w w' := by
  go_enter Tryz.func42, Tryz.ntmps42
  go_wp2
  refine bodyPost_ret (v := .agg #[.func (.func 58) #[] #[.pointer (some ⟨w.heap.size, 0, none⟩)], .func (.func 60) #[] #[.pointer (some ⟨w.heap.size, 0, none⟩)]]) (by simp [results, Tryz.results42, go_sem]) rfl ?_
  refine ⟨⟨w.heap.size, rfl, ?_, ?_⟩, ?_⟩
  · simp only [World.size_alloc]; omega
  · simp [go_sem]
  · exact (below_alloc _ _).alloc (by simp) _
set_option maxRecDepth 100000 in
set_option maxHeartbeats 1000000 in
theorem word1_any (g b o : Nat) (s : ByteArray) (w : World) (h0 : w.cell? ⟨g, 0, none⟩ = some (.pointer (some ⟨b, o, none⟩))) (h1 : w.cell? ⟨b, o, none⟩ = some (.string s)) :
    Calls Tryz.prog 50 #[.pointer (some ⟨g, 0, none⟩)] w fun e w' => e = .returned (.string s) ∧ Below w.heap.size w w' := by
  go_enter Tryz.func50, Tryz.ntmps50
  go_wp2
  go_ret
  exact ⟨rfl, Below.refl _ _⟩
set_option maxRecDepth 100000 in
set_option maxHeartbeats 1000000 in
theorem number1_any (g b o : Nat) (n : Nat) (hn : (n : Int) ≤ 4611686018427387904) (w : World) (ht : Tab w) (h0 : w.cell? ⟨g, 0, none⟩ = some (.pointer (some ⟨b, o, none⟩))) (h1 : w.cell? ⟨b, o, none⟩ = some (.int .i64 n)) :
    Calls Tryz.prog 52 #[.pointer (some ⟨g, 0, none⟩)] w fun e w' => e = .returned (.string ⟨(Lib.decDigits n).toArray⟩) ∧ Below w.heap.size w w' := by
  have HT := hid ht
  clear ht
  go_enter Tryz.func52, Tryz.ntmps52
  go_wp2_with (go_at_call 53; go_must (refine (itoa_any n hn w HT.out).mono ?_; rintro e w1 ⟨rfl, hb1⟩))
  go_ret
  exact ⟨rfl, hb1⟩
/-- what stands for a hold -/
def holdS (s : ByteArray) : ByteArray := if s = ⟨#[]⟩ then ⟨#[42]⟩ else s
set_option maxRecDepth 100000 in
set_option maxHeartbeats 1000000 in
theorem hold1_any (g b o : Nat) (s : ByteArray) (w : World) (h0 : w.cell? ⟨g, 0, none⟩ = some (.pointer (some ⟨b, o, none⟩))) (h1 : w.cell? ⟨b, o, none⟩ = some (.string s)) :
    Calls Tryz.prog 56 #[.pointer (some ⟨g, 0, none⟩)] w fun e w' => e = .returned (.string (holdS s)) ∧ Below w.heap.size w w' := by
  by_cases h : s = ⟨#[]⟩
  · subst h
    go_enter Tryz.func56, Tryz.ntmps56
    go_wp2
    go_ret
    exact ⟨by rw [show holdS ⟨#[]⟩ = ⟨#[42]⟩ from if_pos rfl]; rfl, Below.refl _ _⟩
  · have hie : s.toList.isEmpty = false := by
      cases hq : s.toList with
      | nil => exact absurd hq (em_list h)
      | cons a l => rfl
    have HE := hid (show holdS s = s from if_neg h)
    go_enter Tryz.func56, Tryz.ntmps56
    go_wp2
    go_ret
    exact ⟨by rw [HE.out]; rfl, Below.refl _ _⟩
set_option maxRecDepth 100000 in
set_option maxHeartbeats 1000000 in
theorem quoted1_any (g b o : Nat) (s : ByteArray) (hs : (s.size : Int) ≤ 1099511627776) (w : World) (h0 : w.cell? ⟨g, 0, none⟩ = some (.pointer (some ⟨b, o, none⟩))) (h1 : w.cell? ⟨b, o, none⟩ = some (.string s)) :
    Calls Tryz.prog 58 #[.pointer (some ⟨g, 0, none⟩)] w fun e w' => e = .returned (.string ⟨(quL s).toArray⟩) ∧ Below w.heap.size w w' := by
  go_enter Tryz.func58, Tryz.ntmps58
  go_wp2_with (go_at_call 59; go_must (refine (implQuote_any s w hs).mono ?_; rintro e w1 ⟨rfl, hb1⟩))
  go_ret
  exact ⟨rfl, hb1⟩
end Go.Proofs.YtcmimbohmninkaaGreatDoor
