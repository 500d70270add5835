import Derived.Test.YtjepponnhieocaaU
import Derived.Test.YtjepponnhieocaaNa
namespace Go.Proofs.Ytjepponnhieocaa
open Go.RowKit
def ballotB (r : Rc) : Bool := inB r.bal 1 r.dk.pr
def zeroB (n : Nat) : Bool := ((n : Int) == 0)
def leadB (r : Rc) : Bool := ballotB r && (((r.yn : Int) == 0) && ((r.bn : Int) == 0))
def tryB (r : Rc) : Bool := ballotB r && ((r.an : Int) == 0)
def quietB (r : Rc) : Bool := (r.bal == 0) && (((r.yn : Int) == 0) && (((r.bn : Int) == 0) && ((r.an : Int) == 0)))
def bareB (r : Rc) : Bool := (!r.ld) && ((!r.tr) && (((r.hn : Int) == 0) && (((r.wn : Int) == 0) && (r.hd == 0))))
set_option maxRecDepth 100000 in
set_option maxHeartbeats 4000000 in
theorem ballot_any (r : Rc) (A : RcA) (w : World) : Calls Try.prog 145 #[rcV r A] w fun e w' => e = .returned (.bool (ballotB r)) ∧ Below w.heap.size w w' := by
  go_enter Try.func145, Try.ntmps145
  go_wp2_with (go_at_call 80; refine (within_any _ _ _ _).mono ?_; rintro e w1 ⟨rfl, rfl⟩)
  go_ret
  exact ⟨rfl, below_alloc _ _⟩
set_option maxRecDepth 100000 in
set_option maxHeartbeats 4000000 in
theorem fitsLead_any (r : Rc) (A : RcA) (w : World) : Calls Try.prog 144 #[.agg #[], rcV r A] w fun e w' => e = .returned (.bool (leadB r)) ∧ Below w.heap.size w w' := by
  obtain ⟨b0, h0⟩ : ∃ b, ballotB r = b := ⟨_, rfl⟩
  obtain ⟨b1, h1⟩ : ∃ b, ((r.yn : Int) == 0) = b := ⟨_, rfl⟩
  obtain ⟨b2, h2⟩ : ∃ b, ((r.bn : Int) == 0) = b := ⟨_, rfl⟩
  have HB := hid (show leadB r = (b0 && (b1 && b2)) by rw [← h0, ← h1, ← h2]; rfl)
  cases b0
  · go_enter Try.func144, Try.ntmps144
    go_wp2_with (first | (go_at_call 145; refine (ballot_any r A _).mono ?_; rintro e w1 ⟨rfl, hb1⟩; rw [h0]; have p14 := (hb1.cell (p := ⟨w.heap.size + 1, 14, none⟩) (by simp)).trans (by simp : _ = some (.slice A.ya r.yn A.yc)); have p15 := (hb1.cell (p := ⟨w.heap.size + 1, 15, none⟩) (by simp)).trans (by simp : _ = some (.slice A.ba r.bn A.bc)); have p16 := (hb1.cell (p := ⟨w.heap.size + 1, 16, none⟩) (by simp)).trans (by simp : _ = some (.slice A.aa r.an A.ac))))
    go_ret
    exact ⟨ret_bool HB.out.symm, (below_alloc _ _).trans (((below_alloc _ _).trans (hb1.mono (by simp))).mono (by simp))⟩
  cases b1
  · go_enter Try.func144, Try.ntmps144
    go_wp2_with (first | (go_at_call 145; refine (ballot_any r A _).mono ?_; rintro e w1 ⟨rfl, hb1⟩; rw [h0]; have p14 := (hb1.cell (p := ⟨w.heap.size + 1, 14, none⟩) (by simp)).trans (by simp : _ = some (.slice A.ya r.yn A.yc)); have p15 := (hb1.cell (p := ⟨w.heap.size + 1, 15, none⟩) (by simp)).trans (by simp : _ = some (.slice A.ba r.bn A.bc)); have p16 := (hb1.cell (p := ⟨w.heap.size + 1, 16, none⟩) (by simp)).trans (by simp : _ = some (.slice A.aa r.an A.ac))))
    go_ret
    exact ⟨ret_bool HB.out.symm, (below_alloc _ _).trans (((below_alloc _ _).trans (hb1.mono (by simp))).mono (by simp))⟩
  go_enter Try.func144, Try.ntmps144
  go_wp2_with (first | (go_at_call 145; refine (ballot_any r A _).mono ?_; rintro e w1 ⟨rfl, hb1⟩; rw [h0]; have p14 := (hb1.cell (p := ⟨w.heap.size + 1, 14, none⟩) (by simp)).trans (by simp : _ = some (.slice A.ya r.yn A.yc)); have p15 := (hb1.cell (p := ⟨w.heap.size + 1, 15, none⟩) (by simp)).trans (by simp : _ = some (.slice A.ba r.bn A.bc)); have p16 := (hb1.cell (p := ⟨w.heap.size + 1, 16, none⟩) (by simp)).trans (by simp : _ = some (.slice A.aa r.an A.ac))))
  go_ret
  exact ⟨ret_bool HB.out.symm, (below_alloc _ _).trans (((below_alloc _ _).trans (hb1.mono (by simp))).mono (by simp))⟩
set_option maxRecDepth 100000 in
set_option maxHeartbeats 4000000 in
theorem fitsTry_any (r : Rc) (A : RcA) (w : World) : Calls Try.prog 146 #[.agg #[], rcV r A] w fun e w' => e = .returned (.bool (tryB r)) ∧ Below w.heap.size w w' := by
  obtain ⟨b0, h0⟩ : ∃ b, ballotB r = b := ⟨_, rfl⟩
  obtain ⟨b1, h1⟩ : ∃ b, ((r.an : Int) == 0) = b := ⟨_, rfl⟩
  have HB := hid (show tryB r = (b0 && b1) by rw [← h0, ← h1]; rfl)
  cases b0
  · go_enter Try.func146, Try.ntmps146
    go_wp2_with (first | (go_at_call 145; refine (ballot_any r A _).mono ?_; rintro e w1 ⟨rfl, hb1⟩; rw [h0]; have p14 := (hb1.cell (p := ⟨w.heap.size + 1, 14, none⟩) (by simp)).trans (by simp : _ = some (.slice A.ya r.yn A.yc)); have p15 := (hb1.cell (p := ⟨w.heap.size + 1, 15, none⟩) (by simp)).trans (by simp : _ = some (.slice A.ba r.bn A.bc)); have p16 := (hb1.cell (p := ⟨w.heap.size + 1, 16, none⟩) (by simp)).trans (by simp : _ = some (.slice A.aa r.an A.ac))))
    go_ret
    exact ⟨ret_bool HB.out.symm, (below_alloc _ _).trans (((below_alloc _ _).trans (hb1.mono (by simp))).mono (by simp))⟩
  go_enter Try.func146, Try.ntmps146
  go_wp2_with (first | (go_at_call 145; refine (ballot_any r A _).mono ?_; rintro e w1 ⟨rfl, hb1⟩; rw [h0]; have p14 := (hb1.cell (p := ⟨w.heap.size + 1, 14, none⟩) (by simp)).trans (by simp : _ = some (.slice A.ya r.yn A.yc)); have p15 := (hb1.cell (p := ⟨w.heap.size + 1, 15, none⟩) (by simp)).trans (by simp : _ = some (.slice A.ba r.bn A.bc)); have p16 := (hb1.cell (p := ⟨w.heap.size + 1, 16, none⟩) (by simp)).trans (by simp : _ = some (.slice A.aa r.an A.ac))))
  go_ret
  exact ⟨ret_bool HB.out.symm, (below_alloc _ _).trans (((below_alloc _ _).trans (hb1.mono (by simp))).mono (by simp))⟩
set_option maxRecDepth 100000 in
set_option maxHeartbeats 4000000 in
theorem fitsQuiet_any (r : Rc) (A : RcA) (w : World) : Calls Try.prog 147 #[.agg #[], rcV r A] w fun e w' => e = .returned (.bool (quietB r)) ∧ Below w.heap.size w w' := by
  obtain ⟨b0, h0⟩ : ∃ b, (r.bal == 0) = b := ⟨_, rfl⟩
  obtain ⟨b1, h1⟩ : ∃ b, ((r.yn : Int) == 0) = b := ⟨_, rfl⟩
  obtain ⟨b2, h2⟩ : ∃ b, ((r.bn : Int) == 0) = b := ⟨_, rfl⟩
  obtain ⟨b3, h3⟩ : ∃ b, ((r.an : Int) == 0) = b := ⟨_, rfl⟩
  have HB := hid (show quietB r = (b0 && (b1 && (b2 && b3))) by rw [← h0, ← h1, ← h2, ← h3]; rfl)
  cases b0
  · go_enter Try.func147, Try.ntmps147
    go_wp2
    go_ret
    exact ⟨ret_bool HB.out.symm, (below_alloc _ _).alloc (by simp) _⟩
  cases b1
  · go_enter Try.func147, Try.ntmps147
    go_wp2
    go_ret
    exact ⟨ret_bool HB.out.symm, (below_alloc _ _).alloc (by simp) _⟩
  cases b2
  · go_enter Try.func147, Try.ntmps147
    go_wp2
    go_ret
    exact ⟨ret_bool HB.out.symm, (below_alloc _ _).alloc (by simp) _⟩
  go_enter Try.func147, Try.ntmps147
  go_wp2
  go_ret
  exact ⟨ret_bool HB.out.symm, (below_alloc _ _).alloc (by simp) _⟩
set_option maxRecDepth 100000 in
set_option maxHeartbeats 4000000 in
theorem isBare_any (r : Rc) (A : RcA) (w : World) : Calls Try.prog 116 #[rcV r A] w fun e w' => e = .returned (.bool (bareB r)) ∧ Below w.heap.size w w' := by
  obtain ⟨b0, h0⟩ : ∃ b, (!r.ld) = b := ⟨_, rfl⟩
  obtain ⟨b1, h1⟩ : ∃ b, (!r.tr) = b := ⟨_, rfl⟩
  obtain ⟨b2, h2⟩ : ∃ b, ((r.hn : Int) == 0) = b := ⟨_, rfl⟩
  obtain ⟨b3, h3⟩ : ∃ b, ((r.wn : Int) == 0) = b := ⟨_, rfl⟩
  obtain ⟨b4, h4⟩ : ∃ b, (r.hd == 0) = b := ⟨_, rfl⟩
  have HB := hid (show bareB r = (b0 && (b1 && (b2 && (b3 && b4)))) by rw [← h0, ← h1, ← h2, ← h3, ← h4]; rfl)
  cases b0
  · go_enter Try.func116, Try.ntmps116
    go_wp2
    go_ret
    exact ⟨ret_bool HB.out.symm, below_alloc _ _⟩
  cases b1
  · go_enter Try.func116, Try.ntmps116
    go_wp2
    go_ret
    exact ⟨ret_bool HB.out.symm, below_alloc _ _⟩
  cases b2
  · go_enter Try.func116, Try.ntmps116
    go_wp2
    go_ret
    exact ⟨ret_bool HB.out.symm, below_alloc _ _⟩
  cases b3
  · go_enter Try.func116, Try.ntmps116
    go_wp2
    go_ret
    exact ⟨ret_bool HB.out.symm, below_alloc _ _⟩
  go_enter Try.func116, Try.ntmps116
  go_wp2
  go_ret
  exact ⟨ret_bool HB.out.symm, below_alloc _ _⟩
end Go.Proofs.Ytjepponnhieocaa
