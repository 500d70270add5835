import Derived.Test.YtjepponnhieocaaC
import Derived.Test.YtjepponnhieocaaD
namespace Go.Proofs.Ytjepponnhieocaa
open Go.RowKit
def szDk (d : Dk) : Nat := szSls d.n d.s
set_option maxRecDepth 100000 in
set_option maxHeartbeats 1000000 in
theorem szDk_any (d : Dk) (ad : Option Addr) (cap : Nat) (left : Int) (w : World) (h0 : 0 ≤ left) (h1 : left ≤ 1048576) (lo hi : Nat) (hhi : hi ≤ w.heap.size) (hf : DkFit d) (hc : SlsIn w lo hi ad d.n d.s) :
    Calls Try.prog 60 #[dkV d ad cap, .int .i64 left] w fun e w' => e = .returned (.int .i64 (szOut left (szDk d))) ∧ Below w.heap.size w w' := by
  obtain ⟨f1, f2⟩ := hf
  have hc1 := hc.below (below_alloc w (.cells #[.int .i64 d.pr, .int .i64 d.kn, .slice ad d.n cap] 45)) hhi
  unfold szDk
  go_enter Try.func60, Try.ntmps60
  go_wp2_with (go_at_call 63; refine (szSls_any d.n d.s ad cap left _ lo hi (by simp; omega) f1 h0 h1 f2 hc1).mono ?_; rintro e w1 ⟨rfl, hb1⟩)
  · go_ret
    exact ⟨ret_int (szOut_no (szOut_lt (by assumption))).symm, (below_alloc _ _).trans (hb1.mono (by simp))⟩
  · go_ret
    exact ⟨rfl, (below_alloc _ _).trans (hb1.mono (by simp))⟩
set_option maxRecDepth 100000 in
set_option maxHeartbeats 1000000 in
theorem toDk_any (d : Dk) (ad : Option Addr) (cap : Nat) (w : World) (lo hi : Nat) (hhi : hi ≤ w.heap.size) (hl : (d.n : Int) ≤ 1099511627776) (hc : SlsIn w lo hi ad d.n d.s) :
    Calls Try.prog 65 #[dkV d ad cap] w fun e w' => ∃ g, e = .returned (dkV d (some ⟨g, 0, none⟩) d.n) ∧ SlsOwn w' w.heap.size w'.heap.size (some ⟨g, 0, none⟩) d.n d.s ∧ Below w.heap.size w w' := by
  go_enter Try.func65, Try.ntmps65
  go_wp2_with fail
  refine (toSls_any d.n d.s ad cap _ lo hi (by simp; omega) hl (hc.below (B := w.heap.size) ((((Below.refl _ _).alloc (Nat.le_refl _) _).alloc (by simp) _).alloc (by simp; omega) _) hhi)).mono ?_
  rintro e w1 ⟨rfl, hown, hb1⟩
  have hbW : Below w.heap.size w w1 := ((((Below.refl _ _).alloc (Nat.le_refl _) _).alloc (by simp) _).alloc (by simp; omega) _).trans (hb1.mono (by simp; omega))
  have hz : w.heap.size + 2 < w1.heap.size := by have := hb1.size; simp at this; omega
  obtain ⟨hcc, hff⟩ := bcell hb1
  simp only [World.size_alloc] at hcc hff hown
  have HO := hid hown
  clear hb1 hc hown
  go_wp2
  refine bodyPost_ret (v := dkV d (some ⟨w.heap.size + 1 + 1 + 1, 0, none⟩) d.n) (by simp [results, Try.results65, go_sem, hcc]) rfl ⟨_, rfl, ?_, ?_⟩
  · simp only [World.size_setCell]
    refine ⟨_, rfl, by omega, HO.out.room.lt, HO.out.fr (lo2 := w.heap.size) (hi2 := w.heap.size + 3) ?_ (by omega)⟩
    iterate 4 refine Fr.setCell ?_ (by simp; try omega) (by simp; try omega) _
    exact Fr.refl _ _ _
  · refine hbW.trans (Fr.below (lo := w.heap.size) (hi := w.heap.size + 3) ?_ (Nat.le_refl _) hbW.size)
    iterate 4 refine Fr.setCell ?_ (by simp; try omega) (by simp; try omega) _
    exact Fr.refl _ _ _
set_option maxRecDepth 100000 in
set_option maxHeartbeats 1000000 in
theorem eqDk_any (d : Dk) (ad ad2 : Option Addr) (cap cap2 : Nat) (w : World) (lo hi lo2 hi2 : Nat) (hh : hi ≤ w.heap.size) (hh2 : hi2 ≤ w.heap.size) (hl : (d.n : Int) ≤ 140737488355328)
    (hc : SlsIn w lo hi ad d.n d.s) (hc2 : SlsIn w lo2 hi2 ad2 d.n d.s) :
    Calls Try.prog 71 #[dkV d ad cap, dkV d ad2 cap2] w fun e w' => e = .returned (.bool true) ∧ Below w.heap.size w w' := by
  go_enter Try.func71, Try.ntmps71
  go_wp2_with fail
  refine (eqSls_any d.n d.s ad ad2 cap cap2 _ lo hi lo2 hi2 (by simp; omega) (by simp; omega) hl (hc.below (B := w.heap.size) ((below_alloc _ _).alloc (by simp) _) hh) (hc2.below (B := w.heap.size) ((below_alloc _ _).alloc (by simp) _) hh2)).mono ?_
  rintro e w1 ⟨rfl, hb1⟩
  go_wp2
  go_ret
  exact ⟨rfl, (((below_alloc _ _).alloc (by simp) _).trans (hb1.mono (by simp; omega)))⟩
end Go.Proofs.Ytjepponnhieocaa
