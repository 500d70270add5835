import Derived.Test.YtjepponnhieocaaF
namespace Go.Proofs.Ytjepponnhieocaa
open Go.RowKit
/-- a message -/
structure Ms where
  kind : Int
  from_ : Int
  to : Int
  bal : Int
  ix : Int
  kn : Int
  text : ByteArray
  n : Nat
  s : Nat → Sl
abbrev msC (m : Ms) (ad : Option Addr) (cap : Nat) : Array Value := #[.int .i64 m.kind, .int .i64 m.from_, .int .i64 m.to, .int .i64 m.bal, .int .i64 m.ix, .int .i64 m.kn, .string m.text, .slice ad m.n cap]
abbrev msV (m : Ms) (ad : Option Addr) (cap : Nat) : Value := .agg #[.int .i64 m.kind, .int .i64 m.from_, .int .i64 m.to, .int .i64 m.bal, .int .i64 m.ix, .int .i64 m.kn, .string m.text, .slice ad m.n cap]
structure MsFit (m : Ms) : Prop where
  t : (m.text.size : Int) ≤ 140737488355328
  n : (m.n : Int) ≤ 8796093022208
  s : ∀ i, i < m.n → SlFit (m.s i)
def msB (m : Ms) (of : Int) : Bool := inB m.kind 1 9 && (inB m.from_ 1 of && (inB m.to 1 of && (inB m.bal 0 1000000 && (inB m.ix 0 60 && (inB m.kn 0 60 && (decide ((m.text.size : Int) ≤ 100) && slsB m.n m.s))))))
def szMs (m : Ms) : Nat := m.text.size + szSls m.n m.s
set_option maxRecDepth 100000 in
set_option maxHeartbeats 2000000 in
theorem szMs_any (m : Ms) (ad : Option Addr) (cap : Nat) (left : Int) (w : World) (h0 : 0 ≤ left) (h1 : left ≤ 1048576) (lo hi : Nat) (hhi : hi ≤ w.heap.size) (hf : MsFit m) (hc : SlsIn w lo hi ad m.n m.s) :
    Calls Try.prog 86 #[msV m ad cap, .int .i64 left] w fun e w' => e = .returned (.int .i64 (szOut left (szMs m))) ∧ Below w.heap.size w w' := by
  obtain ⟨f0, f1, f2⟩ := hf
  have hc1 := hc.below (below_alloc w (.cells (msC m ad cap) 118)) hhi
  unfold szMs
  by_cases hlt : left - m.text.size < 0
  · clear hc1
    go_enter Try.func86, Try.ntmps86
    go_wp2
    go_ret
    exact ⟨ret_int (szOut_no (by omega)).symm, below_alloc _ _⟩
  · go_enter Try.func86, Try.ntmps86
    go_wp2_with (go_at_call 63; refine (szSls_any m.n m.s ad cap _ _ lo hi (by simp; omega) f1 (by omega) (by omega) f2 hc1).mono ?_; rintro e w1 ⟨rfl, hb1⟩)
    · go_ret
      exact ⟨ret_int (szOut_no (by have := szOut_lt (by assumption); omega)).symm, (below_alloc _ _).trans (hb1.mono (by simp))⟩
    · go_ret
      obtain ⟨g1, g2⟩ := szOut_ge (by assumption)
      exact ⟨ret_int (by rw [g2, szOut_yes (by omega)]; omega), (below_alloc _ _).trans (hb1.mono (by simp))⟩
set_option maxRecDepth 100000 in
set_option maxHeartbeats 2000000 in
theorem toMs_any (m : Ms) (ad : Option Addr) (cap : Nat) (w : World) (lo hi : Nat) (hhi : hi ≤ w.heap.size) (hl : (m.n : Int) ≤ 1099511627776) (hc : SlsIn w lo hi ad m.n m.s) :
    Calls Try.prog 94 #[msV m ad cap] w fun e w' => ∃ g, e = .returned (msV m (some ⟨g, 0, none⟩) m.n) ∧ SlsOwn w' w.heap.size w'.heap.size (some ⟨g, 0, none⟩) m.n m.s ∧ Below w.heap.size w w' := by
  go_enter Try.func94, Try.ntmps94
  go_wp2_with fail
  refine (toSls_any m.n m.s ad cap _ lo hi (by simp; omega) hl (hc.below (B := w.heap.size) ((((Below.refl _ _).alloc (Nat.le_refl _) _).alloc (by simp) _).alloc (by simp; omega) _) hhi)).mono ?_
  rintro e w1 ⟨rfl, hown, hb1⟩
  have hbW : Below w.heap.size w w1 := ((((Below.refl _ _).alloc (Nat.le_refl _) _).alloc (by simp) _).alloc (by simp; omega) _).trans (hb1.mono (by simp; omega))
  have hz : w.heap.size + 2 < w1.heap.size := by have := hb1.size; simp at this; omega
  obtain ⟨hcc, hff⟩ := bcell hb1
  simp only [World.size_alloc] at hcc hff hown
  have HO := hid hown
  clear hb1 hc hown
  go_wp2
  refine bodyPost_ret (v := msV m (some ⟨w.heap.size + 1 + 1 + 1, 0, none⟩) m.n) (by simp [results, Try.results94, go_sem, hcc]) rfl ⟨_, rfl, ?_, ?_⟩
  · simp only [World.size_setCell]
    refine ⟨_, rfl, by omega, HO.out.room.lt, HO.out.fr (lo2 := w.heap.size) (hi2 := w.heap.size + 3) ?_ (by omega)⟩
    iterate 9 refine Fr.setCell ?_ (by simp; try omega) (by simp; try omega) _
    exact Fr.refl _ _ _
  · refine hbW.trans (Fr.below (lo := w.heap.size) (hi := w.heap.size + 3) ?_ (Nat.le_refl _) hbW.size)
    iterate 9 refine Fr.setCell ?_ (by simp; try omega) (by simp; try omega) _
    exact Fr.refl _ _ _
set_option maxRecDepth 100000 in
set_option maxHeartbeats 2000000 in
theorem eqMs_any (m : Ms) (ad ad2 : Option Addr) (cap cap2 : Nat) (w : World) (lo hi lo2 hi2 : Nat) (hh : hi ≤ w.heap.size) (hh2 : hi2 ≤ w.heap.size) (hl : (m.n : Int) ≤ 140737488355328)
    (hc : SlsIn w lo hi ad m.n m.s) (hc2 : SlsIn w lo2 hi2 ad2 m.n m.s) :
    Calls Try.prog 81 #[msV m ad cap, msV m ad2 cap2] w fun e w' => e = .returned (.bool true) ∧ Below w.heap.size w w' := by
  go_enter Try.func81, Try.ntmps81
  go_wp2_with fail
  refine (eqSls_any m.n m.s ad ad2 cap cap2 _ lo hi lo2 hi2 (by simp; omega) (by simp; omega) hl (hc.below (B := w.heap.size) ((below_alloc _ _).alloc (by simp) _) hh) (hc2.below (B := w.heap.size) ((below_alloc _ _).alloc (by simp) _) hh2)).mono ?_
  rintro e w1 ⟨rfl, hb1⟩
  go_wp2
  go_ret
  exact ⟨rfl, (((below_alloc _ _).alloc (by simp) _).trans (hb1.mono (by simp; omega)))⟩
set_option maxRecDepth 100000 in
set_option maxHeartbeats 2000000 in
theorem implMessage_any (m : Ms) (of : Int) (ad : Option Addr) (cap : Nat) (w : World) (lo hi : Nat) (hhi : hi ≤ w.heap.size) (hf : MsFit m) (hc : SlsIn w lo hi ad m.n m.s) :
    Calls Try.prog 96 #[msV m ad cap, .int .i64 of] w fun e w' => e = .returned (.bool (msB m of)) ∧ Below w.heap.size w w' := by
  obtain ⟨b0, h0⟩ : ∃ b, inB m.kind 1 9 = b := ⟨_, rfl⟩
  obtain ⟨b1, h1⟩ : ∃ b, inB m.from_ 1 of = b := ⟨_, rfl⟩
  obtain ⟨b2, h2⟩ : ∃ b, inB m.to 1 of = b := ⟨_, rfl⟩
  obtain ⟨b3, h3⟩ : ∃ b, inB m.bal 0 1000000 = b := ⟨_, rfl⟩
  obtain ⟨b4, h4⟩ : ∃ b, inB m.ix 0 60 = b := ⟨_, rfl⟩
  obtain ⟨b5, h5⟩ : ∃ b, inB m.kn 0 60 = b := ⟨_, rfl⟩
  obtain ⟨b6, h6⟩ : ∃ b, decide ((m.text.size : Int) ≤ 100) = b := ⟨_, rfl⟩
  obtain ⟨b7, h7⟩ : ∃ b, slsB m.n m.s = b := ⟨_, rfl⟩
  have HB := hid (show msB m of = (b0 && (b1 && (b2 && (b3 && (b4 && (b5 && (b6 && b7))))))) by rw [← h0, ← h1, ← h2, ← h3, ← h4, ← h5, ← h6, ← h7]; rfl)
  have hc1 := hc.below (below_alloc w (.cells (msC m ad cap) 80)) hhi
  obtain ⟨ft, f1, f2⟩ := hf
  clear hc
  have hS := slotsOk_any m.n m.s _ cap _ lo hi (by simp; omega) f1 f2 hc1
  rw [h7] at hS
  cases b0
  · clear hS hc1
    go_enter Try.func96, Try.ntmps96
    go_wp2_with (first | (go_at_call 80; refine (within_any _ _ _ _).mono ?_; rintro e w1 ⟨rfl, rfl⟩; first | rw [h0]))
    go_ret
    exact ⟨ret_bool HB.out.symm, below_alloc _ _⟩
  cases b1
  · clear hS hc1
    go_enter Try.func96, Try.ntmps96
    go_wp2_with (first | (go_at_call 80; refine (within_any _ _ _ _).mono ?_; rintro e w1 ⟨rfl, rfl⟩; first | rw [h0] | rw [h1]))
    go_ret
    exact ⟨ret_bool HB.out.symm, below_alloc _ _⟩
  cases b2
  · clear hS hc1
    go_enter Try.func96, Try.ntmps96
    go_wp2_with (first | (go_at_call 80; refine (within_any _ _ _ _).mono ?_; rintro e w1 ⟨rfl, rfl⟩; first | rw [h0] | rw [h1] | rw [h2]))
    go_ret
    exact ⟨ret_bool HB.out.symm, below_alloc _ _⟩
  cases b3
  · clear hS hc1
    go_enter Try.func96, Try.ntmps96
    go_wp2_with (first | (go_at_call 80; refine (within_any _ _ _ _).mono ?_; rintro e w1 ⟨rfl, rfl⟩; first | rw [h0] | rw [h1] | rw [h2] | rw [h3]))
    go_ret
    exact ⟨ret_bool HB.out.symm, below_alloc _ _⟩
  cases b4
  · clear hS hc1
    go_enter Try.func96, Try.ntmps96
    go_wp2_with (first | (go_at_call 80; refine (within_any _ _ _ _).mono ?_; rintro e w1 ⟨rfl, rfl⟩; first | rw [h0] | rw [h1] | rw [h2] | rw [h3] | rw [h4]))
    go_ret
    exact ⟨ret_bool HB.out.symm, below_alloc _ _⟩
  cases b5
  · clear hS hc1
    go_enter Try.func96, Try.ntmps96
    go_wp2_with (first | (go_at_call 80; refine (within_any _ _ _ _).mono ?_; rintro e w1 ⟨rfl, rfl⟩; first | rw [h0] | rw [h1] | rw [h2] | rw [h3] | rw [h4] | rw [h5]))
    go_ret
    exact ⟨ret_bool HB.out.symm, below_alloc _ _⟩
  cases b6
  · have h6' := of_decide_eq_false h6
    clear hS hc1
    go_enter Try.func96, Try.ntmps96
    go_wp2_with (first | (go_at_call 80; refine (within_any _ _ _ _).mono ?_; rintro e w1 ⟨rfl, rfl⟩; first | rw [h0] | rw [h1] | rw [h2] | rw [h3] | rw [h4] | rw [h5]))
    go_ret
    exact ⟨ret_bool HB.out.symm, below_alloc _ _⟩
  have h6' := of_decide_eq_true h6
  go_enter Try.func96, Try.ntmps96
  go_wp2_with (first | (go_at_call 80; refine (within_any _ _ _ _).mono ?_; rintro e w1 ⟨rfl, rfl⟩; first | rw [h0] | rw [h1] | rw [h2] | rw [h3] | rw [h4] | rw [h5]) | (go_at_call 113; refine hS.mono ?_; rintro e w1 ⟨rfl, hb1⟩))
  go_ret
  exact ⟨ret_bool HB.out.symm, (below_alloc _ _).trans (hb1.mono (by simp))⟩
set_option maxRecDepth 100000 in
set_option maxHeartbeats 2000000 in
theorem specMessage_any (m : Ms) (of : Int) (ad : Option Addr) (cap : Nat) (w : World) (lo hi : Nat) (hhi : hi ≤ w.heap.size) (hf : MsFit m) (hc : SlsIn w lo hi ad m.n m.s) :
    Calls Try.prog 47 #[msV m ad cap, .int .i64 of] w fun e w' => e = .returned (.bool (msB m of)) ∧ Below w.heap.size w w' := by
  obtain ⟨b0, h0⟩ : ∃ b, inB m.kind 1 9 = b := ⟨_, rfl⟩
  obtain ⟨b1, h1⟩ : ∃ b, inB m.from_ 1 of = b := ⟨_, rfl⟩
  obtain ⟨b2, h2⟩ : ∃ b, inB m.to 1 of = b := ⟨_, rfl⟩
  obtain ⟨b3, h3⟩ : ∃ b, inB m.bal 0 1000000 = b := ⟨_, rfl⟩
  obtain ⟨b4, h4⟩ : ∃ b, inB m.ix 0 60 = b := ⟨_, rfl⟩
  obtain ⟨b5, h5⟩ : ∃ b, inB m.kn 0 60 = b := ⟨_, rfl⟩
  obtain ⟨b6, h6⟩ : ∃ b, decide ((m.text.size : Int) ≤ 100) = b := ⟨_, rfl⟩
  obtain ⟨b7, h7⟩ : ∃ b, slsB m.n m.s = b := ⟨_, rfl⟩
  have HB := hid (show msB m of = (b0 && (b1 && (b2 && (b3 && (b4 && (b5 && (b6 && b7))))))) by rw [← h0, ← h1, ← h2, ← h3, ← h4, ← h5, ← h6, ← h7]; rfl)
  have hc1 := hc.below (below_alloc w (.cells (msC m ad cap) 80)) hhi
  obtain ⟨ft, f1, f2⟩ := hf
  clear hc
  have hS := slotsOkS_any m.n m.s _ cap _ lo hi (by simp; omega) f1 f2 hc1
  rw [h7] at hS
  cases b0
  · clear hS hc1
    go_enter Try.func47, Try.ntmps47
    go_wp2_with (first | (go_at_call 30; refine (in_any _ _ _ _).mono ?_; rintro e w1 ⟨rfl, rfl⟩; first | rw [h0]))
    go_ret
    exact ⟨ret_bool HB.out.symm, below_alloc _ _⟩
  cases b1
  · clear hS hc1
    go_enter Try.func47, Try.ntmps47
    go_wp2_with (first | (go_at_call 30; refine (in_any _ _ _ _).mono ?_; rintro e w1 ⟨rfl, rfl⟩; first | rw [h0] | rw [h1]))
    go_ret
    exact ⟨ret_bool HB.out.symm, below_alloc _ _⟩
  cases b2
  · clear hS hc1
    go_enter Try.func47, Try.ntmps47
    go_wp2_with (first | (go_at_call 30; refine (in_any _ _ _ _).mono ?_; rintro e w1 ⟨rfl, rfl⟩; first | rw [h0] | rw [h1] | rw [h2]))
    go_ret
    exact ⟨ret_bool HB.out.symm, below_alloc _ _⟩
  cases b3
  · clear hS hc1
    go_enter Try.func47, Try.ntmps47
    go_wp2_with (first | (go_at_call 30; refine (in_any _ _ _ _).mono ?_; rintro e w1 ⟨rfl, rfl⟩; first | rw [h0] | rw [h1] | rw [h2] | rw [h3]))
    go_ret
    exact ⟨ret_bool HB.out.symm, below_alloc _ _⟩
  cases b4
  · clear hS hc1
    go_enter Try.func47, Try.ntmps47
    go_wp2_with (first | (go_at_call 30; refine (in_any _ _ _ _).mono ?_; rintro e w1 ⟨rfl, rfl⟩; first | rw [h0] | rw [h1] | rw [h2] | rw [h3] | rw [h4]))
    go_ret
    exact ⟨ret_bool HB.out.symm, below_alloc _ _⟩
  cases b5
  · clear hS hc1
    go_enter Try.func47, Try.ntmps47
    go_wp2_with (first | (go_at_call 30; refine (in_any _ _ _ _).mono ?_; rintro e w1 ⟨rfl, rfl⟩; first | rw [h0] | rw [h1] | rw [h2] | rw [h3] | rw [h4] | rw [h5]))
    go_ret
    exact ⟨ret_bool HB.out.symm, below_alloc _ _⟩
  cases b6
  · have h6' := of_decide_eq_false h6
    clear hS hc1
    go_enter Try.func47, Try.ntmps47
    go_wp2_with (first | (go_at_call 30; refine (in_any _ _ _ _).mono ?_; rintro e w1 ⟨rfl, rfl⟩; first | rw [h0] | rw [h1] | rw [h2] | rw [h3] | rw [h4] | rw [h5]))
    go_ret
    exact ⟨ret_bool HB.out.symm, below_alloc _ _⟩
  have h6' := of_decide_eq_true h6
  go_enter Try.func47, Try.ntmps47
  go_wp2_with (first | (go_at_call 30; refine (in_any _ _ _ _).mono ?_; rintro e w1 ⟨rfl, rfl⟩; first | rw [h0] | rw [h1] | rw [h2] | rw [h3] | rw [h4] | rw [h5]) | (go_at_call 91; refine hS.mono ?_; rintro e w1 ⟨rfl, hb1⟩))
  go_ret
  exact ⟨ret_bool HB.out.symm, (below_alloc _ _).trans (hb1.mono (by simp))⟩
end Go.Proofs.Ytjepponnhieocaa
