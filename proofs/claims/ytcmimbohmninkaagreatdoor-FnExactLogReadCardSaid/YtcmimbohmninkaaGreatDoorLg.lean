import Derived.Test.YtcmimbohmninkaaGreatDoorLf
import Derived.Test.YtcmimbohmninkaaGreatDoorLe
import Derived.Maps.AppendAt
namespace Go.Proofs.YtcmimbohmninkaaGreatDoor
open Go.RowKit
/-- the errors that stand at the head of memory are there -/
def Ers (w : World) : Prop := ∀ g, g < 7 → g < w.heap.size ∧ ∃ t v, w.cell? ⟨g, 0, none⟩ = some (.iface t v)
theorem Ers.below {w w' : World} (h : Ers w) (hb : Below w.heap.size w w') : Ers w' := fun g hg => by
  obtain ⟨h1, t, v, h2⟩ := h g hg
  exact ⟨Nat.lt_of_lt_of_le h1 hb.size, t, v, (hb.cell (p := ⟨g, 0, none⟩) h1).trans h2⟩
theorem grown_of_below {w w' : World} (h : Below w.heap.size w w') : w.grownBy w' none := ⟨h.os, h.tape, h.output, h.size, fun k hk _ => h.block k hk⟩
set_option maxRecDepth 100000 in
set_option maxHeartbeats 4000000 in
theorem mayBe_one (cl : ByteArray) (num : Int) (A1 : Option Addr) (A3 A4 b off : Nat) (y : Wr) (w : World) (hcl : (cl.size : Int) ≤ 140737488355328) (hb : b < w.heap.size) (hy : WrCells w b off y) (hf : WrFit y) (h1 : nameB cl = true) (h2 : inB num 1 1000000 = true) (hE : Ers w) :
    Calls Tryz.prog 34 #[.agg #[.string cl, .int .i64 num, .slice A1 0 A3, .slice (some ⟨b, off, none⟩) 1 A4]] w fun e w' => (((wrB y && decide (y.seen ≤ 1000000)) = true ∧ e = .returned .nilIface) ∨ ((wrB y && decide (y.seen ≤ 1000000)) = false ∧ ∃ t v, e = .returned (.iface t v))) ∧ Below w.heap.size w w' := by
  obtain ⟨d0, d1, d2, d3, d4, d5⟩ := hy.below (below_alloc w (.cells #[.string cl, .int .i64 num, .slice A1 0 A3, .slice (some ⟨b, off, none⟩) 1 A4] 27)) hb
  have HF := hid hf
  have HER := hid hE
  clear hy hf hE
  obtain ⟨g3l, t3, v3, g3⟩ := HER.out 5 (by omega)
  have G3 := hid g3
  clear g3
  cases hw : wrB y with
  | false =>
    go_enter Tryz.func34, Tryz.ntmps34
    go_wp2_with (first | (go_at_call 44; go_must (refine (isName_any _ _ hcl).mono ?_; rintro e w1 ⟨rfl, rfl⟩; rw [h1])) | (go_at_call 45; go_must (refine (within_any _ _ _ _).mono ?_; rintro e w1 ⟨rfl, rfl⟩; rw [h2])) | (go_at_call 46; go_must (refine (writeFits_any y HF.out _).mono ?_; rintro e w2 ⟨rfl, hb2⟩; rw [hw]; have hB2 : Below w.heap.size w w2 := ((below_alloc _ _).alloc (by simp) _).trans (hb2.mono (by simp; omega)); have q3 := (hB2.cell (p := ⟨5, 0, none⟩) g3l).trans G3.out)))
    go_ret
    exact ⟨.inr ⟨rfl, t3, v3, rfl⟩, hB2⟩
  | true =>
    by_cases hs : y.seen ≤ 1000000
    · have HS := hid (show (true && decide (y.seen ≤ 1000000)) = true by simp [hs])
      go_enter Tryz.func34, Tryz.ntmps34
      go_wp2_with (first | (go_at_call 44; go_must (refine (isName_any _ _ hcl).mono ?_; rintro e w1 ⟨rfl, rfl⟩; rw [h1])) | (go_at_call 45; go_must (refine (within_any _ _ _ _).mono ?_; rintro e w1 ⟨rfl, rfl⟩; rw [h2])) | (go_at_call 46; go_must (refine (writeFits_any y HF.out _).mono ?_; rintro e w2 ⟨rfl, hb2⟩; rw [hw]; have hB2 : Below w.heap.size w w2 := ((below_alloc _ _).alloc (by simp) _).trans (hb2.mono (by simp; omega)); have q3 := (hb2.cell (p := ⟨w.heap.size + 1, 3, none⟩) (by show w.heap.size + 1 < _; simp)))))
      go_ret
      exact ⟨.inl ⟨HS.out, rfl⟩, hB2⟩
    · have HS := hid (show (true && decide (y.seen ≤ 1000000)) = false by simp [hs])
      go_enter Tryz.func34, Tryz.ntmps34
      go_wp2_with (first | (go_at_call 44; go_must (refine (isName_any _ _ hcl).mono ?_; rintro e w1 ⟨rfl, rfl⟩; rw [h1])) | (go_at_call 45; go_must (refine (within_any _ _ _ _).mono ?_; rintro e w1 ⟨rfl, rfl⟩; rw [h2])) | (go_at_call 46; go_must (refine (writeFits_any y HF.out _).mono ?_; rintro e w2 ⟨rfl, hb2⟩; rw [hw]; have hB2 : Below w.heap.size w w2 := ((below_alloc _ _).alloc (by simp) _).trans (hb2.mono (by simp; omega)); have q3 := (hb2.cell (p := ⟨w.heap.size + 1, 3, none⟩) (by show w.heap.size + 1 < _; simp)); have q4 := (hB2.cell (p := ⟨5, 0, none⟩) g3l).trans G3.out)))
      go_ret
      exact ⟨.inr ⟨HS.out, t3, v3, rfl⟩, hB2⟩
set_option maxRecDepth 100000 in
set_option maxHeartbeats 4000000 in
theorem mayBe_any (c : Bc) (A : BcA) (w : World) (lo hi : Nat) (hhi : hi ≤ w.heap.size) (hf : BcFit c) (hc : BcIn w lo hi c A) (hE : Ers w) :
    Calls Tryz.prog 34 #[bcV c A] w fun e w' => ((okB c = true ∧ e = .returned .nilIface) ∨ (okB c = false ∧ ∃ t v, e = .returned (.iface t v))) ∧ Below w.heap.size w w' := by
  have hcl := hf.cl
  have hrn := hf.rn
  have hwn := hf.wn
  have HF := hid hf
  have HC := hid hc
  have HER := hid hE
  clear hf hc hE
  obtain ⟨g1l, t1, v1, g1⟩ := HER.out 3 (by omega)
  obtain ⟨g2l, t2, v2, g2⟩ := HER.out 4 (by omega)
  have r1 : ∀ o, (w.alloc o).cell? ⟨3, 0, none⟩ = some (.iface t1 v1) := fun o => (World.cell?_alloc_past _ _ _ g1l).trans g1
  have r2 : ∀ o, (w.alloc o).cell? ⟨4, 0, none⟩ = some (.iface t2 v2) := fun o => (World.cell?_alloc_past _ _ _ g2l).trans g2
  clear g1 g2
  cases h1 : nameB c.client with
  | false =>
    have HE := hid (show okB c = false by simp [okB, h1])
    go_enter Tryz.func34, Tryz.ntmps34
    go_wp2_with (go_at_call 44; go_must (refine (isName_any _ _ hcl).mono ?_; rintro e w1 ⟨rfl, rfl⟩; rw [h1]))
    go_ret
    exact ⟨.inr ⟨HE.out, t1, v1, rfl⟩, below_alloc _ _⟩
  | true =>
  cases h2 : inB c.num 1 1000000 with
  | false =>
    have HE := hid (show okB c = false by simp [okB, h2])
    go_enter Tryz.func34, Tryz.ntmps34
    go_wp2_with (first | (go_at_call 44; go_must (refine (isName_any _ _ hcl).mono ?_; rintro e w1 ⟨rfl, rfl⟩; rw [h1])) | (go_at_call 45; go_must (refine (within_any _ _ _ _).mono ?_; rintro e w1 ⟨rfl, rfl⟩; rw [h2])))
    go_ret
    exact ⟨.inr ⟨HE.out, t1, v1, rfl⟩, below_alloc _ _⟩
  | true =>
  by_cases h3 : c.wn = 0
  · by_cases h4 : c.rn = 1
    · obtain ⟨b, off, e, hlo, hbh, hcx⟩ := HC.out.rs 0 (by omega)
      have HOK : okB c = (wrB (c.rs 0) && decide ((c.rs 0).seen ≤ 1000000)) := by simp [okB, h1, h2, h3, h4]
      rw [HOK]
      unfold bcV
      rw [h3, h4, e]
      simp only [Nat.zero_mul, Nat.add_zero] at hcx
      exact mayBe_one c.client c.num A.wa A.wc A.rc b off (c.rs 0) w hcl (by omega) hcx (HF.out.rs 0 (by omega)) h1 h2 HER.out
    · have HE := hid (show okB c = false by simp [okB, h4])
      have h4b : ((c.rn : Int) == 1) = false := by simp; omega
      have h4c : ((c.rn : Int) != 1) = true := by simp; omega
      have h3b : decide ((0 : Int) < (c.wn : Int)) = false := by simp [h3]
      go_enter Tryz.func34, Tryz.ntmps34
      go_wp2_with (first | (go_at_call 44; go_must (refine (isName_any _ _ hcl).mono ?_; rintro e w1 ⟨rfl, rfl⟩; rw [h1])) | (go_at_call 45; go_must (refine (within_any _ _ _ _).mono ?_; rintro e w1 ⟨rfl, rfl⟩; rw [h2])))
      go_ret
      exact ⟨.inr ⟨HE.out, t2, v2, rfl⟩, below_alloc _ _⟩
  · have HE := hid (show okB c = false by simp [okB, h3])
    have h3b : decide ((0 : Int) < (c.wn : Int)) = true := by simp; omega
    go_enter Tryz.func34, Tryz.ntmps34
    go_wp2_with (first | (go_at_call 44; go_must (refine (isName_any _ _ hcl).mono ?_; rintro e w1 ⟨rfl, rfl⟩; rw [h1])) | (go_at_call 45; go_must (refine (within_any _ _ _ _).mono ?_; rintro e w1 ⟨rfl, rfl⟩; rw [h2])))
    go_ret
    exact ⟨.inr ⟨HE.out, t2, v2, rfl⟩, below_alloc _ _⟩
end Go.Proofs.YtcmimbohmninkaaGreatDoor
