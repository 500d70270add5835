import Derived.Test.YtkecnaaacbckoaaGreatQ
namespace Go.Proofs.YtkecnaaacbckoaaGreat
open Go.RowKit
def creB (c : Ch) : Bool := !c.gone && c.ob.born == c.ver
def begB (c : Ch) (floor : Int) : Bool := creB c || decide (c.ob.born ≤ floor)
def folB (p c : Ch) : Bool := if p.gone || creB c then p.gone && creB c else p.ob.born == c.ob.born
def chgB (c : Ch) (now : Int) : Bool := c.ob.ver == c.ver && (partsB c.ob now && (if c.gone then goneB c.ob else standB c.ob))
set_option maxRecDepth 100000 in
set_option maxHeartbeats 400000 in
theorem specCre_any (c : Ch) (ad : Option Addr) (cap : Nat) (w : World) :
    Calls Tryz.prog 58 #[.agg #[.int .i64 c.ver, .bool c.gone, .string c.ob.kind, .string c.ob.name, .int .i64 c.ob.ver, .int .i64 c.ob.born, .string c.ob.text, .bool c.ob.ending, .slice ad c.ob.hn cap]] w fun e w' => e = .returned (.bool (creB c)) ∧ Below w.heap.size w w' := by
  obtain ⟨ve, go, ob⟩ := c
  dsimp only
  cases go with
  | true =>
    go_enter Tryz.func58, Tryz.ntmps58
    go_wp2
    go_ret
    exact ⟨rfl, below_alloc' _ _⟩
  | false =>
    go_enter Tryz.func58, Tryz.ntmps58
    go_wp2
    go_ret
    exact ⟨ret_bool (by simp [creB]), below_alloc' _ _⟩
set_option maxRecDepth 100000 in
set_option maxHeartbeats 400000 in
theorem implCre_any (c : Ch) (ad : Option Addr) (cap : Nat) (w : World) :
    Calls Tryz.prog 114 #[.agg #[.int .i64 c.ver, .bool c.gone, .string c.ob.kind, .string c.ob.name, .int .i64 c.ob.ver, .int .i64 c.ob.born, .string c.ob.text, .bool c.ob.ending, .slice ad c.ob.hn cap]] w fun e w' => e = .returned (.bool (creB c)) ∧ Below w.heap.size w w' := by
  obtain ⟨ve, go, ob⟩ := c
  dsimp only
  cases go with
  | true =>
    go_enter Tryz.func114, Tryz.ntmps114
    go_wp2
    go_ret
    exact ⟨rfl, below_alloc' _ _⟩
  | false =>
    go_enter Tryz.func114, Tryz.ntmps114
    go_wp2
    go_ret
    exact ⟨ret_bool (by simp [creB]), below_alloc' _ _⟩
set_option maxRecDepth 100000 in
set_option maxHeartbeats 400000 in
theorem begin_any (c : Ch) (floor : Int) (ad : Option Addr) (cap : Nat) (w : World) :
    Calls Tryz.prog 135 #[.agg #[.int .i64 c.ver, .bool c.gone, .string c.ob.kind, .string c.ob.name, .int .i64 c.ob.ver, .int .i64 c.ob.born, .string c.ob.text, .bool c.ob.ending, .slice ad c.ob.hn cap], .int .i64 floor] w fun e w' => e = .returned (.bool (begB c floor)) ∧ Below w.heap.size w w' := by
  cases hcr : creB c with
  | true =>
    have HE := hid (show begB c floor = true by unfold begB; rw [hcr]; rfl)
    go_enter Tryz.func135, Tryz.ntmps135
    go_wp2_with (go_at_call 114; refine (implCre_any c ad cap _).mono ?_; rintro e w1 ⟨rfl, hb1⟩)
    go_ret
    exact ⟨ret_bool HE.out.symm, (below_alloc' _ _).trans (hb1.mono (by simp))⟩
  | false =>
    have HE := hid (show begB c floor = decide (c.ob.born ≤ floor) by unfold begB; rw [hcr]; rfl)
    go_enter Tryz.func135, Tryz.ntmps135
    go_wp2_with (go_at_call 114; refine (implCre_any c ad cap _).mono ?_; rintro e w1 ⟨rfl, hb1⟩; have k5 := box_cell hb1 5; simp only [List.getElem?_toArray, List.getElem?_cons_succ, List.getElem?_cons_zero] at k5)
    go_ret
    exact ⟨ret_bool HE.out.symm, (below_alloc' _ _).trans (hb1.mono (by simp))⟩
set_option maxRecDepth 100000 in
set_option maxHeartbeats 800000 in
theorem chgFits_any (c : Ch) (now : Int) (ad : Option Addr) (cap : Nat) (w : World) (lo hi : Nat) (hhi : hi ≤ w.heap.size) (hf : ObFit c.ob) (hc : StrsIn w lo hi ad c.ob.hn c.ob.hs) :
    Calls Tryz.prog 133 #[.agg #[.int .i64 c.ver, .bool c.gone, .string c.ob.kind, .string c.ob.name, .int .i64 c.ob.ver, .int .i64 c.ob.born, .string c.ob.text, .bool c.ob.ending, .slice ad c.ob.hn cap], .int .i64 now] w fun e w' => e = .returned (.bool (chgB c now)) ∧ Below w.heap.size w w' := by
  obtain ⟨ve, go, ob⟩ := c
  dsimp only at hf hc ⊢
  have hcA := fun o => hc.alloc hhi o
  have hfh : (ob.hn : Int) ≤ 140737488355328 := by have := hf.h; omega
  by_cases hv : ob.ver = ve
  · subst hv
    cases hp : partsB ob now with
    | false =>
      have HE := hid (show chgB ⟨ob.ver, go, ob⟩ now = false by unfold chgB; simp [hp])
      go_enter Tryz.func133, Tryz.ntmps133
      go_wp2_with (go_at_call 131; refine (objFits_any ob now ad cap _ lo hi (by simp; omega) hf (hcA _)).mono ?_; rintro e w1 ⟨rfl, hb1⟩; rw [hp])
      go_ret
      exact ⟨ret_bool HE.out.symm, (below_alloc' _ _).trans (hb1.mono (by simp))⟩
    | true =>
     cases go with
     | true =>
      have HE := hid (show chgB ⟨ob.ver, true, ob⟩ now = goneB ob by unfold chgB; simp [hp])
      go_enter Tryz.func133, Tryz.ntmps133
      go_wp2_with (go_at_call 131; refine (objFits_any ob now ad cap _ lo hi (by simp; omega) hf (hcA _)).mono ?_; rintro e w1 ⟨rfl, hb1⟩; have k1 := box_cell hb1 1; have k2 := box_cell hb1 2; have k3 := box_cell hb1 3; have k4 := box_cell hb1 4; have k5 := box_cell hb1 5; have k6 := box_cell hb1 6; have k7 := box_cell hb1 7; have k8 := box_cell hb1 8; simp only [List.getElem?_toArray, List.getElem?_cons_succ, List.getElem?_cons_zero] at k1 k2 k3 k4 k5 k6 k7 k8; rw [hp])
      go_wp2_with (go_at_call 162; refine (mayBeGone_any ob ad cap _ hfh).mono ?_; rintro e w2 ⟨rfl, hb2⟩)
      go_ret
      exact ⟨ret_bool HE.out.symm, (below_alloc' _ _).trans ((hb1.mono (by simp)).trans (hb2.mono (by have := hb1.size; simp at this; omega)))⟩
     | false =>
      have HE := hid (show chgB ⟨ob.ver, false, ob⟩ now = standB ob by unfold chgB; simp [hp])
      go_enter Tryz.func133, Tryz.ntmps133
      go_wp2_with (go_at_call 131; refine (objFits_any ob now ad cap _ lo hi (by simp; omega) hf (hcA _)).mono ?_; rintro e w1 ⟨rfl, hb1⟩; have k1 := box_cell hb1 1; have k2 := box_cell hb1 2; have k3 := box_cell hb1 3; have k4 := box_cell hb1 4; have k5 := box_cell hb1 5; have k6 := box_cell hb1 6; have k7 := box_cell hb1 7; have k8 := box_cell hb1 8; simp only [List.getElem?_toArray, List.getElem?_cons_succ, List.getElem?_cons_zero] at k1 k2 k3 k4 k5 k6 k7 k8; rw [hp])
      go_wp2_with (go_at_call 132; refine (mayStand_any ob ad cap _ hfh).mono ?_; rintro e w2 ⟨rfl, hb2⟩)
      go_ret
      exact ⟨ret_bool HE.out.symm, (below_alloc' _ _).trans ((hb1.mono (by simp)).trans (hb2.mono (by have := hb1.size; simp at this; omega)))⟩
  · have HE := hid (show chgB ⟨ve, go, ob⟩ now = false by unfold chgB; simp [hv])
    have HV := hid hv
    go_enter Tryz.func133, Tryz.ntmps133
    go_wp2
    go_ret
    exact ⟨ret_bool HE.out.symm, below_alloc' _ _⟩
end Go.Proofs.YtkecnaaacbckoaaGreat
