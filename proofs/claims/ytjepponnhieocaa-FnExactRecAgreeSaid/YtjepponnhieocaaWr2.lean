import Derived.Test.YtjepponnhieocaaW
namespace Go.Proofs.Ytjepponnhieocaa
open Go.RowKit
set_option maxRecDepth 100000 in
set_option maxHeartbeats 8000000 in
theorem iv9ff (r0 : Rc) (A : RcA) (w : World) (lo hi : Nat) (hhi : hi ≤ w.heap.size) (hf : RcFit (setR r0 false false r0.up)) (hn : RcNew (setR r0 false false r0.up) A) (hc : RcIn w lo hi (setR r0 false false r0.up) A) (h0 : numOk (setR r0 false false r0.up).num (setR r0 false false r0.up).of = true) (h1 : dkB (setR r0 false false r0.up).sf = true) (h2 : dkB (setR r0 false false r0.up).dk = true) (h3 : heldB (setR r0 false false r0.up) = true) (h4 : wishesB (setR r0 false false r0.up).wn (setR r0 false false r0.up).ws = true) (h5 : inB (setR r0 false false r0.up).hd 0 1000000 = true) (h6 : numB (setR r0 false false r0.up).of (setR r0 false false r0.up).yn (setR r0 false false r0.up).ys = true) (h7 : slsB (setR r0 false false r0.up).bn (setR r0 false false r0.up).bs = true) (h8 : aksB (setR r0 false false r0.up).of (setR r0 false false r0.up).an (setR r0 false false r0.up).as_ = true) (h9 : quietB (setR r0 false false r0.up) = false) :
    Calls Try.prog 70 #[rcV (setR r0 false false r0.up) A] w fun e w' => e = .returned (.bool false) ∧ Below w.heap.size w w' := by
  have HF := hid hf
  obtain ⟨⟨ga, ea⟩, ⟨gb, eb⟩, ⟨gc, ec⟩, cs, cd, cw⟩ := hn
  have hcs : (setR r0 false false r0.up).sf.n ≤ A.sc := by omega
  have hcd : (setR r0 false false r0.up).dk.n ≤ A.dc := by omega
  have hcw : (setR r0 false false r0.up).wn ≤ A.wc := by omega
  have HC := hid hc
  have HEA := hid ea
  have HEB := hid eb
  have HEC := hid ec
  clear hf hc ea eb ec cs cd cw
  have mark : Nat := 0
  go_enter Try.func70, Try.ntmps70
  go_wp2_with (first | ((with_reducible show wpList _ _ _ (⟨some 3, _, _, _, _, _⟩ :: _) _ _); clear mark; have hB0 := below_alloc w (.cells (rcC (setR r0 false false r0.up) A) 58); have H0 := holds_new w (rcC (setR r0 false false r0.up) A) 58; have hz0 : w.heap.size < (w.alloc (.cells (rcC (setR r0 false false r0.up) A) 58)).heap.size := (by simp); generalize w.alloc (.cells (rcC (setR r0 false false r0.up) A) 58) = W at *; obtain ⟨p0, p1, p2, p3, p4, p5, p6, p7, p8, p9, p10, p11, p12, p13, p14, p15, p16, p17⟩ := holds18 H0))
  all_goals
    have hne : Nonempty (GW W) := ⟨⟨W, Below.refl _ _⟩⟩
    have q0 := subcell p0 hz0
    have q1 := subcell p1 hz0
    have q2 := subcell p2 hz0
    have q3 := subcell p3 hz0
    have q4 := subcell p4 hz0
    have q5 := subcell p5 hz0
    have q6 := subcell p6 hz0
    have q7 := subcell p7 hz0
    have q8 := subcell p8 hz0
    have q9 := subcell p9 hz0
    have q10 := subcell p10 hz0
    have q11 := subcell p11 hz0
    have q12 := subcell p12 hz0
    have q13 := subcell p13 hz0
    have q14 := subcell p14 hz0
    have q15 := subcell p15 hz0
    have q16 := subcell p16 hz0
    have q17 := subcell p17 hz0
    clear p0 p1 p2 p3 p4 p5 p6 p7 p8 p9 p10 p11 p12 p13 p14 p15 p16 p17
    have hw : ∀ u : GW W, hi ≤ u.val.heap.size := fun u => Nat.le_trans hhi (Nat.le_trans hB0.size u.prop.size)
    have HI : ∀ u : GW W, RcIn u.val lo hi (setR r0 false false r0.up) A := fun u => HC.out.below (hB0.trans (u.prop.mono hB0.size)) hhi
    have hs : ∀ u : GW W, SlsIn u.val lo hi (some ⟨ga, 0, none⟩) (setR r0 false false r0.up).sf.n (setR r0 false false r0.up).sf.s := fun u => HEA.out ▸ (HI u).sf
    have hd : ∀ u : GW W, SlsIn u.val lo hi (some ⟨gb, 0, none⟩) (setR r0 false false r0.up).dk.n (setR r0 false false r0.up).dk.s := fun u => HEB.out ▸ (HI u).dk
    have hws : ∀ u : GW W, StrsIn u.val lo hi (some ⟨gc, 0, none⟩) (setR r0 false false r0.up).wn (setR r0 false false r0.up).ws := fun u => HEC.out ▸ (HI u).ws
    have hD1 : ∀ u : GW W, Calls Try.prog 109 #[dkV (setR r0 false false r0.up).sf A.sa A.sc] u.val fun e w' => e = .returned (.bool (dkB (setR r0 false false r0.up).sf)) ∧ Below u.val.heap.size u.val w' := fun u => by
      rw [HEA.out]; exact implDisk_any (setR r0 false false r0.up).sf ga 0 A.sc _ lo hi (hw _) HF.out.sf hcs (hs _)
    have hD2 : ∀ u : GW W, Calls Try.prog 109 #[dkV (setR r0 false false r0.up).dk A.da A.dc] u.val fun e w' => e = .returned (.bool (dkB (setR r0 false false r0.up).dk)) ∧ Below u.val.heap.size u.val w' := fun u => by
      rw [HEB.out]; exact implDisk_any (setR r0 false false r0.up).dk gb 0 A.dc _ lo hi (hw _) HF.out.dk hcd (hd _)
    have hD3 : ∀ u : GW W, Calls Try.prog 111 #[.slice A.wa (setR r0 false false r0.up).wn A.wc] u.val fun e w' => e = .returned (.bool (wishesB (setR r0 false false r0.up).wn (setR r0 false false r0.up).ws)) ∧ Below u.val.heap.size u.val w' := fun u => by
      rw [HEC.out]; exact below_same (wishes_any (setR r0 false false r0.up).wn (setR r0 false false r0.up).ws gc 0 A.wc _ lo hi HF.out.wn hcw HF.out.ws (hws _))
    have hm := meth116
    have hRole : ∀ u : GW W, Calls Try.prog 115 #[rcV (setR r0 false false r0.up) A] u.val fun e w' => e = .returned (.iface 158 (.agg #[])) ∧ Below u.val.heap.size u.val w' := fun u => (role_any (setR r0 false false r0.up) A u.val).mono (fun _ _ h => by simpa using h)
    refine wp_region_grow (by kernel_rfl) (by kernel_rfl) ?_
    have HRG : Hid (∀ w', (∃ u : GW W, w' = u.val) → w'.rangeAt w.heap.size 0 (rcC (setR r0 false false r0.up) A).toList) := hid (fun w' ⟨u, hu⟩ => by rw [hu]; exact Holds.range (cs := (rcC (setR r0 false false r0.up) A).toList) (H0.below u.prop hz0))
    clear H0
    repeat (first | ((with_reducible show wpQuiet _ _ _ _ (⟨_, Op.load 58 _, _, _, _, _⟩ :: _) _); refine wpQuiet_load_step ?hw 58 _ rfl w.heap.size rfl (rcC (setR r0 false false r0.up) A).toList _ HRG.out Try.underlying58 rfl Try.sz58 (fun K hK => ?_); (case hw => (go_simp; done)); go_simp; refine hK _ ?_; clear hK K) | (go_big_quiet_step ((first | (go_at_call 32; go_must (exact grow_of (below_same (isNumber_any _ _ _)))) | (go_at_call 109; first | (with_reducible exact grow_of (hD1 _)) | (with_reducible exact grow_of (hD2 _))) | (go_at_call 110; go_must (exact grow_of (heldFits_any (setR r0 false false r0.up) A _ lo hi (hw _) HF.out ((HI _).hs)))) | (go_at_call 111; go_must (with_reducible exact grow_of (hD3 _))) | (go_at_call 80; go_must (exact grow_of (below_same (within_any _ _ _ _)))) | (go_at_call 112; go_must (exact grow_of (below_drew (numbers_any (setR r0 false false r0.up).of (setR r0 false false r0.up).yn (setR r0 false false r0.up).ys A.ya A.yc _ lo hi (by have := HF.out.yn; omega) ((HI _).ys))))) | (go_at_call 113; go_must (exact grow_of (slotsOk_any (setR r0 false false r0.up).bn (setR r0 false false r0.up).bs A.ba A.bc _ lo hi (hw _) HF.out.bn HF.out.bs ((HI _).bs)))) | (go_at_call 114; go_must (exact grow_of (acks_any (setR r0 false false r0.up).of (setR r0 false false r0.up).an (setR r0 false false r0.up).as_ A.aa A.ac _ lo hi (hw _) (by have := HF.out.an; omega) (fun i h => by have := (HF.out.as_ i h).n; omega) ((HI _).as_)))) | (go_at_call 115; go_must (exact grow_of (hRole _))) | (go_at_call 144; go_must (exact grow_of (fitsLead_any (setR r0 false false r0.up) A _))) | (go_at_call 146; go_must (exact grow_of (fitsTry_any (setR r0 false false r0.up) A _))) | (go_at_call 147; go_must (exact grow_of (fitsQuiet_any (setR r0 false false r0.up) A _))) | (go_at_call 116; go_must (exact grow_of (isBare_any (setR r0 false false r0.up) A _)))))) | (refine wpQuiet_step (fun K hK => ?_); go_simp; refine hK _ ?_; clear hK K))
    refine wpQuiet_nil ?_
    rintro w2 ⟨u, hu⟩
    have hw2 : Below W.heap.size W w2 := hu ▸ u.prop
    clear hu u
    go_wp2
    go_ret
    exact ⟨rfl, hB0.trans (hw2.mono hB0.size)⟩
set_option maxRecDepth 100000 in
set_option maxHeartbeats 8000000 in
theorem iv10ff (r0 : Rc) (A : RcA) (w : World) (lo hi : Nat) (hhi : hi ≤ w.heap.size) (hf : RcFit (setR r0 false false false)) (hn : RcNew (setR r0 false false false) A) (hc : RcIn w lo hi (setR r0 false false false) A) (h0 : numOk (setR r0 false false false).num (setR r0 false false false).of = true) (h1 : dkB (setR r0 false false false).sf = true) (h2 : dkB (setR r0 false false false).dk = true) (h3 : heldB (setR r0 false false false) = true) (h4 : wishesB (setR r0 false false false).wn (setR r0 false false false).ws = true) (h5 : inB (setR r0 false false false).hd 0 1000000 = true) (h6 : numB (setR r0 false false false).of (setR r0 false false false).yn (setR r0 false false false).ys = true) (h7 : slsB (setR r0 false false false).bn (setR r0 false false false).bs = true) (h8 : aksB (setR r0 false false false).of (setR r0 false false false).an (setR r0 false false false).as_ = true) (h9 : quietB (setR r0 false false false) = true) (h10 : bareB (setR r0 false false false) = false) :
    Calls Try.prog 70 #[rcV (setR r0 false false false) A] w fun e w' => e = .returned (.bool false) ∧ Below w.heap.size w w' := by
  have HF := hid hf
  obtain ⟨⟨ga, ea⟩, ⟨gb, eb⟩, ⟨gc, ec⟩, cs, cd, cw⟩ := hn
  have hcs : (setR r0 false false false).sf.n ≤ A.sc := by omega
  have hcd : (setR r0 false false false).dk.n ≤ A.dc := by omega
  have hcw : (setR r0 false false false).wn ≤ A.wc := by omega
  have HC := hid hc
  have HEA := hid ea
  have HEB := hid eb
  have HEC := hid ec
  clear hf hc ea eb ec cs cd cw
  have mark : Nat := 0
  go_enter Try.func70, Try.ntmps70
  go_wp2_with (first | ((with_reducible show wpList _ _ _ (⟨some 3, _, _, _, _, _⟩ :: _) _ _); clear mark; have hB0 := below_alloc w (.cells (rcC (setR r0 false false false) A) 58); have H0 := holds_new w (rcC (setR r0 false false false) A) 58; have hz0 : w.heap.size < (w.alloc (.cells (rcC (setR r0 false false false) A) 58)).heap.size := (by simp); generalize w.alloc (.cells (rcC (setR r0 false false false) A) 58) = W at *; obtain ⟨p0, p1, p2, p3, p4, p5, p6, p7, p8, p9, p10, p11, p12, p13, p14, p15, p16, p17⟩ := holds18 H0))
  all_goals
    have hne : Nonempty (GW W) := ⟨⟨W, Below.refl _ _⟩⟩
    have q0 := subcell p0 hz0
    have q1 := subcell p1 hz0
    have q2 := subcell p2 hz0
    have q3 := subcell p3 hz0
    have q4 := subcell p4 hz0
    have q5 := subcell p5 hz0
    have q6 := subcell p6 hz0
    have q7 := subcell p7 hz0
    have q8 := subcell p8 hz0
    have q9 := subcell p9 hz0
    have q10 := subcell p10 hz0
    have q11 := subcell p11 hz0
    have q12 := subcell p12 hz0
    have q13 := subcell p13 hz0
    have q14 := subcell p14 hz0
    have q15 := subcell p15 hz0
    have q16 := subcell p16 hz0
    have q17 := subcell p17 hz0
    clear p0 p1 p2 p3 p4 p5 p6 p7 p8 p9 p10 p11 p12 p13 p14 p15 p16 p17
    have hw : ∀ u : GW W, hi ≤ u.val.heap.size := fun u => Nat.le_trans hhi (Nat.le_trans hB0.size u.prop.size)
    have HI : ∀ u : GW W, RcIn u.val lo hi (setR r0 false false false) A := fun u => HC.out.below (hB0.trans (u.prop.mono hB0.size)) hhi
    have hs : ∀ u : GW W, SlsIn u.val lo hi (some ⟨ga, 0, none⟩) (setR r0 false false false).sf.n (setR r0 false false false).sf.s := fun u => HEA.out ▸ (HI u).sf
    have hd : ∀ u : GW W, SlsIn u.val lo hi (some ⟨gb, 0, none⟩) (setR r0 false false false).dk.n (setR r0 false false false).dk.s := fun u => HEB.out ▸ (HI u).dk
    have hws : ∀ u : GW W, StrsIn u.val lo hi (some ⟨gc, 0, none⟩) (setR r0 false false false).wn (setR r0 false false false).ws := fun u => HEC.out ▸ (HI u).ws
    have hD1 : ∀ u : GW W, Calls Try.prog 109 #[dkV (setR r0 false false false).sf A.sa A.sc] u.val fun e w' => e = .returned (.bool (dkB (setR r0 false false false).sf)) ∧ Below u.val.heap.size u.val w' := fun u => by
      rw [HEA.out]; exact implDisk_any (setR r0 false false false).sf ga 0 A.sc _ lo hi (hw _) HF.out.sf hcs (hs _)
    have hD2 : ∀ u : GW W, Calls Try.prog 109 #[dkV (setR r0 false false false).dk A.da A.dc] u.val fun e w' => e = .returned (.bool (dkB (setR r0 false false false).dk)) ∧ Below u.val.heap.size u.val w' := fun u => by
      rw [HEB.out]; exact implDisk_any (setR r0 false false false).dk gb 0 A.dc _ lo hi (hw _) HF.out.dk hcd (hd _)
    have hD3 : ∀ u : GW W, Calls Try.prog 111 #[.slice A.wa (setR r0 false false false).wn A.wc] u.val fun e w' => e = .returned (.bool (wishesB (setR r0 false false false).wn (setR r0 false false false).ws)) ∧ Below u.val.heap.size u.val w' := fun u => by
      rw [HEC.out]; exact below_same (wishes_any (setR r0 false false false).wn (setR r0 false false false).ws gc 0 A.wc _ lo hi HF.out.wn hcw HF.out.ws (hws _))
    have hm := meth116
    have hRole : ∀ u : GW W, Calls Try.prog 115 #[rcV (setR r0 false false false) A] u.val fun e w' => e = .returned (.iface 158 (.agg #[])) ∧ Below u.val.heap.size u.val w' := fun u => (role_any (setR r0 false false false) A u.val).mono (fun _ _ h => by simpa using h)
    refine wp_region_grow (by kernel_rfl) (by kernel_rfl) ?_
    have HRG : Hid (∀ w', (∃ u : GW W, w' = u.val) → w'.rangeAt w.heap.size 0 (rcC (setR r0 false false false) A).toList) := hid (fun w' ⟨u, hu⟩ => by rw [hu]; exact Holds.range (cs := (rcC (setR r0 false false false) A).toList) (H0.below u.prop hz0))
    clear H0
    repeat (first | ((with_reducible show wpQuiet _ _ _ _ (⟨_, Op.load 58 _, _, _, _, _⟩ :: _) _); refine wpQuiet_load_step ?hw 58 _ rfl w.heap.size rfl (rcC (setR r0 false false false) A).toList _ HRG.out Try.underlying58 rfl Try.sz58 (fun K hK => ?_); (case hw => (go_simp; done)); go_simp; refine hK _ ?_; clear hK K) | (go_big_quiet_step ((first | (go_at_call 32; go_must (exact grow_of (below_same (isNumber_any _ _ _)))) | (go_at_call 109; first | (with_reducible exact grow_of (hD1 _)) | (with_reducible exact grow_of (hD2 _))) | (go_at_call 110; go_must (exact grow_of (heldFits_any (setR r0 false false false) A _ lo hi (hw _) HF.out ((HI _).hs)))) | (go_at_call 111; go_must (with_reducible exact grow_of (hD3 _))) | (go_at_call 80; go_must (exact grow_of (below_same (within_any _ _ _ _)))) | (go_at_call 112; go_must (exact grow_of (below_drew (numbers_any (setR r0 false false false).of (setR r0 false false false).yn (setR r0 false false false).ys A.ya A.yc _ lo hi (by have := HF.out.yn; omega) ((HI _).ys))))) | (go_at_call 113; go_must (exact grow_of (slotsOk_any (setR r0 false false false).bn (setR r0 false false false).bs A.ba A.bc _ lo hi (hw _) HF.out.bn HF.out.bs ((HI _).bs)))) | (go_at_call 114; go_must (exact grow_of (acks_any (setR r0 false false false).of (setR r0 false false false).an (setR r0 false false false).as_ A.aa A.ac _ lo hi (hw _) (by have := HF.out.an; omega) (fun i h => by have := (HF.out.as_ i h).n; omega) ((HI _).as_)))) | (go_at_call 115; go_must (exact grow_of (hRole _))) | (go_at_call 144; go_must (exact grow_of (fitsLead_any (setR r0 false false false) A _))) | (go_at_call 146; go_must (exact grow_of (fitsTry_any (setR r0 false false false) A _))) | (go_at_call 147; go_must (exact grow_of (fitsQuiet_any (setR r0 false false false) A _))) | (go_at_call 116; go_must (exact grow_of (isBare_any (setR r0 false false false) A _)))))) | (refine wpQuiet_step (fun K hK => ?_); go_simp; refine hK _ ?_; clear hK K))
    refine wpQuiet_nil ?_
    rintro w2 ⟨u, hu⟩
    have hw2 : Below W.heap.size W w2 := hu ▸ u.prop
    clear hu u
    go_wp2
    go_ret
    exact ⟨rfl, hB0.trans (hw2.mono hB0.size)⟩
set_option maxRecDepth 100000 in
set_option maxHeartbeats 8000000 in
theorem iv11uff (r0 : Rc) (A : RcA) (w : World) (lo hi : Nat) (hhi : hi ≤ w.heap.size) (hf : RcFit (setR r0 false false true)) (hn : RcNew (setR r0 false false true) A) (hc : RcIn w lo hi (setR r0 false false true) A) (h0 : numOk (setR r0 false false true).num (setR r0 false false true).of = true) (h1 : dkB (setR r0 false false true).sf = true) (h2 : dkB (setR r0 false false true).dk = true) (h3 : heldB (setR r0 false false true) = true) (h4 : wishesB (setR r0 false false true).wn (setR r0 false false true).ws = true) (h5 : inB (setR r0 false false true).hd 0 1000000 = true) (h6 : numB (setR r0 false false true).of (setR r0 false false true).yn (setR r0 false false true).ys = true) (h7 : slsB (setR r0 false false true).bn (setR r0 false false true).bs = true) (h8 : aksB (setR r0 false false true).of (setR r0 false false true).an (setR r0 false false true).as_ = true) (h9 : quietB (setR r0 false false true) = true) :
    Calls Try.prog 70 #[rcV (setR r0 false false true) A] w fun e w' => e = .returned (.bool true) ∧ Below w.heap.size w w' := by
  have HF := hid hf
  obtain ⟨⟨ga, ea⟩, ⟨gb, eb⟩, ⟨gc, ec⟩, cs, cd, cw⟩ := hn
  have hcs : (setR r0 false false true).sf.n ≤ A.sc := by omega
  have hcd : (setR r0 false false true).dk.n ≤ A.dc := by omega
  have hcw : (setR r0 false false true).wn ≤ A.wc := by omega
  have HC := hid hc
  have HEA := hid ea
  have HEB := hid eb
  have HEC := hid ec
  clear hf hc ea eb ec cs cd cw
  have mark : Nat := 0
  go_enter Try.func70, Try.ntmps70
  go_wp2_with (first | ((with_reducible show wpList _ _ _ (⟨some 3, _, _, _, _, _⟩ :: _) _ _); clear mark; have hB0 := below_alloc w (.cells (rcC (setR r0 false false true) A) 58); have H0 := holds_new w (rcC (setR r0 false false true) A) 58; have hz0 : w.heap.size < (w.alloc (.cells (rcC (setR r0 false false true) A) 58)).heap.size := (by simp); generalize w.alloc (.cells (rcC (setR r0 false false true) A) 58) = W at *; obtain ⟨p0, p1, p2, p3, p4, p5, p6, p7, p8, p9, p10, p11, p12, p13, p14, p15, p16, p17⟩ := holds18 H0))
  all_goals
    have hne : Nonempty (GW W) := ⟨⟨W, Below.refl _ _⟩⟩
    have q0 := subcell p0 hz0
    have q1 := subcell p1 hz0
    have q2 := subcell p2 hz0
    have q3 := subcell p3 hz0
    have q4 := subcell p4 hz0
    have q5 := subcell p5 hz0
    have q6 := subcell p6 hz0
    have q7 := subcell p7 hz0
    have q8 := subcell p8 hz0
    have q9 := subcell p9 hz0
    have q10 := subcell p10 hz0
    have q11 := subcell p11 hz0
    have q12 := subcell p12 hz0
    have q13 := subcell p13 hz0
    have q14 := subcell p14 hz0
    have q15 := subcell p15 hz0
    have q16 := subcell p16 hz0
    have q17 := subcell p17 hz0
    clear p0 p1 p2 p3 p4 p5 p6 p7 p8 p9 p10 p11 p12 p13 p14 p15 p16 p17
    have hw : ∀ u : GW W, hi ≤ u.val.heap.size := fun u => Nat.le_trans hhi (Nat.le_trans hB0.size u.prop.size)
    have HI : ∀ u : GW W, RcIn u.val lo hi (setR r0 false false true) A := fun u => HC.out.below (hB0.trans (u.prop.mono hB0.size)) hhi
    have hs : ∀ u : GW W, SlsIn u.val lo hi (some ⟨ga, 0, none⟩) (setR r0 false false true).sf.n (setR r0 false false true).sf.s := fun u => HEA.out ▸ (HI u).sf
    have hd : ∀ u : GW W, SlsIn u.val lo hi (some ⟨gb, 0, none⟩) (setR r0 false false true).dk.n (setR r0 false false true).dk.s := fun u => HEB.out ▸ (HI u).dk
    have hws : ∀ u : GW W, StrsIn u.val lo hi (some ⟨gc, 0, none⟩) (setR r0 false false true).wn (setR r0 false false true).ws := fun u => HEC.out ▸ (HI u).ws
    have hD1 : ∀ u : GW W, Calls Try.prog 109 #[dkV (setR r0 false false true).sf A.sa A.sc] u.val fun e w' => e = .returned (.bool (dkB (setR r0 false false true).sf)) ∧ Below u.val.heap.size u.val w' := fun u => by
      rw [HEA.out]; exact implDisk_any (setR r0 false false true).sf ga 0 A.sc _ lo hi (hw _) HF.out.sf hcs (hs _)
    have hD2 : ∀ u : GW W, Calls Try.prog 109 #[dkV (setR r0 false false true).dk A.da A.dc] u.val fun e w' => e = .returned (.bool (dkB (setR r0 false false true).dk)) ∧ Below u.val.heap.size u.val w' := fun u => by
      rw [HEB.out]; exact implDisk_any (setR r0 false false true).dk gb 0 A.dc _ lo hi (hw _) HF.out.dk hcd (hd _)
    have hD3 : ∀ u : GW W, Calls Try.prog 111 #[.slice A.wa (setR r0 false false true).wn A.wc] u.val fun e w' => e = .returned (.bool (wishesB (setR r0 false false true).wn (setR r0 false false true).ws)) ∧ Below u.val.heap.size u.val w' := fun u => by
      rw [HEC.out]; exact below_same (wishes_any (setR r0 false false true).wn (setR r0 false false true).ws gc 0 A.wc _ lo hi HF.out.wn hcw HF.out.ws (hws _))
    have hm := meth116
    have hRole : ∀ u : GW W, Calls Try.prog 115 #[rcV (setR r0 false false true) A] u.val fun e w' => e = .returned (.iface 158 (.agg #[])) ∧ Below u.val.heap.size u.val w' := fun u => (role_any (setR r0 false false true) A u.val).mono (fun _ _ h => by simpa using h)
    refine wp_region_grow (by kernel_rfl) (by kernel_rfl) ?_
    have HRG : Hid (∀ w', (∃ u : GW W, w' = u.val) → w'.rangeAt w.heap.size 0 (rcC (setR r0 false false true) A).toList) := hid (fun w' ⟨u, hu⟩ => by rw [hu]; exact Holds.range (cs := (rcC (setR r0 false false true) A).toList) (H0.below u.prop hz0))
    clear H0
    repeat (first | ((with_reducible show wpQuiet _ _ _ _ (⟨_, Op.load 58 _, _, _, _, _⟩ :: _) _); refine wpQuiet_load_step ?hw 58 _ rfl w.heap.size rfl (rcC (setR r0 false false true) A).toList _ HRG.out Try.underlying58 rfl Try.sz58 (fun K hK => ?_); (case hw => (go_simp; done)); go_simp; refine hK _ ?_; clear hK K) | (go_big_quiet_step ((first | (go_at_call 32; go_must (exact grow_of (below_same (isNumber_any _ _ _)))) | (go_at_call 109; first | (with_reducible exact grow_of (hD1 _)) | (with_reducible exact grow_of (hD2 _))) | (go_at_call 110; go_must (exact grow_of (heldFits_any (setR r0 false false true) A _ lo hi (hw _) HF.out ((HI _).hs)))) | (go_at_call 111; go_must (with_reducible exact grow_of (hD3 _))) | (go_at_call 80; go_must (exact grow_of (below_same (within_any _ _ _ _)))) | (go_at_call 112; go_must (exact grow_of (below_drew (numbers_any (setR r0 false false true).of (setR r0 false false true).yn (setR r0 false false true).ys A.ya A.yc _ lo hi (by have := HF.out.yn; omega) ((HI _).ys))))) | (go_at_call 113; go_must (exact grow_of (slotsOk_any (setR r0 false false true).bn (setR r0 false false true).bs A.ba A.bc _ lo hi (hw _) HF.out.bn HF.out.bs ((HI _).bs)))) | (go_at_call 114; go_must (exact grow_of (acks_any (setR r0 false false true).of (setR r0 false false true).an (setR r0 false false true).as_ A.aa A.ac _ lo hi (hw _) (by have := HF.out.an; omega) (fun i h => by have := (HF.out.as_ i h).n; omega) ((HI _).as_)))) | (go_at_call 115; go_must (exact grow_of (hRole _))) | (go_at_call 144; go_must (exact grow_of (fitsLead_any (setR r0 false false true) A _))) | (go_at_call 146; go_must (exact grow_of (fitsTry_any (setR r0 false false true) A _))) | (go_at_call 147; go_must (exact grow_of (fitsQuiet_any (setR r0 false false true) A _))) | (go_at_call 116; go_must (exact grow_of (isBare_any (setR r0 false false true) A _)))))) | (refine wpQuiet_step (fun K hK => ?_); go_simp; refine hK _ ?_; clear hK K))
    refine wpQuiet_nil ?_
    rintro w2 ⟨u, hu⟩
    have hw2 : Below W.heap.size W w2 := hu ▸ u.prop
    clear hu u
    go_wp2
    go_ret
    exact ⟨rfl, hB0.trans (hw2.mono hB0.size)⟩
set_option maxRecDepth 100000 in
set_option maxHeartbeats 8000000 in
theorem iv11bff (r0 : Rc) (A : RcA) (w : World) (lo hi : Nat) (hhi : hi ≤ w.heap.size) (hf : RcFit (setR r0 false false false)) (hn : RcNew (setR r0 false false false) A) (hc : RcIn w lo hi (setR r0 false false false) A) (h0 : numOk (setR r0 false false false).num (setR r0 false false false).of = true) (h1 : dkB (setR r0 false false false).sf = true) (h2 : dkB (setR r0 false false false).dk = true) (h3 : heldB (setR r0 false false false) = true) (h4 : wishesB (setR r0 false false false).wn (setR r0 false false false).ws = true) (h5 : inB (setR r0 false false false).hd 0 1000000 = true) (h6 : numB (setR r0 false false false).of (setR r0 false false false).yn (setR r0 false false false).ys = true) (h7 : slsB (setR r0 false false false).bn (setR r0 false false false).bs = true) (h8 : aksB (setR r0 false false false).of (setR r0 false false false).an (setR r0 false false false).as_ = true) (h9 : quietB (setR r0 false false false) = true) (h10 : bareB (setR r0 false false false) = true) :
    Calls Try.prog 70 #[rcV (setR r0 false false false) A] w fun e w' => e = .returned (.bool true) ∧ Below w.heap.size w w' := by
  have HF := hid hf
  obtain ⟨⟨ga, ea⟩, ⟨gb, eb⟩, ⟨gc, ec⟩, cs, cd, cw⟩ := hn
  have hcs : (setR r0 false false false).sf.n ≤ A.sc := by omega
  have hcd : (setR r0 false false false).dk.n ≤ A.dc := by omega
  have hcw : (setR r0 false false false).wn ≤ A.wc := by omega
  have HC := hid hc
  have HEA := hid ea
  have HEB := hid eb
  have HEC := hid ec
  clear hf hc ea eb ec cs cd cw
  have mark : Nat := 0
  go_enter Try.func70, Try.ntmps70
  go_wp2_with (first | ((with_reducible show wpList _ _ _ (⟨some 3, _, _, _, _, _⟩ :: _) _ _); clear mark; have hB0 := below_alloc w (.cells (rcC (setR r0 false false false) A) 58); have H0 := holds_new w (rcC (setR r0 false false false) A) 58; have hz0 : w.heap.size < (w.alloc (.cells (rcC (setR r0 false false false) A) 58)).heap.size := (by simp); generalize w.alloc (.cells (rcC (setR r0 false false false) A) 58) = W at *; obtain ⟨p0, p1, p2, p3, p4, p5, p6, p7, p8, p9, p10, p11, p12, p13, p14, p15, p16, p17⟩ := holds18 H0))
  all_goals
    have hne : Nonempty (GW W) := ⟨⟨W, Below.refl _ _⟩⟩
    have q0 := subcell p0 hz0
    have q1 := subcell p1 hz0
    have q2 := subcell p2 hz0
    have q3 := subcell p3 hz0
    have q4 := subcell p4 hz0
    have q5 := subcell p5 hz0
    have q6 := subcell p6 hz0
    have q7 := subcell p7 hz0
    have q8 := subcell p8 hz0
    have q9 := subcell p9 hz0
    have q10 := subcell p10 hz0
    have q11 := subcell p11 hz0
    have q12 := subcell p12 hz0
    have q13 := subcell p13 hz0
    have q14 := subcell p14 hz0
    have q15 := subcell p15 hz0
    have q16 := subcell p16 hz0
    have q17 := subcell p17 hz0
    clear p0 p1 p2 p3 p4 p5 p6 p7 p8 p9 p10 p11 p12 p13 p14 p15 p16 p17
    have hw : ∀ u : GW W, hi ≤ u.val.heap.size := fun u => Nat.le_trans hhi (Nat.le_trans hB0.size u.prop.size)
    have HI : ∀ u : GW W, RcIn u.val lo hi (setR r0 false false false) A := fun u => HC.out.below (hB0.trans (u.prop.mono hB0.size)) hhi
    have hs : ∀ u : GW W, SlsIn u.val lo hi (some ⟨ga, 0, none⟩) (setR r0 false false false).sf.n (setR r0 false false false).sf.s := fun u => HEA.out ▸ (HI u).sf
    have hd : ∀ u : GW W, SlsIn u.val lo hi (some ⟨gb, 0, none⟩) (setR r0 false false false).dk.n (setR r0 false false false).dk.s := fun u => HEB.out ▸ (HI u).dk
    have hws : ∀ u : GW W, StrsIn u.val lo hi (some ⟨gc, 0, none⟩) (setR r0 false false false).wn (setR r0 false false false).ws := fun u => HEC.out ▸ (HI u).ws
    have hD1 : ∀ u : GW W, Calls Try.prog 109 #[dkV (setR r0 false false false).sf A.sa A.sc] u.val fun e w' => e = .returned (.bool (dkB (setR r0 false false false).sf)) ∧ Below u.val.heap.size u.val w' := fun u => by
      rw [HEA.out]; exact implDisk_any (setR r0 false false false).sf ga 0 A.sc _ lo hi (hw _) HF.out.sf hcs (hs _)
    have hD2 : ∀ u : GW W, Calls Try.prog 109 #[dkV (setR r0 false false false).dk A.da A.dc] u.val fun e w' => e = .returned (.bool (dkB (setR r0 false false false).dk)) ∧ Below u.val.heap.size u.val w' := fun u => by
      rw [HEB.out]; exact implDisk_any (setR r0 false false false).dk gb 0 A.dc _ lo hi (hw _) HF.out.dk hcd (hd _)
    have hD3 : ∀ u : GW W, Calls Try.prog 111 #[.slice A.wa (setR r0 false false false).wn A.wc] u.val fun e w' => e = .returned (.bool (wishesB (setR r0 false false false).wn (setR r0 false false false).ws)) ∧ Below u.val.heap.size u.val w' := fun u => by
      rw [HEC.out]; exact below_same (wishes_any (setR r0 false false false).wn (setR r0 false false false).ws gc 0 A.wc _ lo hi HF.out.wn hcw HF.out.ws (hws _))
    have hm := meth116
    have hRole : ∀ u : GW W, Calls Try.prog 115 #[rcV (setR r0 false false false) A] u.val fun e w' => e = .returned (.iface 158 (.agg #[])) ∧ Below u.val.heap.size u.val w' := fun u => (role_any (setR r0 false false false) A u.val).mono (fun _ _ h => by simpa using h)
    refine wp_region_grow (by kernel_rfl) (by kernel_rfl) ?_
    have HRG : Hid (∀ w', (∃ u : GW W, w' = u.val) → w'.rangeAt w.heap.size 0 (rcC (setR r0 false false false) A).toList) := hid (fun w' ⟨u, hu⟩ => by rw [hu]; exact Holds.range (cs := (rcC (setR r0 false false false) A).toList) (H0.below u.prop hz0))
    clear H0
    repeat (first | ((with_reducible show wpQuiet _ _ _ _ (⟨_, Op.load 58 _, _, _, _, _⟩ :: _) _); refine wpQuiet_load_step ?hw 58 _ rfl w.heap.size rfl (rcC (setR r0 false false false) A).toList _ HRG.out Try.underlying58 rfl Try.sz58 (fun K hK => ?_); (case hw => (go_simp; done)); go_simp; refine hK _ ?_; clear hK K) | (go_big_quiet_step ((first | (go_at_call 32; go_must (exact grow_of (below_same (isNumber_any _ _ _)))) | (go_at_call 109; first | (with_reducible exact grow_of (hD1 _)) | (with_reducible exact grow_of (hD2 _))) | (go_at_call 110; go_must (exact grow_of (heldFits_any (setR r0 false false false) A _ lo hi (hw _) HF.out ((HI _).hs)))) | (go_at_call 111; go_must (with_reducible exact grow_of (hD3 _))) | (go_at_call 80; go_must (exact grow_of (below_same (within_any _ _ _ _)))) | (go_at_call 112; go_must (exact grow_of (below_drew (numbers_any (setR r0 false false false).of (setR r0 false false false).yn (setR r0 false false false).ys A.ya A.yc _ lo hi (by have := HF.out.yn; omega) ((HI _).ys))))) | (go_at_call 113; go_must (exact grow_of (slotsOk_any (setR r0 false false false).bn (setR r0 false false false).bs A.ba A.bc _ lo hi (hw _) HF.out.bn HF.out.bs ((HI _).bs)))) | (go_at_call 114; go_must (exact grow_of (acks_any (setR r0 false false false).of (setR r0 false false false).an (setR r0 false false false).as_ A.aa A.ac _ lo hi (hw _) (by have := HF.out.an; omega) (fun i h => by have := (HF.out.as_ i h).n; omega) ((HI _).as_)))) | (go_at_call 115; go_must (exact grow_of (hRole _))) | (go_at_call 144; go_must (exact grow_of (fitsLead_any (setR r0 false false false) A _))) | (go_at_call 146; go_must (exact grow_of (fitsTry_any (setR r0 false false false) A _))) | (go_at_call 147; go_must (exact grow_of (fitsQuiet_any (setR r0 false false false) A _))) | (go_at_call 116; go_must (exact grow_of (isBare_any (setR r0 false false false) A _)))))) | (refine wpQuiet_step (fun K hK => ?_); go_simp; refine hK _ ?_; clear hK K))
    refine wpQuiet_nil ?_
    rintro w2 ⟨u, hu⟩
    have hw2 : Below W.heap.size W w2 := hu ▸ u.prop
    clear hu u
    go_wp2
    go_ret
    exact ⟨rfl, hB0.trans (hw2.mono hB0.size)⟩
end Go.Proofs.Ytjepponnhieocaa
