import Derived.Test.YtkecnaaacbckoaaGreatZ
namespace Go.Proofs.YtkecnaaacbckoaaGreat
open Go.RowKit Go.Maps
def tiB (t : Ti) (now : Int) : Bool := nameB t.client && (inB t.num 1 1000000 && (decide (t.print.size = 8) && (inB t.code 0 9 && inB t.ver 0 now)))
set_option maxRecDepth 100000 in
set_option maxHeartbeats 1000000 in
theorem ticket_any (t : Ti) (now : Int) (w : World) (hf : TiFit t) :
    Calls Tryz.prog 141 #[.agg #[.string t.client, .int .i64 t.num, .string t.print, .int .i64 t.code, .int .i64 t.ver], .int .i64 now] w fun e w' => e = .returned (.bool (tiB t now)) ∧ Below w.heap.size w w' := by
  have hfc := hf.c
  have hfp := hf.p
  cases hn : nameB t.client with
  | false =>
    have HE := hid (show tiB t now = false by unfold tiB; simp [hn])
    go_enter Tryz.func141, Tryz.ntmps141
    go_wp2_with (first | (go_at_call 160; refine (isName_any _ _ hfc).mono ?_; rintro e w1 ⟨rfl, rfl⟩; rw [hn]) | (go_at_call 60; refine (within_any _ _ _ _).mono ?_; rintro e w1 ⟨rfl, rfl⟩; skip))
    go_ret
    exact ⟨ret_bool HE.out.symm, below_alloc' _ _⟩
  | true =>
  cases h1 : inB t.num 1 1000000 with
  | false =>
    have HE := hid (show tiB t now = false by unfold tiB; simp [hn, h1])
    go_enter Tryz.func141, Tryz.ntmps141
    go_wp2_with (first | (go_at_call 160; refine (isName_any _ _ hfc).mono ?_; rintro e w1 ⟨rfl, rfl⟩; rw [hn]) | (go_at_call 60; refine (within_any _ _ _ _).mono ?_; rintro e w1 ⟨rfl, rfl⟩; first | rw [h1] | skip))
    go_ret
    exact ⟨ret_bool HE.out.symm, below_alloc' _ _⟩
  | true =>
  by_cases hp : t.print.size = 8
  case neg =>
    have hpz : ¬ (t.print.size : Int) = 8 := by omega
    have HE := hid (show tiB t now = false by unfold tiB; simp [hn, h1, hp])
    go_enter Tryz.func141, Tryz.ntmps141
    go_wp2_with (first | (go_at_call 160; refine (isName_any _ _ hfc).mono ?_; rintro e w1 ⟨rfl, rfl⟩; rw [hn]) | (go_at_call 60; refine (within_any _ _ _ _).mono ?_; rintro e w1 ⟨rfl, rfl⟩; first | rw [h1] | skip))
    go_ret
    exact ⟨ret_bool HE.out.symm, below_alloc' _ _⟩
  have hpz : (t.print.size : Int) = 8 := by omega
  cases h2 : inB t.code 0 9 with
  | false =>
    have HE := hid (show tiB t now = false by unfold tiB; simp [hn, h1, h2, hp])
    go_enter Tryz.func141, Tryz.ntmps141
    go_wp2_with (first | (go_at_call 160; refine (isName_any _ _ hfc).mono ?_; rintro e w1 ⟨rfl, rfl⟩; rw [hn]) | (go_at_call 60; refine (within_any _ _ _ _).mono ?_; rintro e w1 ⟨rfl, rfl⟩; first | rw [h1] | rw [h2] | skip))
    go_ret
    exact ⟨ret_bool HE.out.symm, below_alloc' _ _⟩
  | true =>
    have HE := hid (show tiB t now = inB t.ver 0 now by unfold tiB; simp [hn, h1, h2, hp])
    go_enter Tryz.func141, Tryz.ntmps141
    go_wp2_with (first | (go_at_call 160; refine (isName_any _ _ hfc).mono ?_; rintro e w1 ⟨rfl, rfl⟩; rw [hn]) | (go_at_call 60; refine (within_any _ _ _ _).mono ?_; rintro e w1 ⟨rfl, rfl⟩; first | rw [h1] | rw [h2] | skip))
    go_ret
    exact ⟨ret_bool HE.out.symm, below_alloc' _ _⟩
set_option maxRecDepth 100000 in
theorem tiBefore_any (x z : Ti) (w : World) :
    Calls Tryz.prog 140 #[.agg #[.string x.client, .int .i64 x.num, .string x.print, .int .i64 x.code, .int .i64 x.ver], .agg #[.string z.client, .int .i64 z.num, .string z.print, .int .i64 z.code, .int .i64 z.ver]] w fun e w' => e = .returned (.bool (ltB x.client z.client)) ∧ Below w.heap.size w w' := by
  go_enter Tryz.func140, Tryz.ntmps140
  go_wp2
  go_ret
  exact ⟨rfl, (below_alloc' _ _).alloc (by simp) _⟩
def tiAsc (n : Nat) (x : Nat → Ti) : Bool := allTo (fun i => i == 0 || ltB (x (i - 1)).client (x i).client) n
set_option maxRecDepth 100000 in
set_option maxHeartbeats 1000000 in
theorem tiAsc_any (n : Nat) (x : Nat → Ti) (ad : Option Addr) (cap : Nat) (w : World) (lo hi : Nat) (hhi : hi ≤ w.heap.size) (hl : (n : Int) ≤ 140737488355328) (hc : TicsIn w lo hi ad n x) :
    Calls Tryz.prog 139 #[.slice ad n cap, .func (.func 140) #[] #[]] w fun e w' => e = .returned (.bool (tiAsc n x)) ∧ Below w.heap.size w w' := by
  go_enter Tryz.func139, Tryz.ntmps139
  go_wp2
  go_loopw [5] (fun i wr => ∃ k : Nat, 1 ≤ k ∧ (k ≤ n ∨ k = 1) ∧ i = .int .i64 k ∧ (∀ j, j < k → (j == 0 || ltB (x (j - 1)).client (x j).client) = true) ∧ Below w.heap.size w wr) (fun i _ => n - (intOf i).toNat)
  case atStart => exact ⟨1, Nat.le_refl _, Or.inr rfl, rfl, fun j hj => (by have : j = 0 := by omega
                                                                            subst this; rfl), Below.refl _ _⟩
  case round =>
    obtain ⟨k, hk1, hk, rfl, hall, hb⟩ := hrel
    by_cases hkn : k < n
    · obtain ⟨m, rfl⟩ : ∃ m, k = m + 1 := ⟨k - 1, by omega⟩
      obtain ⟨b, off, rfl, hlo, hbh, hcx⟩ := hc (m + 1) hkn
      obtain ⟨b', off', e, _, hbh', hcm⟩ := hc m (by omega)
      cases e
      obtain ⟨d0, d1, d2, d3, d4⟩ := hcx.below hb (by omega)
      obtain ⟨q0, q1, q2, q3, q4⟩ := hcm.below hb (by omega)
      have hbw : b < wr.heap.size := by have := hb.size; omega
      have rd0 := subcell d0 hbw
      have rd1 := subcell d1 hbw
      have rd2 := subcell d2 hbw
      have rd3 := subcell d3 hbw
      have rd4 := subcell d4 hbw
      have rp0 := subcell q0 hbw
      have rp1 := subcell q1 hbw
      have rp2 := subcell q2 hbw
      have rp3 := subcell q3 hbw
      have rp4 := subcell q4 hbw
      have hne : Nonempty (GW wr) := ⟨⟨wr, Below.refl _ _⟩⟩
      have HA := hid hall
      have hkz : (m : Int) + 1 ≤ n := by omega
      clear hall hc hk hcx hcm d0 d1 d2 d3 d4 q0 q1 q2 q3 q4
      cases hlt : ltB (x m).client (x (m + 1)).client with
      | false =>
        have HE := hid (show tiAsc n x = false from allTo_no (p := fun i => i == 0 || ltB (x (i - 1)).client (x i).client) hkn (by simp [hlt]))
        go_wp2
        refine wp_region_grow (by kernel_rfl) (by kernel_rfl) ?_
        repeat (go_big_quiet_step ((go_at_call 140; go_must (exact grow_of (tiBefore_any (x m) (x (m + 1)) _)))))
        refine wpQuiet_nil ?_
        rintro w2 ⟨u, hu⟩
        have hw2 : Below wr.heap.size wr w2 := hu ▸ u.prop
        clear hu u
        go_wp2
        go_ret
        exact ⟨ret_bool HE.out.symm, hb.trans (hw2.mono hb.size)⟩
      | true =>
        have HN := hid (show (m + 1 == 0 || ltB (x (m + 1 - 1)).client (x (m + 1)).client) = true by simp [hlt])
        go_wp2
        refine wp_region_grow (by kernel_rfl) (by kernel_rfl) ?_
        repeat (go_big_quiet_step ((go_at_call 140; go_must (exact grow_of (tiBefore_any (x m) (x (m + 1)) _)))))
        refine wpQuiet_nil ?_
        rintro w2 ⟨u, hu⟩
        have hw2 : Below wr.heap.size wr w2 := hu ▸ u.prop
        clear hu u
        go_wp2
        go_roundw
        case rel => exact ⟨m + 2, by omega, Or.inl (by omega), by go_num, fun j hj => (by
          rcases Nat.lt_or_ge j (m + 1) with h3 | h3
          · exact HA.out j h3
          · have : j = m + 1 := by omega
            subst this; exact HN.out), hb.trans (hw2.mono hb.size)⟩
        case measure => simp [intOf]; omega
    · have HE := hid (show tiAsc n x = true from allTo_iff.2 (fun i hi => hall i (by omega)))
      clear hall hc hk
      go_wp2
      go_ret
      exact ⟨ret_bool HE.out.symm, hb⟩
end Go.Proofs.YtkecnaaacbckoaaGreat
