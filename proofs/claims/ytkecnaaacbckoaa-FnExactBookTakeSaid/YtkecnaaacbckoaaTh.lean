import Derived.Test.YtkecnaaacbckoaaTg
import Derived.Test.YtkecnaaacbckoaaRa
import Derived.Test.YtkecnaaacbckoaaNj
namespace Go.Proofs.Ytkecnaaacbckoaa
open Go.RowKit Go.Maps
def chAsc (n : Nat) (x : Nat → Ch) : Bool := allTo (fun i => i == 0 || decide ((x (i - 1)).ver < (x i).ver)) n
set_option maxRecDepth 100000 in
set_option maxHeartbeats 400000 in
theorem chBefore_any (x z : Ch) (ad ad2 : Option Addr) (cap cap2 : Nat) (w : World) :
    Calls Try.prog 40 #[.agg #[.int .i64 x.ver, .bool x.gone, .string x.ob.kind, .string x.ob.name, .int .i64 x.ob.ver, .int .i64 x.ob.born, .string x.ob.text, .bool x.ob.ending, .slice ad x.ob.hn cap], .agg #[.int .i64 z.ver, .bool z.gone, .string z.ob.kind, .string z.ob.name, .int .i64 z.ob.ver, .int .i64 z.ob.born, .string z.ob.text, .bool z.ob.ending, .slice ad2 z.ob.hn cap2]] w fun e w' => e = .returned (.bool (decide (x.ver < z.ver))) ∧ Below w.heap.size w w' := by
  have HB := hid (show ∀ o1 o2 : Obj, Below w.heap.size w ((w.alloc o1).alloc o2) from fun o1 o2 => (below_alloc' _ _).alloc (by simp) _)
  go_enter Try.func40, Try.ntmps40
  go_wp2
  go_ret
  exact ⟨rfl, HB.out _ _⟩
set_option maxRecDepth 100000 in
set_option maxHeartbeats 1000000 in
theorem chAsc_any (n : Nat) (x : Nat → Ch) (ad : Option Addr) (cap : Nat) (w : World) (lo hi : Nat) (hhi : hi ≤ w.heap.size) (hl : (n : Int) ≤ 140737488355328) (hc : ChgsIn w lo hi ad n x) :
    Calls Try.prog 39 #[.slice ad n cap, .func (.func 40) #[] #[]] w fun e w' => e = .returned (.bool (chAsc n x)) ∧ Below w.heap.size w w' := by
  go_enter Try.func39, Try.ntmps39
  go_wp2
  go_loopw [5] (fun i wr => ∃ k : Nat, 1 ≤ k ∧ (k ≤ n ∨ k = 1) ∧ i = .int .i64 k ∧ (∀ j, j < k → (j == 0 || decide ((x (j - 1)).ver < (x j).ver)) = true) ∧ Below w.heap.size w wr) (fun i _ => n - (intOf i).toNat)
  case atStart => exact ⟨1, Nat.le_refl _, Or.inr rfl, rfl, fun j hj => (by have : j = 0 := by omega
                                                                            subst this; rfl), Below.refl _ _⟩
  case round =>
    obtain ⟨k, hk1, hk, rfl, hall, hb⟩ := hrel
    by_cases hkn : k < n
    · obtain ⟨m, rfl⟩ : ∃ m, k = m + 1 := ⟨k - 1, by omega⟩
      obtain ⟨b, off, ah, ch, rfl, hlo, hbh, hcx, _⟩ := hc (m + 1) hkn
      obtain ⟨b', off', ah', ch', e, _, hbh', hcm, _⟩ := hc m (by omega)
      cases e
      obtain ⟨d0, d1, d2, d3, d4, d5, d6, d7, d8⟩ := hcx.below hb (by omega)
      obtain ⟨q0, q1, q2, q3, q4, q5, q6, q7, q8⟩ := hcm.below hb (by omega)
      have hbw : b < wr.heap.size := by have := hb.size; omega
      have rd0 := subcell d0 hbw
      have rd1 := subcell d1 hbw
      have rd2 := subcell d2 hbw
      have rd3 := subcell d3 hbw
      have rd4 := subcell d4 hbw
      have rd5 := subcell d5 hbw
      have rd6 := subcell d6 hbw
      have rd7 := subcell d7 hbw
      have rd8 := subcell d8 hbw
      have rq0 := subcell q0 hbw
      have rq1 := subcell q1 hbw
      have rq2 := subcell q2 hbw
      have rq3 := subcell q3 hbw
      have rq4 := subcell q4 hbw
      have rq5 := subcell q5 hbw
      have rq6 := subcell q6 hbw
      have rq7 := subcell q7 hbw
      have rq8 := subcell q8 hbw
      have hne : Nonempty (GW wr) := ⟨⟨wr, Below.refl _ _⟩⟩
      have HA := hid hall
      have hkz : (m : Int) + 1 ≤ n := by omega
      clear hall hc hk hcx hcm d0 d1 d2 d3 d4 d5 d6 d7 d8 q0 q1 q2 q3 q4 q5 q6 q7 q8
      obtain ⟨bb, hlt⟩ : ∃ bb, decide ((x m).ver < (x (m + 1)).ver) = bb := ⟨_, rfl⟩
      have hcall : ∀ W, Calls Try.prog 40 #[.agg #[.int .i64 (x m).ver, .bool (x m).gone, .string (x m).ob.kind, .string (x m).ob.name, .int .i64 (x m).ob.ver, .int .i64 (x m).ob.born, .string (x m).ob.text, .bool (x m).ob.ending, .slice ah' (x m).ob.hn ch'], .agg #[.int .i64 (x (m + 1)).ver, .bool (x (m + 1)).gone, .string (x (m + 1)).ob.kind, .string (x (m + 1)).ob.name, .int .i64 (x (m + 1)).ob.ver, .int .i64 (x (m + 1)).ob.born, .string (x (m + 1)).ob.text, .bool (x (m + 1)).ob.ending, .slice ah (x (m + 1)).ob.hn ch]] W fun e w' => e = .returned (.bool bb) ∧ Below W.heap.size W w' := fun W => by
        have := chBefore_any (x m) (x (m + 1)) ah' ah ch' ch W
        rw [hlt] at this
        exact this
      have HL := hid hlt
      have HCL := hid hcall
      clear hlt hcall
      cases bb with
      | false =>
        have HE := hid (show chAsc n x = false from allTo_no (p := fun i => i == 0 || decide ((x (i - 1)).ver < (x i).ver)) hkn (by simpa using HL.out))
        go_wp2
        refine wp_region_grow (by kernel_rfl) (by kernel_rfl) ?_
        repeat (go_big_quiet_step ((go_at_call 40; go_must (exact grow_of (HCL.out _)))))
        refine wpQuiet_nil ?_
        rintro w2 ⟨u, hu⟩
        have hw2 : Below wr.heap.size wr w2 := hu ▸ u.prop
        clear hu u
        go_wp2
        go_ret
        exact ⟨ret_bool HE.out.symm, hb.trans (hw2.mono hb.size)⟩
      | true =>
        have HN := hid (show (m + 1 == 0 || decide ((x (m + 1 - 1)).ver < (x (m + 1)).ver)) = true by simpa using HL.out)
        go_wp2
        refine wp_region_grow (by kernel_rfl) (by kernel_rfl) ?_
        repeat (go_big_quiet_step ((go_at_call 40; go_must (exact grow_of (HCL.out _)))))
        refine wpQuiet_nil ?_
        rintro w2 ⟨u, hu⟩
        have hw2 : Below wr.heap.size wr w2 := hu ▸ u.prop
        clear hu u
        go_wp2
        go_roundw
        case rel => exact ⟨m + 2, by omega, Or.inl (by omega), by go_num, fun j hj => (by
          rcases Nat.lt_or_ge j (m + 1) with h3 | h3
          · exact HA.out j h3
          · have : j = m + 1 := by omega
            subst this; exact HN.out), hb.trans (hw2.mono hb.size)⟩
        case measure => simp [intOf]; omega
    · have HE := hid (show chAsc n x = true from allTo_iff.2 (fun j hj => hall j (by omega)))
      clear hall
      go_wp2
      go_ret
      exact ⟨ret_bool HE.out.symm, hb⟩
/-- the code of taking news -/
def tkC (at_ cd fv : Int) (n : Nat) (x : Nat → Ch) : Int := if cd = 0 then (if fv < at_ ∨ chAsc n x = false then 2 else 0) else 1
set_option maxRecDepth 100000 in
set_option maxHeartbeats 1000000 in
theorem newsCode_any (m : Mr) (a : Option Addr) (c : Nat) (cd fv : Int) (n : Nat) (x : Nat → Ch) (an : Option Addr) (cn : Nat) (w : World) (lo hi : Nat) (hhi : hi ≤ w.heap.size) (hl : (n : Int) ≤ 140737488355328) (hc : ChgsIn w lo hi an n x) :
    Calls Try.prog 23 #[.agg #[.string m.kind, .string m.pre, .int .i64 m.at_, .slice a m.n c, .int .i64 m.seen], .agg #[.int .i64 cd, .slice an n cn, .int .i64 fv]] w fun e w' => e = .returned (.int .i64 (tkC m.at_ cd fv n x)) ∧ Below w.heap.size w w' := by
  have hB : ∀ o1 o2 : Obj, Below w.heap.size w ((w.alloc o1).alloc o2) := fun o1 o2 => (below_alloc' _ _).alloc (by simp) _
  have HB := hid hB
  have HC := hid hc
  clear hB hc
  obtain ⟨r, hr⟩ : ∃ r, tkC m.at_ cd fv n x = r := ⟨_, rfl⟩
  have HR := hid hr
  rw [hr]
  clear hr
  by_cases h0 : cd = 0
  · subst h0
    by_cases h1 : fv < m.at_
    · obtain rfl : r = 2 := by have := HR.out; simp [tkC, h1] at this; omega
      go_enter Try.func23, Try.ntmps23
      go_wp2
      go_ret
      exact ⟨rfl, HB.out _ _⟩
    · cases hA : chAsc n x with
      | true =>
        obtain rfl : r = 0 := by have := HR.out; simp [tkC, h1, hA] at this; omega
        go_enter Try.func23, Try.ntmps23
        go_wp2_with (go_at_call 39; go_must (refine (chAsc_any n x an cn _ lo hi (by simp; omega) hl (HC.out.below (HB.out _ _) hhi)).mono ?_; rw [hA]; rintro e w1 ⟨rfl, hb1⟩))
        go_ret
        exact ⟨rfl, (HB.out _ _).trans (hb1.mono (by simp; omega))⟩
      | false =>
        obtain rfl : r = 2 := by have := HR.out; simp [tkC, h1, hA] at this; omega
        go_enter Try.func23, Try.ntmps23
        go_wp2_with (go_at_call 39; go_must (refine (chAsc_any n x an cn _ lo hi (by simp; omega) hl (HC.out.below (HB.out _ _) hhi)).mono ?_; rw [hA]; rintro e w1 ⟨rfl, hb1⟩))
        go_ret
        exact ⟨rfl, (HB.out _ _).trans (hb1.mono (by simp; omega))⟩
  · obtain rfl : r = 1 := by have := HR.out; simp [tkC, h0] at this; omega
    have h0b : (cd == 0) = false := by simpa using h0
    go_enter Try.func23, Try.ntmps23
    go_wp2
    go_ret
    exact ⟨rfl, HB.out _ _⟩
end Go.Proofs.Ytkecnaaacbckoaa
