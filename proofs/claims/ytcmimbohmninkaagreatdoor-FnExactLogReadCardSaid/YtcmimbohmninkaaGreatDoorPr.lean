import Derived.Test.YtcmimbohmninkaaGreatDoorPq
namespace Go.Proofs.YtcmimbohmninkaaGreatDoor
open Go.RowKit
/-- what the reading of a text in quotes leaves -/
def Qd (f : ByteArray) (b o : Nat) (w : World) (e : Ending) (w' : World) : Prop :=
  ∃ (r : ByteArray) (err : Value) (w1 : World), e = .returned err ∧ ErrV err ∧ r.size ≤ f.size ∧ (∀ te, f = quS te → r = te ∧ err = .nilIface) ∧ Below w.heap.size w w1 ∧ w' = w1.setCell ⟨b, o, none⟩ (.string r)
set_option maxRecDepth 100000 in
set_option maxHeartbeats 2000000 in
theorem quoted2_any (g b o : Nat) (f : ByteArray) (hf : (f.size : Int) ≤ 1048576) (u : Value) (e6 e8 : Value) (w : World) (h6 : w.cell? ⟨6, 0, none⟩ = some e6) (v6 : ErrV e6) (h8 : w.cell? ⟨8, 0, none⟩ = some e8) (v8 : ErrV e8) (hz : 8 < w.heap.size)
    (hg : g < w.heap.size) (hb : b < w.heap.size) (hb6 : b ≠ 6) (h0 : w.cell? ⟨g, 0, none⟩ = some (.pointer (some ⟨b, o, none⟩))) (h1 : w.cell? ⟨b, o, none⟩ = some u) (h2 : w.frozen? ⟨b, o, none⟩ = false) :
    Calls Tryz.prog 60 #[.string f, .pointer (some ⟨g, 0, none⟩)] w fun e w' => Qd f b o w e w' := by
  have HQ : Hid (∀ W, Below (w.heap.size + 1) (w.alloc (.cells #[.string f, .bool false] 88)) W → Calls Tryz.prog 61 #[.pointer (some ⟨w.heap.size, 0, none⟩)] W fun e w' => ∃ (r q : ByteArray) (d : Bool), e = .returned (.string r) ∧ r.size ≤ f.size ∧ (∀ te, f = quS te → r = te ∧ d = false ∧ q = ⟨#[]⟩) ∧ Below w.heap.size w w' ∧ w'.cell? ⟨g, 0, none⟩ = some (.pointer (some ⟨b, o, none⟩)) ∧ w'.cell? ⟨b, o, none⟩ = some u ∧ w'.frozen? ⟨b, o, none⟩ = false ∧ (w'.setCell ⟨b, o, none⟩ (.string r)).cell? ⟨w.heap.size, 0, none⟩ = some (.string q) ∧ (w'.setCell ⟨b, o, none⟩ (.string r)).cell? ⟨w.heap.size, 1, none⟩ = some (.bool d) ∧ (w'.setCell ⟨b, o, none⟩ (.string r)).cell? ⟨6, 0, none⟩ = some e6) := by
    refine hid fun W hW => ?_
    have hR0 : RdAt (w.alloc (.cells #[.string f, .bool false] 88)) w.heap.size f false := by
      refine ⟨?_, ?_, ?_, ?_⟩ <;> go_simp
    have hR := hR0.below hW (Nat.lt_succ_self _)
    have hbW : Below w.heap.size w W := (below_alloc w _).trans (hW.mono (Nat.le_succ _))
    have zW : w.heap.size < W.heap.size := Nat.lt_of_lt_of_le (by simp) hW.size
    refine (inQuotes_any w.heap.size f hf e8 W hR zW ((hbW.cell (p := ⟨8, 0, none⟩) hz).trans h8) v8 (by omega) (by omega)).mono ?_
    rintro e w' ⟨r, q, d, rfl, h3, h4, h5, h7⟩
    have hB : Below w.heap.size w w' := hbW.trans (h4.below (Nat.le_refl _) (by omega))
    refine ⟨r, q, d, rfl, h5, h7, hB, (hB.cell (p := ⟨g, 0, none⟩) hg).trans h0, (hB.cell (p := ⟨b, o, none⟩) hb).trans h1, (hB.frozen (p := ⟨b, o, none⟩) hb).trans h2, ?_, ?_, ?_⟩
    · exact (World.cell?_setCell_other _ _ _ _ (by intro e; injection e with e; omega)).trans h3.c0
    · exact (World.cell?_setCell_other _ _ _ _ (by intro e; injection e with e; omega)).trans h3.c1
    · exact (World.cell?_setCell_other _ _ _ _ (by intro e; injection e with e; omega)).trans ((hB.cell (p := ⟨6, 0, none⟩) (by show 6 < _; omega)).trans h6)
  clear h6 h8 v8 hf
  go_enter Tryz.func60, Tryz.ntmps60
  go_wp2_with fail
  go_region_with (go_at_call 61; go_must (refine (HQ.out _ (by first | exact Below.refl _ _ | exact (Below.refl _ _).drew | exact ((Below.refl _ _).drew).drew)).mono ?_; rintro e w1 ⟨r, q, d, rfl, hr, hq, hB, k0, k1, k2, k3, k4, k6⟩; have HB := hid hB; have HH := hid hq; clear hB hq HQ))
  all_goals
    cases d with
    | true =>
      go_wp2
      go_ret
      exact ⟨r, e6, w1, rfl, v6, hr, fun te e => (by have h := (HH.out te e).2.1; cases h), HB.out, rfl⟩
    | false =>
      by_cases hqe : q = ⟨#[]⟩
      · subst hqe
        go_wp2
        go_ret
        exact ⟨r, .nilIface, w1, rfl, .inl rfl, hr, fun te e => ⟨(HH.out te e).1, rfl⟩, HB.out, rfl⟩
      · have HE := hid hqe
        have hne : q.toList.isEmpty = false := by
          rw [← decide_eq_emptyBytes]
          exact decide_eq_false hqe
        clear hqe
        go_wp2
        go_ret
        exact ⟨r, e6, w1, rfl, v6, hr, fun te e => absurd (HH.out te e).2.2 HE.out, HB.out, rfl⟩
end Go.Proofs.YtcmimbohmninkaaGreatDoor
