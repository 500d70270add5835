import Derived.Test.YtkfbclopkgnacaaGreatDoorQ
import Derived.Maps.OwnSet
import Derived.Maps.OwnOps
import Derived.ProofKit
namespace Go.Proofs.YtkfbclopkgnacaaGreatDoor
open Go.RowKit
def creB (c : Ch) : Bool := !c.gone && c.ob.born == c.ver
def begB (c : Ch) (floor : Int) : Bool := creB c || decide (c.ob.born ≤ floor)
def folB (p c : Ch) : Bool := if p.gone || creB c then p.gone && creB c else p.ob.born == c.ob.born
def chgB (c : Ch) (now : Int) : Bool := c.ob.ver == c.ver && (partsB c.ob now && (if c.gone then goneB c.ob else standB c.ob))
set_option maxRecDepth 100000 in
set_option maxHeartbeats 400000 in
theorem specCre_any (c : Ch) (ad : Option Addr) (cap : Nat) (w : World) :
    Calls Tryz.prog 78 #[.agg #[.int .i64 c.ver, .bool c.gone, .string c.ob.kind, .string c.ob.name, .int .i64 c.ob.ver, .int .i64 c.ob.born, .string c.ob.text, .bool c.ob.ending, .slice ad c.ob.hn cap]] w fun e w' => e = .returned (.bool (creB c)) ∧ Below w.heap.size w w' := by
  obtain ⟨ve, go, ob⟩ := c
  dsimp only
  cases go with
  | true =>
    go_enter Tryz.func78, Tryz.ntmps78
    go_wp2
    go_ret
    exact ⟨rfl, below_alloc' _ _⟩
  | false =>
    go_enter Tryz.func78, Tryz.ntmps78
    go_wp2
    go_ret
    exact ⟨ret_bool (by simp [creB]), below_alloc' _ _⟩
set_option maxRecDepth 100000 in
set_option maxHeartbeats 400000 in
theorem implCre_any (c : Ch) (ad : Option Addr) (cap : Nat) (w : World) :
    Calls Tryz.prog 127 #[.agg #[.int .i64 c.ver, .bool c.gone, .string c.ob.kind, .string c.ob.name, .int .i64 c.ob.ver, .int .i64 c.ob.born, .string c.ob.text, .bool c.ob.ending, .slice ad c.ob.hn cap]] w fun e w' => e = .returned (.bool (creB c)) ∧ Below w.heap.size w w' := by
  obtain ⟨ve, go, ob⟩ := c
  dsimp only
  cases go with
  | true =>
    go_enter Tryz.func127, Tryz.ntmps127
    go_wp2
    go_ret
    exact ⟨rfl, below_alloc' _ _⟩
  | false =>
    go_enter Tryz.func127, Tryz.ntmps127
    go_wp2
    go_ret
    exact ⟨ret_bool (by simp [creB]), below_alloc' _ _⟩
set_option maxRecDepth 100000 in
set_option maxHeartbeats 400000 in
theorem begin_any (c : Ch) (floor : Int) (ad : Option Addr) (cap : Nat) (w : World) :
    Calls Tryz.prog 100 #[.agg #[.int .i64 c.ver, .bool c.gone, .string c.ob.kind, .string c.ob.name, .int .i64 c.ob.ver, .int .i64 c.ob.born, .string c.ob.text, .bool c.ob.ending, .slice ad c.ob.hn cap], .int .i64 floor] w fun e w' => e = .returned (.bool (begB c floor)) ∧ Below w.heap.size w w' := by
  cases hcr : creB c with
  | true =>
    have HE := hid (show begB c floor = true by unfold begB; rw [hcr]; rfl)
    go_enter Tryz.func100, Tryz.ntmps100
    go_wp2_with (go_at_call 127; refine (implCre_any c ad cap _).mono ?_; rintro e w1 ⟨rfl, hb1⟩)
    go_ret
    exact ⟨ret_bool HE.out.symm, (below_alloc' _ _).trans (hb1.mono (by simp))⟩
  | false =>
    have HE := hid (show begB c floor = decide (c.ob.born ≤ floor) by unfold begB; rw [hcr]; rfl)
    go_enter Tryz.func100, Tryz.ntmps100
    go_wp2_with (go_at_call 127; refine (implCre_any c ad cap _).mono ?_; rintro e w1 ⟨rfl, hb1⟩; have k5 := box_cell hb1 5; simp only [List.getElem?_toArray, List.getElem?_cons_succ, List.getElem?_cons_zero] at k5)
    go_ret
    exact ⟨ret_bool HE.out.symm, (below_alloc' _ _).trans (hb1.mono (by simp))⟩
set_option maxRecDepth 100000 in
set_option maxHeartbeats 800000 in
theorem chgFits_any (c : Ch) (now : Int) (ad : Option Addr) (cap : Nat) (w : World) (lo hi : Nat) (hhi : hi ≤ w.heap.size) (hf : ObFit c.ob) (hc : StrsIn w lo hi ad c.ob.hn c.ob.hs) :
    Calls Tryz.prog 97 #[.agg #[.int .i64 c.ver, .bool c.gone, .string c.ob.kind, .string c.ob.name, .int .i64 c.ob.ver, .int .i64 c.ob.born, .string c.ob.text, .bool c.ob.ending, .slice ad c.ob.hn cap], .int .i64 now] w fun e w' => e = .returned (.bool (chgB c now)) ∧ Below w.heap.size w w' := by
  obtain ⟨ve, go, ob⟩ := c
  dsimp only at hf hc ⊢
  have hcA := fun o => hc.alloc hhi o
  have hfh : (ob.hn : Int) ≤ 140737488355328 := by have := hf.h; omega
  by_cases hv : ob.ver = ve
  · subst hv
    cases hp : partsB ob now with
    | false =>
      have HE := hid (show chgB ⟨ob.ver, go, ob⟩ now = false by unfold chgB; simp [hp])
      go_enter Tryz.func97, Tryz.ntmps97
      go_wp2_with (go_at_call 95; refine (objFits_any ob now ad cap _ lo hi (by simp; omega) hf (hcA _)).mono ?_; rintro e w1 ⟨rfl, hb1⟩; rw [hp])
      go_ret
      exact ⟨ret_bool HE.out.symm, (below_alloc' _ _).trans (hb1.mono (by simp))⟩
    | true =>
     cases go with
     | true =>
      have HE := hid (show chgB ⟨ob.ver, true, ob⟩ now = goneB ob by unfold chgB; simp [hp])
      go_enter Tryz.func97, Tryz.ntmps97
      go_wp2_with (go_at_call 95; refine (objFits_any ob now ad cap _ lo hi (by simp; omega) hf (hcA _)).mono ?_; rintro e w1 ⟨rfl, hb1⟩; have k1 := box_cell hb1 1; have k2 := box_cell hb1 2; have k3 := box_cell hb1 3; have k4 := box_cell hb1 4; have k5 := box_cell hb1 5; have k6 := box_cell hb1 6; have k7 := box_cell hb1 7; have k8 := box_cell hb1 8; simp only [List.getElem?_toArray, List.getElem?_cons_succ, List.getElem?_cons_zero] at k1 k2 k3 k4 k5 k6 k7 k8; rw [hp])
      go_wp2_with (go_at_call 126; refine (mayBeGone_any ob ad cap _ hfh).mono ?_; rintro e w2 ⟨rfl, hb2⟩)
      go_ret
      exact ⟨ret_bool HE.out.symm, (below_alloc' _ _).trans ((hb1.mono (by simp)).trans (hb2.mono (by have := hb1.size; simp at this; omega)))⟩
     | false =>
      have HE := hid (show chgB ⟨ob.ver, false, ob⟩ now = standB ob by unfold chgB; simp [hp])
      go_enter Tryz.func97, Tryz.ntmps97
      go_wp2_with (go_at_call 95; refine (objFits_any ob now ad cap _ lo hi (by simp; omega) hf (hcA _)).mono ?_; rintro e w1 ⟨rfl, hb1⟩; have k1 := box_cell hb1 1; have k2 := box_cell hb1 2; have k3 := box_cell hb1 3; have k4 := box_cell hb1 4; have k5 := box_cell hb1 5; have k6 := box_cell hb1 6; have k7 := box_cell hb1 7; have k8 := box_cell hb1 8; simp only [List.getElem?_toArray, List.getElem?_cons_succ, List.getElem?_cons_zero] at k1 k2 k3 k4 k5 k6 k7 k8; rw [hp])
      go_wp2_with (go_at_call 96; refine (mayStand_any ob ad cap _ hfh).mono ?_; rintro e w2 ⟨rfl, hb2⟩)
      go_ret
      exact ⟨ret_bool HE.out.symm, (below_alloc' _ _).trans ((hb1.mono (by simp)).trans (hb2.mono (by have := hb1.size; simp at this; omega)))⟩
  · have HE := hid (show chgB ⟨ve, go, ob⟩ now = false by unfold chgB; simp [hv])
    have HV := hid hv
    go_enter Tryz.func97, Tryz.ntmps97
    go_wp2
    go_ret
    exact ⟨ret_bool HE.out.symm, below_alloc' _ _⟩
end Go.Proofs.YtkfbclopkgnacaaGreatDoor
namespace Go.Proofs.YtkfbclopkgnacaaGreatDoor
open Go.RowKit
theorem box2_cell {w w1 : World} {c d : Array Value} {t u : TypeId} (hb : Below ((w.alloc (.cells c t)).alloc (.cells d u)).heap.size ((w.alloc (.cells c t)).alloc (.cells d u)) w1) (i : Nat) : w1.cell? ⟨w.heap.size, i, none⟩ = c[i]? :=
  (hb.cell (p := ⟨w.heap.size, i, none⟩) (by simp; omega)).trans (((below_alloc' (w.alloc (.cells c t)) (.cells d u)).cell (p := ⟨w.heap.size, i, none⟩) (by simp)).trans (World.cell?_alloc_new w c t i))
set_option maxRecDepth 100000 in
set_option maxHeartbeats 800000 in
theorem follow_any (p c : Ch) (ad ad2 : Option Addr) (cap cap2 : Nat) (w : World) :
    Calls Tryz.prog 99 #[.agg #[.int .i64 p.ver, .bool p.gone, .string p.ob.kind, .string p.ob.name, .int .i64 p.ob.ver, .int .i64 p.ob.born, .string p.ob.text, .bool p.ob.ending, .slice ad p.ob.hn cap], .agg #[.int .i64 c.ver, .bool c.gone, .string c.ob.kind, .string c.ob.name, .int .i64 c.ob.ver, .int .i64 c.ob.born, .string c.ob.text, .bool c.ob.ending, .slice ad2 c.ob.hn cap2]] w fun e w' => e = .returned (.bool (folB p c)) ∧ Below w.heap.size w w' := by
  obtain ⟨pv, pg, po⟩ := p
  dsimp only
  cases pg with
  | true =>
    have HE := hid (show folB ⟨pv, true, po⟩ c = creB c by unfold folB; simp)
    go_enter Tryz.func99, Tryz.ntmps99
    go_wp2_with (go_at_call 127; refine (implCre_any c ad2 cap2 _).mono ?_; rintro e w1 ⟨rfl, hb1⟩)
    go_ret
    exact ⟨ret_bool HE.out.symm, ((below_alloc' _ _).trans ((below_alloc' _ _).mono (by simp))).trans (hb1.mono (by simp; omega))⟩
  | false =>
    cases hcr : creB c with
    | true =>
      have HE := hid (show folB ⟨pv, false, po⟩ c = false by unfold folB; simp [hcr])
      go_enter Tryz.func99, Tryz.ntmps99
      go_wp2_with (go_at_call 127; refine (implCre_any c ad2 cap2 _).mono ?_; rintro e w1 ⟨rfl, hb1⟩; rw [hcr]; have k1 := box2_cell hb1 1; simp only [List.getElem?_toArray, List.getElem?_cons_succ, List.getElem?_cons_zero] at k1)
      go_ret
      exact ⟨ret_bool HE.out.symm, ((below_alloc' _ _).trans ((below_alloc' _ _).mono (by simp))).trans (hb1.mono (by simp; omega))⟩
    | false =>
      have HE := hid (show folB ⟨pv, false, po⟩ c = (po.born == c.ob.born) by unfold folB; simp [hcr])
      go_enter Tryz.func99, Tryz.ntmps99
      go_wp2_with (go_at_call 127; refine (implCre_any c ad2 cap2 _).mono ?_; rintro e w1 ⟨rfl, hb1⟩; rw [hcr]; have k1 := box2_cell hb1 5; have k2 : w1.cell? ⟨w.heap.size + 1, 5, none⟩ = some (.int .i64 c.ob.born) := (by simpa using box_cell hb1 5); simp only [List.getElem?_toArray, List.getElem?_cons_succ, List.getElem?_cons_zero] at k1)
      go_ret
      exact ⟨ret_bool HE.out.symm, ((below_alloc' _ _).trans ((below_alloc' _ _).mono (by simp))).trans (hb1.mono (by simp; omega))⟩
def histB (now floor : Int) (n : Nat) (h : Nat → Ch) : Bool := decide (n ≤ 200) && (decide ((n : Int) = now - floor) && allTo (fun i => decide ((h i).ver = floor + 1 + i) && chgB (h i) now) n)
theorem ChgsIn.alloc {w : World} {lo hi : Nat} {ad : Option Addr} {n : Nat} {x : Nat → Ch} (h : ChgsIn w lo hi ad n x) (hhi : hi ≤ w.heap.size) (o : Obj) : ChgsIn (w.alloc o) lo hi ad n x := h.below (below_alloc' w o) hhi
set_option maxRecDepth 100000 in
set_option maxHeartbeats 1000000 in
theorem histFits_any (now floor : Int) (n : Nat) (h : Nat → Ch) (a1 a2 a3 : Option Addr) (n1 c1 c2 n3 c3 : Nat) (w : World) (lo hi : Nat) (hhi : hi ≤ w.heap.size) (hl : (n : Int) ≤ 1099511627776) (hfl : 0 ≤ floor) (hno : floor ≤ now) (hnm : now ≤ 1000000) (hf : ∀ i, i < n → ObFit (h i).ob) (hc : ChgsIn w lo hi a2 n h) :
    Calls Tryz.prog 66 #[.agg #[.int .i64 now, .int .i64 floor, .slice a1 n1 c1, .slice a2 n c2, .slice a3 n3 c3]] w fun e w' => e = .returned (.bool (histB now floor n h)) ∧ Below w.heap.size w w' := by
  by_cases h200 : (200 : Int) < n
  · have HE := hid (show histB now floor n h = false by unfold histB; rw [decide_eq_false (by omega)]; rfl)
    go_enter Tryz.func66, Tryz.ntmps66
    go_wp2
    go_ret
    exact ⟨ret_bool HE.out.symm, below_alloc' _ _⟩
  by_cases hnf : (n : Int) = now - floor
  case neg =>
    have HE := hid (show histB now floor n h = false by unfold histB; rw [decide_eq_false hnf]; simp)
    go_enter Tryz.func66, Tryz.ntmps66
    go_wp2
    go_ret
    exact ⟨ret_bool HE.out.symm, below_alloc' _ _⟩
  case pos =>
    have HNF := hid hnf
    have hnf2 : now - floor = (n : Int) := by omega
    clear hnf
    go_enter Tryz.func66, Tryz.ntmps66
    go_wp2
    go_loopw [23] (fun i wr => ∃ k : Nat, k ≤ n ∧ i = .int .i64 k ∧ (∀ j, j < k → (h j).ver = floor + 1 + j ∧ chgB (h j) now = true) ∧ Below w.heap.size w wr ∧ w.heap.size < wr.heap.size ∧ wr.cell? ⟨w.heap.size, 0, none⟩ = some (.int .i64 now) ∧ wr.cell? ⟨w.heap.size, 1, none⟩ = some (.int .i64 floor)) (fun i _ => n - (intOf i).toNat)
    case atStart => exact ⟨0, Nat.zero_le _, rfl, fun j hj => absurd hj (Nat.not_lt_zero _), below_alloc' _ _, by simp, World.cell?_alloc_new _ _ _ _, World.cell?_alloc_new _ _ _ _⟩
    case round =>
      obtain ⟨k, hk, rfl, hall, hb, hz, hb0, hb1⟩ := hrel
      by_cases hkn : k < n
      · obtain ⟨b, off, ah, ch, rfl, hlo, hbh, hcx, hsx⟩ := hc k hkn
        have hfk := hf k hkn
        obtain ⟨d0, d1, d2, d3, d4, d5, d6, d7, d8⟩ := hcx.below hb (by omega)
        have hs1 := hsx.below hb hhi
        have HA := hid hall
        clear hall hc hf hcx hsx
        by_cases hv : (h k).ver = floor + 1 + k
        case neg =>
          have HE := hid (show histB now floor n h = false by unfold histB; rw [allTo_no (p := fun i => decide ((h i).ver = floor + 1 + i) && chgB (h i) now) hkn (by rw [decide_eq_false hv]; rfl)]; simp)
          go_wp2
          go_ret
          exact ⟨ret_bool HE.out.symm, hb.alloc hb.size _⟩
        case pos =>
          have HV := hid hv
          clear hv
          have hC := chgFits_any (h k) now ah ch (wr.alloc (.cells #[.int .i64 (h k).ver, .bool (h k).gone, .string (h k).ob.kind, .string (h k).ob.name, .int .i64 (h k).ob.ver, .int .i64 (h k).ob.born, .string (h k).ob.text, .bool (h k).ob.ending, .slice ah (h k).ob.hn ch] 41)) lo hi (by simp; have := hb.size; omega) hfk (hs1.alloc (by have := hb.size; omega) _)
          cases hp : chgB (h k) now with
          | false =>
            have HE := hid (show histB now floor n h = false by unfold histB; rw [allTo_no (p := fun i => decide ((h i).ver = floor + 1 + i) && chgB (h i) now) hkn (by rw [hp]; simp)]; simp)
            have hv := HV.out
            go_wp2_with fail
            simp only [hv] at hC
            refine hC.mono ?_
            rintro e w2 ⟨rfl, hb2⟩
            rw [hp]
            clear hC
            go_wp2
            go_ret
            exact ⟨ret_bool HE.out.symm, (hb.alloc hb.size _).trans (hb2.mono (by simp; have := hb.size; omega))⟩
          | true =>
            have HP := hid hp
            have hv := HV.out
            go_wp2_with fail
            simp only [hv] at hC
            refine hC.mono ?_
            rintro e w2 ⟨rfl, hb2⟩
            rw [hp]
            clear hC
            have hB2 : Below w.heap.size w w2 := (hb.alloc hb.size _).trans (hb2.mono (by simp; have := hb.size; omega))
            have hz2 : w.heap.size < w2.heap.size := by have := hb2.size; simp at this; omega
            have h00 : w2.cell? ⟨w.heap.size, 0, none⟩ = some (.int .i64 now) := (hb2.cell (p := ⟨w.heap.size, 0, none⟩) (by simp; omega)).trans ((World.cell?_alloc_past _ _ _ hz).trans hb0)
            have h01 : w2.cell? ⟨w.heap.size, 1, none⟩ = some (.int .i64 floor) := (hb2.cell (p := ⟨w.heap.size, 1, none⟩) (by simp; omega)).trans ((World.cell?_alloc_past _ _ _ hz).trans hb1)
            clear d0 d1 d2 d3 d4 d5 d6 d7 d8 hs1 hb2
            go_wp2
            go_roundw
            case rel => exact ⟨k + 1, by omega, by go_num, fun j hj => (by
              rcases Nat.lt_or_ge j k with h3 | h3
              · exact HA.out j h3
              · have : j = k := by omega
                subst this; exact ⟨HV.out, HP.out⟩), hB2, hz2, h00, h01⟩
            case measure => simp [intOf]; omega
      · have HE := hid (show histB now floor n h = true by unfold histB; rw [decide_eq_true (show n ≤ 200 by omega), decide_eq_true HNF.out, allTo_iff.2 (fun i hi => by rw [decide_eq_true (hall i (by omega)).1, (hall i (by omega)).2]; rfl)]; rfl)
        clear hall hc hf
        go_wp2
        go_ret
        exact ⟨ret_bool HE.out.symm, hb⟩
end Go.Proofs.YtkfbclopkgnacaaGreatDoor
namespace Go.Proofs.YtkfbclopkgnacaaGreatDoor
open Go.RowKit Go.Maps
theorem Tryz.lawInt : Keyed Tryz.prog 3 := int_keyed Tryz.underlying3
theorem zero95 (w : World) : (zeroValue 113).run Tryz.prog w = .ok (.agg #[]) w := by kernel_rfl
theorem run_makeMap94 (n : Nat) (w : World) : (Instr.makeMap 112 (some (.int .i64 (n : Int)))).run Tryz.prog w = .ok (.map (some w.heap.size)) (w.alloc (.map #[] 0)) := by
  simp [Instr.makeMap, run_underlying Tryz.underlying112, asInt, asIntOf, Result.andThen]
def seenB (x : Nat → Ob) (k : Nat) (v : Int) : Bool := !allTo (fun j => decide (¬ (x j).ver = v)) k
def VTold (x : Nat → Ob) (k : Nat) (D : DataW Unit) : Prop := ∀ v : Int, (Lit.int .i64 v).wf = true → Maps.has D (.int .i64 v) = seenB x k v
theorem vtold_start (x : Nat → Ob) : VTold x 0 (.map []) := fun _ _ => rfl
theorem vtold_put {x : Nat → Ob} {k : Nat} {D : DataW Unit} (h : VTold x k D) (hD : IsMap D) (hw : (Lit.int .i64 (x k).ver).wf = true) : VTold x (k + 1) (D.put (.int .i64 (x k).ver) (.agg [])) := fun v hv => by
  by_cases e : (x k).ver = v
  · subst e
    rw [has_put_same hD (Tryz.lawInt.key (keyOf_int_mk Tryz.underlying3 hw))]
    simp [seenB, allTo]
  · rw [has_put_other (by intro h9; injection h9 with _ h9; exact e h9.symm), h v hv]
    simp [seenB, allTo, e]
theorem ownsMap_below {w w' : World} {P : Program} {k : TypeId} {R : Value → Option (DataW Unit × List MemPlace)} {b n B : Nat} {D : DataW Unit} (h : w.ownsMap P k R b n D) (hb : Below B w w') (hB : b < B) : w'.ownsMap P k R b n D := by
  obtain ⟨es, clock, h1, r⟩ := h
  exact ⟨es, clock, (hb.block b hB).trans h1, r⟩
set_option maxRecDepth 100000 in
set_option maxHeartbeats 1000000 in
theorem verDiff_any (now floor : Int) (n : Nat) (x : Nat → Ob) (a1 a2 a3 : Option Addr) (c1 n2 c2 n3 c3 : Nat) (w : World) (lo hi : Nat) (hhi : hi ≤ w.heap.size) (hl : (n : Int) ≤ 1099511627776) (hf : ∀ i, i < n → ObFit (x i)) (hc : ObjsIn w lo hi a1 n x) :
    Calls Tryz.prog 65 #[.agg #[.int .i64 now, .int .i64 floor, .slice a1 n c1, .slice a2 n2 c2, .slice a3 n3 c3]] w fun e w' => e = .returned (.bool (verDiff n x)) ∧ Below w.heap.size w w' := by
  have hmm := run_makeMap94 n
  go_enter Tryz.func65, Tryz.ntmps65
  go_wp2_with fail
  go_loopw [15] (fun i wr => ∃ (k : Nat) (D : DataW Unit), k ≤ n ∧ i = .int .i64 k ∧ Below w.heap.size w wr ∧ wr.ownsMap Tryz.prog 3 unitElem (w.heap.size + 1) k D ∧ VTold x k D ∧ ∀ j, j < k → allTo (fun k' => decide (¬ (x k').ver = (x j).ver)) j = true) (fun i _ => n - (intOf i).toNat)
  case atStart =>
    have h9 := World.ownsMap_made (H := Unit) (w.alloc (.cells #[.int .i64 now, .int .i64 floor, .slice a1 n c1, .slice a2 n2 c2, .slice a3 n3 c3] 26)) Tryz.prog 3 unitElem
    rw [World.size_alloc] at h9
    exact ⟨0, .map [], Nat.zero_le _, rfl, (below_alloc' _ _).alloc (by simp) _, h9, vtold_start x, fun j hj => absurd hj (Nat.not_lt_zero _)⟩
  case round =>
    obtain ⟨k, D, hk, rfl, hb, hown, htold, hall⟩ := hrel
    clear hmm
    by_cases hkn : k < n
    · obtain ⟨b, off, ah, ch, rfl, hlo, hbh, hcx, _⟩ := hc k hkn
      have hwf := (hf k hkn).v
      obtain ⟨d0, d1, d2, d3, d4, d5, d6⟩ := hcx.below hb (by omega)
      have hky := keyOf_int_mk Tryz.underlying3 hwf
      have hhas := htold _ hwf
      have HT := hid (vtold_put htold hown.isMap hwf)
      have HOW := hid hown
      have HA := hid hall
      clear hc hf hcx htold hown hall
      cases hs : seenB x k (x k).ver with
      | true =>
        have HE := hid (show verDiff n x = false from allTo_no (p := fun i => allTo (fun k => decide (¬ (x k).ver = (x i).ver)) i) hkn (by simpa [seenB] using hs))
        rw [hs] at hhas
        clear hs
        go_wp2_with (at_lookup; go_must (refine wpList_lookup_own_unit _ rfl _ _ 112 rfl 3 113 Tryz.lawInt Tryz.underlying112 (zero95 _) (w.heap.size + 1) k D rfl (HOW.out.alloc _) _ _ rfl hky ?_))
        go_ret
        exact ⟨ret_bool HE.out.symm, (hb.alloc hb.size _).alloc (by simp; have := hb.size; omega) _⟩
      | false =>
        have HN := hid (show allTo (fun k' => decide (¬ (x k').ver = (x k).ver)) k = true by simpa [seenB] using hs)
        rw [hs] at hhas
        clear hs
        have hsz := hb.size
        have hlt := HOW.out.lt
        go_wp2_with (first | (at_lookup; go_must (refine wpList_lookup_own_unit _ rfl _ _ 112 rfl 3 113 Tryz.lawInt Tryz.underlying112 (zero95 _) (w.heap.size + 1) k D rfl (HOW.out.alloc _) _ _ rfl hky ?_)) | (at_mapUpdate; go_must (refine wpList_mapUpdate_own _ rfl _ _ _ 112 rfl 3 113 Tryz.lawInt Tryz.underlying112 _ (w.heap.size + 1) k D rfl ((HOW.out.alloc _).alloc _) (by unfold maxLen; omega) _ _ _ rfl rfl hky _ [] unitElem_mk ?_; intro w3 hown3 hgrow3)))
        go_roundw
        case rel => exact ⟨k + 1, _, by omega, by go_num, ((hb.alloc hb.size _).alloc (by simp; omega) _).grown hgrow3 (by simp; omega) (fun j hj => by cases hj; omega), hown3, HT.out, fun j hj => (by
          rcases Nat.lt_or_ge j k with h3 | h3
          · exact HA.out j h3
          · have : j = k := by omega
            subst this; exact HN.out)⟩
        case measure => simp [intOf]; omega
    · have HE := hid (show verDiff n x = true from allTo_iff.2 (fun i hi => hall i (by omega)))
      clear hc hf hown htold hall
      go_wp2
      go_ret
      exact ⟨ret_bool HE.out.symm, hb⟩
end Go.Proofs.YtkfbclopkgnacaaGreatDoor
