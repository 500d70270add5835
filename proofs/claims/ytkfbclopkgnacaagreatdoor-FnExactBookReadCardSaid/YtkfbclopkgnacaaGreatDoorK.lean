import Derived.Test.YtkfbclopkgnacaaGreatDoorQ
import Derived.Test.YtkfbclopkgnacaaGreatDoorOb
import Derived.Test.YtkfbclopkgnacaaGreatDoorS
import Derived.Maps.OwnSet
import Derived.Maps.OwnOps
import Derived.ProofKit
import Derived.Test.YtkfbclopkgnacaaGreatDoorFl
import Derived.Deep.QuietTactic
import Derived.BigQuiet
import Derived.Deep.RegionWith
namespace Go.Proofs.YtkfbclopkgnacaaGreatDoor
open Go.RowKit
set_option maxRecDepth 100000 in
set_option maxHeartbeats 1000000 in
theorem objAsc_any (n : Nat) (x : Nat → Ob) (ad : Option Addr) (cap : Nat) (w : World) (lo hi : Nat) (hhi : hi ≤ w.heap.size) (hl : (n : Int) ≤ 140737488355328) (hc : ObjsIn w lo hi ad n x) :
    Calls Tryz.prog 93 #[.slice ad n cap, .func (.func 94) #[] #[]] w fun e w' => e = .returned (.bool (objAsc n x)) ∧ Below w.heap.size w w' := by
  go_enter Tryz.func93, Tryz.ntmps93
  go_wp2
  go_loopw [5] (fun i wr => ∃ k : Nat, 1 ≤ k ∧ (k ≤ n ∨ k = 1) ∧ i = .int .i64 k ∧ (∀ j, j < k → (j == 0 || befB (x (j - 1)) (x j)) = true) ∧ Below w.heap.size w wr) (fun i _ => n - (intOf i).toNat)
  case atStart => exact ⟨1, Nat.le_refl _, Or.inr rfl, rfl, fun j hj => (by have : j = 0 := by omega
                                                                            subst this; rfl), Below.refl _ _⟩
  case round =>
    obtain ⟨k, hk1, hk, rfl, hall, hb⟩ := hrel
    by_cases hkn : k < n
    · obtain ⟨m, rfl⟩ : ∃ m, k = m + 1 := ⟨k - 1, by omega⟩
      obtain ⟨b, off, ah, ch, rfl, hlo, hbh, hcx, _⟩ := hc (m + 1) hkn
      obtain ⟨b', off', ah', ch', e, _, hbh', hcm, _⟩ := hc m (by omega)
      cases e
      obtain ⟨d0, d1, d2, d3, d4, d5, d6⟩ := hcx.below hb (by omega)
      obtain ⟨q0, q1, q2, q3, q4, q5, q6⟩ := hcm.below hb (by omega)
      have hbw : b < wr.heap.size := by have := hb.size; omega
      have rd0 := subcell d0 hbw
      have rd1 := subcell d1 hbw
      have rd2 := subcell d2 hbw
      have rd3 := subcell d3 hbw
      have rd4 := subcell d4 hbw
      have rd5 := subcell d5 hbw
      have rd6 := subcell d6 hbw
      have rp0 := subcell q0 hbw
      have rp1 := subcell q1 hbw
      have rp2 := subcell q2 hbw
      have rp3 := subcell q3 hbw
      have rp4 := subcell q4 hbw
      have rp5 := subcell q5 hbw
      have rp6 := subcell q6 hbw
      have hne : Nonempty (GW wr) := ⟨⟨wr, Below.refl _ _⟩⟩
      have HA := hid hall
      have hkz : (m : Int) + 1 ≤ n := by omega
      clear hall hc hk hcx hcm d0 d1 d2 d3 d4 d5 d6 q0 q1 q2 q3 q4 q5 q6
      cases hlt : befB (x m) (x (m + 1)) with
      | false =>
        have HE := hid (show objAsc n x = false from allTo_no (p := fun i => i == 0 || befB (x (i - 1)) (x i)) hkn (by simp [hlt]))
        go_wp2
        refine wp_region_grow (by kernel_rfl) (by kernel_rfl) ?_
        repeat (go_big_quiet_step ((go_at_call 94; go_must (exact grow_of (before_any (x m) (x (m + 1)) _ _ _ _ _)))))
        refine wpQuiet_nil ?_
        rintro w2 ⟨u, hu⟩
        have hw2 : Below wr.heap.size wr w2 := hu ▸ u.prop
        clear hu u
        go_wp2
        go_ret
        exact ⟨ret_bool HE.out.symm, hb.trans (hw2.mono hb.size)⟩
      | true =>
        have HN := hid (show (m + 1 == 0 || befB (x (m + 1 - 1)) (x (m + 1))) = true by simp [hlt])
        go_wp2
        refine wp_region_grow (by kernel_rfl) (by kernel_rfl) ?_
        repeat (go_big_quiet_step ((go_at_call 94; go_must (exact grow_of (before_any (x m) (x (m + 1)) _ _ _ _ _)))))
        refine wpQuiet_nil ?_
        rintro w2 ⟨u, hu⟩
        have hw2 : Below wr.heap.size wr w2 := hu ▸ u.prop
        clear hu u
        go_wp2
        go_roundw
        case rel => exact ⟨m + 2, by omega, Or.inl (by omega), by go_num, fun j hj => (by
          rcases Nat.lt_or_ge j (m + 1) with h3 | h3
          · exact HA.out j h3
          · have : j = m + 1 := by omega
            subst this; exact HN.out), hb.trans (hw2.mono hb.size)⟩
        case measure => simp [intOf]; omega
    · have HE := hid (show objAsc n x = true from allTo_iff.2 (fun i hi => hall i (by omega)))
      clear hall hc hk
      go_wp2
      go_ret
      exact ⟨ret_bool HE.out.symm, hb⟩
def objs1B (n : Nat) (x : Nat → Ob) (now : Int) : Bool := decide (n ≤ 100) && (objAsc n x && objFit n x now)
set_option maxRecDepth 100000 in
set_option maxHeartbeats 1000000 in
theorem objsFit_any (now floor : Int) (n : Nat) (x : Nat → Ob) (a1 a2 a3 : Option Addr) (c1 n2 c2 n3 c3 : Nat) (w : World) (lo hi : Nat) (hhi : hi ≤ w.heap.size) (hl : (n : Int) ≤ 1099511627776) (hf : ∀ i, i < n → ObFit (x i)) (hc : ObjsIn w lo hi a1 n x) :
    Calls Tryz.prog 64 #[.agg #[.int .i64 now, .int .i64 floor, .slice a1 n c1, .slice a2 n2 c2, .slice a3 n3 c3]] w fun e w' => e = .returned (.bool (objs1B n x now)) ∧ Below w.heap.size w w' := by
  have hcA := fun o => hc.below (below_alloc' w o) hhi
  by_cases h100 : (100 : Int) < n
  · have HE := hid (show objs1B n x now = false by unfold objs1B; rw [decide_eq_false (by omega)]; rfl)
    go_enter Tryz.func64, Tryz.ntmps64
    go_wp2
    go_ret
    exact ⟨ret_bool HE.out.symm, below_alloc' _ _⟩
  cases ha : objAsc n x with
  | false =>
    have HE := hid (show objs1B n x now = false by unfold objs1B; rw [ha]; simp)
    go_enter Tryz.func64, Tryz.ntmps64
    go_wp2_with (go_at_call 93; refine (objAsc_any n x a1 c1 _ lo hi (by simp; omega) (by omega) (hcA _)).mono ?_; rintro e w1 ⟨rfl, hb1⟩)
    go_ret
    exact ⟨ret_bool HE.out.symm, (below_alloc' _ _).trans (hb1.mono (by simp))⟩
  | true =>
    have HAS := hid ha
    go_enter Tryz.func64, Tryz.ntmps64
    go_wp2_with (go_at_call 93; refine (objAsc_any n x a1 c1 _ lo hi (by simp; omega) (by omega) (hcA _)).mono ?_; rintro e w1 ⟨rfl, hb1⟩; have k0 := box_cell hb1 0; have k2 := box_cell hb1 2; simp only [List.getElem?_toArray, List.getElem?_cons_succ, List.getElem?_cons_zero] at k0 k2; have hB1 : Below w.heap.size w w1 := (below_alloc' _ _).trans (hb1.mono (by simp)); have hz1 : w.heap.size < w1.heap.size := (by have := hb1.size; simp at this; omega); clear hb1)
    go_loopw [18] (fun i wr => ∃ k : Nat, k ≤ n ∧ i = .int .i64 k ∧ (∀ j, j < k → partsB (x j) now = true ∧ standB (x j) = true) ∧ Below w.heap.size w wr ∧ w.heap.size < wr.heap.size ∧ wr.cell? ⟨w.heap.size, 0, none⟩ = some (.int .i64 now)) (fun i _ => n - (intOf i).toNat)
    case atStart => exact ⟨0, Nat.zero_le _, rfl, fun j hj => absurd hj (Nat.not_lt_zero _), hB1, hz1, k0⟩
    case round =>
      obtain ⟨k, hk, rfl, hall, hb, hz, hb0⟩ := hrel
      by_cases hkn : k < n
      · obtain ⟨b, off, ah, ch, rfl, hlo, hbh, hcx, hsx⟩ := hc k hkn
        have hfk := hf k hkn
        have hfh : ((x k).hn : Int) ≤ 140737488355328 := by have := hfk.h; omega
        obtain ⟨d0, d1, d2, d3, d4, d5, d6⟩ := hcx.below hb (by omega)
        have hs1 := hsx.below hb hhi
        have HA := hid hall
        clear hall hc hf hcx hsx hcA k0 k2 hB1 hz1 ha
        cases hp : partsB (x k) now with
        | false =>
          have HE := hid (show objs1B n x now = false by unfold objs1B objFit; rw [allTo_no (p := fun i => partsB (x i) now && standB (x i)) hkn (by rw [hp]; rfl)]; simp)
          go_wp2_with (go_at_call 95; refine (objFits_any (x k) now ah ch _ lo hi (by simp; have := hb.size; omega) hfk (hs1.alloc (by have := hb.size; omega) _)).mono ?_; rintro e w2 ⟨rfl, hb2⟩)
          go_ret
          exact ⟨ret_bool HE.out.symm, (hb.alloc hb.size _).trans (hb2.mono (by simp; have := hb.size; omega))⟩
        | true =>
          have HP := hid hp
          go_wp2_with (go_at_call 95; refine (objFits_any (x k) now ah ch _ lo hi (by simp; have := hb.size; omega) hfk (hs1.alloc (by have := hb.size; omega) _)).mono ?_; rintro e w2 ⟨rfl, hb2⟩; have t0 := box_cell hb2 0; have t1 := box_cell hb2 1; have t2 := box_cell hb2 2; have t3 := box_cell hb2 3; have t4 := box_cell hb2 4; have t5 := box_cell hb2 5; have t6 := box_cell hb2 6; simp only [List.getElem?_toArray, List.getElem?_cons_succ, List.getElem?_cons_zero] at t0 t1 t2 t3 t4 t5 t6)
          refine (mayStand_any (x k) ah ch _ hfh).mono ?_
          rintro e w3 ⟨rfl, hb3⟩
          have hB2 : Below w.heap.size w w2 := (hb.alloc hb.size _).trans (hb2.mono (by simp; have := hb.size; omega))
          have hB3 : Below w.heap.size w w3 := hB2.trans (hb3.mono hB2.size)
          have hz2 : wr.heap.size < w2.heap.size := by have := hb2.size; simp at this; omega
          have h00 : w3.cell? ⟨w.heap.size, 0, none⟩ = some (.int .i64 now) := (hb3.cell (p := ⟨w.heap.size, 0, none⟩) (by show w.heap.size < _; omega)).trans ((hb2.cell (p := ⟨w.heap.size, 0, none⟩) (by simp; omega)).trans ((World.cell?_alloc_past _ _ _ hz).trans hb0))
          have hz3 : w.heap.size < w3.heap.size := by have := hb3.size; omega
          clear t0 t1 t2 t3 t4 t5 t6 d0 d1 d2 d3 d4 d5 d6 hs1 hb2 hb3
          cases hst : standB (x k) with
          | false =>
            have HE := hid (show objs1B n x now = false by unfold objs1B objFit; rw [allTo_no (p := fun i => partsB (x i) now && standB (x i)) hkn (by rw [hp, hst]; rfl)]; simp)
            go_wp2
            go_ret
            exact ⟨ret_bool HE.out.symm, hB3⟩
          | true =>
            have HS := hid hst
            go_wp2
            go_roundw
            case rel => exact ⟨k + 1, by omega, by go_num, fun j hj => (by
              rcases Nat.lt_or_ge j k with h3 | h3
              · exact HA.out j h3
              · have : j = k := by omega
                subst this; exact ⟨HP.out, HS.out⟩), hB3, hz3, h00⟩
            case measure => simp [intOf]; omega
      · have HE := hid (show objs1B n x now = true by unfold objs1B objFit; rw [HAS.out, decide_eq_true (show n ≤ 100 by omega), allTo_iff.2 (fun i hi => by rw [(hall i (by omega)).1, (hall i (by omega)).2]; rfl)]; rfl)
        clear hall hc hf hcA
        go_wp2
        go_ret
        exact ⟨ret_bool HE.out.symm, hb⟩
end Go.Proofs.YtkfbclopkgnacaaGreatDoor
namespace Go.Proofs.YtkfbclopkgnacaaGreatDoor
open Go.RowKit Go.Maps
set_option maxRecDepth 100000 in
set_option maxHeartbeats 400000 in
theorem keyOf_any (x : Ob) (ad : Option Addr) (cap : Nat) (w : World) :
    Calls Tryz.prog 98 #[.agg #[.string x.kind, .string x.name, .int .i64 x.ver, .int .i64 x.born, .string x.text, .bool x.ending, .slice ad x.hn cap]] w fun e w' => e = .returned (.agg #[.string x.kind, .string x.name]) ∧ Below w.heap.size w w' := by
  go_enter Tryz.func98, Tryz.ntmps98
  go_wp2
  refine bodyPost_ret (v := .agg #[.string x.kind, .string x.name]) (by simp [results, Tryz.results98, go_sem]) rfl ⟨rfl, ?_⟩
  exact ((below_alloc _ _).alloc (by simp) _)
theorem Tryz.laidOut : laidOutB Tryz.prog = true := by kernel_rfl
theorem Tryz.row118 : 118 < Tryz.prog.types.size := of_decide_eq_true (by kernel_rfl)
theorem Tryz.law118 : Keyed Tryz.prog 118 := Keyed.of_law (deep_law_laid Tryz.laidOut (m := 2) (by omega) Tryz.row118 (by kernel_rfl) (by kernel_rfl))
theorem Tryz.key118 : Tryz.prog.keyType 118 = true := by kernel_rfl
theorem Tryz.cells118 : Tryz.prog.cellsOf 118 = 2 := by kernel_rfl
theorem Tryz.cells9 : Tryz.prog.cellsOf 9 = 1 := by kernel_rfl
def kl (a b : ByteArray) : Lit := .string (keyBytes [.string a.data.toList, .string b.data.toList])
theorem hkey (a b : ByteArray) (ha : a.size ≤ maxLen) (hb : b.size ≤ maxLen) : keyOf Tryz.prog 118 (.agg #[.string a, .string b]) = some (kl a b) := by
  obtain ⟨d, hd⟩ : ∃ d, Tryz.prog.types.size + 1 = d + 2 := ⟨Tryz.prog.types.size - 1, by have := Tryz.row118; omega⟩
  unfold keyOf
  rw [Tryz.underlying118]
  simp only [Tryz.key118, Value.formed, Tryz.underlying118, Tryz.cells118, hd]
  simp [Program.keyLits, Tryz.underlying118, Tryz.underlying9, Tryz.cells118, Tryz.cells9, Value.cells, ha, hb, kl]
theorem kl_ne {a b a' b' : ByteArray} (ha : a.size ≤ maxLen) (hb : b.size ≤ maxLen) (ha' : a'.size ≤ maxLen) (hb' : b'.size ≤ maxLen) (h : ¬ (a = a' ∧ b = b')) : kl a b ≠ kl a' b' := by
  intro e
  have h1 := hkey a b ha hb
  have h2 := hkey a' b' ha' hb'
  rw [← e] at h2
  have := Tryz.law118.inj h1 h2
  simp at this
  exact h this
theorem zero3 (w : World) : (zeroValue 3).run Tryz.prog w = .ok (.int .i64 0) w := by kernel_rfl
/-- the first of the first n objects of this kind and name -/
def fnd (x : Nat → Ob) (a b : ByteArray) : Nat → Option Nat
  | 0 => none
  | n + 1 => match fnd x a b n with
    | some i => some i
    | none => if (x n).kind = a ∧ (x n).name = b then some n else none
theorem fnd_lt {x : Nat → Ob} {a b : ByteArray} : ∀ {n i : Nat}, fnd x a b n = some i → i < n ∧ (x i).kind = a ∧ (x i).name = b
  | 0, _, h => by cases h
  | n + 1, i, h => by
    unfold fnd at h
    split at h
    · rename_i j hj
      cases h
      have := fnd_lt hj
      exact ⟨by omega, this.2⟩
    · split at h
      · rename_i hh
        cases h
        exact ⟨by omega, hh⟩
      · cases h
theorem fnd_some {x : Nat → Ob} {a b : ByteArray} {n i : Nat} (h : fnd x a b n = some i) : fnd x a b (n + 1) = some i := by unfold fnd; rw [h]
theorem fnd_hit {x : Nat → Ob} {a b : ByteArray} {n : Nat} (h : fnd x a b n = none) (h2 : (x n).kind = a ∧ (x n).name = b) : fnd x a b (n + 1) = some n := by unfold fnd; rw [h]; exact if_pos h2
theorem fnd_miss {x : Nat → Ob} {a b : ByteArray} {n : Nat} (h : fnd x a b n = none) (h2 : ¬ ((x n).kind = a ∧ (x n).name = b)) : fnd x a b (n + 1) = none := by unfold fnd; rw [h]; exact if_neg h2
/-- the map D tells where each kind and name stands first, among the first n -/
def Told (x : Nat → Ob) (n : Nat) (D : DataW Unit) : Prop := ∀ a b : ByteArray, a.size ≤ maxLen → b.size ≤ maxLen →
  (∀ i, fnd x a b n = some i → Maps.has D (kl a b) = true ∧ D.atKey (kl a b) (.lit (.int .i64 0)) = .lit (.int .i64 i)) ∧ (fnd x a b n = none → Maps.has D (kl a b) = false)
theorem told_start (x : Nat → Ob) : Told x 0 (.map []) := fun a b _ _ => ⟨fun i h => (by cases h), fun _ => rfl⟩
theorem told_same {x : Nat → Ob} {n i : Nat} {D : DataW Unit} (h : Told x n D) (hi : fnd x (x n).kind (x n).name n = some i) : Told x (n + 1) D := fun a b ha hb => by
  obtain ⟨h1, h2⟩ := h a b ha hb
  by_cases hh : (x n).kind = a ∧ (x n).name = b
  · obtain ⟨rfl, rfl⟩ := hh
    refine ⟨fun j hj => ?_, fun hj => ?_⟩
    · rw [fnd_some hi] at hj; cases hj; exact h1 _ hi
    · rw [fnd_some hi] at hj; cases hj
  · cases hc : fnd x a b n with
    | none => exact ⟨fun j hj => (by rw [fnd_miss hc hh] at hj; cases hj), fun _ => h2 hc⟩
    | some m => exact ⟨fun j hj => (by rw [fnd_some hc] at hj; cases hj; exact h1 _ hc), fun hj => (by rw [fnd_some hc] at hj; cases hj)⟩
theorem kl_key (a b : ByteArray) (ha : a.size ≤ maxLen) (hb : b.size ≤ maxLen) : WideAt.IsKeyLit (kl a b) := Tryz.law118.key (hkey a b ha hb)
theorem told_put {x : Nat → Ob} {n : Nat} {D : DataW Unit} (h : Told x n D) (hD : IsMap D) (hi : fnd x (x n).kind (x n).name n = none) (hk : (x n).kind.size ≤ maxLen) (hn : (x n).name.size ≤ maxLen) : Told x (n + 1) (D.put (kl (x n).kind (x n).name) (.lit (.int .i64 n))) := fun a b ha hb => by
  obtain ⟨h1, h2⟩ := h a b ha hb
  by_cases hh : (x n).kind = a ∧ (x n).name = b
  · obtain ⟨rfl, rfl⟩ := hh
    refine ⟨fun j hj => ?_, fun hj => ?_⟩
    · rw [fnd_hit hi ⟨rfl, rfl⟩] at hj
      cases hj
      exact ⟨has_put_same hD (kl_key _ _ hk hn) _, atKey_put_same hD (kl_key _ _ hk hn) _ _⟩
    · rw [fnd_hit hi ⟨rfl, rfl⟩] at hj; cases hj
  · have hne : kl a b ≠ kl (x n).kind (x n).name := kl_ne ha hb hk hn (fun e => hh ⟨e.1.symm, e.2.symm⟩)
    rw [has_put_other hne, atKey_put_other hne]
    cases hc : fnd x a b n with
    | none => exact ⟨fun j hj => (by rw [fnd_miss hc hh] at hj; cases hj), fun _ => h2 hc⟩
    | some m => exact ⟨fun j hj => (by rw [fnd_some hc] at hj; cases hj; exact h1 _ hc), fun hj => (by rw [fnd_some hc] at hj; cases hj)⟩
theorem run_makeMap_hint (n : Nat) (w : World) : (Instr.makeMap 116 (some (.int .i64 (n : Int)))).run Tryz.prog w = .ok (.map (some w.heap.size)) (w.alloc (.map #[] 0)) := by
  simp [Instr.makeMap, run_underlying Tryz.underlying116, asInt, asIntOf, Result.andThen]
set_option maxRecDepth 100000 in
set_option maxHeartbeats 1000000 in
theorem places_any (n : Nat) (x : Nat → Ob) (ad : Option Addr) (cap : Nat) (w : World) (lo hi : Nat) (hhi : hi ≤ w.heap.size) (hl : (n : Int) ≤ 1099511627776) (hf : ∀ i, i < n → ObFit (x i)) (hc : ObjsIn w lo hi ad n x) :
    Calls Tryz.prog 103 #[.slice ad n cap] w fun e w' => ∃ D : DataW Unit, e = .returned (.map (some w.heap.size)) ∧ w'.ownsMap Tryz.prog 118 (plainElem Tryz.prog 3) w.heap.size n D ∧ Told x n D ∧ Below w.heap.size w w' := by
  have hmm := run_makeMap_hint n w
  go_enter Tryz.func103, Tryz.ntmps103
  go_wp2_with fail
  go_loopw [13] (fun i wr => ∃ (k : Nat) (D : DataW Unit), k ≤ n ∧ i = .int .i64 k ∧ Below w.heap.size w wr ∧ wr.ownsMap Tryz.prog 118 (plainElem Tryz.prog 3) w.heap.size k D ∧ Told x k D) (fun i _ => n - (intOf i).toNat)
  case atStart => exact ⟨0, .map [], Nat.zero_le _, rfl, below_alloc _ _, World.ownsMap_made _ _ _ _, told_start x⟩
  case round =>
    obtain ⟨k, D, hk, rfl, hb, hown, htold⟩ := hrel
    clear hmm
    by_cases hkn : k < n
    · obtain ⟨b, off, ah, ch, rfl, hlo, hbh, hcx, hsx⟩ := hc k hkn
      obtain ⟨fk, fn, _, _, _⟩ := hf k hkn
      have hsk : (x k).kind.size ≤ maxLen := by unfold maxLen; omega
      have hsn : (x k).name.size ≤ maxLen := by unfold maxLen; omega
      obtain ⟨d0, d1, d2, d3, d4, d5, d6⟩ := hcx.below hb (by omega)
      clear hc hf hcx hsx
      have hky := hkey (x k).kind (x k).name hsk hsn
      cases hfd : fnd x (x k).kind (x k).name k with
      | none =>
        have hhas := (htold _ _ hsk hsn).2 hfd
        have HT := hid (told_put htold hown.isMap hfd hsk hsn)
        have HOW := hid hown
        clear hfd htold hown
        go_wp2_with fail
        refine (keyOf_any (x k) ah ch _).mono ?_
        rintro e w1 ⟨rfl, hb1⟩
        have hown1 := hid (ownsMap_below (HOW.out.alloc _) hb1 (by simp; have := HOW.out.lt; omega))
        have hB1 := (hb.alloc hb.size (.cells #[.string (x k).kind, .string (x k).name, .int .i64 (x k).ver, .int .i64 (x k).born, .string (x k).text, .bool (x k).ending, .slice ah (x k).hn ch] 38)).trans (hb1.mono (by simp; have := hb.size; omega))
        have p0 := box_cell hb1 0
        have p1 := box_cell hb1 1
        have p2 := box_cell hb1 2
        have p3 := box_cell hb1 3
        have p4 := box_cell hb1 4
        have p5 := box_cell hb1 5
        have p6 := box_cell hb1 6
        simp only [List.getElem?_toArray, List.getElem?_cons_succ, List.getElem?_cons_zero] at p0 p1 p2 p3 p4 p5 p6
        clear hb1 d0 d1 d2 d3 d4 d5 d6 HOW
        go_wp2_with (at_lookup; go_must (refine wpList_lookup_own_ok_int _ rfl _ _ 116 rfl 118 3 .i64 Tryz.law118 Tryz.underlying116 Tryz.underlying3 (zero3 _) w.heap.size k D rfl hown1.out _ _ rfl hky ?_; intro c hat hwc))
        refine (keyOf_any (x k) ah ch _).mono ?_
        rintro e w2 ⟨rfl, hb2⟩
        have hown2 := hid (ownsMap_below hown1.out hb2 hown1.out.lt)
        have hB2 := hB1.trans (hb2.mono hB1.size)
        clear hb2 p0 p1 p2 p3 p4 p5 p6 hat hwc hown1
        go_wp2_with (at_mapUpdate; go_must (refine wpList_mapUpdate_own _ rfl _ _ _ 116 rfl 118 3 Tryz.law118 Tryz.underlying116 _ w.heap.size k D rfl hown2.out (by unfold maxLen; omega) _ _ _ rfl rfl hky _ [] (plainElem_int Tryz.underlying3 (WalkArith.wf_i64 (by omega))) ?_; intro w3 hown3 hgrow3))
        go_roundw
        case rel => exact ⟨k + 1, _, by omega, by go_num, hB2.grown hgrow3 hB2.size (fun j hj => by cases hj; exact Nat.le_refl _), hown3, HT.out⟩
        case measure => simp [intOf]; omega
      | some i =>
        have hhas := ((htold _ _ hsk hsn).1 i hfd).1
        have HT := hid (told_same htold hfd)
        have HOW := hid hown
        clear hfd htold hown
        go_wp2_with fail
        refine (keyOf_any (x k) ah ch _).mono ?_
        rintro e w1 ⟨rfl, hb1⟩
        have hown1 := hid (ownsMap_below (HOW.out.alloc _) hb1 (by simp; have := HOW.out.lt; omega))
        have hB1 := (hb.alloc hb.size (.cells #[.string (x k).kind, .string (x k).name, .int .i64 (x k).ver, .int .i64 (x k).born, .string (x k).text, .bool (x k).ending, .slice ah (x k).hn ch] 38)).trans (hb1.mono (by simp; have := hb.size; omega))
        have p0 := box_cell hb1 0
        have p1 := box_cell hb1 1
        have p2 := box_cell hb1 2
        have p3 := box_cell hb1 3
        have p4 := box_cell hb1 4
        have p5 := box_cell hb1 5
        have p6 := box_cell hb1 6
        simp only [List.getElem?_toArray, List.getElem?_cons_succ, List.getElem?_cons_zero] at p0 p1 p2 p3 p4 p5 p6
        clear hb1 d0 d1 d2 d3 d4 d5 d6 HOW
        clear p0 p1 p2 p3 p4 p5 p6
        go_wp2_with (at_lookup; go_must (refine wpList_lookup_own_ok_int _ rfl _ _ 116 rfl 118 3 .i64 Tryz.law118 Tryz.underlying116 Tryz.underlying3 (zero3 _) w.heap.size k D rfl hown1.out _ _ rfl hky ?_; intro c hat hwc))
        go_roundw
        case rel => exact ⟨k + 1, D, by omega, by go_num, hB1, hown1.out.mono (by omega), HT.out⟩
        case measure => simp [intOf]; omega
    · have : k = n := by omega
      subst this
      have HR := hid (And.intro hown htold)
      clear hc hf hown htold
      go_wp2
      go_ret
      exact ⟨D, rfl, HR.out.1, HR.out.2, hb⟩
end Go.Proofs.YtkfbclopkgnacaaGreatDoor
namespace Go.Proofs.YtkfbclopkgnacaaGreatDoor
open Go.RowKit
theorem Tryz.info45 : (Tryz.prog.info? 45).map (fun i => (i.zero, i.size, i.bytes)) = some (some (.agg #[.string ByteArray.empty, .int .i64 0, .string ByteArray.empty, .int .i64 0, .int .i64 0]), 5, 56) := by kernel_rfl
structure TicsOwnAt (w : World) (g n m : Nat) (x : Nat → Ti) : Prop where
  room : Room w g (m * 5)
  at_ : ∀ i, i < n → TiCells w g (i * 5) (x i)
theorem TicsOwnAt.step {wr w1 : World} {g k n : Nat} {x : Nat → Ti} (h : TicsOwnAt wr g k n x) (hk : k < n) (hb : Below wr.heap.size wr w1) :
    TicsOwnAt (w1.setCells g (k * 5) [.string (x k).client, .int .i64 (x k).num, .string (x k).print, .int .i64 (x k).code, .int .i64 (x k).ver]) g (k + 1) n x := by
  have hg := h.room.lt
  have hR := h.room.below hb hg
  generalize hvs : [Value.string (x k).client, .int .i64 (x k).num, .string (x k).print, .int .i64 (x k).code, .int .i64 (x k).ver] = vs
  have hlen : vs.length = 5 := by rw [← hvs]; rfl
  have hin := World.cell?_setCells_in g vs (k * 5) w1 (fun j hj => by
    obtain ⟨u, hu⟩ := hR.has (k * 5 + j) (by omega)
    rw [hu]; rfl)
  refine ⟨hR.setCells vs (by omega), fun i hi => ?_⟩
  by_cases e : i < k
  · have c := (h.at_ i e).below hb hg
    have ee : ∀ j, j < 5 → (w1.setCells g (k * 5) vs).cell? ⟨g, i * 5 + j, none⟩ = w1.cell? ⟨g, i * 5 + j, none⟩ := fun j hj => World.cell?_setCells_out g vs (k * 5) w1 _ (fun _ _ => Or.inl (by show i * 5 + j < k * 5; omega))
    exact ⟨(ee 0 (by omega)).trans c.c0, (ee 1 (by omega)).trans c.c1, (ee 2 (by omega)).trans c.c2, (ee 3 (by omega)).trans c.c3, (ee 4 (by omega)).trans c.c4⟩
  · have : i = k := by omega
    subst this
    have f := fun j (hj : j < 5) => hin j (by omega)
    have f0 := f 0 (by omega); have f1 := f 1 (by omega); have f2 := f 2 (by omega); have f3 := f 3 (by omega); have f4 := f 4 (by omega)
    subst hvs
    exact ⟨f0, f1, f2, f3, f4⟩
end Go.Proofs.YtkfbclopkgnacaaGreatDoor
namespace Go.Proofs.YtkfbclopkgnacaaGreatDoor
open Go.RowKit
theorem three_cell {w w1 : World} {c0 c1 c2 : Array Value} {t0 t1 t2 : TypeId} (hb : Below (((w.alloc (.cells c0 t0)).alloc (.cells c1 t1)).alloc (.cells c2 t2)).heap.size (((w.alloc (.cells c0 t0)).alloc (.cells c1 t1)).alloc (.cells c2 t2)) w1) :
    (∀ i, w1.cell? ⟨w.heap.size, i, none⟩ = c0[i]?) ∧ (∀ i, w1.cell? ⟨w.heap.size + 1, i, none⟩ = c1[i]?) ∧ (∀ i, w1.cell? ⟨w.heap.size + 1 + 1, i, none⟩ = c2[i]?) ∧ (∀ i, w1.frozen? ⟨w.heap.size + 1, i, none⟩ = false) ∧ (∀ i, w1.frozen? ⟨w.heap.size + 1 + 1, i, none⟩ = false) := by
  refine ⟨fun i => ?_, fun i => ?_, fun i => ?_, fun i => ?_, fun i => ?_⟩
  · rw [hb.cell (p := ⟨w.heap.size, i, none⟩) (by simp; omega)]
    rw [World.cell?_alloc_past _ _ _ (by simp; try omega), World.cell?_alloc_past _ _ _ (by simp; try omega), World.cell?_alloc_at _ _ _ _ rfl]
  · rw [hb.cell (p := ⟨w.heap.size + 1, i, none⟩) (by simp)]
    rw [World.cell?_alloc_past _ _ _ (by simp), World.cell?_alloc_at _ _ _ _ (by simp)]
  · rw [hb.cell (p := ⟨w.heap.size + 1 + 1, i, none⟩) (by simp)]
    rw [World.cell?_alloc_at _ _ _ _ (by simp)]
  · rw [hb.frozen (p := ⟨w.heap.size + 1, i, none⟩) (by simp)]
    rw [World.frozen?_alloc_past _ _ _ (by simp), World.frozen?_alloc_at _ _ _ _ (by simp)]
  · rw [hb.frozen (p := ⟨w.heap.size + 1 + 1, i, none⟩) (by simp)]
    rw [World.frozen?_alloc_at _ _ _ _ (by simp)]
theorem ObjsOwnAt.fr {w w' : World} {g hi n m lo2 hi2 : Nat} {x : Nat → Ob} {r : Nat → Nat} (h : ObjsOwnAt w g hi n m x r) (hb : Fr lo2 hi2 w w') (ho : hi ≤ lo2 ∨ hi2 ≤ g) : ObjsOwnAt w' g hi n m x r := by
  have hg : g < hi := Nat.lt_of_lt_of_le h.r0 (Nat.le_trans (r_mono h.mono (Nat.zero_le _) (Nat.le_refl _)) h.rn)
  have hc : ∀ j, w'.cell? ⟨g, j, none⟩ = w.cell? ⟨g, j, none⟩ := fun j => hb.cell (p := ⟨g, j, none⟩) (Nat.lt_of_lt_of_le hg h.hi) (by show g < _ ∨ _ ≤ g; omega)
  refine ⟨⟨fun j hj => ?_, fun j => (hb.frozen (p := ⟨g, j, none⟩) (Nat.lt_of_lt_of_le hg h.hi) (by show g < _ ∨ _ ≤ g; omega)).trans (h.room.free j), Nat.lt_of_lt_of_le h.room.lt hb.size⟩, h.r0, h.mono, h.rn, Nat.le_trans h.hi hb.size, fun i hi' => ?_⟩
  · obtain ⟨u, hu⟩ := h.room.has j hj; exact ⟨u, (hc j).trans hu⟩
  · obtain ⟨ah, ch, c, s⟩ := h.at_ i hi'
    have h1 : r (i + 1) ≤ hi := Nat.le_trans (r_mono h.mono (by omega) (Nat.le_refl _)) h.rn
    have h2 : g < r i := Nat.lt_of_lt_of_le h.r0 (r_mono h.mono (Nat.zero_le _) (by omega))
    exact ⟨ah, ch, c.fr (fun j _ => hc _), s.fr hb (Nat.le_trans h1 h.hi) (by omega)⟩
theorem ChgsOwnAt.fr {w w' : World} {g hi n m lo2 hi2 : Nat} {x : Nat → Ch} {r : Nat → Nat} (h : ChgsOwnAt w g hi n m x r) (hb : Fr lo2 hi2 w w') (ho : hi ≤ lo2 ∨ hi2 ≤ g) : ChgsOwnAt w' g hi n m x r := by
  have hg : g < hi := Nat.lt_of_lt_of_le h.r0 (Nat.le_trans (r_mono h.mono (Nat.zero_le _) (Nat.le_refl _)) h.rn)
  have hc : ∀ j, w'.cell? ⟨g, j, none⟩ = w.cell? ⟨g, j, none⟩ := fun j => hb.cell (p := ⟨g, j, none⟩) (Nat.lt_of_lt_of_le hg h.hi) (by show g < _ ∨ _ ≤ g; omega)
  refine ⟨⟨fun j hj => ?_, fun j => (hb.frozen (p := ⟨g, j, none⟩) (Nat.lt_of_lt_of_le hg h.hi) (by show g < _ ∨ _ ≤ g; omega)).trans (h.room.free j), Nat.lt_of_lt_of_le h.room.lt hb.size⟩, h.r0, h.mono, h.rn, Nat.le_trans h.hi hb.size, fun i hi' => ?_⟩
  · obtain ⟨u, hu⟩ := h.room.has j hj; exact ⟨u, (hc j).trans hu⟩
  · obtain ⟨ah, ch, c, s⟩ := h.at_ i hi'
    have h1 : r (i + 1) ≤ hi := Nat.le_trans (r_mono h.mono (by omega) (Nat.le_refl _)) h.rn
    have h2 : g < r i := Nat.lt_of_lt_of_le h.r0 (r_mono h.mono (Nat.zero_le _) (by omega))
    exact ⟨ah, ch, c.fr (fun j _ => hc _), s.fr hb (Nat.le_trans h1 h.hi) (by omega)⟩
theorem TicsOwnAt.fr {w w' : World} {g n m lo2 hi2 : Nat} {x : Nat → Ti} (h : TicsOwnAt w g n m x) (hb : Fr lo2 hi2 w w') (ho : g < lo2 ∨ hi2 ≤ g) : TicsOwnAt w' g n m x := by
  have hc : ∀ j, w'.cell? ⟨g, j, none⟩ = w.cell? ⟨g, j, none⟩ := fun j => hb.cell (p := ⟨g, j, none⟩) h.room.lt ho
  refine ⟨⟨fun j hj => ?_, fun j => (hb.frozen (p := ⟨g, j, none⟩) h.room.lt ho).trans (h.room.free j), Nat.lt_of_lt_of_le h.room.lt hb.size⟩, fun i hi' => ?_⟩
  · obtain ⟨u, hu⟩ := h.room.has j hj; exact ⟨u, (hc j).trans hu⟩
  · have c := h.at_ i hi'
    exact ⟨(hc _).trans c.c0, (hc _).trans c.c1, (hc _).trans c.c2, (hc _).trans c.c3, (hc _).trans c.c4⟩
/-- a book of the call's own: objects, changes, tickets, one behind the other, in blocks lo .. hi -/
structure BkOwn (w : World) (lo hi : Nat) (x : Bk) (g1 g2 g3 : Nat) : Prop where
  ob : ∃ h1 r1, ObjsOwnAt w g1 h1 x.on x.on x.os r1 ∧ h1 ≤ g2
  ch : ∃ h2 r2, ChgsOwnAt w g2 h2 x.hn x.hn x.hs r2 ∧ h2 ≤ g3
  ti : TicsOwnAt w g3 x.tn x.tn x.ts
  glo : lo ≤ g1
  ghi : g3 < hi
  gtop : hi ≤ w.heap.size
theorem after_call {w1 w2 : World} {a : Addr} {v : Value} (hb : Below (w1.setCell a v).heap.size (w1.setCell a v) w2) {p : Addr} (hp : p.block < w1.heap.size) (hne : a ≠ p) : w2.cell? p = w1.cell? p :=
  (hb.cell (by rw [World.size_setCell]; exact hp)).trans (World.cell?_setCell_other _ _ _ _ hne)
theorem after_call_same {w1 w2 : World} {a : Addr} {v u : Value} (hb : Below (w1.setCell a v).heap.size (w1.setCell a v) w2) (hp : a.block < w1.heap.size) (hu : w1.cell? a = some u) : w2.cell? a = some v :=
  (hb.cell (by rw [World.size_setCell]; exact hp)).trans (World.cell?_setCell_same _ _ _ hu)
theorem after_call_frozen {w1 w2 : World} {a : Addr} {v : Value} (hb : Below (w1.setCell a v).heap.size (w1.setCell a v) w2) {p : Addr} (hp : p.block < w1.heap.size) : w2.frozen? p = w1.frozen? p :=
  (hb.frozen (by rw [World.size_setCell]; exact hp)).trans (World.frozen?_setCell _ _ _ _)
end Go.Proofs.YtkfbclopkgnacaaGreatDoor
namespace Go.Proofs.YtkfbclopkgnacaaGreatDoor
open Go.RowKit
theorem StrsIn.drewN {w : World} {lo hi : Nat} {ad : Option Addr} {n : Nat} {s : Nat → ByteArray} (h : StrsIn w lo hi ad n s) (q : Nat) : StrsIn (w.drewN q) lo hi ad n s := h
theorem StrsIn.mono {w : World} {lo hi lo2 hi2 : Nat} {ad : Option Addr} {n : Nat} {s : Nat → ByteArray} (h : StrsIn w lo hi ad n s) (h1 : lo2 ≤ lo) (h2 : hi ≤ hi2) : StrsIn w lo2 hi2 ad n s := fun i hi' => by
  obtain ⟨b, off, e1, e2, e3, e4⟩ := h i hi'
  exact ⟨b, off, e1, by omega, by omega, e4⟩
set_option maxRecDepth 100000 in
set_option maxHeartbeats 400000 in
theorem eqOb_any (x : Ob) (ad ad2 : Option Addr) (cap cap2 : Nat) (w : World) (lo hi lo2 hi2 : Nat) (hh : hi ≤ w.heap.size) (hh2 : hi2 ≤ w.heap.size) (hl : (x.hn : Int) ≤ 140737488355328)
    (hc : StrsIn w lo hi ad x.hn x.hs) (hc2 : StrsIn w lo2 hi2 ad2 x.hn x.hs) :
    Calls Tryz.prog 45 #[.agg #[.string x.kind, .string x.name, .int .i64 x.ver, .int .i64 x.born, .string x.text, .bool x.ending, .slice ad x.hn cap], .agg #[.string x.kind, .string x.name, .int .i64 x.ver, .int .i64 x.born, .string x.text, .bool x.ending, .slice ad2 x.hn cap2]] w fun e w' => e = .returned (.bool true) ∧ Below w.heap.size w w' := by
  go_enter Tryz.func45, Tryz.ntmps45
  go_wp2_with fail
  refine (eqStrs_any x.hn x.hs ad ad2 cap cap2 _ lo hi lo2 hi2 hl ((hc.alloc hh _).alloc (by simp; omega) _) ((hc2.alloc hh2 _).alloc (by simp; omega) _)).mono ?_
  rintro e w1 ⟨rfl, q, rfl⟩
  go_wp2
  go_ret
  exact ⟨rfl, (((below_alloc _ _).alloc (by simp) _).trans ((below_drewN' _ _).mono (by simp; omega)))⟩
set_option maxRecDepth 100000 in
set_option maxHeartbeats 1000000 in
theorem eqObs_any (n : Nat) (x : Nat → Ob) (ad ad2 : Option Addr) (cap cap2 : Nat) (w : World) (lo hi lo2 hi2 : Nat) (hh : hi ≤ w.heap.size) (hh2 : hi2 ≤ w.heap.size) (hl : (n : Int) ≤ 140737488355328) (hf : ∀ i, i < n → ((x i).hn : Int) ≤ 140737488355328)
    (hc : ObjsIn w lo hi ad n x) (hc2 : ObjsIn w lo2 hi2 ad2 n x) :
    Calls Tryz.prog 17 #[.slice ad n cap, .slice ad2 n cap2] w fun e w' => e = .returned (.bool true) ∧ Below w.heap.size w w' := by
  go_enter Tryz.func17, Tryz.ntmps17
  go_wp2
  go_loopw [5] (fun i wr => ∃ k : Nat, k ≤ n ∧ i = .int .i64 k ∧ Below w.heap.size w wr) (fun i _ => n - (intOf i).toNat)
  case atStart => exact ⟨0, Nat.zero_le _, rfl, Below.refl _ _⟩
  case round =>
    obtain ⟨k, hk, rfl, hb⟩ := hrel
    by_cases hkn : k < n
    · obtain ⟨b, off, ah, ch, rfl, hlo, hbh, hcx, hsx⟩ := hc k hkn
      obtain ⟨b2, off2, ah2, ch2, rfl, hlo2, hbh2, hcx2, hsx2⟩ := hc2 k hkn
      have hfk := hf k hkn
      obtain ⟨d0, d1, d2, d3, d4, d5, d6⟩ := hcx.below hb (by omega)
      obtain ⟨e0, e1, e2, e3, e4, e5, e6⟩ := hcx2.below hb (by omega)
      have hs := hsx.below hb hh
      have hs2 := hsx2.below hb hh2
      have hw1 := Nat.le_trans hh hb.size
      have hw2 := Nat.le_trans hh2 hb.size
      clear hc hc2 hf hcx hcx2 hsx hsx2
      generalize x k = y at *
      go_wp2
      go_region_with (go_at_call 45; refine (eqOb_any y ah ah2 ch ch2 _ lo hi lo2 hi2 (by exact hw1) (by exact hw2) hfk (by exact hs.drewN 1) (by exact hs2.drewN 1)).mono ?_; rintro e w1 ⟨rfl, hb1⟩)
      all_goals
        go_wp2
        go_roundw
        case rel => exact ⟨k + 1, by omega, by go_num, hb.drew.trans (hb1.mono hb.size)⟩
        case measure => simp [intOf]; omega
    · have : k = n := by omega
      subst this
      clear hc hc2
      go_wp2
      go_ret
      exact ⟨rfl, hb⟩
end Go.Proofs.YtkfbclopkgnacaaGreatDoor
namespace Go.Proofs.YtkfbclopkgnacaaGreatDoor
open Go.RowKit
set_option maxRecDepth 100000 in
set_option maxHeartbeats 400000 in
theorem eqCh_any (x : Ch) (ad ad2 : Option Addr) (cap cap2 : Nat) (w : World) (lo hi lo2 hi2 : Nat) (hh : hi ≤ w.heap.size) (hh2 : hi2 ≤ w.heap.size) (hl : (x.ob.hn : Int) ≤ 140737488355328)
    (hc : StrsIn w lo hi ad x.ob.hn x.ob.hs) (hc2 : StrsIn w lo2 hi2 ad2 x.ob.hn x.ob.hs) :
    Calls Tryz.prog 46 #[.agg #[.int .i64 x.ver, .bool x.gone, .string x.ob.kind, .string x.ob.name, .int .i64 x.ob.ver, .int .i64 x.ob.born, .string x.ob.text, .bool x.ob.ending, .slice ad x.ob.hn cap], .agg #[.int .i64 x.ver, .bool x.gone, .string x.ob.kind, .string x.ob.name, .int .i64 x.ob.ver, .int .i64 x.ob.born, .string x.ob.text, .bool x.ob.ending, .slice ad2 x.ob.hn cap2]] w fun e w' => e = .returned (.bool true) ∧ Below w.heap.size w w' := by
  go_enter Tryz.func46, Tryz.ntmps46
  go_wp2_with fail
  refine (eqOb_any x.ob ad ad2 cap cap2 _ lo hi lo2 hi2 (by simp; omega) (by simp; omega) hl ((hc.alloc hh _).alloc (by simp; omega) _) ((hc2.alloc hh2 _).alloc (by simp; omega) _)).mono ?_
  rintro e w1 ⟨rfl, hb1⟩
  go_wp2
  go_ret
  exact ⟨rfl, (((below_alloc _ _).alloc (by simp) _).trans (hb1.mono (by simp; omega)))⟩
set_option maxRecDepth 100000 in
set_option maxHeartbeats 400000 in
theorem eqTi_any (x : Ti) (w : World) :
    Calls Tryz.prog 47 #[.agg #[.string x.client, .int .i64 x.num, .string x.print, .int .i64 x.code, .int .i64 x.ver], .agg #[.string x.client, .int .i64 x.num, .string x.print, .int .i64 x.code, .int .i64 x.ver]] w fun e w' => e = .returned (.bool true) ∧ Below w.heap.size w w' := by
  go_enter Tryz.func47, Tryz.ntmps47
  go_wp2
  go_ret
  exact ⟨rfl, ((below_alloc _ _).alloc (by simp) _)⟩
set_option maxRecDepth 100000 in
set_option maxHeartbeats 1000000 in
theorem eqChs_any (n : Nat) (x : Nat → Ch) (ad ad2 : Option Addr) (cap cap2 : Nat) (w : World) (lo hi lo2 hi2 : Nat) (hh : hi ≤ w.heap.size) (hh2 : hi2 ≤ w.heap.size) (hl : (n : Int) ≤ 140737488355328) (hf : ∀ i, i < n → ((x i).ob.hn : Int) ≤ 140737488355328)
    (hc : ChgsIn w lo hi ad n x) (hc2 : ChgsIn w lo2 hi2 ad2 n x) :
    Calls Tryz.prog 18 #[.slice ad n cap, .slice ad2 n cap2] w fun e w' => e = .returned (.bool true) ∧ Below w.heap.size w w' := by
  go_enter Tryz.func18, Tryz.ntmps18
  go_wp2
  go_loopw [5] (fun i wr => ∃ k : Nat, k ≤ n ∧ i = .int .i64 k ∧ Below w.heap.size w wr) (fun i _ => n - (intOf i).toNat)
  case atStart => exact ⟨0, Nat.zero_le _, rfl, Below.refl _ _⟩
  case round =>
    obtain ⟨k, hk, rfl, hb⟩ := hrel
    by_cases hkn : k < n
    · obtain ⟨b, off, ah, ch, rfl, hlo, hbh, hcx, hsx⟩ := hc k hkn
      obtain ⟨b2, off2, ah2, ch2, rfl, hlo2, hbh2, hcx2, hsx2⟩ := hc2 k hkn
      have hfk := hf k hkn
      obtain ⟨d0, d1, d2, d3, d4, d5, d6, d7, d8⟩ := hcx.below hb (by omega)
      obtain ⟨e0, e1, e2, e3, e4, e5, e6, e7, e8⟩ := hcx2.below hb (by omega)
      have hs := hsx.below hb hh
      have hs2 := hsx2.below hb hh2
      have hw1 := Nat.le_trans hh hb.size
      have hw2 := Nat.le_trans hh2 hb.size
      clear hc hc2 hf hcx hcx2 hsx hsx2
      generalize x k = y at *
      go_wp2
      go_region_with (go_at_call 46; refine (eqCh_any y ah ah2 ch ch2 _ lo hi lo2 hi2 (by exact hw1) (by exact hw2) hfk (by exact hs.drewN 1) (by exact hs2.drewN 1)).mono ?_; rintro e w1 ⟨rfl, hb1⟩)
      all_goals
        go_wp2
        go_roundw
        case rel => exact ⟨k + 1, by omega, by go_num, hb.drew.trans (hb1.mono hb.size)⟩
        case measure => simp [intOf]; omega
    · have : k = n := by omega
      subst this
      clear hc hc2
      go_wp2
      go_ret
      exact ⟨rfl, hb⟩
set_option maxRecDepth 100000 in
set_option maxHeartbeats 1000000 in
theorem eqTis_any (n : Nat) (x : Nat → Ti) (ad ad2 : Option Addr) (cap cap2 : Nat) (w : World) (lo hi lo2 hi2 : Nat) (hh : hi ≤ w.heap.size) (hh2 : hi2 ≤ w.heap.size) (hl : (n : Int) ≤ 140737488355328)
    (hc : TicsIn w lo hi ad n x) (hc2 : TicsIn w lo2 hi2 ad2 n x) :
    Calls Tryz.prog 19 #[.slice ad n cap, .slice ad2 n cap2] w fun e w' => e = .returned (.bool true) ∧ Below w.heap.size w w' := by
  go_enter Tryz.func19, Tryz.ntmps19
  go_wp2
  go_loopw [5] (fun i wr => ∃ k : Nat, k ≤ n ∧ i = .int .i64 k ∧ Below w.heap.size w wr) (fun i _ => n - (intOf i).toNat)
  case atStart => exact ⟨0, Nat.zero_le _, rfl, Below.refl _ _⟩
  case round =>
    obtain ⟨k, hk, rfl, hb⟩ := hrel
    by_cases hkn : k < n
    · obtain ⟨b, off, rfl, hlo, hbh, hcx⟩ := hc k hkn
      obtain ⟨b2, off2, rfl, hlo2, hbh2, hcx2⟩ := hc2 k hkn
      obtain ⟨d0, d1, d2, d3, d4⟩ := hcx.below hb (by omega)
      obtain ⟨e0, e1, e2, e3, e4⟩ := hcx2.below hb (by omega)
      clear hc hc2 hcx hcx2
      generalize x k = y at *
      go_wp2
      go_region_with (go_at_call 47; refine (eqTi_any y _).mono ?_; rintro e w1 ⟨rfl, hb1⟩)
      all_goals
        go_wp2
        go_roundw
        case rel => exact ⟨k + 1, by omega, by go_num, hb.drew.trans (hb1.mono hb.size)⟩
        case measure => simp [intOf]; omega
    · have : k = n := by omega
      subst this
      clear hc hc2
      go_wp2
      go_ret
      exact ⟨rfl, hb⟩
end Go.Proofs.YtkfbclopkgnacaaGreatDoor
