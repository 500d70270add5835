import Derived.Test.YtkbghbbaldjinaaGreatDoorW
namespace Go.Proofs.YtkbghbbaldjinaaGreatDoor
open Go.RowKit Go.Maps
/-- the last of the first n changes of this kind and name -/
def lst (h : Nat → Ch) (a b : ByteArray) : Nat → Option Nat
  | 0 => none
  | n + 1 => if (h n).ob.kind = a ∧ (h n).ob.name = b then some n else lst h a b n
theorem lst_hit {h : Nat → Ch} {a b : ByteArray} {n : Nat} (h2 : (h n).ob.kind = a ∧ (h n).ob.name = b) : lst h a b (n + 1) = some n := by unfold lst; exact if_pos h2
theorem lst_miss {h : Nat → Ch} {a b : ByteArray} {n : Nat} (h2 : ¬ ((h n).ob.kind = a ∧ (h n).ob.name = b)) : lst h a b (n + 1) = lst h a b n := by simp only [lst]; exact if_neg h2
theorem lst_lt {h : Nat → Ch} {a b : ByteArray} : ∀ {n i : Nat}, lst h a b n = some i → i < n ∧ (h i).ob.kind = a ∧ (h i).ob.name = b
  | 0, _, e => by cases e
  | n + 1, i, e => by
    by_cases h2 : (h n).ob.kind = a ∧ (h n).ob.name = b
    · rw [lst_hit h2] at e; cases e; exact ⟨Nat.lt_succ_self _, h2⟩
    · rw [lst_miss h2] at e; have := lst_lt e; exact ⟨by omega, this.2⟩
/-- the map D tells where each kind and name stands last, among the first n -/
def LTold (h : Nat → Ch) (n : Nat) (D : DataW Unit) : Prop := ∀ a b : ByteArray, a.size ≤ maxLen → b.size ≤ maxLen →
  (∀ i, lst h a b n = some i → Maps.has D (kl a b) = true ∧ D.atKey (kl a b) (.lit (.int .i64 0)) = .lit (.int .i64 i)) ∧ (lst h a b n = none → Maps.has D (kl a b) = false)
theorem ltold_start (h : Nat → Ch) : LTold h 0 (.map []) := fun a b _ _ => ⟨fun i h => (by cases h), fun _ => rfl⟩
theorem ltold_put {h : Nat → Ch} {n : Nat} {D : DataW Unit} (ht : LTold h n D) (hD : IsMap D) (hk : (h n).ob.kind.size ≤ maxLen) (hn : (h n).ob.name.size ≤ maxLen) : LTold h (n + 1) (D.put (kl (h n).ob.kind (h n).ob.name) (.lit (.int .i64 n))) := fun a b ha hb => by
  by_cases hh : (h n).ob.kind = a ∧ (h n).ob.name = b
  · obtain ⟨rfl, rfl⟩ := hh
    refine ⟨fun j hj => ?_, fun hj => ?_⟩
    · rw [lst_hit ⟨rfl, rfl⟩] at hj
      cases hj
      exact ⟨has_put_same hD (kl_key _ _ hk hn) _, atKey_put_same hD (kl_key _ _ hk hn) _ _⟩
    · rw [lst_hit ⟨rfl, rfl⟩] at hj; cases hj
  · have hne : kl a b ≠ kl (h n).ob.kind (h n).ob.name := kl_ne ha hb hk hn (fun e => hh ⟨e.1.symm, e.2.symm⟩)
    rw [has_put_other hne, atKey_put_other hne, lst_miss hh]
    exact ht a b ha hb
set_option maxRecDepth 100000 in
set_option maxHeartbeats 1000000 in
theorem lastChg_any (n : Nat) (h : Nat → Ch) (ad : Option Addr) (cap : Nat) (w : World) (lo hi : Nat) (hhi : hi ≤ w.heap.size) (hl : (n : Int) ≤ 1099511627776) (hf : ∀ i, i < n → ObFit (h i).ob) (hc : ChgsIn w lo hi ad n h) :
    Calls Tryz.prog 72 #[.slice ad n cap] w fun e w' => ∃ D : DataW Unit, e = .returned (.map (some w.heap.size)) ∧ w'.ownsMap Tryz.prog 109 (plainElem Tryz.prog 3) w.heap.size n D ∧ LTold h n D ∧ Below w.heap.size w w' := by
  have hmm := run_makeMap_hint n w
  go_enter Tryz.func72, Tryz.ntmps72
  go_wp2_with fail
  go_loopw [11] (fun i wr => ∃ (k : Nat) (D : DataW Unit), k ≤ n ∧ i = .int .i64 k ∧ Below w.heap.size w wr ∧ wr.ownsMap Tryz.prog 109 (plainElem Tryz.prog 3) w.heap.size k D ∧ LTold h k D) (fun i _ => n - (intOf i).toNat)
  case atStart => exact ⟨0, .map [], Nat.zero_le _, rfl, below_alloc _ _, World.ownsMap_made _ _ _ _, ltold_start h⟩
  case round =>
    obtain ⟨k, D, hk, rfl, hb, hown, htold⟩ := hrel
    clear hmm
    by_cases hkn : k < n
    · obtain ⟨b, off, ah, ch, rfl, hlo, hbh, hcx, hsx⟩ := hc k hkn
      obtain ⟨fk, fn, _, _, _⟩ := hf k hkn
      have hsk : (h k).ob.kind.size ≤ maxLen := by unfold maxLen; omega
      have hsn : (h k).ob.name.size ≤ maxLen := by unfold maxLen; omega
      obtain ⟨d0, d1, d2, d3, d4, d5, d6, d7, d8⟩ := hcx.below hb (by omega)
      clear hc hf hcx hsx
      have hky := hkey (h k).ob.kind (h k).ob.name hsk hsn
      have HT := hid (ltold_put htold hown.isMap hsk hsn)
      have HOW := hid hown
      clear htold hown
      go_wp2_with fail
      refine (keyOf_any (h k).ob ah ch _).mono ?_
      rintro e w1 ⟨rfl, hb1⟩
      have hown1 := hid (ownsMap_below (HOW.out.alloc _) hb1 (by simp; have := HOW.out.lt; omega))
      have hB1 := (hb.alloc hb.size (.cells #[.int .i64 (h k).ver, .bool (h k).gone, .string (h k).ob.kind, .string (h k).ob.name, .int .i64 (h k).ob.ver, .int .i64 (h k).ob.born, .string (h k).ob.text, .bool (h k).ob.ending, .slice ah (h k).ob.hn ch] 48)).trans (hb1.mono (by simp; have := hb.size; omega))
      clear hb1 d0 d1 d2 d3 d4 d5 d6 d7 d8 HOW
      go_wp2_with (at_mapUpdate; go_must (refine wpList_mapUpdate_own _ rfl _ _ _ 107 rfl 109 3 Tryz.law109 Tryz.underlying107 _ w.heap.size k D rfl hown1.out (by unfold maxLen; omega) _ _ _ rfl rfl hky _ [] (plainElem_int Tryz.underlying3 (WalkArith.wf_i64 (by omega))) ?_; intro w3 hown3 hgrow3))
      go_roundw
      case rel => exact ⟨k + 1, _, by omega, by go_num, hB1.grown hgrow3 hB1.size (fun j hj => by cases hj; exact Nat.le_refl _), hown3, HT.out⟩
      case measure => simp [intOf]; omega
    · have : k = n := by omega
      subst this
      have HR := hid (And.intro hown htold)
      clear hc hf hown htold
      go_wp2
      go_ret
      exact ⟨D, rfl, HR.out.1, HR.out.2, hb⟩
end Go.Proofs.YtkbghbbaldjinaaGreatDoor
