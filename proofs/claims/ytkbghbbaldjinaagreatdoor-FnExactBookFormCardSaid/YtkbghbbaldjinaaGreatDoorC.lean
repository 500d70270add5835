import Derived.Test.YtkbghbbaldjinaaGreatDoorB
import Derived.Deep.QuietTactic
import Derived.BigQuiet
namespace Go.Proofs.YtkbghbbaldjinaaGreatDoor
open Go.RowKit
theorem StrsIn.below {w w' : World} {B lo hi : Nat} {ad : Option Addr} {n : Nat} {s : Nat → ByteArray} (h : StrsIn w lo hi ad n s) (hb : Below B w w') (hB : hi ≤ B) : StrsIn w' lo hi ad n s := fun i hi' => by
  obtain ⟨b, off, e1, e2, e3, e4⟩ := h i hi'
  exact ⟨b, off, e1, e2, e3, (hb.cell (p := ⟨b, off + i, none⟩) (Nat.lt_of_lt_of_le e3 hB)).trans e4⟩
theorem StrsIn.alloc {w : World} {lo hi : Nat} {ad : Option Addr} {n : Nat} {s : Nat → ByteArray} (h : StrsIn w lo hi ad n s) (hB : hi ≤ w.heap.size) (o : Obj) : StrsIn (w.alloc o) lo hi ad n s :=
  h.below ((Below.refl w.heap.size w).alloc (Nat.le_refl _) o) hB
theorem szOut_lt {l : Int} {s : Nat} (h : szOut l s < 0) : l < s := by
  unfold szOut at h; split at h <;> omega
theorem szOut_ge {l : Int} {s : Nat} (h : 0 ≤ szOut l s) : (s : Int) ≤ l ∧ szOut l s = l - s := by
  unfold szOut at *; split at h
  · rw [if_pos (by assumption)]; exact ⟨by assumption, rfl⟩
  · omega
set_option maxRecDepth 100000 in
set_option maxHeartbeats 400000 in
theorem eqStrs_any (n : Nat) (s : Nat → ByteArray) (ad ad2 : Option Addr) (cap cap2 : Nat) (w : World) (lo hi lo2 hi2 : Nat) (hl : (n : Int) ≤ 140737488355328)
    (hc : StrsIn w lo hi ad n s) (hc2 : StrsIn w lo2 hi2 ad2 n s) :
    Calls Tryz.prog 81 #[.slice ad n cap, .slice ad2 n cap2] w fun e w' => e = .returned (.bool true) ∧ ∃ q, w' = w.drewN q := by
  go_enter Tryz.func81, Tryz.ntmps81
  go_wp2
  go_loopw [5] (fun i wr => ∃ k : Nat, k ≤ n ∧ i = .int .i64 k ∧ ∃ q, wr = w.drewN q) (fun i _ => n - (intOf i).toNat)
  case atStart => exact ⟨0, Nat.zero_le _, rfl, 0, rfl⟩
  case round =>
    obtain ⟨k, hk, rfl, q, rfl⟩ := hrel
    by_cases hkn : k < n
    · obtain ⟨b, off, rfl, hlo, hbh, hcx⟩ := hc k hkn
      obtain ⟨b2, off2, rfl, hlo2, hbh2, hcx2⟩ := hc2 k hkn
      clear hc hc2
      go_wp2
      go_quiet (fail)
      go_wp2
      go_roundw
      case rel => exact ⟨k + 1, by omega, by go_num, _, rfl⟩
      case measure => simp [intOf]; omega
    · have : k = n := by omega
      subst this
      clear hc hc2
      go_wp2
      go_ret
      exact ⟨rfl, q, rfl⟩
structure Ob where
  kind : ByteArray
  name : ByteArray
  ver : Int
  born : Int
  text : ByteArray
  ending : Bool
  hn : Nat
  hs : Nat → ByteArray
def szOb (o : Ob) : Nat := o.kind.size + o.name.size + o.text.size + szStrs o.hn o.hs
set_option maxRecDepth 100000 in
set_option maxHeartbeats 400000 in
theorem szOb_any (ki na te : ByteArray) (ve bo : Int) (en : Bool) (hn : Nat) (hs : Nat → ByteArray) (ad : Option Addr) (cap : Nat) (left : Int) (w : World) (h0 : 0 ≤ left) (h1 : left ≤ 1048576) (lo hi : Nat) (hhi : hi ≤ w.heap.size)
    (hk : (ki.size : Int) ≤ 140737488355328) (hna : (na.size : Int) ≤ 140737488355328) (ht : (te.size : Int) ≤ 140737488355328) (hl : (hn : Int) ≤ 140737488355328) (hm : ∀ i, i < hn → ((hs i).size : Int) ≤ 140737488355328) (hc : StrsIn w lo hi ad hn hs) :
    Calls Tryz.prog 30 #[.agg #[.string ki, .string na, .int .i64 ve, .int .i64 bo, .string te, .bool en, .slice ad hn cap], .int .i64 left] w fun e w' => e = .returned (.int .i64 (szOut left (ki.size + na.size + te.size + szStrs hn hs))) ∧ Below w.heap.size w w' := by
  go_enter Tryz.func30, Tryz.ntmps30
  go_wp2_with (go_at_call 54; refine (szStrs_any hn hs ad cap _ _ hl (by omega) (by omega) hm lo hi (hc.alloc hhi _)).mono ?_; rintro e w' ⟨rfl, rfl⟩)
  · go_ret
    exact ⟨ret_int (szOut_no (by omega)).symm, (Below.refl _ _).alloc (Nat.le_refl _) _⟩
  · go_ret
    exact ⟨ret_int (szOut_no (by omega)).symm, (Below.refl _ _).alloc (Nat.le_refl _) _⟩
  · go_ret
    exact ⟨ret_int (szOut_no (by omega)).symm, (Below.refl _ _).alloc (Nat.le_refl _) _⟩
  · go_ret
    exact ⟨ret_int (szOut_no (by have := szOut_lt (by assumption); omega)).symm, (Below.refl _ _).alloc (Nat.le_refl _) _⟩
  · go_ret
    refine ⟨ret_int ?_, (Below.refl _ _).alloc (Nat.le_refl _) _⟩
    obtain ⟨g1, g2⟩ := szOut_ge (by assumption)
    rw [g2, szOut_yes (by omega)]; omega
end Go.Proofs.YtkbghbbaldjinaaGreatDoor
