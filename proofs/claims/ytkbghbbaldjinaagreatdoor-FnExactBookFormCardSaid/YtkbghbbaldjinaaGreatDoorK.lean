import Derived.Test.YtkbghbbaldjinaaGreatDoorI
import Derived.Deep.QuietTactic
import Derived.BigQuiet
import Derived.Deep.RegionWith
namespace Go.Proofs.YtkbghbbaldjinaaGreatDoor
open Go.RowKit
theorem StrsIn.drewN {w : World} {lo hi : Nat} {ad : Option Addr} {n : Nat} {s : Nat → ByteArray} (h : StrsIn w lo hi ad n s) (q : Nat) : StrsIn (w.drewN q) lo hi ad n s := h
theorem StrsIn.mono {w : World} {lo hi lo2 hi2 : Nat} {ad : Option Addr} {n : Nat} {s : Nat → ByteArray} (h : StrsIn w lo hi ad n s) (h1 : lo2 ≤ lo) (h2 : hi ≤ hi2) : StrsIn w lo2 hi2 ad n s := fun i hi' => by
  obtain ⟨b, off, e1, e2, e3, e4⟩ := h i hi'
  exact ⟨b, off, e1, by omega, by omega, e4⟩
theorem below_drewN' (w : World) (q : Nat) : Below w.heap.size w (w.drewN q) := ⟨rfl, rfl, rfl, Nat.le_refl _, fun _ _ => rfl⟩
set_option maxRecDepth 100000 in
set_option maxHeartbeats 400000 in
theorem eqOb_any (x : Ob) (ad ad2 : Option Addr) (cap cap2 : Nat) (w : World) (lo hi lo2 hi2 : Nat) (hh : hi ≤ w.heap.size) (hh2 : hi2 ≤ w.heap.size) (hl : (x.hn : Int) ≤ 140737488355328)
    (hc : StrsIn w lo hi ad x.hn x.hs) (hc2 : StrsIn w lo2 hi2 ad2 x.hn x.hs) :
    Calls Tryz.prog 51 #[.agg #[.string x.kind, .string x.name, .int .i64 x.ver, .int .i64 x.born, .string x.text, .bool x.ending, .slice ad x.hn cap], .agg #[.string x.kind, .string x.name, .int .i64 x.ver, .int .i64 x.born, .string x.text, .bool x.ending, .slice ad2 x.hn cap2]] w fun e w' => e = .returned (.bool true) ∧ Below w.heap.size w w' := by
  go_enter Tryz.func51, Tryz.ntmps51
  go_wp2_with fail
  refine (eqStrs_any x.hn x.hs ad ad2 cap cap2 _ lo hi lo2 hi2 hl ((hc.alloc hh _).alloc (by simp; omega) _) ((hc2.alloc hh2 _).alloc (by simp; omega) _)).mono ?_
  rintro e w1 ⟨rfl, q, rfl⟩
  go_wp2
  go_ret
  exact ⟨rfl, (((below_alloc _ _).alloc (by simp) _).trans ((below_drewN' _ _).mono (by simp; omega)))⟩
set_option maxRecDepth 100000 in
set_option maxHeartbeats 1000000 in
theorem eqObs_any (n : Nat) (x : Nat → Ob) (ad ad2 : Option Addr) (cap cap2 : Nat) (w : World) (lo hi lo2 hi2 : Nat) (hh : hi ≤ w.heap.size) (hh2 : hi2 ≤ w.heap.size) (hl : (n : Int) ≤ 140737488355328) (hf : ∀ i, i < n → ((x i).hn : Int) ≤ 140737488355328)
    (hc : ObjsIn w lo hi ad n x) (hc2 : ObjsIn w lo2 hi2 ad2 n x) :
    Calls Tryz.prog 27 #[.slice ad n cap, .slice ad2 n cap2] w fun e w' => e = .returned (.bool true) ∧ Below w.heap.size w w' := by
  go_enter Tryz.func27, Tryz.ntmps27
  go_wp2
  go_loopw [5] (fun i wr => ∃ k : Nat, k ≤ n ∧ i = .int .i64 k ∧ Below w.heap.size w wr) (fun i _ => n - (intOf i).toNat)
  case atStart => exact ⟨0, Nat.zero_le _, rfl, Below.refl _ _⟩
  case round =>
    obtain ⟨k, hk, rfl, hb⟩ := hrel
    by_cases hkn : k < n
    · obtain ⟨b, off, ah, ch, rfl, hlo, hbh, hcx, hsx⟩ := hc k hkn
      obtain ⟨b2, off2, ah2, ch2, rfl, hlo2, hbh2, hcx2, hsx2⟩ := hc2 k hkn
      have hfk := hf k hkn
      obtain ⟨d0, d1, d2, d3, d4, d5, d6⟩ := hcx.below hb (by omega)
      obtain ⟨e0, e1, e2, e3, e4, e5, e6⟩ := hcx2.below hb (by omega)
      have hs := hsx.below hb hh
      have hs2 := hsx2.below hb hh2
      have hw1 := Nat.le_trans hh hb.size
      have hw2 := Nat.le_trans hh2 hb.size
      clear hc hc2 hf hcx hcx2 hsx hsx2
      generalize x k = y at *
      go_wp2
      go_region_with (go_at_call 51; refine (eqOb_any y ah ah2 ch ch2 _ lo hi lo2 hi2 (by exact hw1) (by exact hw2) hfk (by exact hs.drewN 1) (by exact hs2.drewN 1)).mono ?_; rintro e w1 ⟨rfl, hb1⟩)
      all_goals
        go_wp2
        go_roundw
        case rel => exact ⟨k + 1, by omega, by go_num, hb.drew.trans (hb1.mono hb.size)⟩
        case measure => simp [intOf]; omega
    · have : k = n := by omega
      subst this
      clear hc hc2
      go_wp2
      go_ret
      exact ⟨rfl, hb⟩
end Go.Proofs.YtkbghbbaldjinaaGreatDoor
namespace Go.Proofs.YtkbghbbaldjinaaGreatDoor
open Go.RowKit
set_option maxRecDepth 100000 in
set_option maxHeartbeats 400000 in
theorem eqCh_any (x : Ch) (ad ad2 : Option Addr) (cap cap2 : Nat) (w : World) (lo hi lo2 hi2 : Nat) (hh : hi ≤ w.heap.size) (hh2 : hi2 ≤ w.heap.size) (hl : (x.ob.hn : Int) ≤ 140737488355328)
    (hc : StrsIn w lo hi ad x.ob.hn x.ob.hs) (hc2 : StrsIn w lo2 hi2 ad2 x.ob.hn x.ob.hs) :
    Calls Tryz.prog 52 #[.agg #[.int .i64 x.ver, .bool x.gone, .string x.ob.kind, .string x.ob.name, .int .i64 x.ob.ver, .int .i64 x.ob.born, .string x.ob.text, .bool x.ob.ending, .slice ad x.ob.hn cap], .agg #[.int .i64 x.ver, .bool x.gone, .string x.ob.kind, .string x.ob.name, .int .i64 x.ob.ver, .int .i64 x.ob.born, .string x.ob.text, .bool x.ob.ending, .slice ad2 x.ob.hn cap2]] w fun e w' => e = .returned (.bool true) ∧ Below w.heap.size w w' := by
  go_enter Tryz.func52, Tryz.ntmps52
  go_wp2_with fail
  refine (eqOb_any x.ob ad ad2 cap cap2 _ lo hi lo2 hi2 (by simp; omega) (by simp; omega) hl ((hc.alloc hh _).alloc (by simp; omega) _) ((hc2.alloc hh2 _).alloc (by simp; omega) _)).mono ?_
  rintro e w1 ⟨rfl, hb1⟩
  go_wp2
  go_ret
  exact ⟨rfl, (((below_alloc _ _).alloc (by simp) _).trans (hb1.mono (by simp; omega)))⟩
set_option maxRecDepth 100000 in
set_option maxHeartbeats 400000 in
theorem eqTi_any (x : Ti) (w : World) :
    Calls Tryz.prog 53 #[.agg #[.string x.client, .int .i64 x.num, .string x.print, .int .i64 x.code, .int .i64 x.ver], .agg #[.string x.client, .int .i64 x.num, .string x.print, .int .i64 x.code, .int .i64 x.ver]] w fun e w' => e = .returned (.bool true) ∧ Below w.heap.size w w' := by
  go_enter Tryz.func53, Tryz.ntmps53
  go_wp2
  go_ret
  exact ⟨rfl, ((below_alloc _ _).alloc (by simp) _)⟩
set_option maxRecDepth 100000 in
set_option maxHeartbeats 1000000 in
theorem eqChs_any (n : Nat) (x : Nat → Ch) (ad ad2 : Option Addr) (cap cap2 : Nat) (w : World) (lo hi lo2 hi2 : Nat) (hh : hi ≤ w.heap.size) (hh2 : hi2 ≤ w.heap.size) (hl : (n : Int) ≤ 140737488355328) (hf : ∀ i, i < n → ((x i).ob.hn : Int) ≤ 140737488355328)
    (hc : ChgsIn w lo hi ad n x) (hc2 : ChgsIn w lo2 hi2 ad2 n x) :
    Calls Tryz.prog 28 #[.slice ad n cap, .slice ad2 n cap2] w fun e w' => e = .returned (.bool true) ∧ Below w.heap.size w w' := by
  go_enter Tryz.func28, Tryz.ntmps28
  go_wp2
  go_loopw [5] (fun i wr => ∃ k : Nat, k ≤ n ∧ i = .int .i64 k ∧ Below w.heap.size w wr) (fun i _ => n - (intOf i).toNat)
  case atStart => exact ⟨0, Nat.zero_le _, rfl, Below.refl _ _⟩
  case round =>
    obtain ⟨k, hk, rfl, hb⟩ := hrel
    by_cases hkn : k < n
    · obtain ⟨b, off, ah, ch, rfl, hlo, hbh, hcx, hsx⟩ := hc k hkn
      obtain ⟨b2, off2, ah2, ch2, rfl, hlo2, hbh2, hcx2, hsx2⟩ := hc2 k hkn
      have hfk := hf k hkn
      obtain ⟨d0, d1, d2, d3, d4, d5, d6, d7, d8⟩ := hcx.below hb (by omega)
      obtain ⟨e0, e1, e2, e3, e4, e5, e6, e7, e8⟩ := hcx2.below hb (by omega)
      have hs := hsx.below hb hh
      have hs2 := hsx2.below hb hh2
      have hw1 := Nat.le_trans hh hb.size
      have hw2 := Nat.le_trans hh2 hb.size
      clear hc hc2 hf hcx hcx2 hsx hsx2
      generalize x k = y at *
      go_wp2
      go_region_with (go_at_call 52; refine (eqCh_any y ah ah2 ch ch2 _ lo hi lo2 hi2 (by exact hw1) (by exact hw2) hfk (by exact hs.drewN 1) (by exact hs2.drewN 1)).mono ?_; rintro e w1 ⟨rfl, hb1⟩)
      all_goals
        go_wp2
        go_roundw
        case rel => exact ⟨k + 1, by omega, by go_num, hb.drew.trans (hb1.mono hb.size)⟩
        case measure => simp [intOf]; omega
    · have : k = n := by omega
      subst this
      clear hc hc2
      go_wp2
      go_ret
      exact ⟨rfl, hb⟩
set_option maxRecDepth 100000 in
set_option maxHeartbeats 1000000 in
theorem eqTis_any (n : Nat) (x : Nat → Ti) (ad ad2 : Option Addr) (cap cap2 : Nat) (w : World) (lo hi lo2 hi2 : Nat) (hh : hi ≤ w.heap.size) (hh2 : hi2 ≤ w.heap.size) (hl : (n : Int) ≤ 140737488355328)
    (hc : TicsIn w lo hi ad n x) (hc2 : TicsIn w lo2 hi2 ad2 n x) :
    Calls Tryz.prog 29 #[.slice ad n cap, .slice ad2 n cap2] w fun e w' => e = .returned (.bool true) ∧ Below w.heap.size w w' := by
  go_enter Tryz.func29, Tryz.ntmps29
  go_wp2
  go_loopw [5] (fun i wr => ∃ k : Nat, k ≤ n ∧ i = .int .i64 k ∧ Below w.heap.size w wr) (fun i _ => n - (intOf i).toNat)
  case atStart => exact ⟨0, Nat.zero_le _, rfl, Below.refl _ _⟩
  case round =>
    obtain ⟨k, hk, rfl, hb⟩ := hrel
    by_cases hkn : k < n
    · obtain ⟨b, off, rfl, hlo, hbh, hcx⟩ := hc k hkn
      obtain ⟨b2, off2, rfl, hlo2, hbh2, hcx2⟩ := hc2 k hkn
      obtain ⟨d0, d1, d2, d3, d4⟩ := hcx.below hb (by omega)
      obtain ⟨e0, e1, e2, e3, e4⟩ := hcx2.below hb (by omega)
      clear hc hc2 hcx hcx2
      generalize x k = y at *
      go_wp2
      go_region_with (go_at_call 53; refine (eqTi_any y _).mono ?_; rintro e w1 ⟨rfl, hb1⟩)
      all_goals
        go_wp2
        go_roundw
        case rel => exact ⟨k + 1, by omega, by go_num, hb.drew.trans (hb1.mono hb.size)⟩
        case measure => simp [intOf]; omega
    · have : k = n := by omega
      subst this
      clear hc hc2
      go_wp2
      go_ret
      exact ⟨rfl, hb⟩
end Go.Proofs.YtkbghbbaldjinaaGreatDoor
