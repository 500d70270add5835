import Derived.Test.YtcmimbohmninkaaGreatDoorLa
import Derived.Test.YtcmimbohmninkaaGreatDoorLb
namespace Go.Proofs.YtcmimbohmninkaaGreatDoor
open Go.RowKit
/-- a call -/
structure Bc where
  client : ByteArray
  num : Int
  wn : Nat
  ws : Nat → Wt
  rn : Nat
  rs : Nat → Wr
structure BcA where
  wa : Option Addr
  ra : Option Addr
  wc : Nat
  rc : Nat
abbrev bdC (c : Bc) (A : BcA) : Array Value := #[.slice A.wa c.wn A.wc, .slice A.ra c.rn A.rc]
abbrev bdV (c : Bc) (A : BcA) : Value := .agg #[.slice A.wa c.wn A.wc, .slice A.ra c.rn A.rc]
abbrev bcC (c : Bc) (A : BcA) : Array Value := #[.string c.client, .int .i64 c.num, .slice A.wa c.wn A.wc, .slice A.ra c.rn A.rc]
abbrev bcV (c : Bc) (A : BcA) : Value := .agg #[.string c.client, .int .i64 c.num, .slice A.wa c.wn A.wc, .slice A.ra c.rn A.rc]
structure BcIn (w : World) (lo hi : Nat) (c : Bc) (A : BcA) : Prop where
  ws : WtsIn w lo hi A.wa c.wn c.ws
  rs : WrsIn w lo hi A.ra c.rn c.rs
structure BcFit (c : Bc) : Prop where
  cl : (c.client.size : Int) ≤ 140737488355328
  wn : (c.wn : Int) ≤ 8796093022208
  ws : ∀ i, i < c.wn → WtFit (c.ws i)
  rn : (c.rn : Int) ≤ 8796093022208
  rs : ∀ i, i < c.rn → WrFit (c.rs i)
structure BcSmall (c : Bc) : Prop where
  wn : (c.wn : Int) ≤ 1048576
  rn : (c.rn : Int) ≤ 1048576
theorem BcIn.below {w w' : World} {B lo hi : Nat} {c : Bc} {A : BcA} (h : BcIn w lo hi c A) (hb : Below B w w') (hB : hi ≤ B) : BcIn w' lo hi c A := ⟨h.ws.below hb hB, h.rs.below hb hB⟩
theorem BcIn.mono {w : World} {lo hi lo2 hi2 : Nat} {c : Bc} {A : BcA} (h : BcIn w lo hi c A) (h1 : lo2 ≤ lo) (h2 : hi ≤ hi2) : BcIn w lo2 hi2 c A := ⟨h.ws.mono h1 h2, h.rs.mono h1 h2⟩
def szBd (c : Bc) : Nat := szWts c.wn c.ws + szWrs c.rn c.rs
def szBc (c : Bc) : Nat := c.client.size + szBd c
theorem holds_two {w : World} {b : Nat} {a0 a1 : Value} (h : Holds w b #[a0, a1]) : w.cell? ⟨b, 0, none⟩ = some a0 ∧ w.cell? ⟨b, 1, none⟩ = some a1 := ⟨h 0, h 1⟩
theorem holds_four {w : World} {b : Nat} {a0 a1 a2 a3 : Value} (h : Holds w b #[a0, a1, a2, a3]) : w.cell? ⟨b, 0, none⟩ = some a0 ∧ w.cell? ⟨b, 1, none⟩ = some a1 ∧ w.cell? ⟨b, 2, none⟩ = some a2 ∧ w.cell? ⟨b, 3, none⟩ = some a3 := ⟨h 0, h 1, h 2, h 3⟩
theorem below3 (w : World) (o1 o2 o3 : Obj) : Below w.heap.size w (((w.alloc o1).alloc o2).alloc o3) := (((Below.refl _ _).alloc (Nat.le_refl _) _).alloc (by simp) _).alloc (by simp; omega) _
set_option maxRecDepth 100000 in
set_option maxHeartbeats 1000000 in
theorem eqBd_any (c : Bc) (A A2 : BcA) (w : World) (lo hi lo2 hi2 : Nat) (hh : hi ≤ w.heap.size) (hh2 : hi2 ≤ w.heap.size) (hm : BcSmall c) (hc : BcIn w lo hi c A) (hc2 : BcIn w lo2 hi2 c A2) :
    Calls Tryz.prog 14 #[bdV c A, bdV c A2] w fun e w' => e = .returned (.bool true) ∧ Below w.heap.size w w' := by
  have hm1 := hm.wn
  have hm2 := hm.rn
  have hB0 : Below w.heap.size w ((w.alloc (.cells (bdC c A) 25)).alloc (.cells (bdC c A2) 25)) := (below_alloc _ _).alloc (by simp) _
  obtain ⟨W, hW⟩ : ∃ W, (w.alloc (.cells (bdC c A) 25)).alloc (.cells (bdC c A2) 25) = W := ⟨_, rfl⟩
  rw [hW] at hB0
  have p0 : W.cell? ⟨w.heap.size, 1, none⟩ = some (.slice A.ra c.rn A.rc) := by rw [← hW]; simp
  have p1 : W.cell? ⟨w.heap.size + 1, 1, none⟩ = some (.slice A2.ra c.rn A2.rc) := by rw [← hW]; simp
  have hz : w.heap.size + 2 ≤ W.heap.size := by rw [← hW]; simp
  have HW := hid hW
  have P0 := hid p0
  have P1 := hid p1
  clear hW p0 p1
  go_enter Tryz.func14, Tryz.ntmps14
  go_wp2_with fail
  rw [HW.out]
  refine (eqWts_any c.wn c.ws A.wa A2.wa A.wc A2.wc W lo hi lo2 hi2 (Nat.le_trans hh hB0.size) (Nat.le_trans hh2 hB0.size) (by omega) (hc.ws.below hB0 hh) (hc2.ws.below hB0 hh2)).mono ?_
  rintro e w1 ⟨rfl, hb1⟩
  have hB1 : Below w.heap.size w w1 := hB0.trans (hb1.mono hB0.size)
  have r0 := (hb1.cell (p := ⟨w.heap.size, 1, none⟩) (by show w.heap.size < _; omega)).trans P0.out
  have r1 := (hb1.cell (p := ⟨w.heap.size + 1, 1, none⟩) (by show w.heap.size + 1 < _; omega)).trans P1.out
  clear hb1 HW P0 P1
  go_wp2_with fail
  refine (eqWrs_any c.rn c.rs A.ra A2.ra A.rc A2.rc w1 lo hi lo2 hi2 (Nat.le_trans hh hB1.size) (Nat.le_trans hh2 hB1.size) (by omega) (hc.rs.below hB1 hh) (hc2.rs.below hB1 hh2)).mono ?_
  rintro e w2 ⟨rfl, hb2⟩
  go_wp2
  go_ret
  exact ⟨rfl, hB1.trans (hb2.mono hB1.size)⟩
set_option maxRecDepth 100000 in
set_option maxHeartbeats 1000000 in
theorem eqBc_any (c : Bc) (A A2 : BcA) (w : World) (lo hi lo2 hi2 : Nat) (hh : hi ≤ w.heap.size) (hh2 : hi2 ≤ w.heap.size) (hm : BcSmall c) (hc : BcIn w lo hi c A) (hc2 : BcIn w lo2 hi2 c A2) :
    Calls Tryz.prog 6 #[bcV c A, bcV c A2] w fun e w' => e = .returned (.bool true) ∧ Below w.heap.size w w' := by
  have hB0 : Below w.heap.size w ((w.alloc (.cells (bcC c A) 27)).alloc (.cells (bcC c A2) 27)) := (below_alloc _ _).alloc (by simp) _
  go_enter Tryz.func6, Tryz.ntmps6
  go_wp2_with fail
  refine (eqBd_any c A A2 _ lo hi lo2 hi2 (Nat.le_trans hh hB0.size) (Nat.le_trans hh2 hB0.size) hm (hc.below hB0 hh) (hc2.below hB0 hh2)).mono ?_
  rintro e w1 ⟨rfl, hb1⟩
  go_wp2
  go_ret
  exact ⟨rfl, hB0.trans (hb1.mono hB0.size)⟩
end Go.Proofs.YtcmimbohmninkaaGreatDoor
