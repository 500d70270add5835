import Derived.Test.YtcmimbohmninkaaGreatDoorBa
namespace Go.Proofs.YtcmimbohmninkaaGreatDoor
open Go.RowKit
structure Wt where
  kind : ByteArray
  name : ByteArray
  ver : Int
structure WtFit (x : Wt) : Prop where
  f0 : (x.kind.size : Int) ≤ 140737488355328
  f1 : (x.name.size : Int) ≤ 140737488355328
structure WtCells (w : World) (b o : Nat) (x : Wt) : Prop where
  c0 : w.cell? ⟨b, o, none⟩ = some (.string x.kind)
  c1 : w.cell? ⟨b, o + 1, none⟩ = some (.string x.name)
  c2 : w.cell? ⟨b, o + 2, none⟩ = some (.int .i64 x.ver)
def WtsIn (w : World) (lo hi : Nat) (ad : Option Addr) (n : Nat) (x : Nat → Wt) : Prop :=
  ∀ i, i < n → ∃ b off, ad = some ⟨b, off, none⟩ ∧ lo ≤ b ∧ b < hi ∧ WtCells w b (off + i * 3) (x i)
def szWt (c : Wt) : Nat := c.kind.size + c.name.size
abbrev wtV (x : Wt) : Value := .agg #[.string x.kind, .string x.name, .int .i64 x.ver]
theorem WtCells.below {w w' : World} {B b o : Nat} {x : Wt} (h : WtCells w b o x) (hb : Below B w w') (hB : b < B) : WtCells w' b o x :=
  ⟨(hb.cell (p := ⟨b, o, none⟩) hB).trans h.c0, (hb.cell (p := ⟨b, o + 1, none⟩) hB).trans h.c1, (hb.cell (p := ⟨b, o + 2, none⟩) hB).trans h.c2⟩
theorem WtsIn.below {w w' : World} {B lo hi : Nat} {ad : Option Addr} {n : Nat} {x : Nat → Wt} (h : WtsIn w lo hi ad n x) (hb : Below B w w') (hB : hi ≤ B) : WtsIn w' lo hi ad n x := fun i hi' => by
  obtain ⟨b, off, e1, e2, e3, e4⟩ := h i hi'
  exact ⟨b, off, e1, e2, e3, e4.below hb (by omega)⟩
theorem WtsIn.mono {w : World} {lo hi lo2 hi2 : Nat} {ad : Option Addr} {n : Nat} {x : Nat → Wt} (h : WtsIn w lo hi ad n x) (h1 : lo2 ≤ lo) (h2 : hi ≤ hi2) : WtsIn w lo2 hi2 ad n x := fun i hi' => by
  obtain ⟨b, off, e1, e2, e3, e4⟩ := h i hi'
  exact ⟨b, off, e1, by omega, by omega, e4⟩
def szWts (n : Nat) (x : Nat → Wt) : Nat := n + sumTo (fun i => szWt (x i)) n
theorem Tryz.info74 : (Tryz.prog.info? 74).map (fun i => (i.zero, i.size, i.bytes)) = some (some (.agg #[.string ByteArray.empty, .string ByteArray.empty, .int .i64 0]), 3, 40) := by kernel_rfl
structure WtsOwnAt (w : World) (g n m : Nat) (x : Nat → Wt) : Prop where
  room : Room w g (m * 3)
  at_ : ∀ i, i < n → WtCells w g (i * 3) (x i)
theorem WtsOwnAt.step {wr w1 : World} {g k n : Nat} {x : Nat → Wt} (h : WtsOwnAt wr g k n x) (hk : k < n) (hb : Below wr.heap.size wr w1) :
    WtsOwnAt (w1.setCells g (k * 3) [.string (x k).kind, .string (x k).name, .int .i64 (x k).ver]) g (k + 1) n x := by
  have hg := h.room.lt
  have hR := h.room.below hb hg
  generalize hvs : [Value.string (x k).kind, .string (x k).name, .int .i64 (x k).ver] = vs
  have hlen : vs.length = 3 := by rw [← hvs]; rfl
  have hin := World.cell?_setCells_in g vs (k * 3) w1 (fun j hj => by
    obtain ⟨u, hu⟩ := hR.has (k * 3 + j) (by omega)
    rw [hu]; rfl)
  refine ⟨hR.setCells vs (by omega), fun i hi => ?_⟩
  by_cases e : i < k
  · have c := (h.at_ i e).below hb hg
    have ee : ∀ j, j < 3 → (w1.setCells g (k * 3) vs).cell? ⟨g, i * 3 + j, none⟩ = w1.cell? ⟨g, i * 3 + j, none⟩ := fun j hj => World.cell?_setCells_out g vs (k * 3) w1 _ (fun _ _ => Or.inl (by show i * 3 + j < k * 3; omega))
    exact ⟨(ee 0 (by omega)).trans c.c0, (ee 1 (by omega)).trans c.c1, (ee 2 (by omega)).trans c.c2⟩
  · have : i = k := by omega
    subst this
    have f := fun j (hj : j < 3) => hin j (by omega)
    have f0 := f 0 (by omega); have f1 := f 1 (by omega); have f2 := f 2 (by omega)
    subst hvs
    exact ⟨f0, f1, f2⟩
theorem WtsOwnAt.fr {w w' : World} {g n m lo2 hi2 : Nat} {x : Nat → Wt} (h : WtsOwnAt w g n m x) (hb : Fr lo2 hi2 w w') (ho : g < lo2 ∨ hi2 ≤ g) : WtsOwnAt w' g n m x := by
  have hc : ∀ j, w'.cell? ⟨g, j, none⟩ = w.cell? ⟨g, j, none⟩ := fun j => hb.cell (p := ⟨g, j, none⟩) h.room.lt ho
  refine ⟨⟨fun j hj => ?_, fun j => (hb.frozen (p := ⟨g, j, none⟩) h.room.lt ho).trans (h.room.free j), Nat.lt_of_lt_of_le h.room.lt hb.size⟩, fun i hi' => ?_⟩
  · obtain ⟨u, hu⟩ := h.room.has j hj; exact ⟨u, (hc j).trans hu⟩
  · have c := h.at_ i hi'
    exact ⟨(hc _).trans c.c0, (hc _).trans c.c1, (hc _).trans c.c2⟩
theorem WtsOwnAt.isIn {w : World} {g n : Nat} {x : Nat → Wt} (h : WtsOwnAt w g n n x) {lo hi2 : Nat} (hlo : lo ≤ g) (hh : g < hi2) : WtsIn w lo hi2 (some ⟨g, 0, none⟩) n x := fun i hi' =>
  ⟨g, 0, rfl, hlo, hh, by rw [Nat.zero_add]; exact h.at_ i hi'⟩
set_option maxRecDepth 100000 in
set_option maxHeartbeats 1000000 in
theorem eqWt_any (x : Wt) (w : World) :
    Calls Tryz.prog 36 #[wtV x, wtV x] w fun e w' => e = .returned (.bool true) ∧ Below w.heap.size w w' := by
  go_enter Tryz.func36, Tryz.ntmps36
  go_wp2
  go_ret
  exact ⟨rfl, ((below_alloc _ _).alloc (by simp) _)⟩
set_option maxRecDepth 100000 in
set_option maxHeartbeats 1000000 in
theorem eqWts_any (n : Nat) (x : Nat → Wt) (ad ad2 : Option Addr) (cap cap2 : Nat) (w : World) (lo hi lo2 hi2 : Nat) (hh : hi ≤ w.heap.size) (hh2 : hi2 ≤ w.heap.size) (hl : (n : Int) ≤ 140737488355328)
    (hc : WtsIn w lo hi ad n x) (hc2 : WtsIn w lo2 hi2 ad2 n x) :
    Calls Tryz.prog 23 #[.slice ad n cap, .slice ad2 n cap2] w fun e w' => e = .returned (.bool true) ∧ Below w.heap.size w w' := by
  go_enter Tryz.func23, Tryz.ntmps23
  go_wp2
  go_loopw [5] (fun i wr => ∃ k : Nat, k ≤ n ∧ i = .int .i64 k ∧ Below w.heap.size w wr) (fun i _ => n - (intOf i).toNat)
  case atStart => exact ⟨0, Nat.zero_le _, rfl, Below.refl _ _⟩
  case round =>
    obtain ⟨k, hk, rfl, hb⟩ := hrel
    by_cases hkn : k < n
    · obtain ⟨b, off, rfl, hlo, hbh, hcx⟩ := hc k hkn
      obtain ⟨b2, off2, rfl, hlo2, hbh2, hcx2⟩ := hc2 k hkn
      obtain ⟨d0, d1, d2⟩ := hcx.below hb (by omega)
      obtain ⟨e0, e1, e2⟩ := hcx2.below hb (by omega)
      clear hc hc2 hcx hcx2
      generalize x k = y at *
      go_wp2
      go_region_with (go_at_call 36; refine (eqWt_any y _).mono ?_; rintro e w1 ⟨rfl, hb1⟩)
      all_goals
        go_wp2
        go_roundw
        case rel => exact ⟨k + 1, by omega, by go_num, hb.drew.trans (hb1.mono hb.size)⟩
        case measure => simp [intOf]; omega
    · have : k = n := by omega
      subst this
      clear hc hc2
      go_wp2
      go_ret
      exact ⟨rfl, hb⟩
end Go.Proofs.YtcmimbohmninkaaGreatDoor
