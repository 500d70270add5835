import Derived.Test.YtcmimbohmninkaaGreatDoorBa
namespace Go.Proofs.YtcmimbohmninkaaGreatDoor
open Go.RowKit
structure WrCells (w : World) (b o : Nat) (x : Wr) : Prop where
  c0 : w.cell? ⟨b, o, none⟩ = some (.int .i64 x.op)
  c1 : w.cell? ⟨b, o + 1, none⟩ = some (.string x.kind)
  c2 : w.cell? ⟨b, o + 2, none⟩ = some (.string x.name)
  c3 : w.cell? ⟨b, o + 3, none⟩ = some (.int .i64 x.seen)
  c4 : w.cell? ⟨b, o + 4, none⟩ = some (.string x.text)
  c5 : w.cell? ⟨b, o + 5, none⟩ = some (.string x.hold)
def WrsIn (w : World) (lo hi : Nat) (ad : Option Addr) (n : Nat) (x : Nat → Wr) : Prop :=
  ∀ i, i < n → ∃ b off, ad = some ⟨b, off, none⟩ ∧ lo ≤ b ∧ b < hi ∧ WrCells w b (off + i * 6) (x i)
def szWr (c : Wr) : Nat := c.kind.size + c.name.size + c.text.size + c.hold.size
abbrev wrV (x : Wr) : Value := .agg #[.int .i64 x.op, .string x.kind, .string x.name, .int .i64 x.seen, .string x.text, .string x.hold]
theorem WrCells.below {w w' : World} {B b o : Nat} {x : Wr} (h : WrCells w b o x) (hb : Below B w w') (hB : b < B) : WrCells w' b o x :=
  ⟨(hb.cell (p := ⟨b, o, none⟩) hB).trans h.c0, (hb.cell (p := ⟨b, o + 1, none⟩) hB).trans h.c1, (hb.cell (p := ⟨b, o + 2, none⟩) hB).trans h.c2, (hb.cell (p := ⟨b, o + 3, none⟩) hB).trans h.c3, (hb.cell (p := ⟨b, o + 4, none⟩) hB).trans h.c4, (hb.cell (p := ⟨b, o + 5, none⟩) hB).trans h.c5⟩
theorem WrsIn.below {w w' : World} {B lo hi : Nat} {ad : Option Addr} {n : Nat} {x : Nat → Wr} (h : WrsIn w lo hi ad n x) (hb : Below B w w') (hB : hi ≤ B) : WrsIn w' lo hi ad n x := fun i hi' => by
  obtain ⟨b, off, e1, e2, e3, e4⟩ := h i hi'
  exact ⟨b, off, e1, e2, e3, e4.below hb (by omega)⟩
theorem WrsIn.mono {w : World} {lo hi lo2 hi2 : Nat} {ad : Option Addr} {n : Nat} {x : Nat → Wr} (h : WrsIn w lo hi ad n x) (h1 : lo2 ≤ lo) (h2 : hi ≤ hi2) : WrsIn w lo2 hi2 ad n x := fun i hi' => by
  obtain ⟨b, off, e1, e2, e3, e4⟩ := h i hi'
  exact ⟨b, off, e1, by omega, by omega, e4⟩
def szWrs (n : Nat) (x : Nat → Wr) : Nat := n + sumTo (fun i => szWr (x i)) n
theorem Tryz.info40 : (Tryz.prog.info? 40).map (fun i => (i.zero, i.size, i.bytes)) = some (some (.agg #[.int .i64 0, .string ByteArray.empty, .string ByteArray.empty, .int .i64 0, .string ByteArray.empty, .string ByteArray.empty]), 6, 80) := by kernel_rfl
structure WrsOwnAt (w : World) (g n m : Nat) (x : Nat → Wr) : Prop where
  room : Room w g (m * 6)
  at_ : ∀ i, i < n → WrCells w g (i * 6) (x i)
theorem WrsOwnAt.step {wr w1 : World} {g k n : Nat} {x : Nat → Wr} (h : WrsOwnAt wr g k n x) (hk : k < n) (hb : Below wr.heap.size wr w1) :
    WrsOwnAt (w1.setCells g (k * 6) [.int .i64 (x k).op, .string (x k).kind, .string (x k).name, .int .i64 (x k).seen, .string (x k).text, .string (x k).hold]) g (k + 1) n x := by
  have hg := h.room.lt
  have hR := h.room.below hb hg
  generalize hvs : [Value.int .i64 (x k).op, .string (x k).kind, .string (x k).name, .int .i64 (x k).seen, .string (x k).text, .string (x k).hold] = vs
  have hlen : vs.length = 6 := by rw [← hvs]; rfl
  have hin := World.cell?_setCells_in g vs (k * 6) w1 (fun j hj => by
    obtain ⟨u, hu⟩ := hR.has (k * 6 + j) (by omega)
    rw [hu]; rfl)
  refine ⟨hR.setCells vs (by omega), fun i hi => ?_⟩
  by_cases e : i < k
  · have c := (h.at_ i e).below hb hg
    have ee : ∀ j, j < 6 → (w1.setCells g (k * 6) vs).cell? ⟨g, i * 6 + j, none⟩ = w1.cell? ⟨g, i * 6 + j, none⟩ := fun j hj => World.cell?_setCells_out g vs (k * 6) w1 _ (fun _ _ => Or.inl (by show i * 6 + j < k * 6; omega))
    exact ⟨(ee 0 (by omega)).trans c.c0, (ee 1 (by omega)).trans c.c1, (ee 2 (by omega)).trans c.c2, (ee 3 (by omega)).trans c.c3, (ee 4 (by omega)).trans c.c4, (ee 5 (by omega)).trans c.c5⟩
  · have : i = k := by omega
    subst this
    have f := fun j (hj : j < 6) => hin j (by omega)
    have f0 := f 0 (by omega); have f1 := f 1 (by omega); have f2 := f 2 (by omega); have f3 := f 3 (by omega); have f4 := f 4 (by omega); have f5 := f 5 (by omega)
    subst hvs
    exact ⟨f0, f1, f2, f3, f4, f5⟩
theorem WrsOwnAt.fr {w w' : World} {g n m lo2 hi2 : Nat} {x : Nat → Wr} (h : WrsOwnAt w g n m x) (hb : Fr lo2 hi2 w w') (ho : g < lo2 ∨ hi2 ≤ g) : WrsOwnAt w' g n m x := by
  have hc : ∀ j, w'.cell? ⟨g, j, none⟩ = w.cell? ⟨g, j, none⟩ := fun j => hb.cell (p := ⟨g, j, none⟩) h.room.lt ho
  refine ⟨⟨fun j hj => ?_, fun j => (hb.frozen (p := ⟨g, j, none⟩) h.room.lt ho).trans (h.room.free j), Nat.lt_of_lt_of_le h.room.lt hb.size⟩, fun i hi' => ?_⟩
  · obtain ⟨u, hu⟩ := h.room.has j hj; exact ⟨u, (hc j).trans hu⟩
  · have c := h.at_ i hi'
    exact ⟨(hc _).trans c.c0, (hc _).trans c.c1, (hc _).trans c.c2, (hc _).trans c.c3, (hc _).trans c.c4, (hc _).trans c.c5⟩
theorem WrsOwnAt.isIn {w : World} {g n : Nat} {x : Nat → Wr} (h : WrsOwnAt w g n n x) {lo hi2 : Nat} (hlo : lo ≤ g) (hh : g < hi2) : WrsIn w lo hi2 (some ⟨g, 0, none⟩) n x := fun i hi' =>
  ⟨g, 0, rfl, hlo, hh, by rw [Nat.zero_add]; exact h.at_ i hi'⟩
set_option maxRecDepth 100000 in
set_option maxHeartbeats 1000000 in
theorem eqWr_any (x : Wr) (w : World) :
    Calls Tryz.prog 37 #[wrV x, wrV x] w fun e w' => e = .returned (.bool true) ∧ Below w.heap.size w w' := by
  go_enter Tryz.func37, Tryz.ntmps37
  go_wp2
  go_ret
  exact ⟨rfl, ((below_alloc _ _).alloc (by simp) _)⟩
set_option maxRecDepth 100000 in
set_option maxHeartbeats 1000000 in
theorem eqWrs_any (n : Nat) (x : Nat → Wr) (ad ad2 : Option Addr) (cap cap2 : Nat) (w : World) (lo hi lo2 hi2 : Nat) (hh : hi ≤ w.heap.size) (hh2 : hi2 ≤ w.heap.size) (hl : (n : Int) ≤ 140737488355328)
    (hc : WrsIn w lo hi ad n x) (hc2 : WrsIn w lo2 hi2 ad2 n x) :
    Calls Tryz.prog 24 #[.slice ad n cap, .slice ad2 n cap2] w fun e w' => e = .returned (.bool true) ∧ Below w.heap.size w w' := by
  go_enter Tryz.func24, Tryz.ntmps24
  go_wp2
  go_loopw [5] (fun i wr => ∃ k : Nat, k ≤ n ∧ i = .int .i64 k ∧ Below w.heap.size w wr) (fun i _ => n - (intOf i).toNat)
  case atStart => exact ⟨0, Nat.zero_le _, rfl, Below.refl _ _⟩
  case round =>
    obtain ⟨k, hk, rfl, hb⟩ := hrel
    by_cases hkn : k < n
    · obtain ⟨b, off, rfl, hlo, hbh, hcx⟩ := hc k hkn
      obtain ⟨b2, off2, rfl, hlo2, hbh2, hcx2⟩ := hc2 k hkn
      obtain ⟨d0, d1, d2, d3, d4, d5⟩ := hcx.below hb (by omega)
      obtain ⟨e0, e1, e2, e3, e4, e5⟩ := hcx2.below hb (by omega)
      clear hc hc2 hcx hcx2
      generalize x k = y at *
      go_wp2
      go_region_with (go_at_call 37; refine (eqWr_any y _).mono ?_; rintro e w1 ⟨rfl, hb1⟩)
      all_goals
        go_wp2
        go_roundw
        case rel => exact ⟨k + 1, by omega, by go_num, hb.drew.trans (hb1.mono hb.size)⟩
        case measure => simp [intOf]; omega
    · have : k = n := by omega
      subst this
      clear hc hc2
      go_wp2
      go_ret
      exact ⟨rfl, hb⟩
end Go.Proofs.YtcmimbohmninkaaGreatDoor
