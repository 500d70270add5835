import Derived.Test.YtkcgfjnmkbbnoaaB
namespace Go.Proofs.Ytkcgfjnmkbbnoaa
open Go.RowKit
/-- a slot -/
structure Sl where
  bal : Int
  text : ByteArray
structure SlCells (w : World) (b o : Nat) (x : Sl) : Prop where
  c0 : w.cell? ⟨b, o, none⟩ = some (.int .i64 x.bal)
  c1 : w.cell? ⟨b, o + 1, none⟩ = some (.string x.text)
def SlsIn (w : World) (lo hi : Nat) (ad : Option Addr) (n : Nat) (x : Nat → Sl) : Prop :=
  ∀ i, i < n → ∃ b off, ad = some ⟨b, off, none⟩ ∧ lo ≤ b ∧ b < hi ∧ SlCells w b (off + i * 2) (x i)
structure SlFit (x : Sl) : Prop where
  t : (x.text.size : Int) ≤ 140737488355328
def szSl (c : Sl) : Nat := c.text.size
abbrev slV (x : Sl) : Value := .agg #[.int .i64 x.bal, .string x.text]
theorem SlCells.below {w w' : World} {B b o : Nat} {x : Sl} (h : SlCells w b o x) (hb : Below B w w') (hB : b < B) : SlCells w' b o x :=
  ⟨(hb.cell (p := ⟨b, o, none⟩) hB).trans h.c0, (hb.cell (p := ⟨b, o + 1, none⟩) hB).trans h.c1⟩
theorem SlsIn.below {w w' : World} {B lo hi : Nat} {ad : Option Addr} {n : Nat} {x : Nat → Sl} (h : SlsIn w lo hi ad n x) (hb : Below B w w') (hB : hi ≤ B) : SlsIn w' lo hi ad n x := fun i hi' => by
  obtain ⟨b, off, e1, e2, e3, e4⟩ := h i hi'
  exact ⟨b, off, e1, e2, e3, e4.below hb (by omega)⟩
theorem SlsIn.mono {w : World} {lo hi lo2 hi2 : Nat} {ad : Option Addr} {n : Nat} {x : Nat → Sl} (h : SlsIn w lo hi ad n x) (h1 : lo2 ≤ lo) (h2 : hi ≤ hi2) : SlsIn w lo2 hi2 ad n x := fun i hi' => by
  obtain ⟨b, off, e1, e2, e3, e4⟩ := h i hi'
  exact ⟨b, off, e1, by omega, by omega, e4⟩
theorem SlsIn.drewN {w : World} {lo hi : Nat} {ad : Option Addr} {n : Nat} {x : Nat → Sl} (h : SlsIn w lo hi ad n x) (q : Nat) : SlsIn (w.drewN q) lo hi ad n x := h.below (B := hi) ⟨rfl, rfl, rfl, Nat.le_refl _, fun _ _ => rfl⟩ (Nat.le_refl _)
def szSls (n : Nat) (x : Nat → Sl) : Nat := n + sumTo (fun i => szSl (x i)) n
theorem Try.info95 : (Try.prog.info? 95).map (fun i => (i.zero, i.size, i.bytes)) = some (some (.agg #[.int .i64 0, .string ByteArray.empty]), 2, 24) := by kernel_rfl
structure SlsOwnAt (w : World) (g n m : Nat) (x : Nat → Sl) : Prop where
  room : Room w g (m * 2)
  at_ : ∀ i, i < n → SlCells w g (i * 2) (x i)
theorem SlsOwnAt.step {wr w1 : World} {g k n : Nat} {x : Nat → Sl} (h : SlsOwnAt wr g k n x) (hk : k < n) (hb : Below wr.heap.size wr w1) :
    SlsOwnAt (w1.setCells g (k * 2) [.int .i64 (x k).bal, .string (x k).text]) g (k + 1) n x := by
  have hg := h.room.lt
  have hR := h.room.below hb hg
  generalize hvs : [Value.int .i64 (x k).bal, .string (x k).text] = vs
  have hlen : vs.length = 2 := by rw [← hvs]; rfl
  have hin := World.cell?_setCells_in g vs (k * 2) w1 (fun j hj => by
    obtain ⟨u, hu⟩ := hR.has (k * 2 + j) (by omega)
    rw [hu]; rfl)
  refine ⟨hR.setCells vs (by omega), fun i hi => ?_⟩
  by_cases e : i < k
  · have c := (h.at_ i e).below hb hg
    have ee : ∀ j, j < 2 → (w1.setCells g (k * 2) vs).cell? ⟨g, i * 2 + j, none⟩ = w1.cell? ⟨g, i * 2 + j, none⟩ := fun j hj => World.cell?_setCells_out g vs (k * 2) w1 _ (fun _ _ => Or.inl (by show i * 2 + j < k * 2; omega))
    exact ⟨(ee 0 (by omega)).trans c.c0, (ee 1 (by omega)).trans c.c1⟩
  · have : i = k := by omega
    subst this
    have f := fun j (hj : j < 2) => hin j (by omega)
    have f0 := f 0 (by omega); have f1 := f 1 (by omega)
    subst hvs
    exact ⟨f0, f1⟩
theorem SlsOwnAt.fr {w w' : World} {g n m lo2 hi2 : Nat} {x : Nat → Sl} (h : SlsOwnAt w g n m x) (hb : Fr lo2 hi2 w w') (ho : g < lo2 ∨ hi2 ≤ g) : SlsOwnAt w' g n m x := by
  have hc : ∀ j, w'.cell? ⟨g, j, none⟩ = w.cell? ⟨g, j, none⟩ := fun j => hb.cell (p := ⟨g, j, none⟩) h.room.lt ho
  refine ⟨⟨fun j hj => ?_, fun j => (hb.frozen (p := ⟨g, j, none⟩) h.room.lt ho).trans (h.room.free j), Nat.lt_of_lt_of_le h.room.lt hb.size⟩, fun i hi' => ?_⟩
  · obtain ⟨u, hu⟩ := h.room.has j hj; exact ⟨u, (hc j).trans hu⟩
  · have c := h.at_ i hi'
    exact ⟨(hc _).trans c.c0, (hc _).trans c.c1⟩
theorem SlsOwnAt.isIn {w : World} {g n : Nat} {x : Nat → Sl} (h : SlsOwnAt w g n n x) {lo hi2 : Nat} (hlo : lo ≤ g) (hh : g < hi2) : SlsIn w lo hi2 (some ⟨g, 0, none⟩) n x := fun i hi' =>
  ⟨g, 0, rfl, hlo, hh, by rw [Nat.zero_add]; exact h.at_ i hi'⟩
/-- n slots of the call's own, in a block of lo .. hi -/
def SlsOwn (w : World) (lo hi : Nat) (ad : Option Addr) (n : Nat) (x : Nat → Sl) : Prop := ∃ g, ad = some ⟨g, 0, none⟩ ∧ lo ≤ g ∧ g < hi ∧ SlsOwnAt w g n n x
theorem SlsOwn.fr {w w' : World} {lo hi lo2 hi2 : Nat} {ad : Option Addr} {n : Nat} {x : Nat → Sl} (h : SlsOwn w lo hi ad n x) (hb : Fr lo2 hi2 w w') (ho : hi ≤ lo2 ∨ hi2 ≤ lo) : SlsOwn w' lo hi ad n x := by
  obtain ⟨g, e1, e2, e3, e4⟩ := h
  exact ⟨g, e1, e2, e3, e4.fr hb (by omega)⟩
theorem SlsOwn.mono {w : World} {lo hi lo2 hi2 : Nat} {ad : Option Addr} {n : Nat} {x : Nat → Sl} (h : SlsOwn w lo hi ad n x) (h1 : lo2 ≤ lo) (h2 : hi ≤ hi2) : SlsOwn w lo2 hi2 ad n x := by
  obtain ⟨g, e1, e2, e3, e4⟩ := h
  exact ⟨g, e1, by omega, by omega, e4⟩
theorem SlsOwn.isIn {w : World} {lo hi : Nat} {ad : Option Addr} {n : Nat} {x : Nat → Sl} (h : SlsOwn w lo hi ad n x) : SlsIn w lo hi ad n x := by
  obtain ⟨g, rfl, e2, e3, e4⟩ := h
  exact e4.isIn e2 e3
set_option maxRecDepth 100000 in
set_option maxHeartbeats 1000000 in
theorem eqSl_any (x : Sl) (w : World) :
    Calls Try.prog 56 #[slV x, slV x] w fun e w' => e = .returned (.bool true) ∧ Below w.heap.size w w' := by
  go_enter Try.func56, Try.ntmps56
  go_wp2
  go_ret
  exact ⟨rfl, ((below_alloc _ _).alloc (by simp) _)⟩
set_option maxRecDepth 100000 in
set_option maxHeartbeats 1000000 in
theorem eqSls_any (n : Nat) (x : Nat → Sl) (ad ad2 : Option Addr) (cap cap2 : Nat) (w : World) (lo hi lo2 hi2 : Nat) (hh : hi ≤ w.heap.size) (hh2 : hi2 ≤ w.heap.size) (hl : (n : Int) ≤ 140737488355328)
    (hc : SlsIn w lo hi ad n x) (hc2 : SlsIn w lo2 hi2 ad2 n x) :
    Calls Try.prog 53 #[.slice ad n cap, .slice ad2 n cap2] w fun e w' => e = .returned (.bool true) ∧ Below w.heap.size w w' := by
  go_enter Try.func53, Try.ntmps53
  go_wp2
  go_loopw [5] (fun i wr => ∃ k : Nat, k ≤ n ∧ i = .int .i64 k ∧ Below w.heap.size w wr) (fun i _ => n - (intOf i).toNat)
  case atStart => exact ⟨0, Nat.zero_le _, rfl, Below.refl _ _⟩
  case round =>
    obtain ⟨k, hk, rfl, hb⟩ := hrel
    by_cases hkn : k < n
    · obtain ⟨b, off, rfl, hlo, hbh, hcx⟩ := hc k hkn
      obtain ⟨b2, off2, rfl, hlo2, hbh2, hcx2⟩ := hc2 k hkn
      obtain ⟨d0, d1⟩ := hcx.below hb (by omega)
      obtain ⟨e0, e1⟩ := hcx2.below hb (by omega)
      clear hc hc2 hcx hcx2
      generalize x k = y at *
      go_wp2
      go_region_with (go_at_call 56; refine (eqSl_any y _).mono ?_; rintro e w1 ⟨rfl, hb1⟩)
      all_goals
        go_wp2
        go_roundw
        case rel => exact ⟨k + 1, by omega, by go_num, hb.drew.trans (hb1.mono hb.size)⟩
        case measure => simp [intOf]; omega
    · have : k = n := by omega
      subst this
      clear hc hc2
      go_wp2
      go_ret
      exact ⟨rfl, hb⟩
end Go.Proofs.Ytkcgfjnmkbbnoaa
