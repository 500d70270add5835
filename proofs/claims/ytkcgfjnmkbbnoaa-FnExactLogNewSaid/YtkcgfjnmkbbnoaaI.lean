import Derived.Test.YtkcgfjnmkbbnoaaH
namespace Go.Proofs.Ytkcgfjnmkbbnoaa
open Go.RowKit
/-- the n strings at ad, in blocks lo .. hi -/
def IntsIn (w : World) (lo hi : Nat) (ad : Option Addr) (n : Nat) (s : Nat → Int) : Prop :=
  ∀ i, i < n → ∃ b off, ad = some ⟨b, off, none⟩ ∧ lo ≤ b ∧ b < hi ∧ w.cell? ⟨b, off + i, none⟩ = some (.int .i64 (s i))
def IntsOwn (w : World) (lo hi : Nat) (ad : Option Addr) (n : Nat) (s : Nat → Int) : Prop :=
  ∀ i, i < n → ∃ b off, ad = some ⟨b, off, none⟩ ∧ lo ≤ b ∧ b < hi ∧ w.cell? ⟨b, off + i, none⟩ = some (.int .i64 (s i)) ∧ w.frozen? ⟨b, off + i, none⟩ = false
theorem Try.info3 : (Try.prog.info? 3).map (fun i => (i.zero, i.size, i.bytes)) = some (some (.int .i64 0), 1, 8) := by kernel_rfl
theorem toInts_rel {w' : World} {g n : Nat} {base : Nat} {xs : List Value}
    (ho : w'.ownsRow base 3 1 (.slice (some ⟨g, 0, none⟩) n n) n xs) :
    (∀ j, j < n → ∃ u, w'.cell? ⟨g, j, none⟩ = some u) ∧ (∀ j, w'.frozen? ⟨g, j, none⟩ = false) ∧ g < w'.heap.size := by
  refine ⟨fun j hj => ?_, fun j => ho.frozenAt j, ?_⟩
  · rw [ho.cellAt j (by omega)]
    have : j < xs.length := by rw [ho.1]; omega
    exact ⟨xs[j], by simp [this]⟩
  · rcases ho.2 with ⟨h, _⟩ | ⟨g', cap, cur, h, _, hh, _⟩
    · simp at h
    · simp only [Value.slice.injEq, Option.some.injEq, Addr.mk.injEq, and_true, true_and] at h
      obtain ⟨rfl, rfl⟩ := h
      exact (Array.getElem?_eq_some_iff.1 hh).1
theorem toInts_step {w wr : World} {n k : Nat} {s : Nat → Int} (hb : Below w.heap.size w wr) (hsz : w.heap.size < wr.heap.size) (hce : ∀ j, j < n → ∃ u, wr.cell? ⟨w.heap.size, j, none⟩ = some u)
    (hfr : ∀ j, wr.frozen? ⟨w.heap.size, j, none⟩ = false) (hd : ∀ j, j < k → wr.cell? ⟨w.heap.size, j, none⟩ = some (.int .i64 (s j))) (hk : k < n) :
    let w2 := wr.setCell ⟨w.heap.size, k, none⟩ (.int .i64 (s k))
    Below w.heap.size w w2 ∧ w.heap.size < w2.heap.size ∧ (∀ j, j < n → ∃ u, w2.cell? ⟨w.heap.size, j, none⟩ = some u) ∧ (∀ j, w2.frozen? ⟨w.heap.size, j, none⟩ = false) ∧ ∀ j, j < k + 1 → w2.cell? ⟨w.heap.size, j, none⟩ = some (.int .i64 (s j)) := by
  refine ⟨hb.setCell (Nat.le_refl _) _, by simpa [World.setCell] using hsz, fun j hj => ?_, fun j => by rw [World.frozen?_setCell]; exact hfr j, fun j hj => ?_⟩
  · obtain ⟨u, hu⟩ := hce j hj
    exact cell?_setCell_some hu
  · obtain ⟨u, hu⟩ := hce k hk
    by_cases e : j = k
    · subst e; exact World.cell?_setCell_same _ _ _ hu
    · rw [World.cell?_setCell_other _ _ _ _ (fun h => e (by cases h; rfl))]
      exact hd j (by omega)
theorem IntsIn.below {w w' : World} {B lo hi : Nat} {ad : Option Addr} {n : Nat} {s : Nat → Int} (h : IntsIn w lo hi ad n s) (hb : Below B w w') (hB : hi ≤ B) : IntsIn w' lo hi ad n s := fun i hi' => by
  obtain ⟨b, off, e1, e2, e3, e4⟩ := h i hi'
  exact ⟨b, off, e1, e2, e3, (hb.cell (p := ⟨b, off + i, none⟩) (Nat.lt_of_lt_of_le e3 hB)).trans e4⟩
theorem IntsIn.alloc {w : World} {lo hi : Nat} {ad : Option Addr} {n : Nat} {s : Nat → Int} (h : IntsIn w lo hi ad n s) (hB : hi ≤ w.heap.size) (o : Obj) : IntsIn (w.alloc o) lo hi ad n s :=
  h.below ((Below.refl w.heap.size w).alloc (Nat.le_refl _) o) hB
theorem IntsOwn.fr {w w' : World} {lo hi lo2 hi2 : Nat} {ad : Option Addr} {n : Nat} {s : Nat → Int} (h : IntsOwn w lo hi ad n s) (hb : Fr lo2 hi2 w w') (hw : hi ≤ w.heap.size) (ho : hi ≤ lo2 ∨ hi2 ≤ lo) : IntsOwn w' lo hi ad n s := fun i hi' => by
  obtain ⟨b, off, e1, e2, e3, e4, e5⟩ := h i hi'
  exact ⟨b, off, e1, e2, e3, (hb.cell (p := ⟨b, off + i, none⟩) (Nat.lt_of_lt_of_le e3 hw) (by show b < _ ∨ _ ≤ b; omega)).trans e4, (hb.frozen (p := ⟨b, off + i, none⟩) (Nat.lt_of_lt_of_le e3 hw) (by show b < _ ∨ _ ≤ b; omega)).trans e5⟩
theorem IntsOwn.mono {w : World} {lo hi lo2 hi2 : Nat} {ad : Option Addr} {n : Nat} {s : Nat → Int} (h : IntsOwn w lo hi ad n s) (h1 : lo2 ≤ lo) (h2 : hi ≤ hi2) : IntsOwn w lo2 hi2 ad n s := fun i hi' => by
  obtain ⟨b, off, e1, e2, e3, e4, e5⟩ := h i hi'
  exact ⟨b, off, e1, by omega, by omega, e4, e5⟩
theorem IntsOwn.isIn {w : World} {lo hi : Nat} {ad : Option Addr} {n : Nat} {s : Nat → Int} (h : IntsOwn w lo hi ad n s) : IntsIn w lo hi ad n s := fun i hi' => by
  obtain ⟨b, off, e1, e2, e3, e4, e5⟩ := h i hi'
  exact ⟨b, off, e1, e2, e3, e4⟩
theorem IntsIn.drewN {w : World} {lo hi : Nat} {ad : Option Addr} {n : Nat} {s : Nat → Int} (h : IntsIn w lo hi ad n s) (q : Nat) : IntsIn (w.drewN q) lo hi ad n s := h
theorem IntsIn.mono {w : World} {lo hi lo2 hi2 : Nat} {ad : Option Addr} {n : Nat} {s : Nat → Int} (h : IntsIn w lo hi ad n s) (h1 : lo2 ≤ lo) (h2 : hi ≤ hi2) : IntsIn w lo2 hi2 ad n s := fun i hi' => by
  obtain ⟨b, off, e1, e2, e3, e4⟩ := h i hi'
  exact ⟨b, off, e1, by omega, by omega, e4⟩
set_option maxRecDepth 100000 in
set_option maxHeartbeats 400000 in
theorem eqInts_any (n : Nat) (s : Nat → Int) (ad ad2 : Option Addr) (cap cap2 : Nat) (w : World) (lo hi lo2 hi2 : Nat) (hl : (n : Int) ≤ 140737488355328)
    (hc : IntsIn w lo hi ad n s) (hc2 : IntsIn w lo2 hi2 ad2 n s) :
    Calls Try.prog 52 #[.slice ad n cap, .slice ad2 n cap2] w fun e w' => e = .returned (.bool true) ∧ ∃ q, w' = w.drewN q := by
  go_enter Try.func52, Try.ntmps52
  go_wp2
  go_loopw [5] (fun i wr => ∃ k : Nat, k ≤ n ∧ i = .int .i64 k ∧ ∃ q, wr = w.drewN q) (fun i _ => n - (intOf i).toNat)
  case atStart => exact ⟨0, Nat.zero_le _, rfl, 0, rfl⟩
  case round =>
    obtain ⟨k, hk, rfl, q, rfl⟩ := hrel
    by_cases hkn : k < n
    · obtain ⟨b, off, rfl, hlo, hbh, hcx⟩ := hc k hkn
      obtain ⟨b2, off2, rfl, hlo2, hbh2, hcx2⟩ := hc2 k hkn
      clear hc hc2
      go_wp2
      go_quiet (fail)
      go_wp2
      go_roundw
      case rel => exact ⟨k + 1, by omega, by go_num, _, rfl⟩
      case measure => simp [intOf]; omega
    · have : k = n := by omega
      subst this
      clear hc hc2
      go_wp2
      go_ret
      exact ⟨rfl, q, rfl⟩
/-- an ack -/
structure Ak where
  ix : Int
  n : Nat
  s : Nat → Int
abbrev akV (a : Ak) (ad : Option Addr) (cap : Nat) : Value := .agg #[.int .i64 a.ix, .slice ad a.n cap]
structure AkFit (a : Ak) : Prop where
  n : (a.n : Int) ≤ 17592186044416
def szAk (a : Ak) : Nat := a.n
set_option maxRecDepth 100000 in
set_option maxHeartbeats 1000000 in
theorem eqAk_any (a : Ak) (ad ad2 : Option Addr) (cap cap2 : Nat) (w : World) (lo hi lo2 hi2 : Nat) (hh : hi ≤ w.heap.size) (hh2 : hi2 ≤ w.heap.size) (hl : (a.n : Int) ≤ 140737488355328)
    (hc : IntsIn w lo hi ad a.n a.s) (hc2 : IntsIn w lo2 hi2 ad2 a.n a.s) :
    Calls Try.prog 57 #[akV a ad cap, akV a ad2 cap2] w fun e w' => e = .returned (.bool true) ∧ Below w.heap.size w w' := by
  go_enter Try.func57, Try.ntmps57
  go_wp2_with fail
  refine (eqInts_any a.n a.s ad ad2 cap cap2 _ lo hi lo2 hi2 hl ((hc.alloc hh _).alloc (by simp; omega) _) ((hc2.alloc hh2 _).alloc (by simp; omega) _)).mono ?_
  rintro e w1 ⟨rfl, q, rfl⟩
  go_wp2
  go_ret
  exact ⟨rfl, (((below_alloc _ _).alloc (by simp) _).trans ((below_drewN' _ _).mono (by simp; omega)))⟩
end Go.Proofs.Ytkcgfjnmkbbnoaa
