import Derived.Test.YtkbghbbaldjinaaGreatDoorZj
import Derived.Test.YtkbghbbaldjinaaGreatDoorL
import Derived.Deep.RegionWith
namespace Go.Proofs.YtkbghbbaldjinaaGreatDoor
open Go.RowKit Go.Maps
theorem ObjsOwnAt.isIn {w : World} {g hi n : Nat} {x : Nat → Ob} {r : Nat → Nat} (h : ObjsOwnAt w g hi n n x r) {lo hi2 : Nat} (hlo : lo ≤ g) (hh : hi ≤ hi2) : ObjsIn w lo hi2 (some ⟨g, 0, none⟩) n x := fun i hi' => by
  obtain ⟨ah, ch, c, s⟩ := h.at_ i hi'
  have h1 : r (i + 1) ≤ hi := Nat.le_trans (r_mono h.mono (by omega) (Nat.le_refl _)) h.rn
  have h2 : g < r i := Nat.lt_of_lt_of_le h.r0 (r_mono h.mono (Nat.zero_le _) (by omega))
  have h3 : r i ≤ r (i + 1) := h.mono i hi'
  exact ⟨g, 0, ah, ch, rfl, hlo, by omega, by rw [Nat.zero_add]; exact c, s.isIn.mono (by omega) (by omega)⟩
theorem ChgsOwnAt.isIn {w : World} {g hi n : Nat} {x : Nat → Ch} {r : Nat → Nat} (h : ChgsOwnAt w g hi n n x r) {lo hi2 : Nat} (hlo : lo ≤ g) (hh : hi ≤ hi2) : ChgsIn w lo hi2 (some ⟨g, 0, none⟩) n x := fun i hi' => by
  obtain ⟨ah, ch, c, s⟩ := h.at_ i hi'
  have h1 : r (i + 1) ≤ hi := Nat.le_trans (r_mono h.mono (by omega) (Nat.le_refl _)) h.rn
  have h2 : g < r i := Nat.lt_of_lt_of_le h.r0 (r_mono h.mono (Nat.zero_le _) (by omega))
  have h3 : r i ≤ r (i + 1) := h.mono i hi'
  exact ⟨g, 0, ah, ch, rfl, hlo, by omega, by rw [Nat.zero_add]; exact c, s.isIn.mono (by omega) (by omega)⟩
theorem TicsOwnAt.isIn {w : World} {g n : Nat} {x : Nat → Ti} (h : TicsOwnAt w g n n x) {lo hi2 : Nat} (hlo : lo ≤ g) (hh : g < hi2) : TicsIn w lo hi2 (some ⟨g, 0, none⟩) n x := fun i hi' =>
  ⟨g, 0, rfl, hlo, hh, by rw [Nat.zero_add]; exact h.at_ i hi'⟩
theorem BkOwn.isIn {w : World} {lo hi : Nat} {x : Bk} {g1 g2 g3 : Nat} (h : BkOwn w lo hi x g1 g2 g3) : BkIn w lo hi x (some ⟨g1, 0, none⟩) (some ⟨g2, 0, none⟩) (some ⟨g3, 0, none⟩) := by
  obtain ⟨⟨h1, r1, ho, ho2⟩, ⟨h2, r2, hc, hc2⟩, ht, hlo, hhi, htop⟩ := h
  have hg2 : g1 < h1 := Nat.lt_of_lt_of_le ho.r0 (Nat.le_trans (r_mono ho.mono (Nat.zero_le _) (Nat.le_refl _)) ho.rn)
  have hg3 : g2 < h2 := Nat.lt_of_lt_of_le hc.r0 (Nat.le_trans (r_mono hc.mono (Nat.zero_le _) (Nat.le_refl _)) hc.rn)
  exact ⟨ho.isIn hlo (by omega), hc.isIn (by omega) (by omega), ht.isIn (by omega) hhi⟩
theorem BkOwn.fr {w w' : World} {lo hi lo2 hi2 : Nat} {x : Bk} {g1 g2 g3 : Nat} (h : BkOwn w lo hi x g1 g2 g3) (hb : Fr lo2 hi2 w w') (ho : hi ≤ lo2 ∨ hi2 ≤ lo) : BkOwn w' lo hi x g1 g2 g3 := by
  obtain ⟨⟨h1, r1, ho1, ho2⟩, ⟨h2, r2, hc, hc2⟩, ht, hlo, hhi, htop⟩ := h
  have hg2 : g1 < h1 := Nat.lt_of_lt_of_le ho1.r0 (Nat.le_trans (r_mono ho1.mono (Nat.zero_le _) (Nat.le_refl _)) ho1.rn)
  have hg3 : g2 < h2 := Nat.lt_of_lt_of_le hc.r0 (Nat.le_trans (r_mono hc.mono (Nat.zero_le _) (Nat.le_refl _)) hc.rn)
  exact ⟨⟨h1, r1, ho1.fr hb (by omega), ho2⟩, ⟨h2, r2, hc.fr hb (by omega), hc2⟩, ht.fr hb (by omega), hlo, hhi, Nat.le_trans htop hb.size⟩
/-- the block B holds just these cells -/
def Holds (W : World) (B : Nat) (c : Array Value) : Prop := ∀ i, W.cell? ⟨B, i, none⟩ = c[i]?
theorem Holds.fr {W W' : World} {B lo hi : Nat} {c : Array Value} (h : Holds W B c) (hb : Fr lo hi W W') (hB : B < W.heap.size) (ho : B < lo ∨ hi ≤ B) : Holds W' B c := fun i => (hb.cell (p := ⟨B, i, none⟩) hB ho).trans (h i)
theorem Holds.below {W W' : World} {B n : Nat} {c : Array Value} (h : Holds W B c) (hb : Below n W W') (hB : B < n) : Holds W' B c := fun i => (hb.cell (p := ⟨B, i, none⟩) hB).trans (h i)
theorem holds_new (w : World) (c : Array Value) (t : TypeId) : Holds (w.alloc (.cells c t)) w.heap.size c := fun i => World.cell?_alloc_new w c t i
def bkCells (x : Bk) (a1 a2 a3 : Option Addr) (c1 c2 c3 : Nat) : Array Value := #[.int .i64 x.now, .int .i64 x.floor, .slice a1 x.on c1, .slice a2 x.hn c2, .slice a3 x.tn c3]
theorem holds_bk {W : World} {B : Nat} {x : Bk} {a1 a2 a3 : Option Addr} {c1 c2 c3 : Nat} (h : Holds W B (bkCells x a1 a2 a3 c1 c2 c3)) :
    W.cell? ⟨B, 0, none⟩ = some (.int .i64 x.now) ∧ W.cell? ⟨B, 1, none⟩ = some (.int .i64 x.floor) ∧ W.cell? ⟨B, 2, none⟩ = some (.slice a1 x.on c1) ∧ W.cell? ⟨B, 3, none⟩ = some (.slice a2 x.hn c2) ∧ W.cell? ⟨B, 4, none⟩ = some (.slice a3 x.tn c3) := ⟨h 0, h 1, h 2, h 3, h 4⟩
end Go.Proofs.YtkbghbbaldjinaaGreatDoor
