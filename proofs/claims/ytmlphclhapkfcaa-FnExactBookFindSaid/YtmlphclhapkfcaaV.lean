import Derived.Test.YtmlphclhapkfcaaU
namespace Go.Proofs.Ytmlphclhapkfcaa
open Go.RowKit Go.Maps
theorem ObjsOwnAt.isIn {w : World} {g hi n : Nat} {x : Nat → Ob} {r : Nat → Nat} (h : ObjsOwnAt w g hi n n x r) {lo hi2 : Nat} (hlo : lo ≤ g) (hh : hi ≤ hi2) : ObjsIn w lo hi2 (some ⟨g, 0, none⟩) n x := fun i hi' => by
  obtain ⟨ah, ch, c, s⟩ := h.at_ i hi'
  have h1 : r (i + 1) ≤ hi := Nat.le_trans (r_mono h.mono (by omega) (Nat.le_refl _)) h.rn
  have h2 : g < r i := Nat.lt_of_lt_of_le h.r0 (r_mono h.mono (Nat.zero_le _) (by omega))
  have h3 : r i ≤ r (i + 1) := h.mono i hi'
  exact ⟨g, 0, ah, ch, rfl, hlo, by omega, by rw [Nat.zero_add]; exact c, s.isIn.mono (by omega) (by omega)⟩
theorem ChgsOwnAt.isIn {w : World} {g hi n : Nat} {x : Nat → Ch} {r : Nat → Nat} (h : ChgsOwnAt w g hi n n x r) {lo hi2 : Nat} (hlo : lo ≤ g) (hh : hi ≤ hi2) : ChgsIn w lo hi2 (some ⟨g, 0, none⟩) n x := fun i hi' => by
  obtain ⟨ah, ch, c, s⟩ := h.at_ i hi'
  have h1 : r (i + 1) ≤ hi := Nat.le_trans (r_mono h.mono (by omega) (Nat.le_refl _)) h.rn
  have h2 : g < r i := Nat.lt_of_lt_of_le h.r0 (r_mono h.mono (Nat.zero_le _) (by omega))
  have h3 : r i ≤ r (i + 1) := h.mono i hi'
  exact ⟨g, 0, ah, ch, rfl, hlo, by omega, by rw [Nat.zero_add]; exact c, s.isIn.mono (by omega) (by omega)⟩
theorem TicsOwnAt.isIn {w : World} {g n : Nat} {x : Nat → Ti} (h : TicsOwnAt w g n n x) {lo hi2 : Nat} (hlo : lo ≤ g) (hh : g < hi2) : TicsIn w lo hi2 (some ⟨g, 0, none⟩) n x := fun i hi' =>
  ⟨g, 0, rfl, hlo, hh, by rw [Nat.zero_add]; exact h.at_ i hi'⟩
theorem BkOwn.isIn {w : World} {lo hi : Nat} {x : Bk} {g1 g2 g3 : Nat} (h : BkOwn w lo hi x g1 g2 g3) : BkIn w lo hi x (some ⟨g1, 0, none⟩) (some ⟨g2, 0, none⟩) (some ⟨g3, 0, none⟩) := by
  obtain ⟨⟨h1, r1, ho, ho2⟩, ⟨h2, r2, hc, hc2⟩, ht, hlo, hhi, htop⟩ := h
  have hg2 : g1 < h1 := Nat.lt_of_lt_of_le ho.r0 (Nat.le_trans (r_mono ho.mono (Nat.zero_le _) (Nat.le_refl _)) ho.rn)
  have hg3 : g2 < h2 := Nat.lt_of_lt_of_le hc.r0 (Nat.le_trans (r_mono hc.mono (Nat.zero_le _) (Nat.le_refl _)) hc.rn)
  exact ⟨ho.isIn hlo (by omega), hc.isIn (by omega) (by omega), ht.isIn (by omega) hhi⟩
theorem BkOwn.fr {w w' : World} {lo hi lo2 hi2 : Nat} {x : Bk} {g1 g2 g3 : Nat} (h : BkOwn w lo hi x g1 g2 g3) (hb : Fr lo2 hi2 w w') (ho : hi ≤ lo2 ∨ hi2 ≤ lo) : BkOwn w' lo hi x g1 g2 g3 := by
  obtain ⟨⟨h1, r1, ho1, ho2⟩, ⟨h2, r2, hc, hc2⟩, ht, hlo, hhi, htop⟩ := h
  have hg2 : g1 < h1 := Nat.lt_of_lt_of_le ho1.r0 (Nat.le_trans (r_mono ho1.mono (Nat.zero_le _) (Nat.le_refl _)) ho1.rn)
  have hg3 : g2 < h2 := Nat.lt_of_lt_of_le hc.r0 (Nat.le_trans (r_mono hc.mono (Nat.zero_le _) (Nat.le_refl _)) hc.rn)
  exact ⟨⟨h1, r1, ho1.fr hb (by omega), ho2⟩, ⟨h2, r2, hc.fr hb (by omega), hc2⟩, ht.fr hb (by omega), hlo, hhi, Nat.le_trans htop hb.size⟩
/-- the block B holds just these cells -/
def Holds (W : World) (B : Nat) (c : Array Value) : Prop := ∀ i, W.cell? ⟨B, i, none⟩ = c[i]?
theorem Holds.fr {W W' : World} {B lo hi : Nat} {c : Array Value} (h : Holds W B c) (hb : Fr lo hi W W') (hB : B < W.heap.size) (ho : B < lo ∨ hi ≤ B) : Holds W' B c := fun i => (hb.cell (p := ⟨B, i, none⟩) hB ho).trans (h i)
theorem Holds.below {W W' : World} {B n : Nat} {c : Array Value} (h : Holds W B c) (hb : Below n W W') (hB : B < n) : Holds W' B c := fun i => (hb.cell (p := ⟨B, i, none⟩) hB).trans (h i)
theorem holds_new (w : World) (c : Array Value) (t : TypeId) : Holds (w.alloc (.cells c t)) w.heap.size c := fun i => World.cell?_alloc_new w c t i
def bkCells (x : Bk) (a1 a2 a3 : Option Addr) (c1 c2 c3 : Nat) : Array Value := #[.int .i64 x.now, .int .i64 x.floor, .slice a1 x.on c1, .slice a2 x.hn c2, .slice a3 x.tn c3]
def obCells (y : Ob) (ad : Option Addr) (c : Nat) : Array Value := #[.string y.kind, .string y.name, .int .i64 y.ver, .int .i64 y.born, .string y.text, .bool y.ending, .slice ad y.hn c]
theorem holds_bk {W : World} {B : Nat} {x : Bk} {a1 a2 a3 : Option Addr} {c1 c2 c3 : Nat} (h : Holds W B (bkCells x a1 a2 a3 c1 c2 c3)) :
    W.cell? ⟨B, 0, none⟩ = some (.int .i64 x.now) ∧ W.cell? ⟨B, 1, none⟩ = some (.int .i64 x.floor) ∧ W.cell? ⟨B, 2, none⟩ = some (.slice a1 x.on c1) ∧ W.cell? ⟨B, 3, none⟩ = some (.slice a2 x.hn c2) ∧ W.cell? ⟨B, 4, none⟩ = some (.slice a3 x.tn c3) := ⟨h 0, h 1, h 2, h 3, h 4⟩
theorem holds_ob {W : World} {B : Nat} {y : Ob} {ad : Option Addr} {c : Nat} (h : Holds W B (obCells y ad c)) :
    W.cell? ⟨B, 0, none⟩ = some (.string y.kind) ∧ W.cell? ⟨B, 1, none⟩ = some (.string y.name) ∧ W.cell? ⟨B, 2, none⟩ = some (.int .i64 y.ver) ∧ W.cell? ⟨B, 3, none⟩ = some (.int .i64 y.born) ∧ W.cell? ⟨B, 4, none⟩ = some (.string y.text) ∧ W.cell? ⟨B, 5, none⟩ = some (.bool y.ending) ∧ W.cell? ⟨B, 6, none⟩ = some (.slice ad y.hn c) := ⟨h 0, h 1, h 2, h 3, h 4, h 5, h 6⟩
/-- where the law stands, from its first comparison on -/
structure St (W : World) (s0 : Nat) (x : Bk) (a1 a2 a3 : Option Addr) (c1 c2 c3 : Nat) (y : Ob) (low B8 : Nat) (adw : Option Addr) (cw : Nat) (B10 g1 g2 g3 d1 d2 d3 B11 : Nat) (adg : Option Addr) (cg : Nat) : Prop where
  bx : Holds W s0 (bkCells x a1 a2 a3 c1 c2 c3)
  arg : BkIn W 0 s0 x a1 a2 a3
  vw : Holds W B8 (obCells y adw cw)
  hw : StrsIn W low B8 adw y.hn y.hs
  vx : Holds W B10 (bkCells x (some ⟨g1, 0, none⟩) (some ⟨g2, 0, none⟩) (some ⟨g3, 0, none⟩) d1 d2 d3)
  vg : Holds W B11 (obCells y adg cg)
  o1 : s0 < low
  o2 : low ≤ B8
  o3 : B8 < B10
  o4 : B10 < B11
  o5 : B11 < W.heap.size
theorem StrsIn.fr {w w' : World} {lo hi lo2 hi2 : Nat} {ad : Option Addr} {n : Nat} {s : Nat → ByteArray} (h : StrsIn w lo hi ad n s) (hb : Fr lo2 hi2 w w') (hw : hi ≤ w.heap.size) (ho : hi ≤ lo2 ∨ hi2 ≤ lo) : StrsIn w' lo hi ad n s := fun i hi' => by
  obtain ⟨b, off, e1, e2, e3, e4⟩ := h i hi'
  exact ⟨b, off, e1, e2, e3, (hb.cell (p := ⟨b, off + i, none⟩) (Nat.lt_of_lt_of_le e3 hw) (by show b < _ ∨ _ ≤ b; omega)).trans e4⟩
theorem St.fr {W W' : World} {s0 : Nat} {x : Bk} {a1 a2 a3 : Option Addr} {c1 c2 c3 : Nat} {y : Ob} {low B8 : Nat} {adw : Option Addr} {cw : Nat} {B10 g1 g2 g3 d1 d2 d3 B11 : Nat} {adg : Option Addr} {cg lo hi : Nat}
    (h : St W s0 x a1 a2 a3 c1 c2 c3 y low B8 adw cw B10 g1 g2 g3 d1 d2 d3 B11 adg cg) (hb : Fr lo hi W W') (ho : hi = 0 ∨ (B8 < lo ∧ hi ≤ B10) ∨ (B10 < lo ∧ hi ≤ B11)) : St W' s0 x a1 a2 a3 c1 c2 c3 y low B8 adw cw B10 g1 g2 g3 d1 d2 d3 B11 adg cg := by
  obtain ⟨f1, f2, f3, f4, f5, f6, o1, o2, o3, o4, o5⟩ := h
  refine ⟨f1.fr hb (by omega) (by omega), ?_, f3.fr hb (by omega) (by omega), f4.fr hb (by omega) (by omega), f5.fr hb (by omega) (by omega), f6.fr hb (by omega) (by omega), o1, o2, o3, o4, Nat.lt_of_lt_of_le o5 hb.size⟩
  have hB : Below s0 W W' := ⟨hb.os, hb.tape, hb.output, hb.size, fun k hk => hb.block k (by omega) (by omega)⟩
  exact f2.below hB (Nat.le_refl _)
theorem St.below {W W' : World} {s0 : Nat} {x : Bk} {a1 a2 a3 : Option Addr} {c1 c2 c3 : Nat} {y : Ob} {low B8 : Nat} {adw : Option Addr} {cw : Nat} {B10 g1 g2 g3 d1 d2 d3 B11 : Nat} {adg : Option Addr} {cg : Nat}
    (h : St W s0 x a1 a2 a3 c1 c2 c3 y low B8 adw cw B10 g1 g2 g3 d1 d2 d3 B11 adg cg) (hb : Below W.heap.size W W') : St W' s0 x a1 a2 a3 c1 c2 c3 y low B8 adw cw B10 g1 g2 g3 d1 d2 d3 B11 adg cg := h.fr (Fr.of_below (lo := 0) (hi := 0) hb) (Or.inl rfl)
end Go.Proofs.Ytmlphclhapkfcaa
