import Derived.Test.YtkcgfjnmkbbnoaaI
namespace Go.Proofs.Ytkcgfjnmkbbnoaa
open Go.RowKit
structure AkCells (w : World) (b o : Nat) (x : Ak) (ad : Option Addr) (cap : Nat) : Prop where
  c0 : w.cell? ⟨b, o, none⟩ = some (.int .i64 x.ix)
  c1 : w.cell? ⟨b, o + 1, none⟩ = some (.slice ad x.n cap)
def AksIn (w : World) (lo hi : Nat) (ad : Option Addr) (n : Nat) (x : Nat → Ak) : Prop :=
  ∀ i, i < n → ∃ b off ah ch, ad = some ⟨b, off, none⟩ ∧ lo ≤ b ∧ b < hi ∧ AkCells w b (off + i * 2) (x i) ah ch ∧ IntsIn w lo hi ah (x i).n (x i).s
theorem AkCells.below {w w' : World} {B b o : Nat} {x : Ak} {ad : Option Addr} {cap : Nat} (h : AkCells w b o x ad cap) (hb : Below B w w') (hB : b < B) : AkCells w' b o x ad cap :=
  ⟨(hb.cell (p := ⟨b, o, none⟩) hB).trans h.c0, (hb.cell (p := ⟨b, o + 1, none⟩) hB).trans h.c1⟩
theorem AksIn.below {w w' : World} {B lo hi : Nat} {ad : Option Addr} {n : Nat} {x : Nat → Ak} (h : AksIn w lo hi ad n x) (hb : Below B w w') (hB : hi ≤ B) : AksIn w' lo hi ad n x := fun i hi' => by
  obtain ⟨b, off, ah, ch, e1, e2, e3, e4, e5⟩ := h i hi'
  exact ⟨b, off, ah, ch, e1, e2, e3, e4.below hb (by omega), e5.below hb hB⟩
theorem AksIn.mono {w : World} {lo hi lo2 hi2 : Nat} {ad : Option Addr} {n : Nat} {x : Nat → Ak} (h : AksIn w lo hi ad n x) (h1 : lo2 ≤ lo) (h2 : hi ≤ hi2) : AksIn w lo2 hi2 ad n x := fun i hi' => by
  obtain ⟨b, off, ah, ch, e1, e2, e3, e4, e5⟩ := h i hi'
  exact ⟨b, off, ah, ch, e1, by omega, by omega, e4, e5.mono h1 h2⟩
def szAks (n : Nat) (x : Nat → Ak) : Nat := n + sumTo (fun i => szAk (x i)) n
theorem Try.info97 : (Try.prog.info? 97).map (fun i => (i.zero, i.size, i.bytes)) = some (some (.agg #[.int .i64 0, .slice none 0 0]), 2, 32) := by kernel_rfl
/-- the n elements of block g, their lists in blocks behind it, one behind the other -/
structure AksOwn (w : World) (g hi n m : Nat) (x : Nat → Ak) (r : Nat → Nat) : Prop where
  room : Room w g (m * 2)
  r0 : g < r 0
  mono : ∀ i, i < n → r i ≤ r (i + 1)
  rn : r n ≤ hi
  hi : hi ≤ w.heap.size
  at_ : ∀ i, i < n → ∃ ah ch, AkCells w g (i * 2) (x i) ah ch ∧ IntsOwn w (r i) (r (i + 1)) ah (x i).n (x i).s
theorem AkCells.fr {w w' : World} {b o : Nat} {x : Ak} {ad : Option Addr} {cap : Nat} (h : AkCells w b o x ad cap) (e : ∀ j, j < 2 → w'.cell? ⟨b, o + j, none⟩ = w.cell? ⟨b, o + j, none⟩) : AkCells w' b o x ad cap :=
  ⟨(e 0 (by omega)).trans h.c0, (e 1 (by omega)).trans h.c1⟩
theorem AksOwn.step {wr w1 : World} {g k n : Nat} {x : Nat → Ak} {r : Nat → Nat} (h : AksOwn wr g wr.heap.size k n x r) (hk : k < n) (hb : Below wr.heap.size wr w1) {ah : Option Addr} {ch : Nat}
    (hs : IntsOwn w1 wr.heap.size w1.heap.size ah (x k).n (x k).s) :
    ∃ r', AksOwn (w1.setCells g (k * 2) [.int .i64 (x k).ix, .slice ah (x k).n ch]) g (w1.setCells g (k * 2) [.int .i64 (x k).ix, .slice ah (x k).n ch]).heap.size (k + 1) n x r' := by
  have hg := h.room.lt
  have hR := h.room.below hb hg
  generalize hvs : [Value.int .i64 (x k).ix, .slice ah (x k).n ch] = vs
  have hlen : vs.length = 2 := by rw [← hvs]; rfl
  have hF := fr_setCells g vs (k * 2) w1
  have hin := World.cell?_setCells_in g vs (k * 2) w1 (fun j hj => by
    obtain ⟨u, hu⟩ := hR.has (k * 2 + j) (by omega)
    rw [hu]; rfl)
  refine ⟨fun i => if i ≤ k then r i else w1.heap.size, hR.setCells vs (by omega), by simpa using h.r0, fun i hi => ?_, ?_, Nat.le_refl _, fun i hi => ?_⟩
  · by_cases e : i < k
    · rw [if_pos (by omega), if_pos (by omega)]; exact h.mono i e
    · have : i = k := by omega
      subst this
      rw [if_pos (by omega), if_neg (by omega)]; exact Nat.le_trans h.rn hb.size
  · rw [if_neg (by omega), size_setCells]; exact Nat.le_refl _
  · by_cases e : i < k
    · obtain ⟨ah', ch', c, s⟩ := h.at_ i e
      refine ⟨ah', ch', ?_, ?_⟩
      · refine (c.below hb hg).fr (fun j hj => ?_)
        exact World.cell?_setCells_out g vs (k * 2) w1 _ (fun _ _ => Or.inl (by show i * 2 + j < k * 2; omega))
      · rw [if_pos (by omega), if_pos (by omega)]
        have h1 : r (i + 1) ≤ wr.heap.size := Nat.le_trans (r_mono h.mono (by omega) (Nat.le_refl _)) h.rn
        have h2 : g < r i := Nat.lt_of_lt_of_le h.r0 (r_mono h.mono (Nat.zero_le _) (by omega))
        exact (s.fr (Fr.of_below (lo := 0) (hi := 0) hb) h1 (Or.inr (Nat.zero_le _))).fr hF (Nat.le_trans h1 hb.size) (Or.inr (by omega))
    · have : i = k := by omega
      subst this
      refine ⟨ah, ch, ?_, ?_⟩
      · have f := fun j (hj : j < 2) => hin j (by omega)
        have f0 := f 0 (by omega); have f1 := f 1 (by omega)
        subst hvs
        exact ⟨f0, f1⟩
      · rw [if_pos (by omega), if_neg (by omega)]
        exact (hs.fr hF (Nat.le_refl _) (Or.inr (by omega))).mono h.rn (Nat.le_refl _)
theorem AksOwn.start {w1 : World} {g n : Nat} (x : Nat → Ak) (h : Room w1 g (n * 2)) : AksOwn w1 g w1.heap.size 0 n x (fun _ => g + 1) :=
  ⟨h, Nat.lt_succ_self _, fun _ h => absurd h (Nat.not_lt_zero _), h.lt, Nat.le_refl _, fun _ h => absurd h (Nat.not_lt_zero _)⟩
theorem AksOwn.fr {w w' : World} {g hi n m lo2 hi2 : Nat} {x : Nat → Ak} {r : Nat → Nat} (h : AksOwn w g hi n m x r) (hb : Fr lo2 hi2 w w') (ho : hi ≤ lo2 ∨ hi2 ≤ g) : AksOwn w' g hi n m x r := by
  have hg : g < hi := Nat.lt_of_lt_of_le h.r0 (Nat.le_trans (r_mono h.mono (Nat.zero_le _) (Nat.le_refl _)) h.rn)
  have hc : ∀ j, w'.cell? ⟨g, j, none⟩ = w.cell? ⟨g, j, none⟩ := fun j => hb.cell (p := ⟨g, j, none⟩) (Nat.lt_of_lt_of_le hg h.hi) (by show g < _ ∨ _ ≤ g; omega)
  refine ⟨⟨fun j hj => ?_, fun j => (hb.frozen (p := ⟨g, j, none⟩) (Nat.lt_of_lt_of_le hg h.hi) (by show g < _ ∨ _ ≤ g; omega)).trans (h.room.free j), Nat.lt_of_lt_of_le h.room.lt hb.size⟩, h.r0, h.mono, h.rn, Nat.le_trans h.hi hb.size, fun i hi' => ?_⟩
  · obtain ⟨u, hu⟩ := h.room.has j hj; exact ⟨u, (hc j).trans hu⟩
  · obtain ⟨ah, ch, c, s⟩ := h.at_ i hi'
    have h1 : r (i + 1) ≤ hi := Nat.le_trans (r_mono h.mono (by omega) (Nat.le_refl _)) h.rn
    have h2 : g < r i := Nat.lt_of_lt_of_le h.r0 (r_mono h.mono (Nat.zero_le _) (by omega))
    exact ⟨ah, ch, c.fr (fun j _ => hc _), s.fr hb (Nat.le_trans h1 h.hi) (by omega)⟩
theorem AksOwn.isIn {w : World} {g hi n : Nat} {x : Nat → Ak} {r : Nat → Nat} (h : AksOwn w g hi n n x r) {lo hi2 : Nat} (hlo : lo ≤ g) (hh : hi ≤ hi2) : AksIn w lo hi2 (some ⟨g, 0, none⟩) n x := fun i hi' => by
  obtain ⟨ah, ch, c, s⟩ := h.at_ i hi'
  have h1 : r (i + 1) ≤ hi := Nat.le_trans (r_mono h.mono (by omega) (Nat.le_refl _)) h.rn
  have h2 : g < r i := Nat.lt_of_lt_of_le h.r0 (r_mono h.mono (Nat.zero_le _) (by omega))
  have h3 : r i ≤ r (i + 1) := h.mono i hi'
  exact ⟨g, 0, ah, ch, rfl, hlo, by omega, by rw [Nat.zero_add]; exact c, s.isIn.mono (by omega) (by omega)⟩
set_option maxRecDepth 100000 in
set_option maxHeartbeats 1000000 in
theorem eqAks_any (n : Nat) (x : Nat → Ak) (ad ad2 : Option Addr) (cap cap2 : Nat) (w : World) (lo hi lo2 hi2 : Nat) (hh : hi ≤ w.heap.size) (hh2 : hi2 ≤ w.heap.size) (hl : (n : Int) ≤ 140737488355328) (hf : ∀ i, i < n → ((x i).n : Int) ≤ 140737488355328)
    (hc : AksIn w lo hi ad n x) (hc2 : AksIn w lo2 hi2 ad2 n x) :
    Calls Try.prog 54 #[.slice ad n cap, .slice ad2 n cap2] w fun e w' => e = .returned (.bool true) ∧ Below w.heap.size w w' := by
  go_enter Try.func54, Try.ntmps54
  go_wp2
  go_loopw [5] (fun i wr => ∃ k : Nat, k ≤ n ∧ i = .int .i64 k ∧ Below w.heap.size w wr) (fun i _ => n - (intOf i).toNat)
  case atStart => exact ⟨0, Nat.zero_le _, rfl, Below.refl _ _⟩
  case round =>
    obtain ⟨k, hk, rfl, hb⟩ := hrel
    by_cases hkn : k < n
    · obtain ⟨b, off, ah, ch, rfl, hlo, hbh, hcx, hsx⟩ := hc k hkn
      obtain ⟨b2, off2, ah2, ch2, rfl, hlo2, hbh2, hcx2, hsx2⟩ := hc2 k hkn
      have hfk := hf k hkn
      obtain ⟨d0, d1⟩ := hcx.below hb (by omega)
      obtain ⟨e0, e1⟩ := hcx2.below hb (by omega)
      have hs := hsx.below hb hh
      have hs2 := hsx2.below hb hh2
      have hw1 := Nat.le_trans hh hb.size
      have hw2 := Nat.le_trans hh2 hb.size
      clear hc hc2 hf hcx hcx2 hsx hsx2
      generalize x k = y at *
      go_wp2
      go_region_with (go_at_call 57; refine (eqAk_any y ah ah2 ch ch2 _ lo hi lo2 hi2 (by exact hw1) (by exact hw2) hfk (by exact hs.drewN 1) (by exact hs2.drewN 1)).mono ?_; rintro e w1 ⟨rfl, hb1⟩)
      all_goals
        go_wp2
        go_roundw
        case rel => exact ⟨k + 1, by omega, by go_num, hb.drew.trans (hb1.mono hb.size)⟩
        case measure => simp [intOf]; omega
    · have : k = n := by omega
      subst this
      clear hc hc2
      go_wp2
      go_ret
      exact ⟨rfl, hb⟩
end Go.Proofs.Ytkcgfjnmkbbnoaa
