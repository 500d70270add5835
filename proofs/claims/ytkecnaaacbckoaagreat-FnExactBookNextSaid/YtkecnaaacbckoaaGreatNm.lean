import Derived.Test.YtkecnaaacbckoaaGreatOa
import Derived.Test.YtkecnaaacbckoaaGreatGw
import Derived.Test.YtkecnaaacbckoaaGreatNp
namespace Go.Proofs.YtkecnaaacbckoaaGreat
open Go.RowKit
theorem drew_size (w : World) : w.drew.heap.size = w.heap.size := rfl
structure BoxC (w : World) (b : Nat) (c : Array Value) : Prop where
  cell : ∀ i, w.cell? ⟨b, i, none⟩ = c[i]?
  free : ∀ i, w.frozen? ⟨b, i, none⟩ = false
  lt : b < w.heap.size
theorem boxC_new {w w1 : World} {c : Array Value} {t : TypeId} (hb : Below (w.alloc (.cells c t)).heap.size (w.alloc (.cells c t)) w1) : BoxC w1 w.heap.size c :=
  ⟨box_cell hb, fun i => (hb.frozen (p := ⟨w.heap.size, i, none⟩) (by simp)).trans (World.frozen?_alloc_at _ _ _ _ rfl), by have := hb.size; simp at this; omega⟩
theorem BoxC.below {w w1 : World} {b : Nat} {c : Array Value} (h : BoxC w b c) (hb : Below w.heap.size w w1) : BoxC w1 b c :=
  ⟨fun i => (hb.cell (p := ⟨b, i, none⟩) h.lt).trans (h.cell i), fun i => (hb.frozen (p := ⟨b, i, none⟩) h.lt).trans (h.free i), Nat.lt_of_lt_of_le h.lt hb.size⟩
def updT (t : Nat → Value) (i : Nat) (v : Value) : Nat → Value := fun j => bif j == i then v else t j
theorem updT_ne {t : Nat → Value} {i j : Nat} {v : Value} (h : ¬ j = i) : updT t i v j = t j := by
  have : (j == i) = false := by simpa using h
  simp [updT, this]
theorem updT_same {t : Nat → Value} {i : Nat} {v : Value} : updT t i v i = v := by simp [updT]
/-- a drawn region of a law: values that hold whatever is added (G), one call whose answer is new (c), a box (al), the store of the answer into it (the last) -/
def RN (n c al : Nat) (mk : (Nat → Value) → Array Value) (W : World) (G : Nat → Value → World → Prop) (F4 : Value → Nat → Nat → World → Prop) (zs : Array Value) (Fin : Value → Value → World → Prop) (l : Array Bool) (a : Act) (X : World) : Prop :=
  ∃ t : Nat → Value, a = ⟨mk t, []⟩ ∧ l.size = n + 1 ∧ Below W.heap.size W X ∧
    (l.getD n false = true → (∀ i, i < n + 1 → l.getD i false = true) ∧ Fin (t c) (t al) X) ∧
    (l.getD n false = false → (∀ i, i < n → ¬ i = c → ¬ i = al → l.getD i false = true → G i (t i) X) ∧
      (l.getD c false = true → ∃ lo hi, W.heap.size ≤ lo ∧ F4 (t c) lo hi X ∧ (l.getD al false = true → ∃ b, t al = .pointer (some ⟨b, 0, none⟩) ∧ (b < lo ∨ hi ≤ b))) ∧
      (l.getD al false = true → ∃ b, t al = .pointer (some ⟨b, 0, none⟩) ∧ W.heap.size ≤ b ∧ BoxC X b zs))
theorem regionN {P : Program} {id : Nat} {ops : Array Oper} {Q : Exit → Act → World → Prop} {a0 : Act} {W : World} (hm : P.follows .mixedOrders = true) (n c al : Nat) (hc : c < n) (ha : al < n) (hca : ¬ c = al)
    (mk : (Nat → Value) → Array Value) (G : Nat → Value → World → Prop) (F4 : Value → Nat → Nat → World → Prop) (zs : Array Value) (T : TypeId) (Fin : Value → Value → World → Prop) (dep : Nat → Nat → Prop)
    (hn : ops.size = n + 1) (hord : ((List.range ops.size).all fun i => match ops[i]? with | some o => o.after.all (fun e => decide (e.on < i)) | none => true) = true)
    (hdep : ∀ i j, dep i j → j < n ∧ ¬ j = c ∧ ¬ j = al)
    (hd : ∀ l i, i ∈ Region.ready .any ops l → (∀ j, dep i j → l.getD j false = true) ∧ (i = n → ∀ j, j < n → l.getD j false = true))
    (st : ∀ i v X Y, G i v X → Below X.heap.size X Y → G i v Y) (st4 : ∀ v lo hi X Y, F4 v lo hi X → Below X.heap.size X Y → F4 v lo hi Y) (hi4 : ∀ v lo hi X, F4 v lo hi X → hi ≤ X.heap.size)
    (h0 : a0 = ⟨mk (fun _ => undef), []⟩)
    (sg : ∀ i, i < n → ¬ i = c → ¬ i = al → ∀ t X K, Below W.heap.size W X → (∀ j, dep i j → G j (t j) X) → (∀ v Y, G i v Y → Below X.heap.size X Y → K ⟨mk (updT t i v), []⟩ Y) → wpOp P ops Q i K ⟨mk t, []⟩ X)
    (sc : ∀ t X K, Below W.heap.size W X → (∀ j, dep c j → G j (t j) X) → (∀ v Y, F4 v X.heap.size Y.heap.size Y → Below X.heap.size X Y → K ⟨mk (updT t c v), []⟩ Y) → wpOp P ops Q c K ⟨mk t, []⟩ X)
    (sa : ∀ t X K, K ⟨mk (updT t al (.pointer (some ⟨X.heap.size, 0, none⟩))), []⟩ (X.alloc (.cells zs T)) → wpOp P ops Q al K ⟨mk t, []⟩ X)
    (ss : ∀ t X K b lo hi, Below W.heap.size W X → t al = .pointer (some ⟨b, 0, none⟩) → W.heap.size ≤ b → BoxC X b zs → F4 (t c) lo hi X → W.heap.size ≤ lo → (b < lo ∨ hi ≤ b) → (∀ Y, Fin (t c) (t al) Y → Below W.heap.size W Y → K ⟨mk t, []⟩ Y) → wpOp P ops Q n K ⟨mk t, []⟩ X)
    (hfin : ∀ t X, Fin (t c) (t al) X → Below W.heap.size W X → Q .normal ⟨mk t, []⟩ X) : (Code.region id ops true).wp P Q a0 W := by
  refine wp_region_inv hm (RN n c al mk W G F4 zs Fin) ?_ ?_ ?_ ?_
  · have hz : ∀ i, (Array.replicate ops.size false).getD i false = false := fun i => by simp [Array.getD]
    refine ⟨fun _ => undef, h0, by simp [hn], (Below.refl _ _).drew, fun h => ?_, fun _ => ⟨fun i _ _ _ h => ?_, fun h => ?_, fun h => ?_⟩⟩ <;> (rw [hz] at h; cases h)
  · rintro l a X ⟨t, _, hs, _⟩
    rw [hs, hn]
  · rintro l a X ⟨t, rfl, hs, hb, h6, _⟩ hr
    have AL := all_listed hord (by rw [hs, hn]) hr
    exact hfin t X (h6 (AL n (by omega))).2 hb
  · rintro l a X i ⟨t, rfl, hs, hb, h6, hg⟩ hr
    obtain ⟨di, d6⟩ := hd l i hr
    obtain ⟨hu, o, ho, _⟩ := mem_ready.1 hr
    have hi7 : i < n + 1 := by
      rcases Nat.lt_or_ge i (n + 1) with h | h
      · exact h
      · rw [Array.getElem?_eq_none (by omega)] at ho
        cases ho
    have hui : l.getD i false = false := by
      have : l.getD i true = false := hu
      simpa [Array.getD, hs, hi7] using this
    have l6 : l.getD n false = false := by
      cases h : l.getD n false with
      | false => rfl
      | true => rw [(h6 h).1 i hi7] at hui; cases hui
    obtain ⟨gg, g4, g5⟩ := hg l6
    have kp : ∀ j, ¬ j = i → (l.setIfInBounds i true).getD j false = l.getD j false := fun j hj => by rw [getD_set (by omega), if_neg hj]
    have ki : (l.setIfInBounds i true).getD i false = true := by rw [getD_set (by omega), if_pos rfl]
    have hs' : (l.setIfInBounds i true).size = n + 1 := by simp [hs]
    have dg : ∀ j, dep i j → G j (t j) X := fun j hj => gg j (hdep i j hj).1 (hdep i j hj).2.1 (hdep i j hj).2.2 (di j hj)
    clear hr hu ho h6 hg
    by_cases hin : i = n
    · subst hin
      have a4 := d6 rfl c hc
      have a5 := d6 rfl al ha
      obtain ⟨lo, hi, e1, e2, e3⟩ := g4 a4
      obtain ⟨b, f1, f2⟩ := e3 a5
      obtain ⟨b', f3, f4, f5⟩ := g5 a5
      obtain rfl : b' = b := by rw [f1] at f3; cases f3; rfl
      refine ss t X _ b' lo hi hb f1 f4 f5 e2 e1 f2 (fun Y hY hbY => ⟨t, rfl, hs', hbY, fun _ => ⟨fun j hj => ?_, hY⟩, fun h => ?_⟩)
      · by_cases e : j = i
        · subst e; exact ki
        · rw [kp j e]; exact d6 rfl j (by omega)
      · rw [ki] at h; cases h
    have hno : (l.setIfInBounds i true).getD n false = false := by rw [kp n (fun e => hin e.symm)]; exact l6
    by_cases hic : i = c
    · subst hic
      refine sc t X _ hb dg (fun v Y hv hY => ⟨updT t i v, rfl, hs', hb.trans (hY.mono hb.size), fun h => ?_, fun _ => ⟨fun j j1 j2 j3 h => ?_, fun _ => ?_, fun h => ?_⟩⟩)
      · rw [hno] at h; cases h
      · rw [kp j j2] at h; rw [updT_ne j2]; exact st _ _ _ _ (gg j j1 j2 j3 h) hY
      · rw [updT_same]
        refine ⟨X.heap.size, Y.heap.size, hb.size, hv, fun h => ?_⟩
        rw [kp al (fun e => hca e.symm)] at h
        rw [updT_ne (fun e => hca e.symm)]
        obtain ⟨b, e1, e2, e3⟩ := g5 h
        exact ⟨b, e1, Or.inl e3.lt⟩
      · rw [kp al (fun e => hca e.symm)] at h
        rw [updT_ne (fun e => hca e.symm)]
        obtain ⟨b, e1, e2, e3⟩ := g5 h
        exact ⟨b, e1, e2, e3.below hY⟩
    by_cases hia : i = al
    · subst hia
      have hY := below_alloc X (.cells zs T)
      refine sa t X _ ⟨updT t i _, rfl, hs', hb.alloc hb.size _, fun h => ?_, fun _ => ⟨fun j j1 j2 j3 h => ?_, fun h => ?_, fun _ => ?_⟩⟩
      · rw [hno] at h; cases h
      · rw [kp j j3] at h; rw [updT_ne j3]; exact st _ _ _ _ (gg j j1 j2 j3 h) hY
      · rw [kp c hca] at h
        rw [updT_ne hca, updT_same]
        obtain ⟨lo, hi, e1, e2, e3⟩ := g4 h
        exact ⟨lo, hi, e1, st4 _ _ _ _ _ e2 hY, fun _ => ⟨X.heap.size, rfl, Or.inr (hi4 _ _ _ _ e2)⟩⟩
      · rw [updT_same]
        exact ⟨X.heap.size, rfl, hb.size, boxC_new (Below.refl _ _)⟩
    refine sg i (by omega) hic hia t X _ hb dg (fun v Y hv hY => ⟨updT t i v, rfl, hs', hb.trans (hY.mono hb.size), fun h => ?_, fun _ => ⟨fun j j1 j2 j3 h => ?_, fun h => ?_, fun h => ?_⟩⟩)
    · rw [hno] at h; cases h
    · by_cases e : j = i
      · subst e; rw [updT_same]; exact hv
      · rw [kp j e] at h; rw [updT_ne e]; exact st _ _ _ _ (gg j j1 j2 j3 h) hY
    · rw [kp c (fun e => hic e.symm)] at h
      rw [updT_ne (fun e => hic e.symm), updT_ne (fun e => hia e.symm), kp al (fun e => hia e.symm)]
      obtain ⟨lo, hi, e1, e2, e3⟩ := g4 h
      exact ⟨lo, hi, e1, st4 _ _ _ _ _ e2 hY, e3⟩
    · rw [kp al (fun e => hia e.symm)] at h
      rw [updT_ne (fun e => hia e.symm)]
      obtain ⟨b, e1, e2, e3⟩ := g5 h
      exact ⟨b, e1, e2, e3.below hY⟩
/-- a drawn region that holds what was handed in against a copy of it -/
def R5 (mk : (Nat → Value) → Array Value) (W : World) (v0 v1 : Value) (F2 : Value → World → Prop) (l : Array Bool) (a : Act) (X : World) : Prop :=
  ∃ t : Nat → Value, a = ⟨mk t, []⟩ ∧ l.size = 5 ∧ Below W.heap.size W X ∧ (l.getD 0 false = true → t 0 = v0) ∧ (l.getD 1 false = true → t 1 = v1) ∧ (l.getD 2 false = true → F2 (t 2) X) ∧ (l.getD 3 false = true → t 3 = .bool true) ∧ (l.getD 4 false = true → t 4 = .bool false)
theorem region5 {P : Program} {id : Nat} {ops : Array Oper} {Q : Exit → Act → World → Prop} {a0 : Act} {W : World} (hm : P.follows .mixedOrders = true)
    (mk : (Nat → Value) → Array Value) (v0 v1 : Value) (F2 : Value → World → Prop)
    (hn : ops.size = 5) (hord : ((List.range ops.size).all fun i => match ops[i]? with | some o => o.after.all (fun e => decide (e.on < i)) | none => true) = true)
    (hd : ∀ l i, i ∈ Region.ready .any ops l → (i = 2 → l.getD 1 false = true) ∧ (i = 3 → l.getD 0 false = true ∧ l.getD 2 false = true) ∧ (i = 4 → l.getD 3 false = true))
    (st2 : ∀ v X Y, F2 v X → Below X.heap.size X Y → F2 v Y)
    (h0 : a0 = ⟨mk (fun _ => undef), []⟩)
    (s0 : ∀ t X K, Below W.heap.size W X → K ⟨mk (updT t 0 v0), []⟩ X → wpOp P ops Q 0 K ⟨mk t, []⟩ X)
    (s1 : ∀ t X K, Below W.heap.size W X → K ⟨mk (updT t 1 v1), []⟩ X → wpOp P ops Q 1 K ⟨mk t, []⟩ X)
    (s2 : ∀ t X K, Below W.heap.size W X → t 1 = v1 → (∀ v Y, F2 v Y → Below X.heap.size X Y → K ⟨mk (updT t 2 v), []⟩ Y) → wpOp P ops Q 2 K ⟨mk t, []⟩ X)
    (s3 : ∀ t X K, Below W.heap.size W X → t 0 = v0 → F2 (t 2) X → (∀ Y, Below X.heap.size X Y → K ⟨mk (updT t 3 (.bool true)), []⟩ Y) → wpOp P ops Q 3 K ⟨mk t, []⟩ X)
    (s4 : ∀ t X K, t 3 = .bool true → K ⟨mk (updT t 4 (.bool false)), []⟩ X → wpOp P ops Q 4 K ⟨mk t, []⟩ X)
    (hfin : ∀ t X, t 4 = .bool false → Below W.heap.size W X → Q .normal ⟨mk t, []⟩ X) : (Code.region id ops true).wp P Q a0 W := by
  refine wp_region_inv hm (R5 mk W v0 v1 F2) ?_ ?_ ?_ ?_
  · refine ⟨fun _ => undef, h0, by simp [hn], (Below.refl _ _).drew, fun h => ?_, fun h => ?_, fun h => ?_, fun h => ?_, fun h => ?_⟩ <;> (rw [hn] at h; simp at h)
  · rintro l a X ⟨t, _, hs, _⟩
    rw [hs, hn]
  · rintro l a X ⟨t, rfl, hs, hb, _, _, _, _, g4⟩ hr
    have AL := all_listed hord (by rw [hs, hn]) hr
    exact hfin t X (g4 (AL 4 (by omega))) hb
  · rintro l a X i ⟨t, rfl, hs, hb, g0, g1, g2, g3, g4⟩ hr
    obtain ⟨d2, d3, d4⟩ := hd l i hr
    obtain ⟨hu, o, ho, _⟩ := mem_ready.1 hr
    have hi5 : i < 5 := by
      rcases Nat.lt_or_ge i 5 with h | h
      · exact h
      · rw [Array.getElem?_eq_none (by omega)] at ho
        cases ho
    have kp : ∀ j, ¬ j = i → (l.setIfInBounds i true).getD j false = l.getD j false := fun j hj => by rw [getD_set (by omega), if_neg hj]
    have hs' : (l.setIfInBounds i true).size = 5 := by simp [hs]
    clear hr hu ho
    rcases (show i = 0 ∨ i = 1 ∨ i = 2 ∨ i = 3 ∨ i = 4 by omega) with rfl | rfl | rfl | rfl | rfl
    · refine s0 t X _ hb ⟨updT t 0 v0, rfl, hs', hb, fun _ => rfl, fun h => ?_, fun h => ?_, fun h => ?_, fun h => ?_⟩
      · rw [kp 1 (by decide)] at h; exact g1 h
      · rw [kp 2 (by decide)] at h; exact g2 h
      · rw [kp 3 (by decide)] at h; exact g3 h
      · rw [kp 4 (by decide)] at h; exact g4 h
    · refine s1 t X _ hb ⟨updT t 1 v1, rfl, hs', hb, fun h => ?_, fun _ => rfl, fun h => ?_, fun h => ?_, fun h => ?_⟩
      · rw [kp 0 (by decide)] at h; exact g0 h
      · rw [kp 2 (by decide)] at h; exact g2 h
      · rw [kp 3 (by decide)] at h; exact g3 h
      · rw [kp 4 (by decide)] at h; exact g4 h
    · refine s2 t X _ hb (g1 (d2 rfl)) (fun v Y hv hY => ⟨updT t 2 v, rfl, hs', hb.trans (hY.mono hb.size), fun h => ?_, fun h => ?_, fun _ => hv, fun h => ?_, fun h => ?_⟩)
      · rw [kp 0 (by decide)] at h; exact g0 h
      · rw [kp 1 (by decide)] at h; exact g1 h
      · rw [kp 3 (by decide)] at h; exact g3 h
      · rw [kp 4 (by decide)] at h; exact g4 h
    · refine s3 t X _ hb (g0 (d3 rfl).1) (g2 (d3 rfl).2) (fun Y hY => ⟨updT t 3 _, rfl, hs', hb.trans (hY.mono hb.size), fun h => ?_, fun h => ?_, fun h => ?_, fun _ => rfl, fun h => ?_⟩)
      · rw [kp 0 (by decide)] at h; exact g0 h
      · rw [kp 1 (by decide)] at h; exact g1 h
      · rw [kp 2 (by decide)] at h; exact st2 _ _ _ (g2 h) hY
      · rw [kp 4 (by decide)] at h; exact g4 h
    · refine s4 t X _ (g3 (d4 rfl)) ⟨updT t 4 _, rfl, hs', hb, fun h => ?_, fun h => ?_, fun h => ?_, fun h => ?_, fun _ => rfl⟩
      · rw [kp 0 (by decide)] at h; exact g0 h
      · rw [kp 1 (by decide)] at h; exact g1 h
      · rw [kp 2 (by decide)] at h; exact g2 h
      · rw [kp 3 (by decide)] at h; exact g3 h
end Go.Proofs.YtkecnaaacbckoaaGreat
namespace Go.Proofs.YtkecnaaacbckoaaGreat
open Go.RowKit Go.Maps
set_option maxRecDepth 100000 in
set_option maxHeartbeats 4000000 in
theorem nxReg8 (p0 p1 p5 p6 p7 p9 p10 p11 p12 p13 p14 p15 p16 p17 p18 p19 p20 p21 p22 p23 p24 p31 p32 p33 p34 p35 p36 p37 p38 p39 p40 p41 p42 p43 p44 p45 p46 p47 p48 p49 p50 p51 p52 p53 p54 p55 p56 p57 p58 p59 p60 p61 p62 p63 p64 p65 p66 p67 p68 p69 p70 p71 p72 p73 p74 p75 p76 p77 p78 p79 p80 p81 p82 p83 p84 p85 p86 : Value) (s0 : Nat) (x : Bk) (a1 a2 a3 : Option Addr) (c1 c2 c3 : Nat) (ki pr : ByteArray) (fr most : Int) (hfit : BkFit x) (hpr : (pr.size : Int) ≤ 140737488355328) (W : World) (hbx : Holds W s0 (bkCells x a1 a2 a3 c1 c2 c3)) (hbw : Holds W (s0 + 1) #[.string ki, .string pr, .int .i64 fr]) (hin : BkIn W 0 s0 x a1 a2 a3) (hs : s0 + 1 < W.heap.size) (Q : Exit → Act → World → Prop)
    (hQ : ∀ u0 u1 u2 u3 u4 u5 u6 X, (fun _v u X => ∃ b adw cw gw Aw Cw hw, u = .pointer (some ⟨b, 0, none⟩) ∧ W.heap.size ≤ b ∧ b < X.heap.size ∧ Holds X b #[.int .i64 (nwC x fr most), .slice adw (nwN x ki pr fr most) cw, .int .i64 (nwV x ki pr fr most)] ∧ ChsAt X adw gw (nwN x ki pr fr most) (nwY x ki pr fr most) Aw Cw hw ∧ ∀ q, blkH gw (nwN x ki pr fr most) (fun i => (nwY x ki pr fr most i).ob.hn) hw q → W.heap.size ≤ q ∧ ¬ q = b) u5 u6 X → Below W.heap.size W X → Q .normal ⟨#[p0, p1, .int .i64 most, .pointer (some ⟨s0, 0, none⟩), .pointer (some ⟨s0 + 1, 0, none⟩), p5, p6, p7, u6, p9, p10, p11, p12, p13, p14, p15, p16, p17, p18, p19, p20, p21, p22, p23, p24, u0, u1, u2, u3, u4, u5, p31, p32, p33, p34, p35, p36, p37, p38, p39, p40, p41, p42, p43, p44, p45, p46, p47, p48, p49, p50, p51, p52, p53, p54, p55, p56, p57, p58, p59, p60, p61, p62, p63, p64, p65, p66, p67, p68, p69, p70, p71, p72, p73, p74, p75, p76, p77, p78, p79, p80, p81, p82, p83, p84, p85, p86], []⟩ X) :
    Code.wp Tryz.prog (Code.region 8 #[{ dst := some 25, op := Op.load 26 (Operand.tmp 3), type := 26, pos := "exact.go:3993", after := #[], guard := none }, { dst := some 26, op := Op.call { callee := Callee.value (Operand.func 10), args := #[Operand.tmp 25], argTypes := #[26] }, type := 32, pos := "exact.go:3993", after := #[{ on := 0, ground := Ground.data }], guard := none }, { dst := some 27, op := Op.load 43 (Operand.tmp 4), type := 43, pos := "exact.go:3993", after := #[], guard := none }, { dst := some 28, op := Op.call { callee := Callee.value (Operand.func 22), args := #[Operand.tmp 27], argTypes := #[43] }, type := 48, pos := "exact.go:3993", after := #[{ on := 2, ground := Ground.data }, { on := 1, ground := Ground.chain }], guard := none }, { dst := some 29, op := Op.move (Operand.tmp 2), type := 3, pos := "exact.go:3993", after := #[], guard := none }, { dst := some 30, op := Op.call { callee := Callee.value (Operand.func 21), args := #[Operand.tmp 26, Operand.tmp 28, Operand.tmp 29], argTypes := #[32, 48, 3] }, type := 46, pos := "exact.go:3993", after := #[{ on := 1, ground := Ground.data }, { on := 3, ground := Ground.data }, { on := 4, ground := Ground.data }, { on := 3, ground := Ground.chain }], guard := none }, { dst := some 8, op := Op.alloc 46, type := 0, pos := "exact.go:3993", after := #[], guard := none }, { dst := none, op := Op.store 46 (Operand.tmp 8) (Operand.tmp 30), type := 0, pos := "exact.go:3993", after := #[{ on := 6, ground := Ground.data }, { on := 5, ground := Ground.data }, { on := 5, ground := Ground.chain }, { on := 0, ground := Ground.phase }, { on := 1, ground := Ground.phase }, { on := 2, ground := Ground.phase }, { on := 3, ground := Ground.phase }, { on := 4, ground := Ground.phase }, { on := 5, ground := Ground.phase }, { on := 6, ground := Ground.phase }], guard := none }] true) Q ⟨#[p0, p1, .int .i64 most, .pointer (some ⟨s0, 0, none⟩), .pointer (some ⟨s0 + 1, 0, none⟩), p5, p6, p7, undef, p9, p10, p11, p12, p13, p14, p15, p16, p17, p18, p19, p20, p21, p22, p23, p24, undef, undef, undef, undef, undef, undef, p31, p32, p33, p34, p35, p36, p37, p38, p39, p40, p41, p42, p43, p44, p45, p46, p47, p48, p49, p50, p51, p52, p53, p54, p55, p56, p57, p58, p59, p60, p61, p62, p63, p64, p65, p66, p67, p68, p69, p70, p71, p72, p73, p74, p75, p76, p77, p78, p79, p80, p81, p82, p83, p84, p85, p86], []⟩ W := by
  refine regionN (by kernel_rfl) 7 5 6 (by decide) (by decide) (by decide) (fun t : Nat → Value => #[p0, p1, .int .i64 most, .pointer (some ⟨s0, 0, none⟩), .pointer (some ⟨s0 + 1, 0, none⟩), p5, p6, p7, t 6, p9, p10, p11, p12, p13, p14, p15, p16, p17, p18, p19, p20, p21, p22, p23, p24, t 0, t 1, t 2, t 3, t 4, t 5, p31, p32, p33, p34, p35, p36, p37, p38, p39, p40, p41, p42, p43, p44, p45, p46, p47, p48, p49, p50, p51, p52, p53, p54, p55, p56, p57, p58, p59, p60, p61, p62, p63, p64, p65, p66, p67, p68, p69, p70, p71, p72, p73, p74, p75, p76, p77, p78, p79, p80, p81, p82, p83, p84, p85, p86]) (fun i v X => match i with | 0 => v = .agg #[.int .i64 x.now, .int .i64 x.floor, .slice a1 x.on c1, .slice a2 x.hn c2, .slice a3 x.tn c3] | 1 => ∃ (p : Pl) (e1 e2 e3 : Nat), v = .agg #[.int .i64 x.now, .int .i64 x.floor, .slice p.a1 x.on e1, .slice p.a2 x.hn e2, .slice p.a3 x.tn e3] ∧ BkAt X x p | 2 => v = .agg #[.string ki, .string pr, .int .i64 fr] | 3 => v = .agg #[.string ki, .string pr, .int .i64 fr] | _ => v = .int .i64 most) (nwA x ki pr fr most) #[.int .i64 0, .slice none 0 0, .int .i64 0] 46 (fun v u X => ∃ b adw cw gw Aw Cw hw, u = .pointer (some ⟨b, 0, none⟩) ∧ W.heap.size ≤ b ∧ b < X.heap.size ∧ Holds X b #[.int .i64 (nwC x fr most), .slice adw (nwN x ki pr fr most) cw, .int .i64 (nwV x ki pr fr most)] ∧ ChsAt X adw gw (nwN x ki pr fr most) (nwY x ki pr fr most) Aw Cw hw ∧ ∀ q, blkH gw (nwN x ki pr fr most) (fun i => (nwY x ki pr fr most i).ob.hn) hw q → W.heap.size ≤ q ∧ ¬ q = b) (fun i j => (i = 1 ∧ j = 0) ∨ (i = 3 ∧ j = 2) ∨ (i = 5 ∧ (j = 1 ∨ j = 3 ∨ j = 4))) rfl (by kernel_rfl) (by omega) ?hd ?st ?st4 ?hi4 rfl ?sg ?sc ?sa ?ss ?hfin
  case hd =>
    intro l i hr
    obtain ⟨_, o, ho, hdep⟩ := mem_ready.1 hr
    refine ⟨fun j hj => ?_, fun e => ?_⟩
    · rcases hj with ⟨rfl, rfl⟩ | ⟨rfl, rfl⟩ | ⟨rfl, rfl | rfl | rfl⟩ <;> simp only [List.getElem?_toArray, List.getElem?_cons_succ, List.getElem?_cons_zero, Option.some.injEq] at ho <;> subst ho
      · exact hdep ⟨0, .data⟩ (by simp) rfl
      · exact hdep ⟨2, .data⟩ (by simp) rfl
      · exact hdep ⟨1, .data⟩ (by simp) rfl
      · exact hdep ⟨3, .data⟩ (by simp) rfl
      · exact hdep ⟨4, .data⟩ (by simp) rfl
    · subst e
      simp only [List.getElem?_toArray, List.getElem?_cons_succ, List.getElem?_cons_zero, Option.some.injEq] at ho
      subst ho
      intro j hj
      rcases (show j = 0 ∨ j = 1 ∨ j = 2 ∨ j = 3 ∨ j = 4 ∨ j = 5 ∨ j = 6 by omega) with rfl | rfl | rfl | rfl | rfl | rfl | rfl
      · exact hdep ⟨0, .phase⟩ (by simp) rfl
      · exact hdep ⟨1, .phase⟩ (by simp) rfl
      · exact hdep ⟨2, .phase⟩ (by simp) rfl
      · exact hdep ⟨3, .phase⟩ (by simp) rfl
      · exact hdep ⟨4, .phase⟩ (by simp) rfl
      · exact hdep ⟨5, .phase⟩ (by simp) rfl
      · exact hdep ⟨6, .phase⟩ (by simp) rfl
  case st =>
    intro i v X Y h hb
    match i with
    | 0 => exact h
    | 1 =>
      obtain ⟨p, e1, e2, e3, rfl, h⟩ := h
      exact ⟨p, e1, e2, e3, rfl, h.grow hb⟩
    | 2 => exact h
    | 3 => exact h
    | _ + 4 => exact h
  case st4 =>
    rintro v lo hi X Y ⟨adw, cw, gw, Aw, Cw, hw, rfl, h1, h2, h3⟩ hb
    exact ⟨adw, cw, gw, Aw, Cw, hw, rfl, h1.grow hb, h2, Nat.le_trans h3 hb.size⟩
  case hi4 =>
    rintro v lo hi X ⟨adw, cw, gw, Aw, Cw, hw, rfl, h1, h2, h3⟩
    exact h3
  case sg =>
    intro i hi hic hia t X K hb hg hK
    rcases (show i = 0 ∨ i = 1 ∨ i = 2 ∨ i = 3 ∨ i = 4 by omega) with rfl | rfl | rfl | rfl | rfl
    · obtain ⟨q0, q1, q2, q3, q4⟩ := holds_bk (hbx.below hb (by omega))
      have h := hK (.agg #[.int .i64 x.now, .int .i64 x.floor, .slice a1 x.on c1, .slice a2 x.hn c2, .slice a3 x.tn c3]) X rfl (Below.refl _ _)
      refine wpOp_of rfl rfl ?_
      go_simp
      exact h
    · have e0 : t 0 = .agg #[.int .i64 x.now, .int .i64 x.floor, .slice a1 x.on c1, .slice a2 x.hn c2, .slice a3 x.tn c3] := hg 0 (by simp)
      refine wpOp_of rfl rfl ?_
      have HK := hid hK
      clear hK hg
      go_simp
      go_at_call 10
      refine (toBk_any x a1 a2 a3 c1 c2 c3 X 0 s0 (by have := hb.size; omega) hfit (hin.below hb (by omega))).mono ?_
      rintro e Y ⟨g1, g2, g3, d1, d2, d3, rfl, ho, hbY⟩
      obtain ⟨p, w1, w2, w3, h4, h5⟩ := ho.at
      have h := HK.out _ Y ⟨p, d1, d2, d3, rfl, h4⟩ hbY
      simpa [updT, e0, w1, w2, w3] using h
    · have q := hbw.below hb (by omega)
      have q0 := q 0
      have q1 := q 1
      have q2 := q 2
      simp only [List.getElem?_toArray, List.getElem?_cons_succ, List.getElem?_cons_zero] at q0 q1 q2
      have h := hK (.agg #[.string ki, .string pr, .int .i64 fr]) X rfl (Below.refl _ _)
      clear q
      refine wpOp_of rfl rfl ?_
      go_simp
      exact h
    · have e2 : t 2 = .agg #[.string ki, .string pr, .int .i64 fr] := hg 2 (by simp)
      refine wpOp_of rfl rfl ?_
      have HK := hid hK
      clear hK hg
      go_simp
      go_at_call 22
      refine (toW_any ki pr fr X).mono ?_
      rintro e Y ⟨rfl, hbY⟩
      have h := HK.out _ Y rfl hbY
      simpa [updT, e2] using h
    · have h := hK (.int .i64 most) X rfl (Below.refl _ _)
      refine wpOp_of rfl rfl ?_
      go_simp
      exact h
  case sc =>
    intro t X K hb hg hK
    obtain ⟨p, e1', e2', e3', e1, hat⟩ := hg 1 (by simp)
    have e3 : t 3 = .agg #[.string ki, .string pr, .int .i64 fr] := hg 3 (by simp)
    have e4 : t 4 = .int .i64 most := hg 4 (by simp)
    refine wpOp_of rfl rfl ?_
    have HK := hid hK
    have HAT := hid hat
    clear hK hat hg
    go_simp
    go_at_call 21
    refine (specNext_any x p.a1 p.a2 p.a3 e1' e2' e3' ki pr fr most X 0 X.heap.size (Nat.le_refl _) hfit (HAT.out.isIn (fun _ _ => Nat.zero_le _)) hpr).mono ?_
    intro e Y hP
    obtain ⟨v, rfl, hA, hbY⟩ := nwP.ans hP
    have h := HK.out v Y hA hbY
    simpa [updT, e1, e3, e4] using h
  case sa =>
    intro t X K hK
    refine wpOp_of rfl rfl ?_
    go_simp
    exact hK
  case ss =>
    intro t X K b lo hi hb e5 hWb hbx4 h4 hlo hsep hK
    obtain ⟨adw, cw, gw, Aw, Cw, hw, ev, hc, hq, hhi⟩ := h4
    obtain ⟨nc, hnc⟩ : ∃ nc, nwC x fr most = nc := ⟨_, rfl⟩
    obtain ⟨nn, hnn⟩ : ∃ nn, nwN x ki pr fr most = nn := ⟨_, rfl⟩
    obtain ⟨nv, hnv⟩ : ∃ nv, nwV x ki pr fr most = nv := ⟨_, rfl⟩
    have r0 := hbx4.cell 0
    have r1 := hbx4.cell 1
    have r2 := hbx4.cell 2
    have f0 := hbx4.free 0
    have f1 := hbx4.free 1
    have f2 := hbx4.free 2
    have zb := hbx4.lt
    have rx := hid (show ∀ j, X.cell? ⟨b, j + 3, none⟩ = none from fun j => (hbx4.cell (j + 3)).trans (by simp))
    simp only [List.getElem?_toArray, List.getElem?_cons_succ, List.getElem?_cons_zero] at r0 r1 r2
    rw [hnc, hnn, hnv] at ev
    have HK := hid hK
    have HC := hid hc
    have HQ := hid hq
    have HNC := hid hnc
    have HNN := hid hnn
    have HNV := hid hnv
    clear hK hc hq hnc hnn hnv hbx4
    refine wpOp_of rfl rfl ?_
    go_simp
    obtain ⟨Y, hY, fY, y0, y1, y2⟩ := resFin (v0 := .int .i64 nc) (v1 := .slice adw nn cw) (v2 := .int .i64 nv) r0 r1 r2
    have zY := fY.size
    have h := HK.out Y ⟨b, adw, cw, gw, Aw, Cw, hw, e5, hWb, by omega, ?hold, HC.out.fr fY (fun q hq' e => by have := HQ.out q hq'; omega), fun q hq' => ⟨by have := HQ.out q hq'; omega, fun e => by have := HQ.out q hq'; omega⟩⟩ (hb.trans (fY.below (fun q hq e => by omega) hb.size))
    · first
        | (rw [hY]; simpa [ev, e5] using h)
        | (simp only [ev, e5] at h ⊢; rw [hY]; exact h)
    case hold =>
      intro j
      rw [HNC.out, HNN.out, HNV.out]
      match j with
      | 0 => exact y0
      | 1 => exact y1
      | 2 => exact y2
      | j + 3 =>
        rw [← hY, World.cell?_setCell_other _ _ _ _ (by simp), World.cell?_setCell_other _ _ _ _ (by simp), World.cell?_setCell_other _ _ _ _ (by simp), rx.out j]
        simp
  case hfin =>
    intro t X hF hb
    exact hQ (t 0) (t 1) (t 2) (t 3) (t 4) (t 5) (t 6) X hF hb
set_option maxRecDepth 100000 in
set_option maxHeartbeats 4000000 in
theorem nxReg27 (p0 p1 p5 p6 p7 p8 p9 p10 p11 p12 p13 p15 p16 p17 p18 p19 p20 p21 p22 p23 p24 p25 p26 p27 p28 p29 p30 p31 p32 p33 p34 p35 p36 p37 p38 p39 p40 p41 p42 p43 p44 p45 p46 p47 p48 p49 p50 p51 p52 p53 p54 p55 p56 p57 p58 p59 p60 p61 p62 p63 p64 p65 p66 p67 p68 p75 p76 p77 p78 p79 p80 p81 p82 p83 p84 p85 p86 : Value) (s0 : Nat) (x : Bk) (a1 a2 a3 : Option Addr) (c1 c2 c3 : Nat) (ki pr : ByteArray) (fr most : Int) (hfit : BkFit x) (hpr : (pr.size : Int) ≤ 140737488355328) (W : World) (hbx : Holds W s0 (bkCells x a1 a2 a3 c1 c2 c3)) (hbw : Holds W (s0 + 1) #[.string ki, .string pr, .int .i64 fr]) (hin : BkIn W 0 s0 x a1 a2 a3) (hs : s0 + 1 < W.heap.size) (Q : Exit → Act → World → Prop)
    (hQ : ∀ u0 u1 u2 u3 u4 u5 u6 X, (fun _v u X => ∃ b adw cw gw Aw Cw hw, u = .pointer (some ⟨b, 0, none⟩) ∧ W.heap.size ≤ b ∧ b < X.heap.size ∧ Holds X b #[.int .i64 (nwC x fr most), .slice adw (nwN x ki pr fr most) cw, .int .i64 (nwV x ki pr fr most)] ∧ ChsAt X adw gw (nwN x ki pr fr most) (nwY x ki pr fr most) Aw Cw hw ∧ ∀ q, blkH gw (nwN x ki pr fr most) (fun i => (nwY x ki pr fr most i).ob.hn) hw q → W.heap.size ≤ q ∧ ¬ q = b) u5 u6 X → Below W.heap.size W X → Q .normal ⟨#[p0, p1, .int .i64 most, .pointer (some ⟨s0, 0, none⟩), .pointer (some ⟨s0 + 1, 0, none⟩), p5, p6, p7, p8, p9, p10, p11, p12, p13, u6, p15, p16, p17, p18, p19, p20, p21, p22, p23, p24, p25, p26, p27, p28, p29, p30, p31, p32, p33, p34, p35, p36, p37, p38, p39, p40, p41, p42, p43, p44, p45, p46, p47, p48, p49, p50, p51, p52, p53, p54, p55, p56, p57, p58, p59, p60, p61, p62, p63, p64, p65, p66, p67, p68, u0, u1, u2, u3, u4, u5, p75, p76, p77, p78, p79, p80, p81, p82, p83, p84, p85, p86], []⟩ X) :
    Code.wp Tryz.prog (Code.region 27 #[{ dst := some 69, op := Op.load 26 (Operand.tmp 3), type := 26, pos := "exact.go:4017", after := #[], guard := none }, { dst := some 70, op := Op.call { callee := Callee.value (Operand.func 10), args := #[Operand.tmp 69], argTypes := #[26] }, type := 32, pos := "exact.go:4017", after := #[{ on := 0, ground := Ground.data }], guard := none }, { dst := some 71, op := Op.load 43 (Operand.tmp 4), type := 43, pos := "exact.go:4017", after := #[], guard := none }, { dst := some 72, op := Op.call { callee := Callee.value (Operand.func 22), args := #[Operand.tmp 71], argTypes := #[43] }, type := 48, pos := "exact.go:4017", after := #[{ on := 2, ground := Ground.data }, { on := 1, ground := Ground.chain }], guard := none }, { dst := some 73, op := Op.move (Operand.tmp 2), type := 3, pos := "exact.go:4017", after := #[], guard := none }, { dst := some 74, op := Op.call { callee := Callee.value (Operand.func 23), args := #[Operand.tmp 70, Operand.tmp 72, Operand.tmp 73], argTypes := #[32, 48, 3] }, type := 46, pos := "exact.go:4017", after := #[{ on := 1, ground := Ground.data }, { on := 3, ground := Ground.data }, { on := 4, ground := Ground.data }, { on := 3, ground := Ground.chain }], guard := none }, { dst := some 14, op := Op.alloc 46, type := 0, pos := "exact.go:4017", after := #[], guard := none }, { dst := none, op := Op.store 46 (Operand.tmp 14) (Operand.tmp 74), type := 0, pos := "exact.go:4017", after := #[{ on := 6, ground := Ground.data }, { on := 5, ground := Ground.data }, { on := 5, ground := Ground.chain }, { on := 0, ground := Ground.phase }, { on := 1, ground := Ground.phase }, { on := 2, ground := Ground.phase }, { on := 3, ground := Ground.phase }, { on := 4, ground := Ground.phase }, { on := 5, ground := Ground.phase }, { on := 6, ground := Ground.phase }], guard := none }] true) Q ⟨#[p0, p1, .int .i64 most, .pointer (some ⟨s0, 0, none⟩), .pointer (some ⟨s0 + 1, 0, none⟩), p5, p6, p7, p8, p9, p10, p11, p12, p13, undef, p15, p16, p17, p18, p19, p20, p21, p22, p23, p24, p25, p26, p27, p28, p29, p30, p31, p32, p33, p34, p35, p36, p37, p38, p39, p40, p41, p42, p43, p44, p45, p46, p47, p48, p49, p50, p51, p52, p53, p54, p55, p56, p57, p58, p59, p60, p61, p62, p63, p64, p65, p66, p67, p68, undef, undef, undef, undef, undef, undef, p75, p76, p77, p78, p79, p80, p81, p82, p83, p84, p85, p86], []⟩ W := by
  refine regionN (by kernel_rfl) 7 5 6 (by decide) (by decide) (by decide) (fun t : Nat → Value => #[p0, p1, .int .i64 most, .pointer (some ⟨s0, 0, none⟩), .pointer (some ⟨s0 + 1, 0, none⟩), p5, p6, p7, p8, p9, p10, p11, p12, p13, t 6, p15, p16, p17, p18, p19, p20, p21, p22, p23, p24, p25, p26, p27, p28, p29, p30, p31, p32, p33, p34, p35, p36, p37, p38, p39, p40, p41, p42, p43, p44, p45, p46, p47, p48, p49, p50, p51, p52, p53, p54, p55, p56, p57, p58, p59, p60, p61, p62, p63, p64, p65, p66, p67, p68, t 0, t 1, t 2, t 3, t 4, t 5, p75, p76, p77, p78, p79, p80, p81, p82, p83, p84, p85, p86]) (fun i v X => match i with | 0 => v = .agg #[.int .i64 x.now, .int .i64 x.floor, .slice a1 x.on c1, .slice a2 x.hn c2, .slice a3 x.tn c3] | 1 => ∃ (p : Pl) (e1 e2 e3 : Nat), v = .agg #[.int .i64 x.now, .int .i64 x.floor, .slice p.a1 x.on e1, .slice p.a2 x.hn e2, .slice p.a3 x.tn e3] ∧ BkAt X x p | 2 => v = .agg #[.string ki, .string pr, .int .i64 fr] | 3 => v = .agg #[.string ki, .string pr, .int .i64 fr] | _ => v = .int .i64 most) (nwA x ki pr fr most) #[.int .i64 0, .slice none 0 0, .int .i64 0] 46 (fun v u X => ∃ b adw cw gw Aw Cw hw, u = .pointer (some ⟨b, 0, none⟩) ∧ W.heap.size ≤ b ∧ b < X.heap.size ∧ Holds X b #[.int .i64 (nwC x fr most), .slice adw (nwN x ki pr fr most) cw, .int .i64 (nwV x ki pr fr most)] ∧ ChsAt X adw gw (nwN x ki pr fr most) (nwY x ki pr fr most) Aw Cw hw ∧ ∀ q, blkH gw (nwN x ki pr fr most) (fun i => (nwY x ki pr fr most i).ob.hn) hw q → W.heap.size ≤ q ∧ ¬ q = b) (fun i j => (i = 1 ∧ j = 0) ∨ (i = 3 ∧ j = 2) ∨ (i = 5 ∧ (j = 1 ∨ j = 3 ∨ j = 4))) rfl (by kernel_rfl) (by omega) ?hd ?st ?st4 ?hi4 rfl ?sg ?sc ?sa ?ss ?hfin
  case hd =>
    intro l i hr
    obtain ⟨_, o, ho, hdep⟩ := mem_ready.1 hr
    refine ⟨fun j hj => ?_, fun e => ?_⟩
    · rcases hj with ⟨rfl, rfl⟩ | ⟨rfl, rfl⟩ | ⟨rfl, rfl | rfl | rfl⟩ <;> simp only [List.getElem?_toArray, List.getElem?_cons_succ, List.getElem?_cons_zero, Option.some.injEq] at ho <;> subst ho
      · exact hdep ⟨0, .data⟩ (by simp) rfl
      · exact hdep ⟨2, .data⟩ (by simp) rfl
      · exact hdep ⟨1, .data⟩ (by simp) rfl
      · exact hdep ⟨3, .data⟩ (by simp) rfl
      · exact hdep ⟨4, .data⟩ (by simp) rfl
    · subst e
      simp only [List.getElem?_toArray, List.getElem?_cons_succ, List.getElem?_cons_zero, Option.some.injEq] at ho
      subst ho
      intro j hj
      rcases (show j = 0 ∨ j = 1 ∨ j = 2 ∨ j = 3 ∨ j = 4 ∨ j = 5 ∨ j = 6 by omega) with rfl | rfl | rfl | rfl | rfl | rfl | rfl
      · exact hdep ⟨0, .phase⟩ (by simp) rfl
      · exact hdep ⟨1, .phase⟩ (by simp) rfl
      · exact hdep ⟨2, .phase⟩ (by simp) rfl
      · exact hdep ⟨3, .phase⟩ (by simp) rfl
      · exact hdep ⟨4, .phase⟩ (by simp) rfl
      · exact hdep ⟨5, .phase⟩ (by simp) rfl
      · exact hdep ⟨6, .phase⟩ (by simp) rfl
  case st =>
    intro i v X Y h hb
    match i with
    | 0 => exact h
    | 1 =>
      obtain ⟨p, e1, e2, e3, rfl, h⟩ := h
      exact ⟨p, e1, e2, e3, rfl, h.grow hb⟩
    | 2 => exact h
    | 3 => exact h
    | _ + 4 => exact h
  case st4 =>
    rintro v lo hi X Y ⟨adw, cw, gw, Aw, Cw, hw, rfl, h1, h2, h3⟩ hb
    exact ⟨adw, cw, gw, Aw, Cw, hw, rfl, h1.grow hb, h2, Nat.le_trans h3 hb.size⟩
  case hi4 =>
    rintro v lo hi X ⟨adw, cw, gw, Aw, Cw, hw, rfl, h1, h2, h3⟩
    exact h3
  case sg =>
    intro i hi hic hia t X K hb hg hK
    rcases (show i = 0 ∨ i = 1 ∨ i = 2 ∨ i = 3 ∨ i = 4 by omega) with rfl | rfl | rfl | rfl | rfl
    · obtain ⟨q0, q1, q2, q3, q4⟩ := holds_bk (hbx.below hb (by omega))
      have h := hK (.agg #[.int .i64 x.now, .int .i64 x.floor, .slice a1 x.on c1, .slice a2 x.hn c2, .slice a3 x.tn c3]) X rfl (Below.refl _ _)
      refine wpOp_of rfl rfl ?_
      go_simp
      exact h
    · have e0 : t 0 = .agg #[.int .i64 x.now, .int .i64 x.floor, .slice a1 x.on c1, .slice a2 x.hn c2, .slice a3 x.tn c3] := hg 0 (by simp)
      refine wpOp_of rfl rfl ?_
      have HK := hid hK
      clear hK hg
      go_simp
      go_at_call 10
      refine (toBk_any x a1 a2 a3 c1 c2 c3 X 0 s0 (by have := hb.size; omega) hfit (hin.below hb (by omega))).mono ?_
      rintro e Y ⟨g1, g2, g3, d1, d2, d3, rfl, ho, hbY⟩
      obtain ⟨p, w1, w2, w3, h4, h5⟩ := ho.at
      have h := HK.out _ Y ⟨p, d1, d2, d3, rfl, h4⟩ hbY
      simpa [updT, e0, w1, w2, w3] using h
    · have q := hbw.below hb (by omega)
      have q0 := q 0
      have q1 := q 1
      have q2 := q 2
      simp only [List.getElem?_toArray, List.getElem?_cons_succ, List.getElem?_cons_zero] at q0 q1 q2
      have h := hK (.agg #[.string ki, .string pr, .int .i64 fr]) X rfl (Below.refl _ _)
      clear q
      refine wpOp_of rfl rfl ?_
      go_simp
      exact h
    · have e2 : t 2 = .agg #[.string ki, .string pr, .int .i64 fr] := hg 2 (by simp)
      refine wpOp_of rfl rfl ?_
      have HK := hid hK
      clear hK hg
      go_simp
      go_at_call 22
      refine (toW_any ki pr fr X).mono ?_
      rintro e Y ⟨rfl, hbY⟩
      have h := HK.out _ Y rfl hbY
      simpa [updT, e2] using h
    · have h := hK (.int .i64 most) X rfl (Below.refl _ _)
      refine wpOp_of rfl rfl ?_
      go_simp
      exact h
  case sc =>
    intro t X K hb hg hK
    obtain ⟨p, e1', e2', e3', e1, hat⟩ := hg 1 (by simp)
    have e3 : t 3 = .agg #[.string ki, .string pr, .int .i64 fr] := hg 3 (by simp)
    have e4 : t 4 = .int .i64 most := hg 4 (by simp)
    refine wpOp_of rfl rfl ?_
    have HK := hid hK
    have HAT := hid hat
    clear hK hat hg
    go_simp
    go_at_call 23
    refine (callsIn_wide.1 (implNext_in Fence.wide 8 (fun _ _ _ _ _ h => callsIn_wide.2 h) (fun _ => trivial) rfl (by decide) rfl (fun _ R v w h0 h1 => callsIn_wide.2 (place_any R v w h0 h1)) x p e1' e2' e3' ki pr fr most X hfit HAT.out hpr)).mono ?_
    intro e Y hP
    obtain ⟨v, rfl, hA, hbY⟩ := nwP.ans hP
    have h := HK.out v Y hA hbY
    simpa [updT, e1, e3, e4] using h
  case sa =>
    intro t X K hK
    refine wpOp_of rfl rfl ?_
    go_simp
    exact hK
  case ss =>
    intro t X K b lo hi hb e5 hWb hbx4 h4 hlo hsep hK
    obtain ⟨adw, cw, gw, Aw, Cw, hw, ev, hc, hq, hhi⟩ := h4
    obtain ⟨nc, hnc⟩ : ∃ nc, nwC x fr most = nc := ⟨_, rfl⟩
    obtain ⟨nn, hnn⟩ : ∃ nn, nwN x ki pr fr most = nn := ⟨_, rfl⟩
    obtain ⟨nv, hnv⟩ : ∃ nv, nwV x ki pr fr most = nv := ⟨_, rfl⟩
    have r0 := hbx4.cell 0
    have r1 := hbx4.cell 1
    have r2 := hbx4.cell 2
    have f0 := hbx4.free 0
    have f1 := hbx4.free 1
    have f2 := hbx4.free 2
    have zb := hbx4.lt
    have rx := hid (show ∀ j, X.cell? ⟨b, j + 3, none⟩ = none from fun j => (hbx4.cell (j + 3)).trans (by simp))
    simp only [List.getElem?_toArray, List.getElem?_cons_succ, List.getElem?_cons_zero] at r0 r1 r2
    rw [hnc, hnn, hnv] at ev
    have HK := hid hK
    have HC := hid hc
    have HQ := hid hq
    have HNC := hid hnc
    have HNN := hid hnn
    have HNV := hid hnv
    clear hK hc hq hnc hnn hnv hbx4
    refine wpOp_of rfl rfl ?_
    go_simp
    obtain ⟨Y, hY, fY, y0, y1, y2⟩ := resFin (v0 := .int .i64 nc) (v1 := .slice adw nn cw) (v2 := .int .i64 nv) r0 r1 r2
    have zY := fY.size
    have h := HK.out Y ⟨b, adw, cw, gw, Aw, Cw, hw, e5, hWb, by omega, ?hold, HC.out.fr fY (fun q hq' e => by have := HQ.out q hq'; omega), fun q hq' => ⟨by have := HQ.out q hq'; omega, fun e => by have := HQ.out q hq'; omega⟩⟩ (hb.trans (fY.below (fun q hq e => by omega) hb.size))
    · first
        | (rw [hY]; simpa [ev, e5] using h)
        | (simp only [ev, e5] at h ⊢; rw [hY]; exact h)
    case hold =>
      intro j
      rw [HNC.out, HNN.out, HNV.out]
      match j with
      | 0 => exact y0
      | 1 => exact y1
      | 2 => exact y2
      | j + 3 =>
        rw [← hY, World.cell?_setCell_other _ _ _ _ (by simp), World.cell?_setCell_other _ _ _ _ (by simp), World.cell?_setCell_other _ _ _ _ (by simp), rx.out j]
        simp
  case hfin =>
    intro t X hF hb
    exact hQ (t 0) (t 1) (t 2) (t 3) (t 4) (t 5) (t 6) X hF hb
end Go.Proofs.YtkecnaaacbckoaaGreat
namespace Go.Proofs.YtkecnaaacbckoaaGreat
open Go.RowKit Go.Maps
set_option maxRecDepth 100000 in
set_option maxHeartbeats 4000000 in
theorem nxReg10 (p0 p1 p5 p6 p7 p8 p11 p12 p13 p14 p15 p16 p17 p18 p19 p20 p21 p22 p23 p24 p25 p26 p27 p28 p29 p30 p31 p32 p38 p39 p40 p41 p42 p43 p44 p45 p46 p47 p48 p49 p50 p51 p52 p53 p54 p55 p56 p57 p58 p59 p60 p61 p62 p63 p64 p65 p66 p67 p68 p69 p70 p71 p72 p73 p74 p75 p76 p77 p78 p79 p80 p81 p82 p83 p84 p85 p86 : Value) (s0 : Nat) (b9 : Nat) (x : Bk) (p : Pl) (d1 d2 d3 : Nat) (ki pr : ByteArray) (fr most : Int) (hfit : BkFit x) (hpr : (pr.size : Int) ≤ 140737488355328) (W : World) (hbx : Holds W b9 (bkCells x p.a1 p.a2 p.a3 d1 d2 d3)) (zb9 : b9 < W.heap.size) (hbw : Holds W (s0 + 1) #[.string ki, .string pr, .int .i64 fr]) (hat : BkAt W x p) (hs : s0 + 1 < W.heap.size) (Q : Exit → Act → World → Prop)
    (hQ : ∀ u0 u1 u2 u3 u4 u5 X, (fun _v u X => ∃ b adw cw gw Aw Cw hw, u = .pointer (some ⟨b, 0, none⟩) ∧ W.heap.size ≤ b ∧ b < X.heap.size ∧ Holds X b #[.int .i64 (nwC x fr most), .slice adw (nwN x ki pr fr most) cw, .int .i64 (nwV x ki pr fr most)] ∧ ChsAt X adw gw (nwN x ki pr fr most) (nwY x ki pr fr most) Aw Cw hw ∧ ∀ q, blkH gw (nwN x ki pr fr most) (fun i => (nwY x ki pr fr most i).ob.hn) hw q → W.heap.size ≤ q ∧ ¬ q = b) u4 u5 X → Below W.heap.size W X → Q .normal ⟨#[p0, p1, .int .i64 most, .pointer (some ⟨s0, 0, none⟩), .pointer (some ⟨s0 + 1, 0, none⟩), p5, p6, p7, p8, .pointer (some ⟨b9, 0, none⟩), u5, p11, p12, p13, p14, p15, p16, p17, p18, p19, p20, p21, p22, p23, p24, p25, p26, p27, p28, p29, p30, p31, p32, u0, u1, u2, u3, u4, p38, p39, p40, p41, p42, p43, p44, p45, p46, p47, p48, p49, p50, p51, p52, p53, p54, p55, p56, p57, p58, p59, p60, p61, p62, p63, p64, p65, p66, p67, p68, p69, p70, p71, p72, p73, p74, p75, p76, p77, p78, p79, p80, p81, p82, p83, p84, p85, p86], []⟩ X) :
    Code.wp Tryz.prog (Code.region 10 #[{ dst := some 33, op := Op.load 32 (Operand.tmp 9), type := 32, pos := "exact.go:3995", after := #[], guard := none }, { dst := some 34, op := Op.load 43 (Operand.tmp 4), type := 43, pos := "exact.go:3995", after := #[], guard := none }, { dst := some 35, op := Op.call { callee := Callee.value (Operand.func 22), args := #[Operand.tmp 34], argTypes := #[43] }, type := 48, pos := "exact.go:3995", after := #[{ on := 1, ground := Ground.data }], guard := none }, { dst := some 36, op := Op.move (Operand.tmp 2), type := 3, pos := "exact.go:3995", after := #[], guard := none }, { dst := some 37, op := Op.call { callee := Callee.value (Operand.func 23), args := #[Operand.tmp 33, Operand.tmp 35, Operand.tmp 36], argTypes := #[32, 48, 3] }, type := 46, pos := "exact.go:3995", after := #[{ on := 0, ground := Ground.data }, { on := 2, ground := Ground.data }, { on := 3, ground := Ground.data }, { on := 2, ground := Ground.chain }], guard := none }, { dst := some 10, op := Op.alloc 46, type := 0, pos := "exact.go:3995", after := #[], guard := none }, { dst := none, op := Op.store 46 (Operand.tmp 10) (Operand.tmp 37), type := 0, pos := "exact.go:3995", after := #[{ on := 5, ground := Ground.data }, { on := 4, ground := Ground.data }, { on := 4, ground := Ground.chain }, { on := 0, ground := Ground.phase }, { on := 1, ground := Ground.phase }, { on := 2, ground := Ground.phase }, { on := 3, ground := Ground.phase }, { on := 4, ground := Ground.phase }, { on := 5, ground := Ground.phase }], guard := none }] true) Q ⟨#[p0, p1, .int .i64 most, .pointer (some ⟨s0, 0, none⟩), .pointer (some ⟨s0 + 1, 0, none⟩), p5, p6, p7, p8, .pointer (some ⟨b9, 0, none⟩), undef, p11, p12, p13, p14, p15, p16, p17, p18, p19, p20, p21, p22, p23, p24, p25, p26, p27, p28, p29, p30, p31, p32, undef, undef, undef, undef, undef, p38, p39, p40, p41, p42, p43, p44, p45, p46, p47, p48, p49, p50, p51, p52, p53, p54, p55, p56, p57, p58, p59, p60, p61, p62, p63, p64, p65, p66, p67, p68, p69, p70, p71, p72, p73, p74, p75, p76, p77, p78, p79, p80, p81, p82, p83, p84, p85, p86], []⟩ W := by
  refine regionN (by kernel_rfl) 6 4 5 (by decide) (by decide) (by decide) (fun t : Nat → Value => #[p0, p1, .int .i64 most, .pointer (some ⟨s0, 0, none⟩), .pointer (some ⟨s0 + 1, 0, none⟩), p5, p6, p7, p8, .pointer (some ⟨b9, 0, none⟩), t 5, p11, p12, p13, p14, p15, p16, p17, p18, p19, p20, p21, p22, p23, p24, p25, p26, p27, p28, p29, p30, p31, p32, t 0, t 1, t 2, t 3, t 4, p38, p39, p40, p41, p42, p43, p44, p45, p46, p47, p48, p49, p50, p51, p52, p53, p54, p55, p56, p57, p58, p59, p60, p61, p62, p63, p64, p65, p66, p67, p68, p69, p70, p71, p72, p73, p74, p75, p76, p77, p78, p79, p80, p81, p82, p83, p84, p85, p86]) (fun i v X => match i with | 0 => v = .agg #[.int .i64 x.now, .int .i64 x.floor, .slice p.a1 x.on d1, .slice p.a2 x.hn d2, .slice p.a3 x.tn d3] ∧ BkAt X x p | 1 => v = .agg #[.string ki, .string pr, .int .i64 fr] | 2 => v = .agg #[.string ki, .string pr, .int .i64 fr] | _ => v = .int .i64 most) (nwA x ki pr fr most) #[.int .i64 0, .slice none 0 0, .int .i64 0] 46 (fun v u X => ∃ b adw cw gw Aw Cw hw, u = .pointer (some ⟨b, 0, none⟩) ∧ W.heap.size ≤ b ∧ b < X.heap.size ∧ Holds X b #[.int .i64 (nwC x fr most), .slice adw (nwN x ki pr fr most) cw, .int .i64 (nwV x ki pr fr most)] ∧ ChsAt X adw gw (nwN x ki pr fr most) (nwY x ki pr fr most) Aw Cw hw ∧ ∀ q, blkH gw (nwN x ki pr fr most) (fun i => (nwY x ki pr fr most i).ob.hn) hw q → W.heap.size ≤ q ∧ ¬ q = b) (fun i j => (i = 2 ∧ j = 1) ∨ (i = 4 ∧ (j = 0 ∨ j = 2 ∨ j = 3))) rfl (by kernel_rfl) (by omega) ?hd ?st ?st4 ?hi4 rfl ?sg ?sc ?sa ?ss ?hfin
  case hd =>
    intro l i hr
    obtain ⟨_, o, ho, hdep⟩ := mem_ready.1 hr
    refine ⟨fun j hj => ?_, fun e => ?_⟩
    · rcases hj with ⟨rfl, rfl⟩ | ⟨rfl, rfl | rfl | rfl⟩ <;> simp only [List.getElem?_toArray, List.getElem?_cons_succ, List.getElem?_cons_zero, Option.some.injEq] at ho <;> subst ho
      · exact hdep ⟨1, .data⟩ (by simp) rfl
      · exact hdep ⟨0, .data⟩ (by simp) rfl
      · exact hdep ⟨2, .data⟩ (by simp) rfl
      · exact hdep ⟨3, .data⟩ (by simp) rfl
    · subst e
      simp only [List.getElem?_toArray, List.getElem?_cons_succ, List.getElem?_cons_zero, Option.some.injEq] at ho
      subst ho
      intro j hj
      rcases (show j = 0 ∨ j = 1 ∨ j = 2 ∨ j = 3 ∨ j = 4 ∨ j = 5 by omega) with rfl | rfl | rfl | rfl | rfl | rfl
      · exact hdep ⟨0, .phase⟩ (by simp) rfl
      · exact hdep ⟨1, .phase⟩ (by simp) rfl
      · exact hdep ⟨2, .phase⟩ (by simp) rfl
      · exact hdep ⟨3, .phase⟩ (by simp) rfl
      · exact hdep ⟨4, .phase⟩ (by simp) rfl
      · exact hdep ⟨5, .phase⟩ (by simp) rfl
  case st =>
    intro i v X Y h hb
    match i with
    | 0 => exact ⟨h.1, h.2.grow hb⟩
    | 1 => exact h
    | 2 => exact h
    | _ + 3 => exact h
  case st4 =>
    rintro v lo hi X Y ⟨adw, cw, gw, Aw, Cw, hw, rfl, h1, h2, h3⟩ hb
    exact ⟨adw, cw, gw, Aw, Cw, hw, rfl, h1.grow hb, h2, Nat.le_trans h3 hb.size⟩
  case hi4 =>
    rintro v lo hi X ⟨adw, cw, gw, Aw, Cw, hw, rfl, h1, h2, h3⟩
    exact h3
  case sg =>
    intro i hi hic hia t X K hb hg hK
    rcases (show i = 0 ∨ i = 1 ∨ i = 2 ∨ i = 3 by omega) with rfl | rfl | rfl | rfl
    · obtain ⟨q0, q1, q2, q3, q4⟩ := holds_bk (hbx.below hb zb9)
      have h := hK (.agg #[.int .i64 x.now, .int .i64 x.floor, .slice p.a1 x.on d1, .slice p.a2 x.hn d2, .slice p.a3 x.tn d3]) X ⟨rfl, hat.grow (hb.mono (Nat.le_refl _))⟩ (Below.refl _ _)
      refine wpOp_of rfl rfl ?_
      go_simp
      exact h
    · have q := hbw.below hb (by omega)
      have q0 := q 0
      have q1 := q 1
      have q2 := q 2
      simp only [List.getElem?_toArray, List.getElem?_cons_succ, List.getElem?_cons_zero] at q0 q1 q2
      have h := hK (.agg #[.string ki, .string pr, .int .i64 fr]) X rfl (Below.refl _ _)
      clear q
      refine wpOp_of rfl rfl ?_
      go_simp
      exact h
    · have e2 : t 1 = .agg #[.string ki, .string pr, .int .i64 fr] := hg 1 (by simp)
      refine wpOp_of rfl rfl ?_
      have HK := hid hK
      clear hK hg
      go_simp
      go_at_call 22
      refine (toW_any ki pr fr X).mono ?_
      rintro e Y ⟨rfl, hbY⟩
      have h := HK.out _ Y rfl hbY
      simpa [updT, e2] using h
    · have h := hK (.int .i64 most) X rfl (Below.refl _ _)
      refine wpOp_of rfl rfl ?_
      go_simp
      exact h
  case sc =>
    intro t X K hb hg hK
    obtain ⟨e1, hat2⟩ := hg 0 (by simp)
    have e3 : t 2 = .agg #[.string ki, .string pr, .int .i64 fr] := hg 2 (by simp)
    have e4 : t 3 = .int .i64 most := hg 3 (by simp)
    refine wpOp_of rfl rfl ?_
    have HK := hid hK
    have HAT := hid hat2
    clear hK hat2 hat hg
    go_simp
    go_at_call 23
    refine (callsIn_wide.1 (implNext_in Fence.wide 8 (fun _ _ _ _ _ h => callsIn_wide.2 h) (fun _ => trivial) rfl (by decide) rfl (fun _ R v w h0 h1 => callsIn_wide.2 (place_any R v w h0 h1)) x p d1 d2 d3 ki pr fr most X hfit HAT.out hpr)).mono ?_
    intro e Y hP
    obtain ⟨v, rfl, hA, hbY⟩ := nwP.ans hP
    have h := HK.out v Y hA hbY
    simpa [updT, e1, e3, e4] using h
  case sa =>
    intro t X K hK
    refine wpOp_of rfl rfl ?_
    go_simp
    exact hK
  case ss =>
    intro t X K b lo hi hb e5 hWb hbx4 h4 hlo hsep hK
    obtain ⟨adw, cw, gw, Aw, Cw, hw, ev, hc, hq, hhi⟩ := h4
    obtain ⟨nc, hnc⟩ : ∃ nc, nwC x fr most = nc := ⟨_, rfl⟩
    obtain ⟨nn, hnn⟩ : ∃ nn, nwN x ki pr fr most = nn := ⟨_, rfl⟩
    obtain ⟨nv, hnv⟩ : ∃ nv, nwV x ki pr fr most = nv := ⟨_, rfl⟩
    have r0 := hbx4.cell 0
    have r1 := hbx4.cell 1
    have r2 := hbx4.cell 2
    have f0 := hbx4.free 0
    have f1 := hbx4.free 1
    have f2 := hbx4.free 2
    have zb := hbx4.lt
    have rx := hid (show ∀ j, X.cell? ⟨b, j + 3, none⟩ = none from fun j => (hbx4.cell (j + 3)).trans (by simp))
    simp only [List.getElem?_toArray, List.getElem?_cons_succ, List.getElem?_cons_zero] at r0 r1 r2
    rw [hnc, hnn, hnv] at ev
    have HK := hid hK
    have HC := hid hc
    have HQ := hid hq
    have HNC := hid hnc
    have HNN := hid hnn
    have HNV := hid hnv
    clear hK hc hq hnc hnn hnv hbx4
    refine wpOp_of rfl rfl ?_
    go_simp
    obtain ⟨Y, hY, fY, y0, y1, y2⟩ := resFin (v0 := .int .i64 nc) (v1 := .slice adw nn cw) (v2 := .int .i64 nv) r0 r1 r2
    have zY := fY.size
    have h := HK.out Y ⟨b, adw, cw, gw, Aw, Cw, hw, e5, hWb, by omega, ?hold, HC.out.fr fY (fun q hq' e => by have := HQ.out q hq'; omega), fun q hq' => ⟨by have := HQ.out q hq'; omega, fun e => by have := HQ.out q hq'; omega⟩⟩ (hb.trans (fY.below (fun q hq e => by omega) hb.size))
    · first
        | (rw [hY]; simpa [ev, e5] using h)
        | (simp only [ev, e5] at h ⊢; rw [hY]; exact h)
    case hold =>
      intro j
      rw [HNC.out, HNN.out, HNV.out]
      match j with
      | 0 => exact y0
      | 1 => exact y1
      | 2 => exact y2
      | j + 3 =>
        rw [← hY, World.cell?_setCell_other _ _ _ _ (by simp), World.cell?_setCell_other _ _ _ _ (by simp), World.cell?_setCell_other _ _ _ _ (by simp), rx.out j]
        simp
  case hfin =>
    intro t X hF hb
    exact hQ (t 0) (t 1) (t 2) (t 3) (t 4) (t 5) X hF hb
end Go.Proofs.YtkecnaaacbckoaaGreat
namespace Go.Proofs.YtkecnaaacbckoaaGreat
open Go.RowKit Go.Maps
theorem BkOwn.isIn {w : World} {lo hi : Nat} {x : Bk} {g1 g2 g3 : Nat} (h : BkOwn w lo hi x g1 g2 g3) : BkIn w lo w.heap.size x (some ⟨g1, 0, none⟩) (some ⟨g2, 0, none⟩) (some ⟨g3, 0, none⟩) := by
  obtain ⟨p, h1, h2, h3, h4, h5⟩ := h.at
  have := h4.isIn (lo := lo) (fun q hq => (h5 q hq).1)
  rw [h1, h2, h3] at this
  exact this
theorem StrsIn.mono0 {w : World} {lo hi hi' : Nat} {ad : Option Addr} {n : Nat} {s : Nat → ByteArray} (h : StrsIn w lo hi ad n s) (hh : hi ≤ hi') : StrsIn w 0 hi' ad n s := fun i hi2 => by
  obtain ⟨b, off, e1, e2, e3, e4⟩ := h i hi2
  exact ⟨b, off, e1, Nat.zero_le _, by omega, e4⟩
theorem ObjsIn.mono0 {w : World} {lo hi hi' : Nat} {ad : Option Addr} {n : Nat} {x : Nat → Ob} (h : ObjsIn w lo hi ad n x) (hh : hi ≤ hi') : ObjsIn w 0 hi' ad n x := fun i hi2 => by
  obtain ⟨b, off, ah, ch, e1, e2, e3, e4, e5⟩ := h i hi2
  exact ⟨b, off, ah, ch, e1, Nat.zero_le _, by omega, e4, e5.mono0 hh⟩
theorem BkIn.mono0 {w : World} {lo hi hi' : Nat} {x : Bk} {a1 a2 a3 : Option Addr} (h : BkIn w lo hi x a1 a2 a3) (hh : hi ≤ hi') : BkIn w 0 hi' x a1 a2 a3 :=
  ⟨h.o.mono0 hh, fun i hi2 => by
    obtain ⟨b, off, ah, ch, e1, e2, e3, e4, e5⟩ := h.h i hi2
    exact ⟨b, off, ah, ch, e1, Nat.zero_le _, by omega, e4, e5.mono0 hh⟩, fun i hi2 => by
    obtain ⟨b, off, e1, e2, e3, e4⟩ := h.t i hi2
    exact ⟨b, off, e1, Nat.zero_le _, by omega, e4⟩⟩
set_option maxRecDepth 100000 in
set_option maxHeartbeats 4000000 in
theorem nxReg13 (p0 p1 p2 p4 p5 p6 p7 p8 p10 p11 p12 p13 p14 p15 p16 p17 p18 p19 p20 p21 p22 p23 p24 p25 p26 p27 p28 p29 p30 p31 p32 p33 p34 p35 p36 p37 p38 p39 p40 p41 p47 p48 p49 p50 p51 p52 p53 p54 p55 p56 p57 p58 p59 p60 p61 p62 p63 p64 p65 p66 p67 p68 p69 p70 p71 p72 p73 p74 p75 p76 p77 p78 p79 p80 p81 p82 p83 p84 p85 p86 : Value) (s0 b7 : Nat) (x : Bk) (a1 a2 a3 : Option Addr) (c1 c2 c3 : Nat) (p : Pl) (d1 d2 d3 : Nat) (hfit : BkFit x) (W : World) (hv : Holds W b7 (bkCells x p.a1 p.a2 p.a3 d1 d2 d3)) (hbx : Holds W s0 (bkCells x a1 a2 a3 c1 c2 c3)) (hat : BkAt W x p) (hin : BkIn W 0 s0 x a1 a2 a3) (hs : s0 + 1 < W.heap.size) (zb : b7 < W.heap.size) (Q : Exit → Act → World → Prop)
    (hQ : ∀ u0 u1 u2 u3 X, Below W.heap.size W X → Q .normal ⟨#[p0, p1, p2, .pointer (some ⟨s0, 0, none⟩), p4, p5, p6, p7, p8, .pointer (some ⟨b7, 0, none⟩), p10, p11, p12, p13, p14, p15, p16, p17, p18, p19, p20, p21, p22, p23, p24, p25, p26, p27, p28, p29, p30, p31, p32, p33, p34, p35, p36, p37, p38, p39, p40, p41, u0, u1, u2, u3, .bool false, p47, p48, p49, p50, p51, p52, p53, p54, p55, p56, p57, p58, p59, p60, p61, p62, p63, p64, p65, p66, p67, p68, p69, p70, p71, p72, p73, p74, p75, p76, p77, p78, p79, p80, p81, p82, p83, p84, p85, p86], []⟩ X) :
    Code.wp Tryz.prog (Code.region 13 #[{ dst := some 42, op := Op.load 32 (Operand.tmp 9), type := 32, pos := "exact.go:3999", after := #[], guard := none }, { dst := some 43, op := Op.load 26 (Operand.tmp 3), type := 26, pos := "exact.go:3999", after := #[], guard := none }, { dst := some 44, op := Op.call { callee := Callee.value (Operand.func 10), args := #[Operand.tmp 43], argTypes := #[26] }, type := 32, pos := "exact.go:3999", after := #[{ on := 1, ground := Ground.data }], guard := none }, { dst := some 45, op := Op.call { callee := Callee.value (Operand.func 12), args := #[Operand.tmp 42, Operand.tmp 44], argTypes := #[32, 32] }, type := 4, pos := "exact.go:3999", after := #[{ on := 0, ground := Ground.data }, { on := 2, ground := Ground.data }, { on := 2, ground := Ground.chain }], guard := none }, { dst := some 46, op := Op.unOp UnOp.not 4 (Operand.tmp 45), type := 4, pos := "exact.go:3999", after := #[{ on := 3, ground := Ground.data }], guard := none }] true) Q ⟨#[p0, p1, p2, .pointer (some ⟨s0, 0, none⟩), p4, p5, p6, p7, p8, .pointer (some ⟨b7, 0, none⟩), p10, p11, p12, p13, p14, p15, p16, p17, p18, p19, p20, p21, p22, p23, p24, p25, p26, p27, p28, p29, p30, p31, p32, p33, p34, p35, p36, p37, p38, p39, p40, p41, undef, undef, undef, undef, undef, p47, p48, p49, p50, p51, p52, p53, p54, p55, p56, p57, p58, p59, p60, p61, p62, p63, p64, p65, p66, p67, p68, p69, p70, p71, p72, p73, p74, p75, p76, p77, p78, p79, p80, p81, p82, p83, p84, p85, p86], []⟩ W := by
  refine region5 (by kernel_rfl) (fun t : Nat → Value => #[p0, p1, p2, .pointer (some ⟨s0, 0, none⟩), p4, p5, p6, p7, p8, .pointer (some ⟨b7, 0, none⟩), p10, p11, p12, p13, p14, p15, p16, p17, p18, p19, p20, p21, p22, p23, p24, p25, p26, p27, p28, p29, p30, p31, p32, p33, p34, p35, p36, p37, p38, p39, p40, p41, t 0, t 1, t 2, t 3, t 4, p47, p48, p49, p50, p51, p52, p53, p54, p55, p56, p57, p58, p59, p60, p61, p62, p63, p64, p65, p66, p67, p68, p69, p70, p71, p72, p73, p74, p75, p76, p77, p78, p79, p80, p81, p82, p83, p84, p85, p86]) (.agg #[.int .i64 x.now, .int .i64 x.floor, .slice p.a1 x.on d1, .slice p.a2 x.hn d2, .slice p.a3 x.tn d3]) (.agg #[.int .i64 x.now, .int .i64 x.floor, .slice a1 x.on c1, .slice a2 x.hn c2, .slice a3 x.tn c3]) (fun v X => ∃ g1 g2 g3 e1 e2 e3 : Nat, v = .agg #[.int .i64 x.now, .int .i64 x.floor, .slice (some ⟨g1, 0, none⟩) x.on e1, .slice (some ⟨g2, 0, none⟩) x.hn e2, .slice (some ⟨g3, 0, none⟩) x.tn e3] ∧ BkIn X 0 X.heap.size x (some ⟨g1, 0, none⟩) (some ⟨g2, 0, none⟩) (some ⟨g3, 0, none⟩)) rfl (by kernel_rfl) ?hd ?st2 rfl ?s0 ?s1 ?s2 ?s3 ?s4 ?hfin
  case hd =>
    intro l i hr
    obtain ⟨_, o, ho, hdep⟩ := mem_ready.1 hr
    refine ⟨fun e => ?_, fun e => ?_, fun e => ?_⟩ <;> subst e <;> simp only [List.getElem?_toArray, List.getElem?_cons_succ, List.getElem?_cons_zero, Option.some.injEq] at ho <;> subst ho
    · exact hdep ⟨1, .data⟩ (by simp) rfl
    · exact ⟨hdep ⟨0, .data⟩ (by simp) rfl, hdep ⟨2, .data⟩ (by simp) rfl⟩
    · exact hdep ⟨3, .data⟩ (by simp) rfl
  case st2 =>
    rintro v X Y ⟨g1, g2, g3, e1, e2, e3, rfl, h⟩ hb
    exact ⟨g1, g2, g3, e1, e2, e3, rfl, (h.below hb (Nat.le_refl _)).mono0 hb.size⟩
  case s0 =>
    intro t X K hb hK
    obtain ⟨q0, q1, q2, q3, q4⟩ := holds_bk (hv.below hb zb)
    refine wpOp_of rfl rfl ?_
    go_simp
    exact hK
  case s1 =>
    intro t X K hb hK
    obtain ⟨q0, q1, q2, q3, q4⟩ := holds_bk (hbx.below hb (by omega))
    refine wpOp_of rfl rfl ?_
    go_simp
    exact hK
  case s2 =>
    intro t X K hb e1 hK
    refine wpOp_of rfl rfl ?_
    have HK := hid hK
    clear hK
    go_simp
    go_at_call 10
    refine (toBk_any x a1 a2 a3 c1 c2 c3 X 0 s0 (by have := hb.size; omega) hfit (hin.below hb (by omega))).mono ?_
    rintro e Y ⟨g1, g2, g3, e1', e2', e3', rfl, ho, hbY⟩
    have h := HK.out _ Y ⟨g1, g2, g3, e1', e2', e3', rfl, ho.isIn.mono0 (Nat.le_refl _)⟩ hbY
    simpa [updT, e1] using h
  case s3 =>
    intro t X K hb e0 h2 hK
    obtain ⟨g1, g2, g3, d1', d2', d3', e2, i2⟩ := h2
    refine wpOp_of rfl rfl ?_
    have HK := hid hK
    have HI2 := hid i2
    clear hK i2
    go_simp
    go_at_call 12
    refine (eqBk_any x _ _ _ _ _ _ d1 d2 d3 d1' d2' d3' X 0 X.heap.size 0 X.heap.size (Nat.le_refl _) (Nat.le_refl _) hfit ((hat.isIn (fun _ _ => Nat.zero_le _)).below hb (Nat.le_refl _) |>.mono0 hb.size) HI2.out).mono ?_
    rintro e Y ⟨rfl, hbY⟩
    have h := HK.out Y hbY
    simpa [updT, e0, e2] using h
  case s4 =>
    intro t X K e3 hK
    refine wpOp_of rfl rfl ?_
    go_simp
    simpa [updT, e3] using hK
  case hfin =>
    intro t X e4 hb
    have h := hQ (t 0) (t 1) (t 2) (t 3) X hb
    rw [← e4] at h
    exact h
end Go.Proofs.YtkecnaaacbckoaaGreat
