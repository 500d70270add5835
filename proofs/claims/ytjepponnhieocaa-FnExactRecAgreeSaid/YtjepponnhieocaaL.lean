import Derived.Test.YtjepponnhieocaaJ
import Derived.Test.YtjepponnhieocaaK
namespace Go.Proofs.Ytjepponnhieocaa
open Go.RowKit
/-- a recorder -/
structure Rc where
  num : Int
  of : Int
  up : Bool
  sf : Dk
  dk : Dk
  hn : Nat
  hs : Nat → Ms
  wn : Nat
  ws : Nat → ByteArray
  ld : Bool
  tr : Bool
  bal : Int
  yn : Nat
  ys : Nat → Int
  bn : Nat
  bs : Nat → Sl
  an : Nat
  as_ : Nat → Ak
  hd : Int
/-- where a recorder's lists lie -/
structure RcA where
  sa : Option Addr
  da : Option Addr
  ha : Option Addr
  wa : Option Addr
  ya : Option Addr
  ba : Option Addr
  aa : Option Addr
  sc : Nat
  dc : Nat
  hc : Nat
  wc : Nat
  yc : Nat
  bc : Nat
  ac : Nat
abbrev rcC (r : Rc) (A : RcA) : Array Value := #[.int .i64 r.num, .int .i64 r.of, .bool r.up, .int .i64 r.sf.pr, .int .i64 r.sf.kn, .slice A.sa r.sf.n A.sc, .int .i64 r.dk.pr, .int .i64 r.dk.kn, .slice A.da r.dk.n A.dc, .slice A.ha r.hn A.hc, .slice A.wa r.wn A.wc, .bool r.ld, .bool r.tr, .int .i64 r.bal, .slice A.ya r.yn A.yc, .slice A.ba r.bn A.bc, .slice A.aa r.an A.ac, .int .i64 r.hd]
abbrev rcV (r : Rc) (A : RcA) : Value := .agg #[.int .i64 r.num, .int .i64 r.of, .bool r.up, .int .i64 r.sf.pr, .int .i64 r.sf.kn, .slice A.sa r.sf.n A.sc, .int .i64 r.dk.pr, .int .i64 r.dk.kn, .slice A.da r.dk.n A.dc, .slice A.ha r.hn A.hc, .slice A.wa r.wn A.wc, .bool r.ld, .bool r.tr, .int .i64 r.bal, .slice A.ya r.yn A.yc, .slice A.ba r.bn A.bc, .slice A.aa r.an A.ac, .int .i64 r.hd]
structure RcFit (r : Rc) : Prop where
  sf : DkFit r.sf
  dk : DkFit r.dk
  hn : (r.hn : Int) ≤ 8796093022208
  hs : ∀ i, i < r.hn → MsFit (r.hs i)
  wn : (r.wn : Int) ≤ 8796093022208
  ws : ∀ i, i < r.wn → ((r.ws i).size : Int) ≤ 140737488355328
  yn : (r.yn : Int) ≤ 17592186044416
  bn : (r.bn : Int) ≤ 8796093022208
  bs : ∀ i, i < r.bn → SlFit (r.bs i)
  an : (r.an : Int) ≤ 8796093022208
  as_ : ∀ i, i < r.an → AkFit (r.as_ i)
structure RcIn (w : World) (lo hi : Nat) (r : Rc) (A : RcA) : Prop where
  sf : SlsIn w lo hi A.sa r.sf.n r.sf.s
  dk : SlsIn w lo hi A.da r.dk.n r.dk.s
  hs : MssIn w lo hi A.ha r.hn r.hs
  ws : StrsIn w lo hi A.wa r.wn r.ws
  ys : IntsIn w lo hi A.ya r.yn r.ys
  bs : SlsIn w lo hi A.ba r.bn r.bs
  as_ : AksIn w lo hi A.aa r.an r.as_
theorem RcIn.below {w w' : World} {B lo hi : Nat} {r : Rc} {A : RcA} (h : RcIn w lo hi r A) (hb : Below B w w') (hB : hi ≤ B) : RcIn w' lo hi r A :=
  ⟨h.sf.below hb hB, h.dk.below hb hB, h.hs.below hb hB, h.ws.below hb hB, h.ys.below hb hB, h.bs.below hb hB, h.as_.below hb hB⟩
def szRc (r : Rc) : Nat := szDk r.sf + szDk r.dk + szMss r.hn r.hs + szStrs r.wn r.ws + r.yn + szSls r.bn r.bs + szAks r.an r.as_
theorem holds18 {W : World} {B : Nat} {v0 v1 v2 v3 v4 v5 v6 v7 v8 v9 v10 v11 v12 v13 v14 v15 v16 v17 : Value} (h : Holds W B #[v0, v1, v2, v3, v4, v5, v6, v7, v8, v9, v10, v11, v12, v13, v14, v15, v16, v17]) :
    W.cell? ⟨B, 0, none⟩ = some v0 ∧ W.cell? ⟨B, 1, none⟩ = some v1 ∧ W.cell? ⟨B, 2, none⟩ = some v2 ∧ W.cell? ⟨B, 3, none⟩ = some v3 ∧ W.cell? ⟨B, 4, none⟩ = some v4 ∧ W.cell? ⟨B, 5, none⟩ = some v5 ∧ W.cell? ⟨B, 6, none⟩ = some v6 ∧ W.cell? ⟨B, 7, none⟩ = some v7 ∧ W.cell? ⟨B, 8, none⟩ = some v8 ∧ W.cell? ⟨B, 9, none⟩ = some v9 ∧ W.cell? ⟨B, 10, none⟩ = some v10 ∧ W.cell? ⟨B, 11, none⟩ = some v11 ∧ W.cell? ⟨B, 12, none⟩ = some v12 ∧ W.cell? ⟨B, 13, none⟩ = some v13 ∧ W.cell? ⟨B, 14, none⟩ = some v14 ∧ W.cell? ⟨B, 15, none⟩ = some v15 ∧ W.cell? ⟨B, 16, none⟩ = some v16 ∧ W.cell? ⟨B, 17, none⟩ = some v17 := ⟨h 0, h 1, h 2, h 3, h 4, h 5, h 6, h 7, h 8, h 9, h 10, h 11, h 12, h 13, h 14, h 15, h 16, h 17⟩
theorem Holds.set {W : World} {B i : Nat} {c : Array Value} (h : Holds W B c) (hi : i < c.size) (v : Value) : Holds (W.setCell ⟨B, i, none⟩ v) B (c.set i v hi) := fun j => by
  by_cases e : j = i
  · subst e
    rw [World.cell?_setCell_same _ _ _ (h j |>.trans (Array.getElem?_eq_getElem hi)), Array.getElem?_set_self]
  · rw [World.cell?_setCell_other _ _ _ _ (fun hh => e (by cases hh; rfl)), h j, Array.getElem?_set_ne _ (fun hh => e hh.symm)]
set_option maxRecDepth 100000 in
set_option maxHeartbeats 4000000 in
theorem szRc_any (r : Rc) (A : RcA) (left : Int) (w : World) (n0 : 0 ≤ left) (m0 : left ≤ 1048576) (lo hi : Nat) (hhi : hi ≤ w.heap.size) (hf : RcFit r) (hc : RcIn w lo hi r A) :
    Calls Try.prog 21 #[rcV r A, .int .i64 left] w fun e w' => e = .returned (.int .i64 (szOut left (szRc r))) ∧ Below w.heap.size w w' := by
  have HF := hid hf
  have HI := hid hc
  obtain ⟨S, hS⟩ : ∃ S, szRc r = S := ⟨_, rfl⟩
  have HSZ := hid (show S = szDk r.sf + szDk r.dk + szMss r.hn r.hs + szStrs r.wn r.ws + r.yn + szSls r.bn r.bs + szAks r.an r.as_ by rw [← hS]; rfl)
  rw [hS]
  clear hf hc hS
  have hB0 := below_alloc w (.cells (rcC r A) 50)
  have H0 := holds_new w (rcC r A) 50
  have hz0 : w.heap.size < (w.alloc (.cells (rcC r A) 50)).heap.size := by simp
  go_enter Try.func21, Try.ntmps21
  obtain ⟨l1, hl1⟩ : ∃ l, szOut left (szDk r.sf) = l := ⟨_, rfl⟩
  have c1 := szDk_any r.sf A.sa A.sc left (w.alloc (.cells (rcC r A) 50)) n0 m0 lo hi (Nat.le_trans hhi hB0.size) HF.out.sf (HI.out.below hB0 hhi).sf
  rw [hl1] at c1
  have HL1 := hid hl1
  clear hl1
  go_wp2_with fail
  refine c1.mono ?_
  clear c1
  rintro e w1 ⟨rfl, hb1⟩
  have hB1 : Below w.heap.size w w1 := hB0.trans (hb1.mono hB0.size)
  have H1 : Holds w1 w.heap.size (rcC r A) := H0.below hb1 hz0
  have hz1 : w.heap.size < w1.heap.size := Nat.lt_of_lt_of_le hz0 hb1.size
  clear hb1 H0
  by_cases n1 : l1 < 0
  · have G : left < (szDk r.sf : Nat) := szOut_lt (by rw [HL1.out]; exact n1)
    clear H1
    go_wp2
    go_ret
    exact ⟨ret_int (szOut_no (by have := HSZ.out; omega)).symm, hB1⟩
  have G1 : Hid ((((szDk r.sf : Nat) : Int) ≤ left) ∧ l1 = left - (szDk r.sf : Nat)) := by
    have g := szOut_ge (l := left) (s := szDk r.sf) (by rw [HL1.out]; omega)
    rw [HL1.out] at g
    exact g
  have n1 : 0 ≤ l1 := by omega
  have m1 : l1 ≤ 1048576 := by have := G1.out; omega
  obtain ⟨l2, hl2⟩ : ∃ l, szOut l1 (szDk r.dk) = l := ⟨_, rfl⟩
  have c2 := szDk_any r.dk A.da A.dc l1 w1 n1 m1 lo hi (Nat.le_trans hhi hB1.size) HF.out.dk (HI.out.below hB1 hhi).dk
  rw [hl2] at c2
  have HL2 := hid hl2
  clear hl2
  obtain ⟨p0, p1, p2, p3, p4, p5, p6, p7, p8, p9, p10, p11, p12, p13, p14, p15, p16, p17⟩ := holds18 H1
  go_wp2_with fail
  refine c2.mono ?_
  clear c2
  rintro e w2 ⟨rfl, hb2⟩
  clear p0 p1 p2 p3 p4 p5 p6 p7 p8 p9 p10 p11 p12 p13 p14 p15 p16 p17
  have hB2 : Below w.heap.size w w2 := hB1.trans (hb2.mono hB1.size)
  have H2 : Holds w2 w.heap.size (rcC r A) := H1.below hb2 hz1
  have hz2 : w.heap.size < w2.heap.size := Nat.lt_of_lt_of_le hz1 hb2.size
  clear hb2 H1
  by_cases n2 : l2 < 0
  · have G : l1 < (szDk r.dk : Nat) := szOut_lt (by rw [HL2.out]; exact n2)
    clear H2
    go_wp2
    go_ret
    exact ⟨ret_int (szOut_no (by have := HSZ.out; have := G1.out; omega)).symm, hB2⟩
  have G2 : Hid ((((szDk r.dk : Nat) : Int) ≤ l1) ∧ l2 = l1 - (szDk r.dk : Nat)) := by
    have g := szOut_ge (l := l1) (s := szDk r.dk) (by rw [HL2.out]; omega)
    rw [HL2.out] at g
    exact g
  have n2 : 0 ≤ l2 := by omega
  have m2 : l2 ≤ 1048576 := by have := G2.out; omega
  obtain ⟨l3, hl3⟩ : ∃ l, szOut l2 (szMss r.hn r.hs) = l := ⟨_, rfl⟩
  have c3 := szMss_any r.hn r.hs A.ha A.hc l2 w2 lo hi (Nat.le_trans hhi hB2.size) HF.out.hn n2 m2 HF.out.hs (HI.out.below hB2 hhi).hs
  rw [hl3] at c3
  have HL3 := hid hl3
  clear hl3
  obtain ⟨p0, p1, p2, p3, p4, p5, p6, p7, p8, p9, p10, p11, p12, p13, p14, p15, p16, p17⟩ := holds18 H2
  go_wp2_with fail
  refine c3.mono ?_
  clear c3
  rintro e w3 ⟨rfl, hb3⟩
  clear p0 p1 p2 p3 p4 p5 p6 p7 p8 p9 p10 p11 p12 p13 p14 p15 p16 p17
  have hB3 : Below w.heap.size w w3 := hB2.trans (hb3.mono hB2.size)
  have H3 : Holds w3 w.heap.size (rcC r A) := H2.below hb3 hz2
  have hz3 : w.heap.size < w3.heap.size := Nat.lt_of_lt_of_le hz2 hb3.size
  clear hb3 H2
  by_cases n3 : l3 < 0
  · have G : l2 < (szMss r.hn r.hs : Nat) := szOut_lt (by rw [HL3.out]; exact n3)
    clear H3
    go_wp2
    go_ret
    exact ⟨ret_int (szOut_no (by have := HSZ.out; have := G1.out; have := G2.out; omega)).symm, hB3⟩
  have G3 : Hid ((((szMss r.hn r.hs : Nat) : Int) ≤ l2) ∧ l3 = l2 - (szMss r.hn r.hs : Nat)) := by
    have g := szOut_ge (l := l2) (s := szMss r.hn r.hs) (by rw [HL3.out]; omega)
    rw [HL3.out] at g
    exact g
  have n3 : 0 ≤ l3 := by omega
  have m3 : l3 ≤ 1048576 := by have := G3.out; omega
  obtain ⟨l4, hl4⟩ : ∃ l, szOut l3 (szStrs r.wn r.ws) = l := ⟨_, rfl⟩
  have c4 := szStrs_any r.wn r.ws A.wa A.wc l3 w3 (by have := HF.out.wn; omega) n3 m3 HF.out.ws lo hi (HI.out.below hB3 hhi).ws
  rw [hl4] at c4
  have HL4 := hid hl4
  clear hl4
  obtain ⟨p0, p1, p2, p3, p4, p5, p6, p7, p8, p9, p10, p11, p12, p13, p14, p15, p16, p17⟩ := holds18 H3
  go_wp2_with fail
  refine c4.mono ?_
  clear c4
  rintro e w4 ⟨rfl, he4⟩
  have hb4 : Below w3.heap.size w3 w4 := by rw [he4]; exact Below.refl _ _
  clear he4
  clear p0 p1 p2 p3 p4 p5 p6 p7 p8 p9 p10 p11 p12 p13 p14 p15 p16 p17
  have hB4 : Below w.heap.size w w4 := hB3.trans (hb4.mono hB3.size)
  have H4 : Holds w4 w.heap.size (rcC r A) := H3.below hb4 hz3
  have hz4 : w.heap.size < w4.heap.size := Nat.lt_of_lt_of_le hz3 hb4.size
  clear hb4 H3
  by_cases n4 : l4 < 0
  · have G : l3 < (szStrs r.wn r.ws : Nat) := szOut_lt (by rw [HL4.out]; exact n4)
    clear H4
    go_wp2
    go_ret
    exact ⟨ret_int (szOut_no (by have := HSZ.out; have := G1.out; have := G2.out; have := G3.out; omega)).symm, hB4⟩
  have G4 : Hid ((((szStrs r.wn r.ws : Nat) : Int) ≤ l3) ∧ l4 = l3 - (szStrs r.wn r.ws : Nat)) := by
    have g := szOut_ge (l := l3) (s := szStrs r.wn r.ws) (by rw [HL4.out]; omega)
    rw [HL4.out] at g
    exact g
  have n4 : 0 ≤ l4 := by omega
  have m4 : l4 ≤ 1048576 := by have := G4.out; omega
  obtain ⟨l5, hl5⟩ : ∃ l, szOut l4 (r.yn) = l := ⟨_, rfl⟩
  have c5 := szInts_any r.yn A.ya A.yc l4 w4 (by have := HF.out.yn; omega) n4 m4
  rw [hl5] at c5
  have HL5 := hid hl5
  clear hl5
  obtain ⟨p0, p1, p2, p3, p4, p5, p6, p7, p8, p9, p10, p11, p12, p13, p14, p15, p16, p17⟩ := holds18 H4
  go_wp2_with fail
  refine c5.mono ?_
  clear c5
  rintro e w5 ⟨rfl, he5⟩
  have hb5 : Below w4.heap.size w4 w5 := by rw [he5]; exact Below.refl _ _
  clear he5
  clear p0 p1 p2 p3 p4 p5 p6 p7 p8 p9 p10 p11 p12 p13 p14 p15 p16 p17
  have hB5 : Below w.heap.size w w5 := hB4.trans (hb5.mono hB4.size)
  have H5 : Holds w5 w.heap.size (rcC r A) := H4.below hb5 hz4
  have hz5 : w.heap.size < w5.heap.size := Nat.lt_of_lt_of_le hz4 hb5.size
  clear hb5 H4
  by_cases n5 : l5 < 0
  · have G : l4 < (r.yn : Nat) := szOut_lt (by rw [HL5.out]; exact n5)
    clear H5
    go_wp2
    go_ret
    exact ⟨ret_int (szOut_no (by have := HSZ.out; have := G1.out; have := G2.out; have := G3.out; have := G4.out; omega)).symm, hB5⟩
  have G5 : Hid ((((r.yn : Nat) : Int) ≤ l4) ∧ l5 = l4 - (r.yn : Nat)) := by
    have g := szOut_ge (l := l4) (s := r.yn) (by rw [HL5.out]; omega)
    rw [HL5.out] at g
    exact g
  have n5 : 0 ≤ l5 := by omega
  have m5 : l5 ≤ 1048576 := by have := G5.out; omega
  obtain ⟨l6, hl6⟩ : ∃ l, szOut l5 (szSls r.bn r.bs) = l := ⟨_, rfl⟩
  have c6 := szSls_any r.bn r.bs A.ba A.bc l5 w5 lo hi (Nat.le_trans hhi hB5.size) HF.out.bn n5 m5 HF.out.bs (HI.out.below hB5 hhi).bs
  rw [hl6] at c6
  have HL6 := hid hl6
  clear hl6
  obtain ⟨p0, p1, p2, p3, p4, p5, p6, p7, p8, p9, p10, p11, p12, p13, p14, p15, p16, p17⟩ := holds18 H5
  go_wp2_with fail
  refine c6.mono ?_
  clear c6
  rintro e w6 ⟨rfl, hb6⟩
  clear p0 p1 p2 p3 p4 p5 p6 p7 p8 p9 p10 p11 p12 p13 p14 p15 p16 p17
  have hB6 : Below w.heap.size w w6 := hB5.trans (hb6.mono hB5.size)
  have H6 : Holds w6 w.heap.size (rcC r A) := H5.below hb6 hz5
  have hz6 : w.heap.size < w6.heap.size := Nat.lt_of_lt_of_le hz5 hb6.size
  clear hb6 H5
  by_cases n6 : l6 < 0
  · have G : l5 < (szSls r.bn r.bs : Nat) := szOut_lt (by rw [HL6.out]; exact n6)
    clear H6
    go_wp2
    go_ret
    exact ⟨ret_int (szOut_no (by have := HSZ.out; have := G1.out; have := G2.out; have := G3.out; have := G4.out; have := G5.out; omega)).symm, hB6⟩
  have G6 : Hid ((((szSls r.bn r.bs : Nat) : Int) ≤ l5) ∧ l6 = l5 - (szSls r.bn r.bs : Nat)) := by
    have g := szOut_ge (l := l5) (s := szSls r.bn r.bs) (by rw [HL6.out]; omega)
    rw [HL6.out] at g
    exact g
  have n6 : 0 ≤ l6 := by omega
  have m6 : l6 ≤ 1048576 := by have := G6.out; omega
  obtain ⟨l7, hl7⟩ : ∃ l, szOut l6 (szAks r.an r.as_) = l := ⟨_, rfl⟩
  have c7 := szAks_any r.an r.as_ A.aa A.ac l6 w6 lo hi (Nat.le_trans hhi hB6.size) HF.out.an n6 m6 HF.out.as_ (HI.out.below hB6 hhi).as_
  rw [hl7] at c7
  have HL7 := hid hl7
  clear hl7
  obtain ⟨p0, p1, p2, p3, p4, p5, p6, p7, p8, p9, p10, p11, p12, p13, p14, p15, p16, p17⟩ := holds18 H6
  go_wp2_with fail
  refine c7.mono ?_
  clear c7
  rintro e w7 ⟨rfl, hb7⟩
  clear p0 p1 p2 p3 p4 p5 p6 p7 p8 p9 p10 p11 p12 p13 p14 p15 p16 p17
  have hB7 : Below w.heap.size w w7 := hB6.trans (hb7.mono hB6.size)
  have H7 : Holds w7 w.heap.size (rcC r A) := H6.below hb7 hz6
  have hz7 : w.heap.size < w7.heap.size := Nat.lt_of_lt_of_le hz6 hb7.size
  clear hb7 H6
  by_cases n7 : l7 < 0
  · have G : l6 < (szAks r.an r.as_ : Nat) := szOut_lt (by rw [HL7.out]; exact n7)
    clear H7
    go_wp2
    go_ret
    exact ⟨ret_int (szOut_no (by have := HSZ.out; have := G1.out; have := G2.out; have := G3.out; have := G4.out; have := G5.out; have := G6.out; omega)).symm, hB7⟩
  have G7 : Hid ((((szAks r.an r.as_ : Nat) : Int) ≤ l6) ∧ l7 = l6 - (szAks r.an r.as_ : Nat)) := by
    have g := szOut_ge (l := l6) (s := szAks r.an r.as_) (by rw [HL7.out]; omega)
    rw [HL7.out] at g
    exact g
  have n7 : 0 ≤ l7 := by omega
  have m7 : l7 ≤ 1048576 := by have := G7.out; omega
  clear H7
  go_wp2
  go_ret
  exact ⟨ret_int (by have := HSZ.out; have := G1.out; have := G2.out; have := G3.out; have := G4.out; have := G5.out; have := G6.out; have := G7.out; rw [szOut_yes (by omega)]; omega), hB7⟩
end Go.Proofs.Ytjepponnhieocaa
