import Derived.Test.YtkecnaaacbckoaaGreatKx
import Derived.Test.YtkecnaaacbckoaaGreatKe
import Derived.Sort.Row
import Derived.Deep.RegionWith
namespace Go.Proofs.YtkecnaaacbckoaaGreat
open Go.RowKit
def vec (l : List Value) : Nat → Value := fun j => l.getD j (.int .i64 0)
theorem RowF.new {w w1 : World} {l : List Value} {t : TypeId} (hb : Below (w.alloc (.cells l.toArray t)).heap.size (w.alloc (.cells l.toArray t)) w1) : RowF w1 w.heap.size l.length (vec l) :=
  ⟨by have := hb.size; simp at this; omega, fun j => by rw [hb.frozen (p := ⟨w.heap.size, j, none⟩) (by simp)]; simp, fun j hj => by
    rw [box_cell hb j]
    simp [vec, hj]⟩
theorem RowF.vset {w : World} {g m : Nat} {l l' : List Value} {o : Nat} {v : Value} (h : RowF w g m (vec l)) (ho : o < m) (e : ∀ j, j < m → vec l' j = setF (vec l) o v j) : RowF (w.setCell ⟨g, o, none⟩ v) g m (vec l') :=
  ⟨(h.set ho v).lt, (h.set ho v).free, fun j hj => by rw [(h.set ho v).cell j hj, e j hj]⟩
theorem bk_vec {W : World} {B : Nat} {v0 v1 v2 v3 v4 : Value} (h : RowF W B 5 (vec [v0, v1, v2, v3, v4])) :
    W.cell? ⟨B, 0, none⟩ = some v0 ∧ W.cell? ⟨B, 1, none⟩ = some v1 ∧ W.cell? ⟨B, 2, none⟩ = some v2 ∧ W.cell? ⟨B, 3, none⟩ = some v3 ∧ W.cell? ⟨B, 4, none⟩ = some v4 :=
  ⟨h.cell 0 (by omega), h.cell 1 (by omega), h.cell 2 (by omega), h.cell 3 (by omega), h.cell 4 (by omega)⟩
theorem set_v2 (v0 v1 v2 v3 v4 v : Value) : ∀ j, j < 5 → vec [v0, v1, v, v3, v4] j = setF (vec [v0, v1, v2, v3, v4]) 2 v j := fun j hj => by
  rcases (show j = 0 ∨ j = 1 ∨ j = 2 ∨ j = 3 ∨ j = 4 by omega) with rfl | rfl | rfl | rfl | rfl <;> rfl
theorem set_v3 (v0 v1 v2 v3 v4 v : Value) : ∀ j, j < 5 → vec [v0, v1, v2, v, v4] j = setF (vec [v0, v1, v2, v3, v4]) 3 v j := fun j hj => by
  rcases (show j = 0 ∨ j = 1 ∨ j = 2 ∨ j = 3 ∨ j = 4 by omega) with rfl | rfl | rfl | rfl | rfl <;> rfl
theorem set_v4 (v0 v1 v2 v3 v4 v : Value) : ∀ j, j < 5 → vec [v0, v1, v2, v3, v] j = setF (vec [v0, v1, v2, v3, v4]) 4 v j := fun j hj => by
  rcases (show j = 0 ∨ j = 1 ∨ j = 2 ∨ j = 3 ∨ j = 4 by omega) with rfl | rfl | rfl | rfl | rfl <;> rfl
theorem setCell_id {w : World} {b o : Nat} {v : Value} (h : w.cell? ⟨b, o, none⟩ = some v) : w.setCell ⟨b, o, none⟩ v = w := by
  rw [Go.Sort.setCell_eq]
  refine Go.Sort.mapBlock_id _ _ _ (fun c e fr hc => ?_)
  have : c[o]? = some v := by simpa [World.cell?, hc] using h
  obtain ⟨h1, h2⟩ := Array.getElem?_eq_some_iff.1 this
  apply Array.ext
  · simp
  · intro j h3 h4
    rw [Array.getElem_setIfInBounds]
    split
    · next e => subst e; exact h2.symm
    · rfl
set_option maxRecDepth 100000 in
set_option maxHeartbeats 4000000 in
theorem bookCopy_any (x : Bk) (a1 a2 a3 : Option Addr) (c1 c2 c3 : Nat) (w : World) (lo hi : Nat) (hhi : hi ≤ w.heap.size) (hf : BkFit x) (hc : BkIn w lo hi x a1 a2 a3) :
    Calls Tryz.prog 45 #[.agg #[.int .i64 x.now, .int .i64 x.floor, .slice a1 x.on c1, .slice a2 x.hn c2, .slice a3 x.tn c3]] w fun e w' => ∃ (p : Pl) (d1 d2 d3 : Nat), e = .returned (.agg #[.int .i64 x.now, .int .i64 x.floor, .slice p.a1 x.on d1, .slice p.a2 x.hn d2, .slice p.a3 x.tn d3]) ∧ BkAt w' x p ∧ (∀ k, blkB p x k → w.heap.size ≤ k) ∧ Below w.heap.size w w' := by
  obtain ⟨f1, f2, f3, f4, f5, f6⟩ := hf
  have HCO := hid hc.o
  obtain ⟨cc, Ac, Cc, sc, atc, stc⟩ := hc.h.src
  obtain ⟨ct, st, att⟩ := hc.t.src
  have SC := hid sc
  have STT := hid st
  have AC := hid atc
  have AT := hid att
  have HC := hid stc
  have F4 := hid f4
  have F5h := hid f5
  clear sc st atc att stc hc f4 f5 f6
  have hbA : ∀ o1 o2, Below w.heap.size w ((w.alloc o1).alloc o2) := fun o1 o2 => ((Below.refl _ _).alloc (Nat.le_refl _) _).alloc (by simp) _
  go_enter Tryz.func45, Tryz.ntmps45
  go_wp2_with fail
  refine (copyObjs_any x.on x.os a1 c1 _ lo hi (by simp; omega) (by omega) F4.out (HCO.out.below (hbA _ _) hhi)).mono ?_
  rintro e w1 ⟨ad1, d1, g1, A, C, hb, rfl, at1, hq1, hb1⟩
  have B1 : Below w.heap.size w w1 := (hbA _ _).trans (hb1.mono (by simp; omega))
  have z1 : w.heap.size + 2 ≤ w1.heap.size := by have := hb1.size; simp at this; omega
  have rz : RowF w1 (w.alloc (.cells #[.int .i64 x.now, .int .i64 x.floor, .slice a1 x.on c1, .slice a2 x.hn c2, .slice a3 x.tn c3] 32)).heap.size 5 (vec [.int .i64 0, .int .i64 0, .slice none 0 0, .slice none 0 0, .slice none 0 0]) := RowF.new (w := w.alloc (.cells #[.int .i64 x.now, .int .i64 x.floor, .slice a1 x.on c1, .slice a2 x.hn c2, .slice a3 x.tn c3] 32)) (l := [.int .i64 0, .int .i64 0, .slice none 0 0, .slice none 0 0, .slice none 0 0]) (t := 32) hb1
  have rb : RowF w1 w.heap.size 5 (vec [.int .i64 x.now, .int .i64 x.floor, .slice a1 x.on c1, .slice a2 x.hn c2, .slice a3 x.tn c3]) := RowF.new (w := w) (l := [.int .i64 x.now, .int .i64 x.floor, .slice a1 x.on c1, .slice a2 x.hn c2, .slice a3 x.tn c3]) (t := 32) (w1 := w1) (by have h := (below_alloc (w.alloc (.cells #[.int .i64 x.now, .int .i64 x.floor, .slice a1 x.on c1, .slice a2 x.hn c2, .slice a3 x.tn c3] 32)) (.cells #[.int .i64 0, .int .i64 0, .slice none 0 0, .slice none 0 0, .slice none 0 0] 32)).trans (hb1.mono (by simp)); simpa using h)
  simp only [World.size_alloc] at rz hq1
  have RZ := hid rz
  have RB := hid rb
  have AT1 := hid at1
  have HQ1 := hid hq1
  obtain ⟨p0, p1, p2, p3, p4⟩ := bk_vec rb
  have pf := rb.free
  clear rz rb at1 hq1 hb1 hbA
  go_wp2_with fail
  have rb2 : RowF (w1.setCell ⟨w.heap.size, 2, none⟩ (.slice ad1 x.on d1)) w.heap.size 5 (vec [.int .i64 x.now, .int .i64 x.floor, .slice ad1 x.on d1, .slice a2 x.hn c2, .slice a3 x.tn c3]) := RB.out.vset (by omega) (set_v2 _ _ _ _ _ _)
  have F0 : FrP (fun q => q = w.heap.size) w1 (w1.setCell ⟨w.heap.size, 2, none⟩ (.slice ad1 x.on d1)) := FrP.setCell (P := fun q => q = w.heap.size) (FrP.refl _ _) (by rfl) _
  have rz2 := RZ.out.fr F0 (by omega)
  have b0 : Below w.heap.size w (w1.setCell ⟨w.heap.size, 2, none⟩ (.slice ad1 x.on d1)) := B1.setCell (Nat.le_refl _) _
  have z0 : w.heap.size + 2 ≤ (w1.setCell ⟨w.heap.size, 2, none⟩ (.slice ad1 x.on d1)).heap.size := by simpa using z1
  have at2 := AT1.out.fr F0 (fun q hq e => by have := HQ1.out q hq; omega)
  generalize hV : w1.setCell ⟨w.heap.size, 2, none⟩ (.slice ad1 x.on d1) = V at *
  have CPO := hid at2
  have RBB := hid rb2
  have RZZ := hid rz2
  clear RB RZ B1 F0 z1 p0 p1 p2 p3 p4 pf AT1 rb2 rz2 at2 hV
  obtain ⟨p0, p1, p2, p3, p4⟩ := bk_vec RBB.out
  have pf := RBB.out.free
  refine (copyChs_row x.hn cc a2 c2 _ lo hi (by omega) (by omega) (SC.out.below b0 hhi)).mono ?_
  rintro e w5 ⟨ad2, d2, rfl, hr5, hb5⟩
  have z5 := hb5.size
  have hVz : w.heap.size < V.heap.size := by omega
  have rb5 : RowF (w5.setCell ⟨w.heap.size, 3, none⟩ (.slice ad2 x.hn d2)) w.heap.size 5 (vec [.int .i64 x.now, .int .i64 x.floor, .slice ad1 x.on d1, .slice ad2 x.hn d2, .slice a3 x.tn c3]) := (RBB.out.below hb5 hVz).vset (by omega) (set_v3 _ _ _ _ _ _)
  have F5 : FrP (fun q => q = w.heap.size) w5 (w5.setCell ⟨w.heap.size, 3, none⟩ (.slice ad2 x.hn d2)) := FrP.setCell (P := fun q => q = w.heap.size) (FrP.refl _ _) (by rfl) _
  have rz5 := (RZZ.out.below hb5 (by omega)).fr F5 (by omega)
  have cp5 : CpCh (w5.setCell ⟨w.heap.size, 3, none⟩ (.slice ad2 x.hn d2)) V.heap.size x.hn 0 x.hs Ac Ac Cc (fun _ => 0) :=
    ⟨fun h0 => ⟨cc, (hr5 h0).2.fr F5 (by omega), AC.out⟩, fun _ _ _ => rfl, fun i hi => absurd hi (Nat.not_lt_zero _), fun i hi => absurd hi (Nat.not_lt_zero _), fun i j hi => absurd hi (Nat.not_lt_zero _)⟩
  have FV : FrP (fun q => q = w.heap.size) V (w5.setCell ⟨w.heap.size, 3, none⟩ (.slice ad2 x.hn d2)) := (FrP.of_below hb5).trans F5
  have HA2 : Hid (0 < x.hn → ad2 = some ⟨V.heap.size, 0, none⟩) := fun h0 => (hr5 h0).1
  have q3 := (RBB.out.below hb5 hVz).cell 3 (by omega)
  have qf := (RBB.out.below hb5 hVz).free
  clear p0 p1 p2 p3 p4 pf hr5 F5 RBB RZZ
  go_wp2
  clear q3 qf
  go_loopw [16] (fun i wr => ∃ (k : Nat) (A : Nat → Option Addr) (C hb : Nat → Nat), k ≤ x.hn ∧ i = .int .i64 k ∧ FrP (fun q => q = w.heap.size) V wr ∧ RowF wr w.heap.size 5 (vec [.int .i64 x.now, .int .i64 x.floor, .slice ad1 x.on d1, .slice ad2 x.hn d2, .slice a3 x.tn c3]) ∧ RowF wr (w.heap.size + 1) 5 (vec [.int .i64 0, .int .i64 0, .slice none 0 0, .slice none 0 0, .slice none 0 0]) ∧ CpCh wr V.heap.size x.hn k x.hs Ac A C hb) (fun i _ => x.hn - (intOf i).toNat)
  case atStart => exact ⟨0, _, _, _, Nat.zero_le _, rfl, FV, rb5, rz5, cp5⟩
  case round =>
    obtain ⟨k, A2, C2, hb2', hk2, rfl, f0, rb, rz, cp⟩ := hrel
    clear FV rb5 rz5 cp5
    have zv := f0.size
    have bV : Below w.heap.size w wr := b0.trans (f0.below (fun q hq => by omega) (by omega))
    by_cases hkn : k < x.hn
    · obtain ⟨c, rr, hat⟩ := cp.row (by omega)
      have hA := HA2.out (by omega)
      subst hA
      obtain ⟨t0, t1, t2, t3, t4, t5, t6, t7, t8⟩ := hat k hkn
      have d0 := (rr.cell (k * 9) (by omega)).trans (congrArg some t0)
      have d1 := (rr.cell (k * 9 + 1) (by omega)).trans (congrArg some t1)
      have d2 := (rr.cell (k * 9 + 2) (by omega)).trans (congrArg some t2)
      have d3 := (rr.cell (k * 9 + 3) (by omega)).trans (congrArg some t3)
      have d4 := (rr.cell (k * 9 + 4) (by omega)).trans (congrArg some t4)
      have d5 := (rr.cell (k * 9 + 5) (by omega)).trans (congrArg some t5)
      have d6 := (rr.cell (k * 9 + 6) (by omega)).trans (congrArg some t6)
      have d7 := (rr.cell (k * 9 + 7) (by omega)).trans (congrArg some t7)
      have d8 := (rr.cell (k * 9 + 8) (by omega)).trans (congrArg some t8)
      have hsrc := HC.out k hkn
      rw [← cp.src k (Nat.le_refl _) hkn] at hsrc
      have HSR := hid hsrc
      have hfk : ((x.hs k).ob.hn : Int) ≤ 8796093022208 := (F5h.out k hkn).h
      have RBB := hid rb
      have RZZ := hid rz
      have CP := hid cp
      have RR := hid rr
      obtain ⟨p0, p1, p2, p3, p4⟩ := bk_vec rb
      clear t0 t1 t2 t3 t4 t5 t6 t7 t8 hsrc rb rz cp rr hat
      go_wp2
      have hwz : w.heap.size < wr.heap.size := by omega
      have vz : V.heap.size < wr.heap.size := RR.out.lt
      go_region_with (go_at_call 76; go_must (refine (copyCh_own (x.hs k) (A2 k) (C2 k) _ lo hi (by simp; omega) hfk (by exact HSR.out.below ((bV.alloc bV.size _).drew) hhi)).mono ?_; rintro e w2 ⟨ad', cap', b', rfl, hb', hlt', ho', hb2⟩; have hb3 : Below wr.heap.size wr w2 := (((below_alloc _ _).drew).trans (hb2.mono (by simp))); have r3 := RBB.out.below hb3 hwz; obtain ⟨q0, q1, q2, q3, q4⟩ := bk_vec r3; have rg := RR.out.below hb3 RR.out.lt; have s0 := rg.cell (k * 9) (by omega); have s1 := rg.cell (k * 9 + 1) (by omega); have s2 := rg.cell (k * 9 + 2) (by omega); have s3 := rg.cell (k * 9 + 3) (by omega); have s4 := rg.cell (k * 9 + 4) (by omega); have s5 := rg.cell (k * 9 + 5) (by omega); have s6 := rg.cell (k * 9 + 6) (by omega); have s7 := rg.cell (k * 9 + 7) (by omega); have s8 := rg.cell (k * 9 + 8) (by omega); have sf := rg.free; have HB3 := hid hb3; have HOO := hid ho'; have HLT := hid hlt'; have HBP := hid hb'; clear r3 rg hb3 ho' hlt' hb' hb2))
      all_goals
        have hbb : wr.heap.size ≤ b' := by have := HBP.out; simp at this; omega
        have CPP := hid (CP.out.put hkn HB3.out (cap' := cap') hbb HLT.out HOO.out)
        have hz3 := HB3.out.size
        have e0 : w2.cell? ⟨V.heap.size, k * 9, none⟩ = some (.int .i64 (x.hs k).ver) := (HB3.out.cell (p := ⟨V.heap.size, k * 9, none⟩) vz).trans d0
        have e1 : w2.cell? ⟨V.heap.size, k * 9 + 1, none⟩ = some (.bool (x.hs k).gone) := (HB3.out.cell (p := ⟨V.heap.size, k * 9 + 1, none⟩) vz).trans d1
        rw [setCell_id e0, setCell_id e1]
        clear p0 p1 p2 p3 p4 q0 q1 q2 q3 q4 s0 s1 s2 s3 s4 s5 s6 s7 s8 sf d0 d1 d2 d3 d4 d5 d6 d7 d8
        go_wp2
        go_roundw
        case rel =>
          refine ⟨k + 1, _, _, _, by omega, by go_num, ?_, RowF.fr (P := fun q => q = V.heap.size) (RBB.out.below HB3.out hwz) ?_ (by omega), RowF.fr (P := fun q => q = V.heap.size) (RZZ.out.below HB3.out (by omega)) ?_ (by omega), CPP.out⟩
          · iterate 7 refine FrP.setNew ?_ (Or.inl (Nat.le_refl _)) _
            exact f0.trans (FrP.of_below HB3.out)
          · iterate 7 refine FrP.setCell (P := fun q => q = V.heap.size) ?_ (by rfl) _
            exact FrP.refl _ _
          · iterate 7 refine FrP.setCell (P := fun q => q = V.heap.size) ?_ (by rfl) _
            exact FrP.refl _ _
        case measure => simp [intOf]; omega
    · have hke : k = x.hn := by omega
      subst hke
      have CPC := hid cp
      have CPO2 := hid (CPO.out.fr f0 (fun q h1 h2 => by have := HQ1.out q h1; omega))
      have RBB := hid rb
      have RZZ := hid rz
      obtain ⟨p0, p1, p2, p3, p4⟩ := bk_vec rb
      have pf := rb.free
      clear rb rz cp
      go_wp2_with fail
      refine (copyTis_row x.tn ct a3 c3 _ lo hi (by omega) (by omega) (STT.out.below bV hhi)).mono ?_
      rintro e w7 ⟨ad3, d3, rfl, hr7, hb7⟩
      have z7 := hb7.size
      have hwz : w.heap.size < wr.heap.size := by omega
      have R7 := hid ((RBB.out.below hb7 hwz).vset (o := 4) (v := (.slice ad3 x.tn d3)) (l' := [.int .i64 x.now, .int .i64 x.floor, .slice ad1 x.on d1, .slice ad2 x.hn d2, .slice ad3 x.tn d3]) (by omega) (set_v4 _ _ _ _ _ _))
      have HR7 := hid hr7
      obtain ⟨q0, q1, q2, q3, q4⟩ := bk_vec (RBB.out.below hb7 hwz)
      have qf := (RBB.out.below hb7 hwz).free
      have rz7 := RZZ.out.below hb7 (by omega)
      obtain ⟨y0, y1, y2, y3, y4⟩ := bk_vec rz7
      have yf := rz7.free
      have CO7 := hid (CPO2.out.grow hb7)
      have CC7 := hid (CPC.out.grow hb7)
      have BV7 := hid (bV.trans (hb7.mono bV.size))
      clear p0 p1 p2 p3 p4 pf hr7 rz7 RBB RZZ
      go_wp2
      have hlt7 : w.heap.size + 1 < w7.heap.size := by omega
      refine bodyPost_ret (v := .agg #[.int .i64 x.now, .int .i64 x.floor, .slice ad1 x.on d1, .slice ad2 x.hn d2, .slice ad3 x.tn d3]) (by simp [results, Tryz.results45, go_sem, y0, y1, y2, y3, y4]) rfl ⟨⟨ad1, ad2, ad3, g1, V.heap.size, wr.heap.size, A, C, hb, A2, C2, hb2'⟩, d1, d2, d3, rfl, ?_, ?_, ?_⟩
      · have FF : ∀ W, FrP (fun q => q = w.heap.size ∨ q = w.heap.size + 1) w7 W → BkAt W x ⟨ad1, ad2, ad3, g1, V.heap.size, wr.heap.size, A, C, hb, A2, C2, hb2'⟩ := fun W F =>
          ⟨CO7.out.fr F (fun q h1 h2 => by have := HQ1.out q h1; omega), (CC7.out.fr F (fun q h1 _ h2 => by omega)).done HA2.out, ⟨fun h0 => (HR7.out h0).1, fun h0 => ⟨ct, (HR7.out h0).2.fr F (by omega), AT.out⟩⟩,
            fun k h1 h2 => by have e1 := (show w.heap.size + 2 ≤ k ∧ k < V.heap.size from ⟨HQ1.out k h1, CPO.out.blt h1⟩); have e2 := CPC.out.rng h2; omega,
            fun k h1 h2 => by have e1 := (show w.heap.size + 2 ≤ k ∧ k < V.heap.size from ⟨HQ1.out k h1, CPO.out.blt h1⟩); have e2 : k = wr.heap.size := h2.2; omega,
            fun k h1 h2 => by have e1 := CPC.out.rng h1; have e2 : k = wr.heap.size := h2.2; omega⟩
        refine FF _ ?_
        iterate 6 refine FrP.setCell (P := fun q => q = w.heap.size ∨ q = w.heap.size + 1) ?_ (by simp) _
        exact FrP.refl _ _
      · intro k hk
        rcases hk with h1 | h1 | h1
        · have e1 := (show w.heap.size + 2 ≤ k ∧ k < V.heap.size from ⟨HQ1.out k h1, CPO.out.blt h1⟩)
          omega
        · have e1 := CPC.out.rng h1
          omega
        · have e1 : k = wr.heap.size := h1.2
          omega
      · iterate 6 refine Below.setCell ?_ (by simp) _
        exact BV7.out
end Go.Proofs.YtkecnaaacbckoaaGreat
