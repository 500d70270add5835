import Derived.Test.YtkecnaaacbckoaaGreatGx
import Derived.Test.YtkecnaaacbckoaaGreatGe
import Derived.Sort.Row
import Derived.Deep.RegionWith
import Derived.Test.YtkecnaaacbckoaaGreatNf
namespace Go.Proofs.YtkecnaaacbckoaaGreat
open Go.RowKit
def vec (l : List Value) : Nat → Value := fun j => l.getD j (.int .i64 0)
theorem RowF.new {w w1 : World} {l : List Value} {t : TypeId} (hb : Below (w.alloc (.cells l.toArray t)).heap.size (w.alloc (.cells l.toArray t)) w1) : RowF w1 w.heap.size l.length (vec l) :=
  ⟨by have := hb.size; simp at this; omega, fun j => by rw [hb.frozen (p := ⟨w.heap.size, j, none⟩) (by simp)]; simp, fun j hj => by
    rw [box_cell hb j]
    simp [vec, hj]⟩
theorem RowF.vset {w : World} {g m : Nat} {l l' : List Value} {o : Nat} {v : Value} (h : RowF w g m (vec l)) (ho : o < m) (e : ∀ j, j < m → vec l' j = setF (vec l) o v j) : RowF (w.setCell ⟨g, o, none⟩ v) g m (vec l') :=
  ⟨(h.set ho v).lt, (h.set ho v).free, fun j hj => by rw [(h.set ho v).cell j hj, e j hj]⟩
theorem bk_vec {W : World} {B : Nat} {v0 v1 v2 v3 v4 : Value} (h : RowF W B 5 (vec [v0, v1, v2, v3, v4])) :
    W.cell? ⟨B, 0, none⟩ = some v0 ∧ W.cell? ⟨B, 1, none⟩ = some v1 ∧ W.cell? ⟨B, 2, none⟩ = some v2 ∧ W.cell? ⟨B, 3, none⟩ = some v3 ∧ W.cell? ⟨B, 4, none⟩ = some v4 :=
  ⟨h.cell 0 (by omega), h.cell 1 (by omega), h.cell 2 (by omega), h.cell 3 (by omega), h.cell 4 (by omega)⟩
theorem set_v2 (v0 v1 v2 v3 v4 v : Value) : ∀ j, j < 5 → vec [v0, v1, v, v3, v4] j = setF (vec [v0, v1, v2, v3, v4]) 2 v j := fun j hj => by
  rcases (show j = 0 ∨ j = 1 ∨ j = 2 ∨ j = 3 ∨ j = 4 by omega) with rfl | rfl | rfl | rfl | rfl <;> rfl
theorem set_v3 (v0 v1 v2 v3 v4 v : Value) : ∀ j, j < 5 → vec [v0, v1, v2, v, v4] j = setF (vec [v0, v1, v2, v3, v4]) 3 v j := fun j hj => by
  rcases (show j = 0 ∨ j = 1 ∨ j = 2 ∨ j = 3 ∨ j = 4 by omega) with rfl | rfl | rfl | rfl | rfl <;> rfl
theorem set_v4 (v0 v1 v2 v3 v4 v : Value) : ∀ j, j < 5 → vec [v0, v1, v2, v3, v] j = setF (vec [v0, v1, v2, v3, v4]) 4 v j := fun j hj => by
  rcases (show j = 0 ∨ j = 1 ∨ j = 2 ∨ j = 3 ∨ j = 4 by omega) with rfl | rfl | rfl | rfl | rfl <;> rfl
theorem setCell_id {w : World} {b o : Nat} {v : Value} (h : w.cell? ⟨b, o, none⟩ = some v) : w.setCell ⟨b, o, none⟩ v = w := by
  rw [Go.Sort.setCell_eq]
  refine Go.Sort.mapBlock_id _ _ _ (fun c e fr hc => ?_)
  have : c[o]? = some v := by simpa [World.cell?, hc] using h
  obtain ⟨h1, h2⟩ := Array.getElem?_eq_some_iff.1 this
  apply Array.ext
  · simp
  · intro j h3 h4
    rw [Array.getElem_setIfInBounds]
    split
    · next e => subst e; exact h2.symm
    · rfl
set_option maxRecDepth 100000 in
set_option maxHeartbeats 4000000 in
theorem bookCopy_any (x : Bk) (a1 a2 a3 : Option Addr) (c1 c2 c3 : Nat) (w : World) (lo hi : Nat) (hhi : hi ≤ w.heap.size) (hf : BkFit x) (hc : BkIn w lo hi x a1 a2 a3) :
    Calls Tryz.prog 45 #[.agg #[.int .i64 x.now, .int .i64 x.floor, .slice a1 x.on c1, .slice a2 x.hn c2, .slice a3 x.tn c3]] w fun e w' => ∃ (p : Pl) (d1 d2 d3 : Nat), e = .returned (.agg #[.int .i64 x.now, .int .i64 x.floor, .slice p.a1 x.on d1, .slice p.a2 x.hn d2, .slice p.a3 x.tn d3]) ∧ BkAt w' x p ∧ (∀ k, blkB p x k → w.heap.size ≤ k) ∧ Below w.heap.size w w' := by
  obtain ⟨f1, f2, f3, f4, f5, f6⟩ := hf
  have HCO := hid hc.o
  obtain ⟨cc, Ac, Cc, sc, atc, stc⟩ := hc.h.src
  obtain ⟨ct, st, att⟩ := hc.t.src
  have SC := hid sc
  have STT := hid st
  have AC := hid atc
  have AT := hid att
  have HC := hid stc
  have F4 := hid f4
  have F5h := hid f5
  clear sc st atc att stc hc f4 f5 f6
  have hbA : ∀ o1 o2, Below w.heap.size w ((w.alloc o1).alloc o2) := fun o1 o2 => ((Below.refl _ _).alloc (Nat.le_refl _) _).alloc (by simp) _
  go_enter Tryz.func45, Tryz.ntmps45
  go_wp2_with fail
  refine (copyObjs_any x.on x.os a1 c1 _ lo hi (by simp; omega) (by omega) F4.out (HCO.out.below (hbA _ _) hhi)).mono ?_
  rintro e w1 ⟨ad1, d1, g1, A, C, hb, rfl, at1, hq1, hb1⟩
  have B1 : Below w.heap.size w w1 := (hbA _ _).trans (hb1.mono (by simp; omega))
  have z1 : w.heap.size + 2 ≤ w1.heap.size := by have := hb1.size; simp at this; omega
  have rz : RowF w1 (w.alloc (.cells #[.int .i64 x.now, .int .i64 x.floor, .slice a1 x.on c1, .slice a2 x.hn c2, .slice a3 x.tn c3] 32)).heap.size 5 (vec [.int .i64 0, .int .i64 0, .slice none 0 0, .slice none 0 0, .slice none 0 0]) := RowF.new (w := w.alloc (.cells #[.int .i64 x.now, .int .i64 x.floor, .slice a1 x.on c1, .slice a2 x.hn c2, .slice a3 x.tn c3] 32)) (l := [.int .i64 0, .int .i64 0, .slice none 0 0, .slice none 0 0, .slice none 0 0]) (t := 32) hb1
  have rb : RowF w1 w.heap.size 5 (vec [.int .i64 x.now, .int .i64 x.floor, .slice a1 x.on c1, .slice a2 x.hn c2, .slice a3 x.tn c3]) := RowF.new (w := w) (l := [.int .i64 x.now, .int .i64 x.floor, .slice a1 x.on c1, .slice a2 x.hn c2, .slice a3 x.tn c3]) (t := 32) (w1 := w1) (by have h := (below_alloc (w.alloc (.cells #[.int .i64 x.now, .int .i64 x.floor, .slice a1 x.on c1, .slice a2 x.hn c2, .slice a3 x.tn c3] 32)) (.cells #[.int .i64 0, .int .i64 0, .slice none 0 0, .slice none 0 0, .slice none 0 0] 32)).trans (hb1.mono (by simp)); simpa using h)
  simp only [World.size_alloc] at rz hq1
  have RZ := hid rz
  have RB := hid rb
  have AT1 := hid at1
  have HQ1 := hid hq1
  obtain ⟨p0, p1, p2, p3, p4⟩ := bk_vec rb
  have pf := rb.free
  clear rz rb at1 hq1 hb1 hbA
  go_wp2_with fail
  have rb2 : RowF (w1.setCell ⟨w.heap.size, 2, none⟩ (.slice ad1 x.on d1)) w.heap.size 5 (vec [.int .i64 x.now, .int .i64 x.floor, .slice ad1 x.on d1, .slice a2 x.hn c2, .slice a3 x.tn c3]) := RB.out.vset (by omega) (set_v2 _ _ _ _ _ _)
  have F0 : FrP (fun q => q = w.heap.size) w1 (w1.setCell ⟨w.heap.size, 2, none⟩ (.slice ad1 x.on d1)) := FrP.setCell (P := fun q => q = w.heap.size) (FrP.refl _ _) (by rfl) _
  have rz2 := RZ.out.fr F0 (by omega)
  have b0 : Below w.heap.size w (w1.setCell ⟨w.heap.size, 2, none⟩ (.slice ad1 x.on d1)) := B1.setCell (Nat.le_refl _) _
  have z0 : w.heap.size + 2 ≤ (w1.setCell ⟨w.heap.size, 2, none⟩ (.slice ad1 x.on d1)).heap.size := by simpa using z1
  have at2 := AT1.out.fr F0 (fun q hq e => by have := HQ1.out q hq; omega)
  generalize hV : w1.setCell ⟨w.heap.size, 2, none⟩ (.slice ad1 x.on d1) = V at *
  have CPO := hid at2
  have RBB := hid rb2
  have RZZ := hid rz2
  clear RB RZ B1 F0 z1 p0 p1 p2 p3 p4 pf AT1 rb2 rz2 at2 hV
  obtain ⟨p0, p1, p2, p3, p4⟩ := bk_vec RBB.out
  have pf := RBB.out.free
  refine (copyChs_row x.hn cc a2 c2 _ lo hi (by omega) (by omega) (SC.out.below b0 hhi)).mono ?_
  rintro e w5 ⟨ad2, d2, rfl, hr5, hb5⟩
  have z5 := hb5.size
  have hVz : w.heap.size < V.heap.size := by omega
  have rb5 : RowF (w5.setCell ⟨w.heap.size, 3, none⟩ (.slice ad2 x.hn d2)) w.heap.size 5 (vec [.int .i64 x.now, .int .i64 x.floor, .slice ad1 x.on d1, .slice ad2 x.hn d2, .slice a3 x.tn c3]) := (RBB.out.below hb5 hVz).vset (by omega) (set_v3 _ _ _ _ _ _)
  have F5 : FrP (fun q => q = w.heap.size) w5 (w5.setCell ⟨w.heap.size, 3, none⟩ (.slice ad2 x.hn d2)) := FrP.setCell (P := fun q => q = w.heap.size) (FrP.refl _ _) (by rfl) _
  have rz5 := (RZZ.out.below hb5 (by omega)).fr F5 (by omega)
  have cp5 : CpCh (w5.setCell ⟨w.heap.size, 3, none⟩ (.slice ad2 x.hn d2)) V.heap.size x.hn 0 x.hs Ac Ac Cc (fun _ => 0) :=
    ⟨fun h0 => ⟨cc, (hr5 h0).2.fr F5 (by omega), AC.out⟩, fun _ _ _ => rfl, fun i hi => absurd hi (Nat.not_lt_zero _), fun i hi => absurd hi (Nat.not_lt_zero _), fun i j hi => absurd hi (Nat.not_lt_zero _)⟩
  have FV : FrP (fun q => q = w.heap.size) V (w5.setCell ⟨w.heap.size, 3, none⟩ (.slice ad2 x.hn d2)) := (FrP.of_below hb5).trans F5
  have HA2 : Hid (0 < x.hn → ad2 = some ⟨V.heap.size, 0, none⟩) := fun h0 => (hr5 h0).1
  have q3 := (RBB.out.below hb5 hVz).cell 3 (by omega)
  have qf := (RBB.out.below hb5 hVz).free
  clear p0 p1 p2 p3 p4 pf hr5 F5 RBB RZZ
  go_wp2
  clear q3 qf
  go_loopw [16] (fun i wr => ∃ (k : Nat) (A : Nat → Option Addr) (C hb : Nat → Nat), k ≤ x.hn ∧ i = .int .i64 k ∧ FrP (fun q => q = w.heap.size) V wr ∧ RowF wr w.heap.size 5 (vec [.int .i64 x.now, .int .i64 x.floor, .slice ad1 x.on d1, .slice ad2 x.hn d2, .slice a3 x.tn c3]) ∧ RowF wr (w.heap.size + 1) 5 (vec [.int .i64 0, .int .i64 0, .slice none 0 0, .slice none 0 0, .slice none 0 0]) ∧ CpCh wr V.heap.size x.hn k x.hs Ac A C hb) (fun i _ => x.hn - (intOf i).toNat)
  case atStart => exact ⟨0, _, _, _, Nat.zero_le _, rfl, FV, rb5, rz5, cp5⟩
  case round =>
    obtain ⟨k, A2, C2, hb2', hk2, rfl, f0, rb, rz, cp⟩ := hrel
    clear FV rb5 rz5 cp5
    have zv := f0.size
    have bV : Below w.heap.size w wr := b0.trans (f0.below (fun q hq => by omega) (by omega))
    by_cases hkn : k < x.hn
    · obtain ⟨c, rr, hat⟩ := cp.row (by omega)
      have hA := HA2.out (by omega)
      subst hA
      obtain ⟨t0, t1, t2, t3, t4, t5, t6, t7, t8⟩ := hat k hkn
      have d0 := (rr.cell (k * 9) (by omega)).trans (congrArg some t0)
      have d1 := (rr.cell (k * 9 + 1) (by omega)).trans (congrArg some t1)
      have d2 := (rr.cell (k * 9 + 2) (by omega)).trans (congrArg some t2)
      have d3 := (rr.cell (k * 9 + 3) (by omega)).trans (congrArg some t3)
      have d4 := (rr.cell (k * 9 + 4) (by omega)).trans (congrArg some t4)
      have d5 := (rr.cell (k * 9 + 5) (by omega)).trans (congrArg some t5)
      have d6 := (rr.cell (k * 9 + 6) (by omega)).trans (congrArg some t6)
      have d7 := (rr.cell (k * 9 + 7) (by omega)).trans (congrArg some t7)
      have d8 := (rr.cell (k * 9 + 8) (by omega)).trans (congrArg some t8)
      have hsrc := HC.out k hkn
      rw [← cp.src k (Nat.le_refl _) hkn] at hsrc
      have HSR := hid hsrc
      have hfk : ((x.hs k).ob.hn : Int) ≤ 8796093022208 := (F5h.out k hkn).h
      have RBB := hid rb
      have RZZ := hid rz
      have CP := hid cp
      have RR := hid rr
      obtain ⟨p0, p1, p2, p3, p4⟩ := bk_vec rb
      clear t0 t1 t2 t3 t4 t5 t6 t7 t8 hsrc rb rz cp rr hat
      go_wp2
      have hwz : w.heap.size < wr.heap.size := by omega
      have vz : V.heap.size < wr.heap.size := RR.out.lt
      go_region_with (go_at_call 76; go_must (refine (copyCh_own (x.hs k) (A2 k) (C2 k) _ lo hi (by simp; omega) hfk (by exact HSR.out.below ((bV.alloc bV.size _).drew) hhi)).mono ?_; rintro e w2 ⟨ad', cap', b', rfl, hb', hlt', ho', hb2⟩; have hb3 : Below wr.heap.size wr w2 := (((below_alloc _ _).drew).trans (hb2.mono (by simp))); have r3 := RBB.out.below hb3 hwz; obtain ⟨q0, q1, q2, q3, q4⟩ := bk_vec r3; have rg := RR.out.below hb3 RR.out.lt; have s0 := rg.cell (k * 9) (by omega); have s1 := rg.cell (k * 9 + 1) (by omega); have s2 := rg.cell (k * 9 + 2) (by omega); have s3 := rg.cell (k * 9 + 3) (by omega); have s4 := rg.cell (k * 9 + 4) (by omega); have s5 := rg.cell (k * 9 + 5) (by omega); have s6 := rg.cell (k * 9 + 6) (by omega); have s7 := rg.cell (k * 9 + 7) (by omega); have s8 := rg.cell (k * 9 + 8) (by omega); have sf := rg.free; have HB3 := hid hb3; have HOO := hid ho'; have HLT := hid hlt'; have HBP := hid hb'; clear r3 rg hb3 ho' hlt' hb' hb2))
      all_goals
        have hbb : wr.heap.size ≤ b' := by have := HBP.out; simp at this; omega
        have CPP := hid (CP.out.put hkn HB3.out (cap' := cap') hbb HLT.out HOO.out)
        have hz3 := HB3.out.size
        have e0 : w2.cell? ⟨V.heap.size, k * 9, none⟩ = some (.int .i64 (x.hs k).ver) := (HB3.out.cell (p := ⟨V.heap.size, k * 9, none⟩) vz).trans d0
        have e1 : w2.cell? ⟨V.heap.size, k * 9 + 1, none⟩ = some (.bool (x.hs k).gone) := (HB3.out.cell (p := ⟨V.heap.size, k * 9 + 1, none⟩) vz).trans d1
        rw [setCell_id e0, setCell_id e1]
        clear p0 p1 p2 p3 p4 q0 q1 q2 q3 q4 s0 s1 s2 s3 s4 s5 s6 s7 s8 sf d0 d1 d2 d3 d4 d5 d6 d7 d8
        go_wp2
        go_roundw
        case rel =>
          refine ⟨k + 1, _, _, _, by omega, by go_num, ?_, RowF.fr (P := fun q => q = V.heap.size) (RBB.out.below HB3.out hwz) ?_ (by omega), RowF.fr (P := fun q => q = V.heap.size) (RZZ.out.below HB3.out (by omega)) ?_ (by omega), CPP.out⟩
          · iterate 7 refine FrP.setNew ?_ (Or.inl (Nat.le_refl _)) _
            exact f0.trans (FrP.of_below HB3.out)
          · iterate 7 refine FrP.setCell (P := fun q => q = V.heap.size) ?_ (by rfl) _
            exact FrP.refl _ _
          · iterate 7 refine FrP.setCell (P := fun q => q = V.heap.size) ?_ (by rfl) _
            exact FrP.refl _ _
        case measure => simp [intOf]; omega
    · have hke : k = x.hn := by omega
      subst hke
      have CPC := hid cp
      have CPO2 := hid (CPO.out.fr f0 (fun q h1 h2 => by have := HQ1.out q h1; omega))
      have RBB := hid rb
      have RZZ := hid rz
      obtain ⟨p0, p1, p2, p3, p4⟩ := bk_vec rb
      have pf := rb.free
      clear rb rz cp
      go_wp2_with fail
      refine (copyTis_row x.tn ct a3 c3 _ lo hi (by omega) (by omega) (STT.out.below bV hhi)).mono ?_
      rintro e w7 ⟨ad3, d3, rfl, hr7, hb7⟩
      have z7 := hb7.size
      have hwz : w.heap.size < wr.heap.size := by omega
      have R7 := hid ((RBB.out.below hb7 hwz).vset (o := 4) (v := (.slice ad3 x.tn d3)) (l' := [.int .i64 x.now, .int .i64 x.floor, .slice ad1 x.on d1, .slice ad2 x.hn d2, .slice ad3 x.tn d3]) (by omega) (set_v4 _ _ _ _ _ _))
      have HR7 := hid hr7
      obtain ⟨q0, q1, q2, q3, q4⟩ := bk_vec (RBB.out.below hb7 hwz)
      have qf := (RBB.out.below hb7 hwz).free
      have rz7 := RZZ.out.below hb7 (by omega)
      obtain ⟨y0, y1, y2, y3, y4⟩ := bk_vec rz7
      have yf := rz7.free
      have CO7 := hid (CPO2.out.grow hb7)
      have CC7 := hid (CPC.out.grow hb7)
      have BV7 := hid (bV.trans (hb7.mono bV.size))
      clear p0 p1 p2 p3 p4 pf hr7 rz7 RBB RZZ
      go_wp2
      have hlt7 : w.heap.size + 1 < w7.heap.size := by omega
      refine bodyPost_ret (v := .agg #[.int .i64 x.now, .int .i64 x.floor, .slice ad1 x.on d1, .slice ad2 x.hn d2, .slice ad3 x.tn d3]) (by simp [results, Tryz.results45, go_sem, y0, y1, y2, y3, y4]) rfl ⟨⟨ad1, ad2, ad3, g1, V.heap.size, wr.heap.size, A, C, hb, A2, C2, hb2'⟩, d1, d2, d3, rfl, ?_, ?_, ?_⟩
      · have FF : ∀ W, FrP (fun q => q = w.heap.size ∨ q = w.heap.size + 1) w7 W → BkAt W x ⟨ad1, ad2, ad3, g1, V.heap.size, wr.heap.size, A, C, hb, A2, C2, hb2'⟩ := fun W F =>
          ⟨CO7.out.fr F (fun q h1 h2 => by have := HQ1.out q h1; omega), (CC7.out.fr F (fun q h1 _ h2 => by omega)).done HA2.out, ⟨fun h0 => (HR7.out h0).1, fun h0 => ⟨ct, (HR7.out h0).2.fr F (by omega), AT.out⟩⟩,
            fun k h1 h2 => by have e1 := (show w.heap.size + 2 ≤ k ∧ k < V.heap.size from ⟨HQ1.out k h1, CPO.out.blt h1⟩); have e2 := CPC.out.rng h2; omega,
            fun k h1 h2 => by have e1 := (show w.heap.size + 2 ≤ k ∧ k < V.heap.size from ⟨HQ1.out k h1, CPO.out.blt h1⟩); have e2 : k = wr.heap.size := h2.2; omega,
            fun k h1 h2 => by have e1 := CPC.out.rng h1; have e2 : k = wr.heap.size := h2.2; omega⟩
        refine FF _ ?_
        iterate 6 refine FrP.setCell (P := fun q => q = w.heap.size ∨ q = w.heap.size + 1) ?_ (by simp) _
        exact FrP.refl _ _
      · intro k hk
        rcases hk with h1 | h1 | h1
        · have e1 := (show w.heap.size + 2 ≤ k ∧ k < V.heap.size from ⟨HQ1.out k h1, CPO.out.blt h1⟩)
          omega
        · have e1 := CPC.out.rng h1
          omega
        · have e1 : k = wr.heap.size := h1.2
          omega
      · iterate 6 refine Below.setCell ?_ (by simp) _
        exact BV7.out
end Go.Proofs.YtkecnaaacbckoaaGreat
namespace Go.Proofs.YtkecnaaacbckoaaGreat
open Go.RowKit Go.Shelf
def NxInv (x : Nat → Ch) (k : Nat) (ki pr : ByteArray) (most now : Int) (b7 base : Nat) (W0 : World) (j : Nat) (wr : World) : Prop :=
  ((seen x k j ki pr).length : Int) ≤ most ∧ (∃ v A C hb, wr.heap[b7]? = some (.cells #[.int .i64 0, v, .int .i64 now] 46 (0, 0)) ∧ BdCh wr base v (seen x k j ki pr).length (pick (fun i => x (k + i)) (seen x k j ki pr)) A C hb) ∧ FrP (fun q => q = b7 ∨ base ≤ q) W0 wr
theorem own_slice {w : World} {base n : Nat} {v : Value} {xs : List Value} (h : w.ownsRow base 75 9 v (n + 1) xs) : ∃ ad cap, v = .slice ad (n + 1) cap := by
  rcases h.2 with ⟨_, h⟩ | ⟨g, cap, cur, h, _⟩
  · exact absurd h (by omega)
  · exact ⟨_, _, h⟩
theorem NxInv.keep {x : Nat → Ch} {k : Nat} {ki pr : ByteArray} {most now : Int} {b7 base : Nat} {W0 : World} {j j' : Nat} {wr wr' : World} (h : NxInv x k ki pr most now b7 base W0 j wr) (hb : Below wr.heap.size wr wr') (hs : seen x k j' ki pr = seen x k j ki pr) : NxInv x k ki pr most now b7 base W0 j' wr' := by
  obtain ⟨h1, ⟨v, A, C, hb', n1, bd⟩, hf⟩ := h
  unfold NxInv
  rw [hs]
  exact ⟨h1, ⟨v, A, C, hb', (hb.block b7 (Array.getElem?_eq_some_iff.1 n1).1).trans n1, bd.grow hb⟩, hf.trans (FrP.of_below hb)⟩
theorem seen_low {x : Nat → Ch} {k j : Nat} {ki pr : ByteArray} (h : j < k) : seen x k (j + 1) ki pr = seen x k j ki pr := by
  unfold seen
  rw [show j + 1 - k = 0 by omega, show j - k = 0 by omega]
theorem seen_no {x : Nat → Ch} {k j : Nat} {ki pr : ByteArray} (h : k ≤ j) (hs : lkB (x j).ob ki pr = false) : seen x k (j + 1) ki pr = seen x k j ki pr := by
  unfold seen
  rw [show j + 1 - k = (j - k) + 1 by omega, List.range_succ, List.filter_append]
  simp [show k + (j - k) = j by omega, hs]
theorem seen_yes {x : Nat → Ch} {k j : Nat} {ki pr : ByteArray} (h : k ≤ j) (hs : lkB (x j).ob ki pr = true) : seen x k (j + 1) ki pr = seen x k j ki pr ++ [j - k] := by
  unfold seen
  rw [show j + 1 - k = (j - k) + 1 by omega, List.range_succ, List.filter_append]
  simp [show k + (j - k) = j by omega, hs]
theorem seen_len {x : Nat → Ch} {k j : Nat} {ki pr : ByteArray} : (seen x k j ki pr).length ≤ j := by
  unfold seen
  have := List.length_filter_le (fun i => lkB (x (k + i)).ob ki pr) (List.range (j - k))
  simp at this
  omega
set_option maxRecDepth 100000 in
set_option maxHeartbeats 4000000 in
theorem l6NextYes_any (x : Bk) (a1 a2 a3 : Option Addr) (c1 c2 c3 : Nat) (ki pr : ByteArray) (fr most : Int) (k : Nat) (w : World) (lo hi : Nat) (hhi : hi ≤ w.heap.size) (hfit : BkFit x) (hin : BkIn w lo hi x a1 a2 a3) (hv : allTo (chk x) 7 = true) (hk : k ≤ x.hn) (hfr : fr = x.floor + k) (hmost : 1 ≤ most) (hpr : (pr.size : Int) ≤ 140737488355328) :
    Calls Tryz.prog 72 #[.agg #[.int .i64 x.now, .int .i64 x.floor, .slice a1 x.on c1, .slice a2 x.hn c2, .slice a3 x.tn c3], .agg #[.string ki, .string pr, .int .i64 fr], .int .i64 most] w fun e w' => ∃ v A C hb, e = .returned (.agg #[.int .i64 0, v, .int .i64 (nwF x k ki pr most)]) ∧ BdCh w' w.heap.size v (nwL x k ki pr most).length (pick (fun i => x.hs (k + i)) (nwL x k ki pr most)) A C hb ∧ Below w.heap.size w w' := by
  obtain ⟨i0, hi0, hz0, hz1, hz2⟩ := info_parts Tryz.info75
  obtain ⟨v0, v1, v2, v3, v4, v5⟩ := valid_hist hv
  have hi2 : inB fr 0 x.now = true := by simp [inB]; omega
  have hm1 : ¬ most < 1 := by omega
  have hf1 : ¬ fr < x.floor := by omega
  have HC := hid hin.h
  have HF := hid hfit
  have HFR := hid hfr
  have HV5 := hid v5
  have HV4 := hid v4
  clear hin hfit hfr v5 v4 hv
  go_enter Tryz.func72, Tryz.ntmps72
  go_wp2_with (go_at_call 55; go_must (refine (in_any fr 0 x.now _).mono ?_; rw [hi2]; rintro e w2 ⟨rfl, hw2⟩; replace hw2 := hw2.symm; subst hw2))
  have hb4 : ∀ o1 o2 o3 o4, Below w.heap.size w ((((w.alloc o1).alloc o2).alloc o3).alloc o4) := fun o1 o2 o3 o4 => (((below_alloc _ _).alloc (by simp) _).alloc (by simp; omega) _).alloc (by simp; omega) _
  obtain ⟨A0, A1, A2, A3, F3⟩ := four_cell (w := w) (c0 := #[.int .i64 x.now, .int .i64 x.floor, .slice a1 x.on c1, .slice a2 x.hn c2, .slice a3 x.tn c3]) (c1 := #[.string ki, .string pr, .int .i64 fr]) (c2 := #[.int .i64 0, .slice none 0 0, .int .i64 0]) (c3 := #[.int .i64 0, .slice none 0 0, .int .i64 x.now]) (t0 := 32) (t1 := 48) (t2 := 46) (t3 := 46) (Below.refl _ _)
  obtain ⟨W0, hW0⟩ : ∃ W0, (((w.alloc (.cells #[.int .i64 x.now, .int .i64 x.floor, .slice a1 x.on c1, .slice a2 x.hn c2, .slice a3 x.tn c3] 32)).alloc (.cells #[.string ki, .string pr, .int .i64 fr] 48)).alloc (.cells #[.int .i64 0, .slice none 0 0, .int .i64 0] 46)).alloc (.cells #[.int .i64 0, .slice none 0 0, .int .i64 x.now] 46) = W0 := ⟨_, rfl⟩
  have hBW := hb4 (.cells #[.int .i64 x.now, .int .i64 x.floor, .slice a1 x.on c1, .slice a2 x.hn c2, .slice a3 x.tn c3] 32) (.cells #[.string ki, .string pr, .int .i64 fr] 48) (.cells #[.int .i64 0, .slice none 0 0, .int .i64 0] 46) (.cells #[.int .i64 0, .slice none 0 0, .int .i64 x.now] 46)
  have z0 : w.heap.size + 4 ≤ W0.heap.size ∧ W0.heap.size ≤ w.heap.size + 4 := by rw [← hW0]; simp
  have hN0 : W0.heap[w.heap.size + 1 + 1 + 1]? = some (.cells #[.int .i64 0, .slice none 0 0, .int .i64 x.now] 46 (0, 0)) := by
    rw [← hW0]
    have := World.alloc_heap_new (((w.alloc (.cells #[.int .i64 x.now, .int .i64 x.floor, .slice a1 x.on c1, .slice a2 x.hn c2, .slice a3 x.tn c3] 32)).alloc (.cells #[.string ki, .string pr, .int .i64 fr] 48)).alloc (.cells #[.int .i64 0, .slice none 0 0, .int .i64 0] 46)) (.cells #[.int .i64 0, .slice none 0 0, .int .i64 x.now] 46)
    simpa using this
  have g2 : ∀ i, W0.frozen? ⟨w.heap.size + 1 + 1, i, none⟩ = false := fun i => by
    rw [← hW0, World.frozen?_alloc_past _ _ _ (by simp), World.frozen?_alloc_at _ _ _ _ (by simp)]
  rw [hW0] at A0 A1 A2 A3 F3 hBW
  rw [hW0]
  have AA0 := hid A0
  have AA1 := hid A1
  have AA2 := hid A2
  have G2 := hid g2
  have HN0 := hid hN0
  clear A0 A1 A2 A3 F3 g2 hN0 hW0 hb4
  go_loopw [8] (fun i wr => ∃ j : Nat, j ≤ x.hn ∧ i = .int .i64 j ∧ NxInv x.hs k ki pr most x.now (w.heap.size + 1 + 1 + 1) W0.heap.size W0 j wr) (fun i _ => x.hn - (intOf i).toNat)
  case atStart => exact ⟨0, Nat.zero_le _, rfl, by simp [seen]; omega, ⟨_, fun _ => none, fun _ => 0, fun _ => 0, HN0.out, ⟨⟨fun _ => .int .i64 0, by simpa [seen, rowCells] using World.ownsRow_nil W0 W0.heap.size 75 9, fun i hi' => absurd hi' (by simp [seen])⟩, fun i hi' => absurd hi' (by simp [seen]), fun i hi' => absurd hi' (by simp [seen]), fun i hi' => absurd hi' (by simp [seen]), fun i j hi' => absurd hi' (by simp [seen])⟩⟩, FrP.refl _ _⟩
  case round =>
    obtain ⟨j, hj, rfl, hnx⟩ := hrel
    have HNX := hid hnx
    obtain ⟨hlm, ⟨v, A, C, hb, n1, bd⟩, hfr⟩ := hnx
    have zr := hfr.size
    have zl := seen_len (x := x.hs) (k := k) (j := j) (ki := ki) (pr := pr)
    obtain ⟨ad, cap, g, ev, hca, _⟩ := bd.done
    obtain ⟨L, hL⟩ : ∃ L, seen x.hs k j ki pr = L := ⟨_, rfl⟩
    rw [hL] at bd hlm ev zl hca
    obtain ⟨nl, hnl⟩ : ∃ nl, L.length = nl := ⟨_, rfl⟩
    rw [hnl] at ev zl hlm hca
    subst ev
    have oc : ∀ b i, b < W0.heap.size → b ≠ w.heap.size + 1 + 1 + 1 → wr.cell? ⟨b, i, none⟩ = W0.cell? ⟨b, i, none⟩ := fun b i h1 h2 => hfr.cell (p := ⟨b, i, none⟩) h1 (by show ¬ (b = _ ∨ _ ≤ b); omega)
    have p3 := (oc w.heap.size 3 (by omega) (by omega)).trans (AA0.out 3)
    have q0 := (oc (w.heap.size + 1) 0 (by omega) (by omega)).trans (AA1.out 0)
    have q1 := (oc (w.heap.size + 1) 1 (by omega) (by omega)).trans (AA1.out 1)
    have q2 := (oc (w.heap.size + 1) 2 (by omega) (by omega)).trans (AA1.out 2)
    have r0 := (oc (w.heap.size + 1 + 1) 0 (by omega) (by omega)).trans (AA2.out 0)
    have r1 := (oc (w.heap.size + 1 + 1) 1 (by omega) (by omega)).trans (AA2.out 1)
    have r2 := (oc (w.heap.size + 1 + 1) 2 (by omega) (by omega)).trans (AA2.out 2)
    have rf : ∀ i, wr.frozen? ⟨w.heap.size + 1 + 1, i, none⟩ = false := fun i => (hfr.frozen (p := ⟨w.heap.size + 1 + 1, i, none⟩) (by show w.heap.size + 1 + 1 < _; omega) (by show ¬ (w.heap.size + 1 + 1 = _ ∨ _ ≤ w.heap.size + 1 + 1); omega)).trans (G2.out i)
    simp only [List.getElem?_toArray, List.getElem?_cons_succ, List.getElem?_cons_zero] at p3 q0 q1 q2 r0 r1 r2
    have n0 : wr.cell? ⟨w.heap.size + 1 + 1 + 1, 0, none⟩ = some (.int .i64 0) := by simp [World.cell?, n1]
    have n2 : wr.cell? ⟨w.heap.size + 1 + 1 + 1, 1, none⟩ = some (.slice ad nl cap) := by simp [World.cell?, n1]
    have n3 : wr.cell? ⟨w.heap.size + 1 + 1 + 1, 2, none⟩ = some (.int .i64 x.now) := by simp [World.cell?, n1]
    have nf : ∀ i, wr.frozen? ⟨w.heap.size + 1 + 1 + 1, i, none⟩ = false := fun i => by simp [World.frozen?, n1]
    have hBr : Below w.heap.size w wr := hBW.trans (hfr.below (fun q hq e => by omega) (by omega))
    have lb0 : w.heap.size < wr.heap.size := by omega
    have lb1 : w.heap.size + 1 < wr.heap.size := by omega
    have lb2 : w.heap.size + 1 + 1 < wr.heap.size := by omega
    have lb3 : w.heap.size + 1 + 1 + 1 < wr.heap.size := by omega
    have HN1 := hid n1
    have HBD := hid bd
    have HFP := hid hfr
    have HLL := hid hL
    have HNL := hid hnl
    have HCA := hid hca
    have HLM := hid hlm
    have HJ := hid hj
    clear n1 bd hfr hL hnl hca hlm oc
    by_cases hjn : j < x.hn
    · obtain ⟨b, off, ah, ch, ea, hlo, hbh, hcx, hsx⟩ := HC.out j hjn
      obtain ⟨e0, e1, e2, e3, e4, e5, e6, e7, e8⟩ := hcx.below hBr (by omega)
      have HVJ := hid (HV5.out j hjn).1
      have HSX := hid hsx
      clear hcx hsx
      subst ea
      by_cases hjk : j < k
      · have hle : (x.hs j).ver ≤ fr := by rw [HVJ.out, HFR.out]; omega
        go_wp2
        go_roundw
        case rel => exact ⟨j + 1, by omega, by go_num, HNX.out.keep (below_alloc _ _) (seen_low hjk)⟩
        case measure => simp [intOf]; omega
      · have hle : ¬ (x.hs j).ver ≤ fr := by rw [HVJ.out, HFR.out]; omega
        have hns : ((x.hs j).ob.name.size : Int) ≤ 140737488355328 := (HF.out.hs j hjn).n
        go_wp2_with fail
        refine (looks_any (x.hs j).ob ah ch ki pr _ hns hpr).mono ?_
        rintro e wq ⟨rfl, hbq⟩
        have zq : wr.heap.size + 1 ≤ wq.heap.size := by have := hbq.size; simpa using this
        have bq : Below wr.heap.size wr wq := (below_alloc _ _).trans (hbq.mono (by simp))
        cases hlk : lkB (x.hs j).ob ki pr with
        | false =>
          have HSN := hid (seen_no (x := x.hs) (k := k) (by omega) hlk)
          have HBQ := hid bq
          clear hbq bq e0 e1 e2 e3 e4 e5 e6 e7 e8
          go_wp2
          go_roundw
          case rel => exact ⟨j + 1, by omega, by go_num, HNX.out.keep HBQ.out HSN.out⟩
          case measure => simp [intOf]; omega
        | true =>
          have HSY := hid (seen_yes (x := x.hs) (k := k) (by omega) hlk)
          rw [HLL.out] at HSY
          have m0 := (bq.cell (p := ⟨w.heap.size + 1 + 1 + 1, 0, none⟩) lb3).trans n0
          have m1 := (bq.cell (p := ⟨w.heap.size + 1 + 1 + 1, 1, none⟩) lb3).trans n2
          have m2 := (bq.cell (p := ⟨w.heap.size + 1 + 1 + 1, 2, none⟩) lb3).trans n3
          have mf : ∀ i, wq.frozen? ⟨w.heap.size + 1 + 1 + 1, i, none⟩ = false := fun i => (bq.frozen (p := ⟨w.heap.size + 1 + 1 + 1, i, none⟩) lb3).trans (nf i)
          have mf1 := mf 1
          have mf2 := mf 2
          have HM1 := hid ((bq.block (w.heap.size + 1 + 1 + 1) lb3).trans HN1.out)
          have HBDq := hid (HBD.out.grow bq)
          have s0 := (bq.cell (p := ⟨w.heap.size + 1 + 1, 0, none⟩) lb2).trans r0
          have s1 := (bq.cell (p := ⟨w.heap.size + 1 + 1, 1, none⟩) lb2).trans r1
          have s2 := (bq.cell (p := ⟨w.heap.size + 1 + 1, 2, none⟩) lb2).trans r2
          have sf : ∀ i, wq.frozen? ⟨w.heap.size + 1 + 1, i, none⟩ = false := fun i => (bq.frozen (p := ⟨w.heap.size + 1 + 1, i, none⟩) lb2).trans (rf i)
          have rv : RowF wq wr.heap.size 9 (vec [.int .i64 (x.hs j).ver, .bool (x.hs j).gone, .string (x.hs j).ob.kind, .string (x.hs j).ob.name, .int .i64 (x.hs j).ob.ver, .int .i64 (x.hs j).ob.born, .string (x.hs j).ob.text, .bool (x.hs j).ob.ending, .slice ah (x.hs j).ob.hn ch]) := RowF.new (w := wr) (l := [.int .i64 (x.hs j).ver, .bool (x.hs j).gone, .string (x.hs j).ob.kind, .string (x.hs j).ob.name, .int .i64 (x.hs j).ob.ver, .int .i64 (x.hs j).ob.born, .string (x.hs j).ob.text, .bool (x.hs j).ob.ending, .slice ah (x.hs j).ob.hn ch]) (t := 75) hbq
          have BQ := hid bq
          clear mf e0 e1 e2 e3 e4 e5 e6 e7 e8 p3 q0 q1 q2 r0 r1 r2 rf n0 n2 n3 nf bq hbq hle
          by_cases hfull : (nl : Int) = most
          · subst hfull
            obtain ⟨q, rfl⟩ : ∃ q, nl = q + 1 := ⟨nl - 1, by omega⟩
            obtain rfl := HCA.out.addr (by omega)
            obtain ⟨cf, r9, e9⟩ := HCA.out.row (by omega)
            have c9 : wq.cell? ⟨g, q * 9, none⟩ = some (.int .i64 (pick (fun i => x.hs (k + i)) L q).ver) := by
              rw [BQ.out.cell (p := ⟨g, q * 9, none⟩) r9.lt, r9.cell (q * 9) (by omega)]
              exact congrArg some (e9 q (by omega)).1
            have hgb : g ≠ w.heap.size + 1 + 1 + 1 := by
              obtain ⟨c0, rr, _⟩ := HBD.out.row
              have := (rr.lt g rfl).1
              omega
            have sf0 := sf 0
            have sf1 := sf 1
            have sf2 := sf 2
            clear r9 e9 sf rv
            have hq6 : q + 1 ≤ 1000000 := by omega
            have HMO := hid hmost
            clear hmost zl
            obtain ⟨r9, hr9⟩ := seen_pre (x := x.hs) (k := k) (n := x.hn) (ki := ki) (pr := pr) (j := j + 1 - k) (by omega)
            rw [show (List.range (j + 1 - k)).filter (fun i => lkB (x.hs (k + i)).ob ki pr) = L ++ [j - k] from HSY.out] at hr9
            have HL' := hid (show nwL x k ki pr ((q + 1 : Nat) : Int) = L from by unfold nwL; rw [hr9, show (((q + 1 : Nat) : Int)).toNat = L.length by rw [HNL.out]; rfl]; simp)
            have HF' := hid (show nwF x k ki pr ((q + 1 : Nat) : Int) = (pick (fun i => x.hs (k + i)) L q).ver from by
              have hn : ¬ (seen x.hs k x.hn ki pr).length ≤ (((q + 1 : Nat) : Int)).toNat := by rw [hr9, show (((q + 1 : Nat) : Int)).toNat = L.length by rw [HNL.out]; rfl]; simp
              unfold nwF
              rw [if_neg hn, HL'.out, HNL.out]
              rfl)
            clear hr9
            go_wp2
            have F7 : FrP (fun q => q = w.heap.size + 1 + 1 + 1) wq (wq.setCell ⟨w.heap.size + 1 + 1 + 1, 2, none⟩ (.int .i64 (pick (fun i => x.hs (k + i)) L q).ver)) := FrP.setCell (P := fun q => q = w.heap.size + 1 + 1 + 1) (FrP.refl _ _) (p := ⟨w.heap.size + 1 + 1 + 1, 2, none⟩) (by rfl) _
            obtain ⟨Y, hY, fY, y0, y1, y2⟩ := resFin (X := wq.setCell ⟨w.heap.size + 1 + 1 + 1, 2, none⟩ (.int .i64 (pick (fun i => x.hs (k + i)) L q).ver)) (rb := w.heap.size + 1 + 1) (v0 := .int .i64 0) (v1 := .slice (some ⟨g, 0, none⟩) (q + 1) cap) (v2 := .int .i64 (pick (fun i => x.hs (k + i)) L q).ver) ((World.cell?_setCell_other _ _ _ _ (by simp)).trans s0) ((World.cell?_setCell_other _ _ _ _ (by simp)).trans s1) ((World.cell?_setCell_other _ _ _ _ (by simp)).trans s2)
            have bY := ((hBr.trans (BQ.out.mono (by omega))).trans (F7.below (B := w.heap.size) (fun q hq e => by omega) (by omega))).trans (fY.below (B := w.heap.size) (fun q hq e => by omega) (by have := F7.size; omega))
            rw [hY]
            exact bodyPost_ret (v := .agg #[.int .i64 0, .slice (some ⟨g, 0, none⟩) (q + 1) cap, .int .i64 (pick (fun i => x.hs (k + i)) L q).ver]) (by simp [results, Tryz.results72, go_sem, y0, y1, y2]) rfl ⟨.slice (some ⟨g, 0, none⟩) (q + 1) cap, A, C, hb, by rw [HF'.out], by rw [HL'.out]; exact ((HBDq.out.fr F7 (fun q hq _ e => by omega)).fr fY (fun q hq _ e => by omega)).lower (by omega), bY⟩
          · have hmm : ¬ (nl : Int) = most := hfull
            have q0 := rv.cell 0 (by omega)
            have q1 := rv.cell 1 (by omega)
            have q2 := rv.cell 2 (by omega)
            have q3 := rv.cell 3 (by omega)
            have q4 := rv.cell 4 (by omega)
            have q5 := rv.cell 5 (by omega)
            have q6 := rv.cell 6 (by omega)
            have q7 := rv.cell 7 (by omega)
            have q8 := rv.cell 8 (by omega)
            simp only [vec, List.getD_cons_zero, List.getD_cons_succ] at q0 q1 q2 q3 q4 q5 q6 q7 q8
            have RVQ := hid rv
            clear rv s0 s1 s2 sf
            go_wp2_with fail
            refine (specOb_any (x.hs j).ob ah ch _ lo hi (by omega) (HF.out.hs j hjn).h ((HSX.out.below hBr hhi).below BQ.out (by omega))).mono ?_
            rintro e w1 ⟨ad', cap', rfl, hs1, hb1⟩
            obtain ⟨b', ho1, hl1⟩ := hs1.one
            have z1 := hb1.size
            have HO1 := hid ho1
            have HL1 : Hid ((x.hs j).ob.hn ≠ 0 → wq.heap.size ≤ b' ∧ b' < w1.heap.size) := fun h0 => by have := hl1 h0; simpa using this
            have rv := RVQ.out.fr (FrP.of_below (P := fun _ => False) hb1) (fun e => e)
            have q0 := rv.cell 0 (by omega)
            have q1 := rv.cell 1 (by omega)
            have q2 := rv.cell 2 (by omega)
            have q3 := rv.cell 3 (by omega)
            have q4 := rv.cell 4 (by omega)
            have q5 := rv.cell 5 (by omega)
            have q6 := rv.cell 6 (by omega)
            have q7 := rv.cell 7 (by omega)
            have q8 := rv.cell 8 (by omega)
            have qf := rv.free
            simp only [vec, List.getD_cons_zero, List.getD_cons_succ] at q0 q1 q2 q3 q4 q5 q6 q7 q8
            have bW : Below wr.heap.size wr w1 := BQ.out.trans (hb1.mono (by omega))
            obtain ⟨B9, hB9⟩ : ∃ B9, B9 = wr.heap.size := ⟨_, rfl⟩
            have zB9 : B9 ≤ wr.heap.size ∧ wr.heap.size ≤ B9 := by omega
            rw [← hB9] at q0 q1 q2 q3 q4 q5 q6 q7 q8 qf
            rw [← hB9]
            have n71 : w1.cell? ⟨w.heap.size + 1 + 1 + 1, 1, none⟩ = some (.slice ad nl cap) := (hb1.cell (p := ⟨w.heap.size + 1 + 1 + 1, 1, none⟩) (by show w.heap.size + 1 + 1 + 1 < _; omega)).trans m1
            have hBS : Below wr.heap.size wr (((((((w1.setCell ⟨B9, 2, none⟩ (.string (x.hs j).ob.kind)).setCell ⟨B9, 3, none⟩ (.string (x.hs j).ob.name)).setCell ⟨B9, 4, none⟩ (.int .i64 (x.hs j).ob.ver)).setCell ⟨B9, 5, none⟩ (.int .i64 (x.hs j).ob.born)).setCell ⟨B9, 6, none⟩ (.string (x.hs j).ob.text)).setCell ⟨B9, 7, none⟩ (.bool (x.hs j).ob.ending)).setCell ⟨B9, 8, none⟩ (.slice ad' (x.hs j).ob.hn cap')) := by
              iterate 7 refine Below.setCell ?_ (by show wr.heap.size ≤ B9; omega) _
              exact bW
            have zS : ((((((((w1.setCell ⟨B9, 2, none⟩ (.string (x.hs j).ob.kind)).setCell ⟨B9, 3, none⟩ (.string (x.hs j).ob.name)).setCell ⟨B9, 4, none⟩ (.int .i64 (x.hs j).ob.ver)).setCell ⟨B9, 5, none⟩ (.int .i64 (x.hs j).ob.born)).setCell ⟨B9, 6, none⟩ (.string (x.hs j).ob.text)).setCell ⟨B9, 7, none⟩ (.bool (x.hs j).ob.ending)).setCell ⟨B9, 8, none⟩ (.slice ad' (x.hs j).ob.hn cap'))).heap.size = w1.heap.size := by simp
            have hBS2 := hBS.alloc (by rw [zS]; omega) (.cells #[.int .i64 (x.hs j).ver, .bool (x.hs j).gone, .string (x.hs j).ob.kind, .string (x.hs j).ob.name, .int .i64 (x.hs j).ob.ver, .int .i64 (x.hs j).ob.born, .string (x.hs j).ob.text, .bool (x.hs j).ob.ending, .slice ad' (x.hs j).ob.hn cap'] 75)
            have BD1 := hid (HBD.out.grow hBS2)
            obtain ⟨c, hown, hat⟩ := BD1.out.row
            have HAT := hid hat
            have FS : FrP (fun q => q = B9) w1 (((((((w1.setCell ⟨B9, 2, none⟩ (.string (x.hs j).ob.kind)).setCell ⟨B9, 3, none⟩ (.string (x.hs j).ob.name)).setCell ⟨B9, 4, none⟩ (.int .i64 (x.hs j).ob.ver)).setCell ⟨B9, 5, none⟩ (.int .i64 (x.hs j).ob.born)).setCell ⟨B9, 6, none⟩ (.string (x.hs j).ob.text)).setCell ⟨B9, 7, none⟩ (.bool (x.hs j).ob.ending)).setCell ⟨B9, 8, none⟩ (.slice ad' (x.hs j).ob.hn cap')) := by
              iterate 7 refine FrP.setCell (P := fun q => q = B9) ?_ (by rfl) _
              exact FrP.refl _ _
            have HO2 := hid ((HO1.out.frP FS (fun h0 => ⟨by have := (HL1.out h0).1; omega, (HL1.out h0).2⟩)).frP (FrP.of_below (P := fun _ => False) (below_alloc (((((((w1.setCell ⟨B9, 2, none⟩ (.string (x.hs j).ob.kind)).setCell ⟨B9, 3, none⟩ (.string (x.hs j).ob.name)).setCell ⟨B9, 4, none⟩ (.int .i64 (x.hs j).ob.ver)).setCell ⟨B9, 5, none⟩ (.int .i64 (x.hs j).ob.born)).setCell ⟨B9, 6, none⟩ (.string (x.hs j).ob.text)).setCell ⟨B9, 7, none⟩ (.bool (x.hs j).ob.ending)).setCell ⟨B9, 8, none⟩ (.slice ad' (x.hs j).ob.hn cap')) (.cells #[.int .i64 (x.hs j).ver, .bool (x.hs j).gone, .string (x.hs j).ob.kind, .string (x.hs j).ob.name, .int .i64 (x.hs j).ob.ver, .int .i64 (x.hs j).ob.born, .string (x.hs j).ob.text, .bool (x.hs j).ob.ending, .slice ad' (x.hs j).ob.hn cap'] 75))) (fun h0 => ⟨fun h => h, by rw [zS]; exact (HL1.out h0).2⟩))
            have HBS2 := hid hBS2
            have hown' := hid hown
            have HB1 := hid hb1
            have HM7 := hid ((hBS2.block (w.heap.size + 1 + 1 + 1) lb3).trans HN1.out)
            have zL : L.length ≤ 200 := by have := HNL.out; omega
            have HZS := hid zS
            have HMM := hid hmm
            have HGR := hid (show ¬ (Value.slice ad nl cap).ownBlock = some (w.heap.size + 1 + 1 + 1) from fun e => by obtain ⟨c0, r0, _⟩ := HBD.out.row; have := (r0.lt _ e).1; omega)
            clear hat FS hBS hBS2 zS hown bW hb1 rv hs1 ho1 hl1 hB9 hmm hfull
            go_wp2_with (at_builtin; go_must (refine wpList_append_own_at _ rfl _ _ 29 rfl W0.heap.size 75 i0 _ 9 112 Tryz.underlying29 hi0 hz0 hz1 hz2 rfl (by decide) _ L.length (rowCells (L.length * 9) c) rfl hown'.out ⟨w1.heap.size, 0, none⟩ 1 1 [.int .i64 (x.hs j).ver, .bool (x.hs j).gone, .string (x.hs j).ob.kind, .string (x.hs j).ob.name, .int .i64 (x.hs j).ob.ver, .int .i64 (x.hs j).ob.born, .string (x.hs j).ob.text, .bool (x.hs j).ob.ending, .slice ad' (x.hs j).ob.hn cap'] rfl rfl (by have h := alloc_news (((((((w1.setCell ⟨B9, 2, none⟩ (.string (x.hs j).ob.kind)).setCell ⟨B9, 3, none⟩ (.string (x.hs j).ob.name)).setCell ⟨B9, 4, none⟩ (.int .i64 (x.hs j).ob.ver)).setCell ⟨B9, 5, none⟩ (.int .i64 (x.hs j).ob.born)).setCell ⟨B9, 6, none⟩ (.string (x.hs j).ob.text)).setCell ⟨B9, 7, none⟩ (.bool (x.hs j).ob.ending)).setCell ⟨B9, 8, none⟩ (.slice ad' (x.hs j).ob.hn cap')) [.int .i64 (x.hs j).ver, .bool (x.hs j).gone, .string (x.hs j).ob.kind, .string (x.hs j).ob.name, .int .i64 (x.hs j).ob.ver, .int .i64 (x.hs j).ob.born, .string (x.hs j).ob.text, .bool (x.hs j).ob.ending, .slice ad' (x.hs j).ob.hn cap'] 75; simpa using h) (by simp [Value.oneCell']) (by unfold maxLen; omega) (by omega) (by simp; omega) ?_; intro v' w2 hown2 hgrow2 hnil2 hat2; clear hnil2; obtain ⟨ad2, cap2, ev2⟩ := own_slice hown2; subst ev2; have HM8 := hid ((hgrow2.block (w.heap.size + 1 + 1 + 1) (Array.getElem?_eq_some_iff.1 HM7.out).1 (fun e => HGR.out e.symm)).trans HM7.out); have k1 : w2.cell? ⟨w.heap.size + 1 + 1 + 1, 1, none⟩ = some (.slice ad nl cap) := (by simp [World.cell?, HM8.out]); have kf : w2.frozen? ⟨w.heap.size + 1 + 1 + 1, 1, none⟩ = false := (by simp [World.frozen?, HM8.out])))
            have hkj : k + (j - k) = j := by omega
            have zg := hgrow2.size
            have z7 : w.heap.size + 1 + 1 + 1 < w2.heap.size := (Array.getElem?_eq_some_iff.1 HM8.out).1
            have zA : ((((((((w1.setCell ⟨B9, 2, none⟩ (.string (x.hs j).ob.kind)).setCell ⟨B9, 3, none⟩ (.string (x.hs j).ob.name)).setCell ⟨B9, 4, none⟩ (.int .i64 (x.hs j).ob.ver)).setCell ⟨B9, 5, none⟩ (.int .i64 (x.hs j).ob.born)).setCell ⟨B9, 6, none⟩ (.string (x.hs j).ob.text)).setCell ⟨B9, 7, none⟩ (.bool (x.hs j).ob.ending)).setCell ⟨B9, 8, none⟩ (.slice ad' (x.hs j).ob.hn cap'))).heap.size + 1 = w1.heap.size + 1 := by rw [HZS.out]
            have BD2 := hid (show BdCh w2 W0.heap.size (.slice ad2 (L.length + 1) cap2) (L ++ [j - k]).length (pick (fun i => x.hs (k + i)) (L ++ [j - k])) (updF A L.length ad') (updF C L.length cap') (updF hb L.length b') from by
              refine BdCh.push (x := fun i => x.hs (k + i)) (k := j - k) (cap' := cap') (ad' := ad') (b' := b') BD1.out HAT.out ?_ hgrow2 hat2 ?_ ?_ ?_ ?_
              · simp only [hkj]; exact hown2
              · simp only [hkj]; exact HO2.out
              · simp only [hkj]
                exact fun h0 => ⟨by have := (HL1.out h0).1; omega, by have := (HL1.out h0).2; rw [World.size_alloc, HZS.out]; omega⟩
              · simp only [hkj]
                intro h0 e
                obtain ⟨c0, r0, _⟩ := HBD.out.row
                have h1 := (r0.lt _ e).2
                have h2 := (HL1.out h0).1
                omega
              · simp only [hkj]
                intro i hi h0 h1 e
                have h2 := (HBD.out.hlt i hi h0).2
                have h3 := (HL1.out h1).1
                omega)
            have FG : FrP (fun q => q = w.heap.size + 1 + 1 + 1 ∨ W0.heap.size ≤ q) W0 w2 := (HFP.out.trans (FrP.of_below HBS2.out)).trans ((FrP.of_grown hgrow2).mono (fun q e => Or.inr (by obtain ⟨c0, r0, _⟩ := HBD.out.row; exact (r0.lt q e).1)))
            have FS7 : FrP (fun q => q = w.heap.size + 1 + 1 + 1) w2 (w2.setCell ⟨w.heap.size + 1 + 1 + 1, 1, none⟩ (.slice ad2 (L.length + 1) cap2)) := FrP.setCell (P := fun q => q = w.heap.size + 1 + 1 + 1) (FrP.refl _ _) (p := ⟨w.heap.size + 1 + 1 + 1, 1, none⟩) (by rfl) _
            refine ⟨⟨j + 1, by omega, by go_num, ?_⟩, by simp [intOf]; omega⟩
            unfold NxInv
            rw [HSY.out]
            refine ⟨by have := HLM.out; have := HNL.out; have := HMM.out; simp; omega, ⟨.slice ad2 (L.length + 1) cap2, _, _, _, ?_, BD2.out.fr FS7 (fun q hq _ e => by omega)⟩, FG.trans (FS7.mono (fun q e => Or.inl e))⟩
            rw [Go.Sort.setCell_eq]
            show (w2.heap.modify (w.heap.size + 1 + 1 + 1) _)[w.heap.size + 1 + 1 + 1]? = _
            rw [Array.getElem?_modify, if_pos rfl, HM8.out]
            rfl
    · obtain rfl : j = x.hn := by omega
      have HL' := hid (show nwL x k ki pr most = L from by unfold nwL; rw [HLL.out]; exact List.take_of_length_le (by have := HLM.out; have := HNL.out; omega))
      have HF' := hid (show nwF x k ki pr most = x.now from by unfold nwF; rw [HLL.out]; exact if_pos (by have := HLM.out; have := HNL.out; omega))
      have rf0 := rf 0
      have rf1 := rf 1
      have rf2 := rf 2
      clear rf
      go_wp2
      obtain ⟨Y, hY, fY, y0, y1, y2⟩ := resFin (v0 := .int .i64 0) (v1 := .slice ad nl cap) (v2 := .int .i64 x.now) r0 r1 r2
      have bY := hBr.trans (fY.below (B := w.heap.size) (fun q hq e => by omega) (by omega))
      rw [hY]
      exact bodyPost_ret (v := .agg #[.int .i64 0, .slice ad nl cap, .int .i64 x.now]) (by simp [results, Tryz.results72, go_sem, y0, y1, y2]) rfl ⟨.slice ad nl cap, A, C, hb, by rw [HF'.out], by rw [HL'.out]; exact (HBD.out.fr fY (fun q hq _ e => by omega)).lower (by omega), bY⟩
end Go.Proofs.YtkecnaaacbckoaaGreat
namespace Go.Proofs.YtkecnaaacbckoaaGreat
open Go.RowKit Go.Shelf
theorem bd_nil (w : World) (base : Nat) (y : Nat → Ch) : BdCh w base (.slice none 0 0) 0 y (fun _ => none) (fun _ => 0) (fun _ => 0) := ⟨⟨fun _ => .int .i64 0, World.ownsRow_nil _ _ _ _, fun _ hi' => absurd hi' (Nat.not_lt_zero _)⟩, fun _ hi' => absurd hi' (Nat.not_lt_zero _), fun _ hi' => absurd hi' (Nat.not_lt_zero _), fun _ hi' => absurd hi' (Nat.not_lt_zero _), fun _ _ hi' => absurd hi' (Nat.not_lt_zero _)⟩
def nwP (w w' : World) (B : Bk) (ki pr : ByteArray) (fr most : Int) (e : Ending) : Prop :=
  Below w.heap.size w w' ∧ ∃ v n y fv A C hb, e = .returned (.agg #[.int .i64 (nwC B fr most), v, .int .i64 fv]) ∧ BdCh w' w.heap.size v n y A C hb ∧ (nwC B fr most ≠ 0 → n = 0 ∧ fv = 0) ∧ (nwC B fr most = 0 → ∀ k : Nat, fr = B.floor + k → n = (nwL B k ki pr most).length ∧ y = pick (fun i => B.hs (k + i)) (nwL B k ki pr most) ∧ fv = nwF B k ki pr most)
set_option maxRecDepth 100000 in
set_option maxHeartbeats 4000000 in
theorem l6NextNo_any (x : Bk) (a1 a2 a3 : Option Addr) (c1 c2 c3 : Nat) (ki pr : ByteArray) (fr most : Int) (w : World) (hc : allTo (chk x) 7 = true) (hv : nwC x fr most ≠ 0) :
    Calls Tryz.prog 72 #[.agg #[.int .i64 x.now, .int .i64 x.floor, .slice a1 x.on c1, .slice a2 x.hn c2, .slice a3 x.tn c3], .agg #[.string ki, .string pr, .int .i64 fr], .int .i64 most] w fun e w' => e = .returned (.agg #[.int .i64 (nwC x fr most), .slice none 0 0, .int .i64 0]) ∧ Below w.heap.size w w' := by
  have hb3 : ∀ o1 o2 o3, Below w.heap.size w (((w.alloc o1).alloc o2).alloc o3) := fun o1 o2 o3 => ((below_alloc _ _).alloc (by simp) _).alloc (by simp; omega) _
  by_cases hm : most < 1
  · have hK : nwC x fr most = 1 := by simp [nwC, hc]; omega
    rw [hK]
    clear hv hK
    go_enter Tryz.func72, Tryz.ntmps72
    go_wp2
    exact bodyPost_ret (v := .agg #[.int .i64 1, .slice none 0 0, .int .i64 0]) (by simp [results, Tryz.results72, go_sem]) rfl ⟨rfl, hb3 _ _ _⟩
  cases hi2 : inB fr 0 x.now with
  | false =>
    have hK : nwC x fr most = 1 := by simp [nwC, hi2]
    rw [hK]
    clear hv hK
    go_enter Tryz.func72, Tryz.ntmps72
    go_wp2_with (go_at_call 55; go_must (refine (in_any fr 0 x.now _).mono ?_; rw [hi2]; rintro e w2 ⟨rfl, hw2⟩; replace hw2 := hw2.symm; subst hw2))
    exact bodyPost_ret (v := .agg #[.int .i64 1, .slice none 0 0, .int .i64 0]) (by simp [results, Tryz.results72, go_sem]) rfl ⟨rfl, hb3 _ _ _⟩
  | true =>
    have hf : fr < x.floor := Decidable.byContradiction fun h => hv (by simp [nwC, hc, hi2, h]; omega)
    have hK : nwC x fr most = 2 := by simp [nwC, hc, hi2, hf]; omega
    rw [hK]
    clear hv hK
    go_enter Tryz.func72, Tryz.ntmps72
    go_wp2_with (go_at_call 55; go_must (refine (in_any fr 0 x.now _).mono ?_; rw [hi2]; rintro e w2 ⟨rfl, hw2⟩; replace hw2 := hw2.symm; subst hw2))
    exact bodyPost_ret (v := .agg #[.int .i64 2, .slice none 0 0, .int .i64 0]) (by simp [results, Tryz.results72, go_sem]) rfl ⟨rfl, hb3 _ _ _⟩
set_option maxRecDepth 100000 in
set_option maxHeartbeats 4000000 in
/-- spec's BookNext -/
theorem specNext_any (x : Bk) (a1 a2 a3 : Option Addr) (c1 c2 c3 : Nat) (ki pr : ByteArray) (fr most : Int) (w : World) (lo hi : Nat) (hhi : hi ≤ w.heap.size) (hfit : BkFit x) (hin : BkIn w lo hi x a1 a2 a3) (hpr : (pr.size : Int) ≤ 140737488355328) :
    Calls Tryz.prog 21 #[.agg #[.int .i64 x.now, .int .i64 x.floor, .slice a1 x.on c1, .slice a2 x.hn c2, .slice a3 x.tn c3], .agg #[.string ki, .string pr, .int .i64 fr], .int .i64 most] w fun e w' => nwP w w' x ki pr fr most e := by
  have HIN := hid hin
  clear hin
  have hb3 : ∀ o1 o2 o3, Below w.heap.size w (((w.alloc o1).alloc o2).alloc o3) := fun o1 o2 o3 => ((below_alloc _ _).alloc (by simp) _).alloc (by simp; omega) _
  cases hc : allTo (chk x) 7 with
  | false =>
    have hK : nwC x fr most = 1 := by simp [nwC, hc]
    go_enter Tryz.func21, Tryz.ntmps21
    have HK := hid hK
    clear hK
    go_wp2_with (go_at_call 39; go_must (refine (specValid_any x a1 a2 a3 c1 c2 c3 _ lo hi (by simp; omega) hfit (HIN.out.below (hb3 _ _ _) hhi)).mono ?_; rw [hc]; rintro e w1 ⟨rfl, hb1⟩; obtain ⟨A0, A1, A2, _, F2⟩ := three_cell hb1; have p0 := A0 0; have p1 := A0 1; have p2 := A0 2; have p3 := A0 3; have p4 := A0 4; have q0 := A1 0; have q1 := A1 1; have q2 := A1 2; have r0 := A2 0; have r1 := A2 1; have r2 := A2 2; have f0 := F2 0; have f1 := F2 1; have f2 := F2 2; simp only [List.getElem?_toArray, List.getElem?_cons_succ, List.getElem?_cons_zero] at p0 p1 p2 p3 p4 q0 q1 q2 r0 r1 r2; clear A0 A1 A2 F2))
    obtain ⟨Y, hY, fY, y0, y1, y2⟩ := resFin (v0 := .int .i64 1) (v1 := .slice none 0 0) (v2 := .int .i64 0) r0 r1 r2
    have z1 : w.heap.size + 3 ≤ w1.heap.size := by have := hb1.size; simp at this; omega
    have bY := ((hb3 _ _ _).trans (hb1.mono (by simp; omega))).trans (fY.below (B := w.heap.size) (fun q hq e => by omega) (by omega))
    rw [hY]
    refine bodyPost_ret (v := .agg #[.int .i64 1, .slice none 0 0, .int .i64 0]) (by simp [results, Tryz.results21, go_sem, y0, y1, y2]) rfl ⟨bY, .slice none 0 0, 0, fun _ => x.hs 0, 0, fun _ => none, fun _ => 0, fun _ => 0, by rw [HK.out], bd_nil _ _ _, fun _ => ⟨rfl, rfl⟩, fun h => by rw [HK.out] at h; cases h⟩
  | true =>
    obtain ⟨v0, v1, v2, v3, v4, v5⟩ := valid_hist hc
    clear v5
    by_cases hK : nwC x fr most = 0
    · have hx : 1 ≤ most ∧ inB fr 0 x.now = true ∧ ¬ fr < x.floor := by
        unfold nwC at hK
        rw [hc] at hK
        by_cases h1 : 1 ≤ most
        · cases h2 : inB fr 0 x.now with
          | false => simp [h1, h2] at hK
          | true =>
            refine ⟨h1, rfl, fun h3 => ?_⟩
            simp [h1, h2, h3] at hK
        · simp [h1] at hK
      obtain ⟨h1, h2, h3⟩ := hx
      have h4 : 0 ≤ fr ∧ fr ≤ x.now := by simpa [inB] using h2
      obtain ⟨k, hk⟩ : ∃ k : Nat, fr = x.floor + k := ⟨(fr - x.floor).toNat, by omega⟩
      have hkn : k ≤ x.hn := by omega
      have HKK := hid hk
      have HK := hid hK
      have HV4 := hid v4
      clear hK h2 h3 h4 hk v4
      go_enter Tryz.func21, Tryz.ntmps21
      go_wp2_with (go_at_call 39; go_must (refine (specValid_any x a1 a2 a3 c1 c2 c3 _ lo hi (by simp; omega) hfit (HIN.out.below (hb3 _ _ _) hhi)).mono ?_; rw [hc]; rintro e w1 ⟨rfl, hb1⟩; obtain ⟨A0, A1, A2, _, F2⟩ := three_cell hb1; have p0 := A0 0; have p1 := A0 1; have p2 := A0 2; have p3 := A0 3; have p4 := A0 4; have q0 := A1 0; have q1 := A1 1; have q2 := A1 2; have r0 := A2 0; have r1 := A2 1; have r2 := A2 2; have f0 := F2 0; have f1 := F2 1; have f2 := F2 2; simp only [List.getElem?_toArray, List.getElem?_cons_succ, List.getElem?_cons_zero] at p0 p1 p2 p3 p4 q0 q1 q2 r0 r1 r2; clear A0 A1 A2 F2))
      refine (l6NextYes_any x a1 a2 a3 c1 c2 c3 ki pr fr most k w1 lo hi (by have := hb1.size; simp at this; omega) hfit (HIN.out.below ((hb3 _ _ _).trans (hb1.mono (by simp; omega))) hhi) hc hkn HKK.out h1 hpr).mono ?_
      rintro e w2 ⟨v, A, C, hb, rfl, bd, hb2⟩
      have z1 : w.heap.size + 3 ≤ w1.heap.size := by have := hb1.size; simp at this; omega
      have z2 := hb2.size
      have g0 := (hb2.cell (p := ⟨w.heap.size + 1 + 1, 0, none⟩) (by show w.heap.size + 1 + 1 < _; omega)).trans r0
      have g1 := (hb2.cell (p := ⟨w.heap.size + 1 + 1, 1, none⟩) (by show w.heap.size + 1 + 1 < _; omega)).trans r1
      have g2 := (hb2.cell (p := ⟨w.heap.size + 1 + 1, 2, none⟩) (by show w.heap.size + 1 + 1 < _; omega)).trans r2
      have k0 := (hb2.frozen (p := ⟨w.heap.size + 1 + 1, 0, none⟩) (by show w.heap.size + 1 + 1 < _; omega)).trans f0
      have k1 := (hb2.frozen (p := ⟨w.heap.size + 1 + 1, 1, none⟩) (by show w.heap.size + 1 + 1 < _; omega)).trans f1
      have k2 := (hb2.frozen (p := ⟨w.heap.size + 1 + 1, 2, none⟩) (by show w.heap.size + 1 + 1 < _; omega)).trans f2
      obtain ⟨ad, cap, g, ev, _, _⟩ := bd.done
      obtain ⟨nl, hnl⟩ : ∃ nl, (nwL x k ki pr most).length = nl := ⟨_, rfl⟩
      rw [hnl] at ev
      subst ev
      have HBD := hid bd
      have HNL := hid hnl
      have HB2 := hid hb2
      have HB1 := hid hb1
      clear bd hnl hb2 hb1 p0 p1 p2 p3 p4 q0 q1 q2 r0 r1 r2 f0 f1 f2
      go_wp2
      obtain ⟨Y, hY, fY, y0, y1, y2⟩ := resFin (v0 := .int .i64 0) (v1 := .slice ad nl cap) (v2 := .int .i64 (nwF x k ki pr most)) g0 g1 g2
      have bY := (((hb3 _ _ _).trans (HB1.out.mono (by simp; omega))).trans (HB2.out.mono (by omega))).trans (fY.below (B := w.heap.size) (fun q hq e => by omega) (by omega))
      rw [hY]
      refine bodyPost_ret (v := .agg #[.int .i64 0, .slice ad nl cap, .int .i64 (nwF x k ki pr most)]) (by simp [results, Tryz.results21, go_sem, y0, y1, y2]) rfl ⟨bY, .slice ad nl cap, (nwL x k ki pr most).length, pick (fun i => x.hs (k + i)) (nwL x k ki pr most), nwF x k ki pr most, A, C, hb, by rw [HK.out], (HBD.out.fr fY (fun q hq _ e => by omega)).lower (by omega), fun h => absurd HK.out h, fun _ k' hk' => ?_⟩
      obtain rfl : k' = k := by have := HKK.out; omega
      exact ⟨rfl, rfl, rfl⟩
    · have HK := hid hK
      obtain ⟨cd, hcd⟩ : ∃ cd, nwC x fr most = cd := ⟨_, rfl⟩
      have HCD := hid hcd
      clear hK hcd v4
      go_enter Tryz.func21, Tryz.ntmps21
      go_wp2_with (go_at_call 39; go_must (refine (specValid_any x a1 a2 a3 c1 c2 c3 _ lo hi (by simp; omega) hfit (HIN.out.below (hb3 _ _ _) hhi)).mono ?_; rw [hc]; rintro e w1 ⟨rfl, hb1⟩; obtain ⟨A0, A1, A2, _, F2⟩ := three_cell hb1; have p0 := A0 0; have p1 := A0 1; have p2 := A0 2; have p3 := A0 3; have p4 := A0 4; have q0 := A1 0; have q1 := A1 1; have q2 := A1 2; have r0 := A2 0; have r1 := A2 1; have r2 := A2 2; have f0 := F2 0; have f1 := F2 1; have f2 := F2 2; simp only [List.getElem?_toArray, List.getElem?_cons_succ, List.getElem?_cons_zero] at p0 p1 p2 p3 p4 q0 q1 q2 r0 r1 r2; clear A0 A1 A2 F2))
      refine (l6NextNo_any x a1 a2 a3 c1 c2 c3 ki pr fr most w1 hc HK.out).mono ?_
      rw [HCD.out]
      rintro e w2 ⟨rfl, hb2⟩
      have z1 : w.heap.size + 3 ≤ w1.heap.size := by have := hb1.size; simp at this; omega
      have z2 := hb2.size
      have g0 := (hb2.cell (p := ⟨w.heap.size + 1 + 1, 0, none⟩) (by show w.heap.size + 1 + 1 < _; omega)).trans r0
      have g1 := (hb2.cell (p := ⟨w.heap.size + 1 + 1, 1, none⟩) (by show w.heap.size + 1 + 1 < _; omega)).trans r1
      have g2 := (hb2.cell (p := ⟨w.heap.size + 1 + 1, 2, none⟩) (by show w.heap.size + 1 + 1 < _; omega)).trans r2
      have k0 := (hb2.frozen (p := ⟨w.heap.size + 1 + 1, 0, none⟩) (by show w.heap.size + 1 + 1 < _; omega)).trans f0
      have k1 := (hb2.frozen (p := ⟨w.heap.size + 1 + 1, 1, none⟩) (by show w.heap.size + 1 + 1 < _; omega)).trans f1
      have k2 := (hb2.frozen (p := ⟨w.heap.size + 1 + 1, 2, none⟩) (by show w.heap.size + 1 + 1 < _; omega)).trans f2
      have HB2 := hid hb2
      have HB1 := hid hb1
      clear hb2 hb1 p0 p1 p2 p3 p4 q0 q1 q2 r0 r1 r2 f0 f1 f2
      go_wp2
      obtain ⟨Y, hY, fY, y0, y1, y2⟩ := resFin (v0 := .int .i64 cd) (v1 := .slice none 0 0) (v2 := .int .i64 0) g0 g1 g2
      have bY := (((hb3 _ _ _).trans (HB1.out.mono (by simp; omega))).trans (HB2.out.mono (by omega))).trans (fY.below (B := w.heap.size) (fun q hq e => by omega) (by omega))
      rw [hY]
      exact bodyPost_ret (v := .agg #[.int .i64 cd, .slice none 0 0, .int .i64 0]) (by simp [results, Tryz.results21, go_sem, y0, y1, y2]) rfl ⟨bY, .slice none 0 0, 0, fun _ => x.hs 0, 0, fun _ => none, fun _ => 0, fun _ => 0, by rw [HCD.out], bd_nil _ _ _, fun _ => ⟨rfl, rfl⟩, fun h => absurd h HK.out⟩
end Go.Proofs.YtkecnaaacbckoaaGreat
namespace Go.Proofs.YtkecnaaacbckoaaGreat
open Go.RowKit Go.Shelf
theorem nwC_zero {x : Bk} {fr most : Int} (hK : nwC x fr most = 0) : allTo (chk x) 7 = true ∧ 1 ≤ most ∧ ∃ k : Nat, fr = x.floor + k ∧ k ≤ x.hn := by
  unfold nwC at hK
  cases hc : allTo (chk x) 7 with
  | false => simp [hc] at hK
  | true =>
    obtain ⟨v0, v1, v2, v3, v4, v5⟩ := valid_hist hc
    rw [hc] at hK
    by_cases h1 : 1 ≤ most
    · cases h2 : inB fr 0 x.now with
      | false => simp [h1, h2] at hK
      | true =>
        have h3 : ¬ fr < x.floor := fun h3 => by simp [h1, h2, h3] at hK
        have h4 : 0 ≤ fr ∧ fr ≤ x.now := by simpa [inB] using h2
        exact ⟨rfl, h1, (fr - x.floor).toNat, by omega, by omega⟩
    · simp [h1] at hK
/-- impl's BookNext -/
theorem implNext_in (F : Fence) (m : Nat) (hcv : ∀ (k f : Nat) (args : Array Value) (w : World) (R : Ending → World → Prop), Calls Tryz.prog f args w R → CallsIn F k Tryz.prog f args w R) (hall : ∀ f, F.fn f) (hro : F.round = none) (hm : 8 ≤ m) (hdp : F.depth = none)
    (hPl : ∀ (q : Nat) (R : Nat) (v : Int) (w : World), 0 ≤ v → v ≤ 1000000 → CallsIn F q Tryz.prog 102 #[.pointer (some ⟨R, 0, none⟩), .int .i64 v] w fun e w' => e = .returned (.pointer (some ⟨R, (v % 200).toNat * 9, none⟩)) ∧ w' = w)
    (B : Bk) (p : Pl) (c1 c2 c3 : Nat) (ki pr : ByteArray) (fr most : Int) (w : World) (hfit : BkFit B) (hat : BkAt w B p) (hpr : (pr.size : Int) ≤ 140737488355328) :
    CallsIn F m Tryz.prog 23 #[.agg #[.int .i64 B.now, .int .i64 B.floor, .slice p.a1 B.on c1, .slice p.a2 B.hn c2, .slice p.a3 B.tn c3], .agg #[.string ki, .string pr, .int .i64 fr], .int .i64 most] w fun e w' => nwP w w' B ki pr fr most e := by
  by_cases hK : nwC B fr most = 0
  · obtain ⟨hv, h1, k, hk, hkn⟩ := nwC_zero hK
    refine (implNextYes_in F m hcv hall hro hm hdp hPl B p c1 c2 c3 ki pr fr most k w hfit hat hv hkn hk h1 hpr).mono ?_
    rintro e w' ⟨v, A, C, hb, rfl, bd, hb2⟩
    refine ⟨hb2, v, _, _, _, A, C, hb, by rw [hK], bd, fun h => absurd hK h, fun _ k' hk' => ?_⟩
    obtain rfl : k' = k := by omega
    exact ⟨rfl, rfl, rfl⟩
  · refine (hcv _ _ _ _ _ (implNextNo_any B p.a1 p.a2 p.a3 c1 c2 c3 ki pr fr most w 0 w.heap.size (Nat.le_refl _) hfit (hat.isIn (lo := 0) (fun _ _ => Nat.zero_le _)) hK)).mono ?_
    rintro e w' ⟨rfl, hb2⟩
    exact ⟨hb2, .slice none 0 0, 0, fun _ => B.hs 0, 0, fun _ => none, fun _ => 0, fun _ => 0, rfl, bd_nil _ _ _, fun _ => ⟨rfl, rfl⟩, fun h => absurd h hK⟩
end Go.Proofs.YtkecnaaacbckoaaGreat
