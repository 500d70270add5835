import Derived.Test.YtipdnhgdaiimlaaRc
import Derived.Test.YtipdnhgdaiimlaaE
namespace Go.Proofs.Ytipdnhgdaiimlaa
open Go.RowKit
theorem SlsAt.isIn {w : World} {ad : Option Addr} {g n : Nat} {x : Nat → Sl} (h : SlsAt w ad g n x) {lo hi : Nat} (hlo : n ≠ 0 → lo ≤ g ∧ g < hi) : SlsIn w lo hi ad n x := fun i hi' => by
  obtain ⟨c, r, a⟩ := h.row (by omega)
  obtain ⟨a0, a1⟩ := a i hi'
  have := hlo (by omega)
  exact ⟨g, 0, h.addr (by omega), this.1, this.2, ⟨by rw [Nat.zero_add]; exact (r.cell _ (by omega)).trans (congrArg some a0), by rw [Nat.zero_add]; exact (r.cell _ (by omega)).trans (congrArg some a1)⟩⟩
theorem SlsAt.ofOwn {w : World} {g n : Nat} {x : Nat → Sl} (h : SlsOwnAt w g n n x) : SlsAt w (some ⟨g, 0, none⟩) g n x :=
  ⟨fun _ => rfl, fun _ => ⟨slC x, ⟨h.room.lt, fun j => h.room.free j, fun j hj => by
    have e := h.at_ (j / 2) (by omega)
    unfold slC
    split
    · rw [show j = j / 2 * 2 by omega, show j / 2 * 2 / 2 = j / 2 by omega]; exact e.c0
    · rw [show j = j / 2 * 2 + 1 by omega, show (j / 2 * 2 + 1) / 2 = j / 2 by omega]; exact e.c1⟩, fun i _ => slC_at x i⟩⟩
structure MS (W : World) (S na nb m : Nat) (x y O X Y G : Nat → Sl) (ad ad2 aw ag : Option Addr) (gw g0 g1 gg : Nat) : Prop where
  a1 : SlsIn W 0 S ad na x
  a2 : SlsIn W 0 S ad2 nb y
  ow : SlsAt W aw gw m O
  ox : SlsAt W (some ⟨g0, 0, none⟩) g0 na X
  oy : SlsAt W (some ⟨g1, 0, none⟩) g1 nb Y
  og : SlsAt W ag gg m G
  lw : m ≠ 0 → S ≤ gw ∧ gw < g0
  lo : S ≤ g0 ∧ g0 < g1 ∧ g1 < W.heap.size
  lg : m ≠ 0 → g1 < gg ∧ gg < W.heap.size
section
variable {W W' : World} {S na nb m : Nat} {x y O X Y G : Nat → Sl} {ad ad2 aw ag : Option Addr} {gw g0 g1 gg : Nat}
theorem MS.below (h : MS W S na nb m x y O X Y G ad ad2 aw ag gw g0 g1 gg) (hb : Below W.heap.size W W') : MS W' S na nb m x y O X Y G ad ad2 aw ag gw g0 g1 gg := by
  obtain ⟨o1, o2, o3⟩ := h.lo
  have z := hb.size
  exact ⟨h.a1.below hb (by omega), h.a2.below hb (by omega), h.ow.grow hb, h.ox.grow hb, h.oy.grow hb, h.og.grow hb, h.lw, ⟨o1, o2, by omega⟩, fun h0 => ⟨(h.lg h0).1, by have := (h.lg h0).2; omega⟩⟩
theorem MS.low (h : MS W S na nb m x y O X Y G ad ad2 aw ag gw g0 g1 gg) {P : Nat → Prop} (hf : FrP P W W') (hp : ∀ k, k < S → ¬ P k) : Below S W W' := by
  obtain ⟨o1, o2, o3⟩ := h.lo
  exact hf.below (B := S) hp (by omega)
theorem MS.markX (h : MS W S na nb m x y O X Y G ad ad2 aw ag gw g0 g1 gg) {X' : Nat → Sl} (hx : SlsAt W' (some ⟨g0, 0, none⟩) g0 na X') (hf : FrP (fun q => na ≠ 0 ∧ q = g0) W W') : MS W' S na nb m x y O X' Y G ad ad2 aw ag gw g0 g1 gg := by
  obtain ⟨o1, o2, o3⟩ := h.lo
  have z := hf.size
  have hb := h.low hf (fun k hk e => by omega)
  exact ⟨h.a1.below hb (by omega), h.a2.below hb (by omega), h.ow.frP hf (fun h0 => by have := h.lw h0; omega), hx, h.oy.frP hf (fun h0 => by omega), h.og.frP hf (fun h0 => by have := h.lg h0; omega), h.lw, ⟨o1, o2, by omega⟩, fun h0 => ⟨(h.lg h0).1, by have := (h.lg h0).2; omega⟩⟩
theorem MS.markY (h : MS W S na nb m x y O X Y G ad ad2 aw ag gw g0 g1 gg) {Y' : Nat → Sl} (hx : SlsAt W' (some ⟨g1, 0, none⟩) g1 nb Y') (hf : FrP (fun q => nb ≠ 0 ∧ q = g1) W W') : MS W' S na nb m x y O X Y' G ad ad2 aw ag gw g0 g1 gg := by
  obtain ⟨o1, o2, o3⟩ := h.lo
  have z := hf.size
  have hb := h.low hf (fun k hk e => by omega)
  exact ⟨h.a1.below hb (by omega), h.a2.below hb (by omega), h.ow.frP hf (fun h0 => by have := h.lw h0; omega), h.ox.frP hf (fun h0 => by omega), hx, h.og.frP hf (fun h0 => by have := h.lg h0; omega), h.lw, ⟨o1, o2, by omega⟩, fun h0 => ⟨(h.lg h0).1, by have := (h.lg h0).2; omega⟩⟩
theorem MS.markG (h : MS W S na nb m x y O X Y G ad ad2 aw ag gw g0 g1 gg) {G' : Nat → Sl} (hx : SlsAt W' ag gg m G') (hf : FrP (fun q => m ≠ 0 ∧ q = gg) W W') : MS W' S na nb m x y O X Y G' ad ad2 aw ag gw g0 g1 gg := by
  obtain ⟨o1, o2, o3⟩ := h.lo
  have z := hf.size
  have hb := h.low hf (fun k hk e => by have := h.lg e.1; omega)
  exact ⟨h.a1.below hb (by omega), h.a2.below hb (by omega), h.ow.frP hf (fun h0 => by have := h.lw h0; have := h.lg h0; omega), h.ox.frP hf (fun h0 => by refine ⟨fun e => ?_, by omega⟩; have := h.lg e.1; omega), h.oy.frP hf (fun h0 => by refine ⟨fun e => ?_, by omega⟩; have := h.lg e.1; omega), hx, h.lw, ⟨o1, o2, by omega⟩, fun h0 => ⟨(h.lg h0).1, by have := (h.lg h0).2; omega⟩⟩
theorem MS.iw (h : MS W S na nb m x y O X Y G ad ad2 aw ag gw g0 g1 gg) : SlsIn W 0 W.heap.size aw m O := h.ow.isIn (fun h0 => by have := h.lw h0; have := h.lo; omega)
theorem MS.ix (h : MS W S na nb m x y O X Y G ad ad2 aw ag gw g0 g1 gg) : SlsIn W 0 W.heap.size (some ⟨g0, 0, none⟩) na X := h.ox.isIn (fun h0 => by have := h.lo; omega)
theorem MS.iy (h : MS W S na nb m x y O X Y G ad ad2 aw ag gw g0 g1 gg) : SlsIn W 0 W.heap.size (some ⟨g1, 0, none⟩) nb Y := h.oy.isIn (fun h0 => by have := h.lo; omega)
theorem MS.ig (h : MS W S na nb m x y O X Y G ad ad2 aw ag gw g0 g1 gg) : SlsIn W 0 W.heap.size ag m G := h.og.isIn (fun h0 => by have := h.lg h0; omega)
end
theorem implM {na nb m : Nat} {x y O : Nat → Sl} (hm : max na nb = m) (hO : mgS na x nb y = O) (ba oa ca bb ob cb : Nat) (w : World) (lo hi : Nat) (hhi : hi ≤ w.heap.size) (hla : (na : Int) ≤ 1048576) (hlb : (nb : Int) ≤ 1048576) (hca : na ≤ ca) (hcb : nb ≤ cb) (hx : SlsIn w lo hi (some ⟨ba, oa, none⟩) na x) (hy : SlsIn w lo hi (some ⟨bb, ob, none⟩) nb y) :
    Calls Try.prog 16 #[.slice (some ⟨ba, oa, none⟩) na ca, .slice (some ⟨bb, ob, none⟩) nb cb] w fun e w' => ∃ ad' cap' g, e = .returned (.slice ad' m cap') ∧ SlsAt w' ad' g m O ∧ w.heap.size ≤ g ∧ (m ≠ 0 → g < w'.heap.size) ∧ Below w.heap.size w w' := by
  subst hm hO
  exact implMerge_any na nb x y ba oa ca bb ob cb w lo hi hhi hla hlb hca hcb hx hy
theorem specM {na nb m : Nat} {x y O : Nat → Sl} (hm : max na nb = m) (hO : mgS na x nb y = O) (ba oa ca bb ob cb : Nat) (w : World) (lo hi : Nat) (hhi : hi ≤ w.heap.size) (hla : (na : Int) ≤ 1048576) (hlb : (nb : Int) ≤ 1048576) (hca : na ≤ ca) (hcb : nb ≤ cb) (hx : SlsIn w lo hi (some ⟨ba, oa, none⟩) na x) (hy : SlsIn w lo hi (some ⟨bb, ob, none⟩) nb y) :
    Calls Try.prog 14 #[.slice (some ⟨ba, oa, none⟩) na ca, .slice (some ⟨bb, ob, none⟩) nb cb] w fun e w' => ∃ ad' cap' g, e = .returned (.slice ad' m cap') ∧ SlsAt w' ad' g m O ∧ w.heap.size ≤ g ∧ (m ≠ 0 → g < w'.heap.size) ∧ Below w.heap.size w w' := by
  subst hm hO
  exact specMerge_any na nb x y ba oa ca bb ob cb w lo hi hhi hla hlb hca hcb hx hy
set_option maxRecDepth 100000 in
set_option maxHeartbeats 8000000 in
theorem merge_law (na nb : Nat) (x y : Nat → Sl) (ad ad2 : Option Addr) (cap cap2 : Nat) (w : World) (hl : (na : Int) ≤ 8796093022208) (hl2 : (nb : Int) ≤ 8796093022208) (hfx : ∀ i, i < na → SlFit (x i)) (hfy : ∀ i, i < nb → SlFit (y i)) (hc : SlsIn w 0 w.heap.size ad na x) (hc2 : SlsIn w 0 w.heap.size ad2 nb y) :
    Calls Try.prog 4 #[.slice ad na cap, .slice ad2 nb cap2] w fun e w' => e = .returned (.bool true) ∧ Below w.heap.size w w' := by
  go_enter Try.func4, Try.ntmps4
  go_wp2_with fail
  refine (szSls_any na x ad cap 1048576 w 0 w.heap.size (Nat.le_refl _) hl (by omega) (by omega) hfx hc).mono ?_
  rintro e w1 ⟨rfl, b1⟩
  have z1 := b1.size
  by_cases hsz : szOut 1048576 (szSls na x) < 0
  · go_wp2
    go_ret
    exact ⟨rfl, b1⟩
  have hs1 := (szOut_ge (l := 1048576) (s := szSls na x) (by omega))
  obtain ⟨l1, hl1⟩ : ∃ l1, szOut 1048576 (szSls na x) = l1 := ⟨_, rfl⟩
  rw [hl1] at hs1 hsz ⊢
  have q1 : (na : Int) ≤ 1048576 := by have := hs1.1; unfold szSls at this; omega
  have q2 : 0 ≤ l1 := by omega
  have q3 : l1 ≤ 1048576 := by omega
  clear hl1 hs1 hsz
  go_wp2_with fail
  refine (szSls_any nb y ad2 cap2 l1 w1 0 w.heap.size z1 hl2 q2 q3 hfy (hc2.below b1 (Nat.le_refl _))).mono ?_
  rintro e w2 ⟨rfl, hb2⟩
  have b2 := b1.trans (hb2.mono z1)
  have z2 := b2.size
  clear hb2
  by_cases hsz : szOut l1 (szSls nb y) < 0
  · go_wp2
    go_ret
    exact ⟨rfl, b2⟩
  have hs2 := (szOut_ge (l := l1) (s := szSls nb y) (by omega))
  obtain ⟨l2, hl2e⟩ : ∃ l2, szOut l1 (szSls nb y) = l2 := ⟨_, rfl⟩
  rw [hl2e] at hs2 hsz ⊢
  have q4 : (nb : Int) ≤ 1048576 := by have := hs2.1; unfold szSls at this; omega
  have q5 : 0 ≤ l2 := by omega
  clear hl2e hs2 hsz
  obtain ⟨m, hm⟩ : ∃ m, max na nb = m := ⟨_, rfl⟩
  obtain ⟨O, hO⟩ : ∃ O, mgS na x nb y = O := ⟨_, rfl⟩
  have q6 : (m : Int) ≤ 1048576 := by omega
  go_wp2_with fail
  refine (toSls_any na x ad cap w2 0 w.heap.size z2 (by omega) (hc.below b2 (Nat.le_refl _))).mono ?_
  rintro e w3 ⟨rfl, o3, h3⟩
  have s3 := h3.size
  have r3 := o3.room.lt
  have b3 := b2.trans (h3.mono z2)
  have z3 := b3.size
  go_wp2_with fail
  refine (toSls_any nb y ad2 cap2 w3 0 w.heap.size z3 (by omega) (hc2.below b3 (Nat.le_refl _))).mono ?_
  rintro e w4 ⟨rfl, o4, h4⟩
  have s4 := h4.size
  have r4 := o4.room.lt
  have b4 := b3.trans (h4.mono z3)
  have z4 := b4.size
  go_wp2_with fail
  refine (specM hm hO w2.heap.size 0 na w3.heap.size 0 nb w4 0 w4.heap.size (Nat.le_refl _) q1 q4 (Nat.le_refl _) (Nat.le_refl _) ((o3.isIn (Nat.zero_le _) r3).below h4 (Nat.le_refl _) |>.mono (Nat.le_refl _) s4) (o4.isIn (Nat.zero_le _) r4)).mono ?_
  rintro e w5 ⟨aw, cw, gw, rfl, ow5, lw5, lw5b, h5⟩
  have s5 := h5.size
  have b5 := b4.trans (h5.mono z4)
  have z5 := b5.size
  clear o3 o4 h3 h4 r3 r4 h5
  go_wp2_with fail
  refine (toSls_any na x ad cap w5 0 w.heap.size z5 (by omega) (hc.below b5 (Nat.le_refl _))).mono ?_
  rintro e w6 ⟨rfl, o6, h6⟩
  have s6 := h6.size
  have r6 := o6.room.lt
  have b6 := b5.trans (h6.mono z5)
  have z6 := b6.size
  go_wp2_with fail
  refine (toSls_any nb y ad2 cap2 w6 0 w.heap.size z6 (by omega) (hc2.below b6 (Nat.le_refl _))).mono ?_
  rintro e w7 ⟨rfl, o7, h7⟩
  have s7 := h7.size
  have r7 := o7.room.lt
  have b7 := b6.trans (h7.mono z6)
  have z7 := b7.size
  go_wp2_with fail
  refine (implM hm hO w5.heap.size 0 na w6.heap.size 0 nb w7 0 w7.heap.size (Nat.le_refl _) q1 q4 (Nat.le_refl _) (Nat.le_refl _) ((o6.isIn (Nat.zero_le _) r6).below h7 (Nat.le_refl _) |>.mono (Nat.le_refl _) s7) (o7.isIn (Nat.zero_le _) r7)).mono ?_
  rintro e w8 ⟨ag, cg, gg, rfl, og8, lg8, lg8b, h8⟩
  have s8 := h8.size
  have b8 := b7.trans (h8.mono z7)
  have z8 := b8.size
  have M8 : MS w8 w.heap.size na nb m x y O x y O ad ad2 aw ag gw w5.heap.size w6.heap.size gg := ⟨hc.below b8 (Nat.le_refl _), hc2.below b8 (Nat.le_refl _), ((ow5.grow h6).grow h7).grow h8, ((SlsAt.ofOwn o6).grow h7).grow h8, (SlsAt.ofOwn o7).grow h8, og8, fun h0 => ⟨by omega, lw5b h0⟩, ⟨by omega, by omega, by omega⟩, fun h0 => ⟨by omega, lg8b h0⟩⟩
  obtain ⟨g0, e0⟩ : ∃ g0, w5.heap.size = g0 := ⟨_, rfl⟩
  obtain ⟨g1, e1⟩ : ∃ g1, w6.heap.size = g1 := ⟨_, rfl⟩
  rw [e0, e1] at M8 ⊢
  clear ow5 lw5 lw5b og8 lg8 lg8b h8 o6 o7 h6 h7 r6 r7 b1 b2 b3 b4 b5 b6 b7 z1 z2 z3 z4 z5 z6 z7 s3 s4 s5 s6 s7 s8 e0 e1 hc hc2
  go_wp2_with fail
  refine (eqSls_any m O ag aw cg cw w8 0 w8.heap.size 0 w8.heap.size (Nat.le_refl _) (Nat.le_refl _) (by omega) M8.ig M8.iw).mono ?_
  rintro e w9 ⟨rfl, h⟩
  have M9 := M8.below h
  have b9 := b8.trans (h.mono z8)
  have z9 := b9.size
  clear h M8 b8 z8
  go_wp2_with fail
  refine (toSls_any na x ad cap w9 0 w.heap.size z9 (by omega) M9.a1).mono ?_
  rintro e w10 ⟨rfl, oa, ha⟩
  have ra := oa.room.lt
  have sa := ha.size
  have M10 := M9.below ha
  have b10 := b9.trans (ha.mono z9)
  have z10 := b10.size
  clear M9 b9 z9
  go_wp2_with fail
  refine (eqSls_any na x _ _ _ _ w10 0 w10.heap.size 0 w10.heap.size (Nat.le_refl _) (Nat.le_refl _) (by omega) M10.ix (oa.isIn (Nat.zero_le _) ra)).mono ?_
  rintro e w11 ⟨rfl, h⟩
  have M11 := M10.below h
  have b11 := b10.trans (h.mono z10)
  have z11 := b11.size
  clear h M10 b10 z10
  clear oa ha ra sa
  go_wp2_with fail
  refine (toSls_any nb y ad2 cap2 w11 0 w.heap.size z11 (by omega) M11.a2).mono ?_
  rintro e w12 ⟨rfl, oa, ha⟩
  have ra := oa.room.lt
  have sa := ha.size
  have M12 := M11.below ha
  have b12 := b11.trans (ha.mono z11)
  have z12 := b12.size
  clear M11 b11 z11
  go_wp2_with fail
  refine (eqSls_any nb y _ _ _ _ w12 0 w12.heap.size 0 w12.heap.size (Nat.le_refl _) (Nat.le_refl _) (by omega) M12.iy (oa.isIn (Nat.zero_le _) ra)).mono ?_
  rintro e w13 ⟨rfl, h⟩
  have M13 := M12.below h
  have b13 := b12.trans (h.mono z12)
  have z13 := b13.size
  clear h M12 b12 z12
  clear oa ha ra sa
  go_wp2_with fail
  refine (markSls_in na x _ _ 1 1 rfl w13 g0 (fun h0 => by have := M13.lo; omega) (by omega) (by omega) (by omega) M13.ox).mono ?_
  rintro e w14 ⟨rfl, hx, hf⟩
  have M14 := M13.markX hx hf
  have b14 := b13.trans (M13.low hf (fun k hk e => by have := M13.lo; have := M13.lg; omega))
  have z14 := b14.size
  clear hx hf M13 b13 z13
  go_wp2_with fail
  refine (markSls_in nb y _ _ (1 + 2 * (na : Int)) (1 + 2 * na) (by omega) w14 g1 (fun h0 => by have := M14.lo; omega) (by omega) (by omega) (by omega) M14.oy).mono ?_
  rintro e w15 ⟨rfl, hx, hf⟩
  have M15 := M14.markY hx hf
  have b15 := b14.trans (M14.low hf (fun k hk e => by have := M14.lo; have := M14.lg; omega))
  have z15 := b15.size
  clear hx hf M14 b14 z14
  go_wp2_with fail
  refine (eqSls_any m O ag aw cg cw w15 0 w15.heap.size 0 w15.heap.size (Nat.le_refl _) (Nat.le_refl _) (by omega) M15.ig M15.iw).mono ?_
  rintro e w16 ⟨rfl, h⟩
  have M16 := M15.below h
  have b16 := b15.trans (h.mono z15)
  have z16 := b16.size
  clear h M15 b15 z15
  go_wp2_with fail
  refine (markSls_in m O _ _ 1 1 rfl w16 gg (fun h0 => (M16.lg h0).2) (by omega) (by omega) (by omega) M16.og).mono ?_
  rintro e w17 ⟨rfl, hx, hf⟩
  have M17 := M16.markG hx hf
  have b17 := b16.trans (M16.low hf (fun k hk e => by have := M16.lo; have := M16.lg; omega))
  have z17 := b17.size
  clear hx hf M16 b16 z16
  go_wp2_with fail
  refine (heldSls_in m _ _ 1 1 rfl w17 gg (fun h0 => (M17.lg h0).2) (by omega) (by omega) (by omega) M17.og).mono ?_
  rintro e w18 ⟨rfl, h⟩
  have M18 := M17.below h
  have b18 := b17.trans (h.mono z17)
  have z18 := b18.size
  clear h M17 b17 z17
  go_wp2_with fail
  refine (toSls_any na x ad cap w18 0 w.heap.size z18 (by omega) M18.a1).mono ?_
  rintro e w19 ⟨rfl, oa, ha⟩
  have ra := oa.room.lt
  have sa := ha.size
  have M19 := M18.below ha
  have b19 := b18.trans (ha.mono z18)
  have z19 := b19.size
  clear M18 b18 z18
  go_wp2_with fail
  refine (toSls_any nb y ad2 cap2 w19 0 w.heap.size z19 (by omega) M19.a2).mono ?_
  rintro e w20 ⟨rfl, ob, hb⟩
  have rb := ob.room.lt
  have sb := hb.size
  have M20 := M19.below hb
  have b20 := b19.trans (hb.mono z19)
  have z20 := b20.size
  clear M19 b19 z19
  go_wp2_with fail
  refine (implM hm hO _ 0 na _ 0 nb w20 0 w20.heap.size (Nat.le_refl _) q1 q4 (Nat.le_refl _) (Nat.le_refl _) ((oa.isIn (Nat.zero_le _) ra).below hb (Nat.le_refl _) |>.mono (Nat.le_refl _) sb) (ob.isIn (Nat.zero_le _) rb)).mono ?_
  rintro e w21 ⟨ah, ch, gh, rfl, oh, lh, lhb, hh⟩
  have M21 := M20.below hh
  have b21 := b20.trans (hh.mono z20)
  have z21 := b21.size
  clear M20 b20 z20 oa ob ha hb ra rb sa sb hh
  go_wp2_with fail
  refine (eqSls_any m O ah aw ch cw w21 0 w21.heap.size 0 w21.heap.size (Nat.le_refl _) (Nat.le_refl _) (by omega) (oh.isIn (fun h0 => ⟨Nat.zero_le _, lhb h0⟩)) M21.iw).mono ?_
  rintro e w22 ⟨rfl, h⟩
  have M22 := M21.below h
  have b22 := b21.trans (h.mono z21)
  have z22 := b22.size
  clear h M21 b21 z21
  clear oh lh lhb
  go_wp2_with fail
  refine (heldSls_in m _ _ 1 1 rfl w22 gg (fun h0 => (M22.lg h0).2) (by omega) (by omega) (by omega) M22.og).mono ?_
  rintro e w23 ⟨rfl, h⟩
  have M23 := M22.below h
  have b23 := b22.trans (h.mono z22)
  have z23 := b23.size
  clear h M22 b22 z22
  go_wp2
  go_ret
  exact ⟨rfl, b23⟩
end Go.Proofs.Ytipdnhgdaiimlaa
