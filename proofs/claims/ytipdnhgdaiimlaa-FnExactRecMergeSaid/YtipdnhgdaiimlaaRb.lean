import Derived.Test.YtipdnhgdaiimlaaRa
namespace Go.Proofs.Ytipdnhgdaiimlaa
open Go.RowKit
theorem zero151 : Try.zeroCells74.size = 120 := by kernel_rfl
theorem zero_row (w : World) : RowF (w.alloc (.cells Try.zeroCells74 74)) w.heap.size 120 (fun j => Try.zeroCells74.getD j undef) := by
  refine ⟨by simp, fun j => World.frozen?_alloc_at _ _ _ _ rfl, fun j hj => ?_⟩
  rw [World.cell?_alloc_new, Array.getElem?_eq_getElem (by rw [zero151]; exact hj)]
  simp [Array.getD, hj]
theorem at_one {c : Nat → Value} {m : Nat} {x : Nat → Sl} (h : ∀ i, i < m → atSl c i (x i)) : ∀ u ∈ rowCells (m * 2) c, u.oneCell' = true := fun u hu => by
  obtain ⟨j, hj, rfl⟩ := List.mem_map.1 hu
  have hj' : j < m * 2 := by simpa using hj
  obtain ⟨a0, a1⟩ := h (j / 2) (by omega)
  rcases (show j = j / 2 * 2 ∨ j = j / 2 * 2 + 1 by omega) with e | e
  · rw [e, a0]; rfl
  · rw [e, a1]; rfl
theorem row_news {w : World} {g m l : Nat} {c : Nat → Value} (h : RowF w g m c) (hl : l ≤ m) : ∀ j u, (rowCells l c)[j]? = some u → w.cell? ((⟨g, 0, none⟩ : Addr).add j) = some u := fun j u hu => by
  obtain ⟨h1, rfl⟩ := rowCells_get hu
  rw [show ((⟨g, 0, none⟩ : Addr).add j) = ⟨g, j, none⟩ by unfold Addr.add; split <;> simp_all]
  exact h.cell j (by omega)
theorem mgS_shift (na : Nat) (x : Nat → Sl) (nb : Nat) (y : Nat → Sl) (p qa qb i : Nat) (ha : qa = min (na - p) 60) (hb : qb = min (nb - p) 60) (hi : i < 60) : mgS qa (fun i => x (p + i)) qb (fun i => y (p + i)) i = mgS na x nb y (p + i) := by
  unfold mgS
  have e1 : (i < qa) = (p + i < na) := propext ⟨fun _ => by omega, fun _ => by omega⟩
  have e2 : (i < qb) = (p + i < nb) := propext ⟨fun _ => by omega, fun _ => by omega⟩
  simp only [e1, e2]
def lenV : Value → Nat
  | .slice _ n _ => n
  | _ => 0
theorem SlsIn.next {w : World} {lo hi b g k p q n m : Nat} {x : Nat → Sl} (h : SlsIn w lo hi (some ⟨b, g, none⟩) m (fun i => x (p + i))) (hn : n - p = m) (hq : q = min m 60) (hk : m ≤ k) : SlsIn w lo hi (some ⟨b, if k = q then g else g + q * 2, none⟩) (n - (p + 60)) (fun i => x (p + 60 + i)) := fun i hi' => by
  obtain ⟨b', off, e1, e2, e3, e4⟩ := h (60 + i) (by omega)
  obtain ⟨rfl, rfl⟩ : b = b' ∧ g = off := by simpa using e1
  refine ⟨b, _, rfl, e2, e3, ?_⟩
  rw [if_neg (by omega), show g + q * 2 + i * 2 = g + (60 + i) * 2 by omega]
  show SlCells w b (g + (60 + i) * 2) (x (p + 60 + i))
  rw [Nat.add_assoc p 60 i]
  exact e4
theorem own_sls {w0 w : World} {v : Value} {n : Nat} {c : Nat → Value} {x : Nat → Sl} (h : w.ownsRow w0.heap.size 69 2 v n (rowCells (n * 2) c)) (hat : ∀ i, i < n → atSl c i (x i)) (hb : Below w0.heap.size w0 w) : ∃ ad' cap' g, Ending.returned v = .returned (.slice ad' n cap') ∧ SlsAt w ad' g n x ∧ w0.heap.size ≤ g ∧ (n ≠ 0 → g < w.heap.size) ∧ Below w0.heap.size w0 w := by
  by_cases hn : 0 < n
  · obtain ⟨g, cap, cur, rfl, h1, h2⟩ := h.2.resolve_left (fun e => by omega)
    exact ⟨_, _, g, rfl, ⟨fun _ => rfl, fun _ => ⟨c, row_of_own h, hat⟩⟩, h1, fun _ => (h.lt g rfl).2, hb⟩
  · obtain rfl : n = 0 := by omega
    rcases h.2 with ⟨rfl, _⟩ | ⟨g, cap, cur, rfl, h1, h2⟩
    · exact ⟨none, 0, w0.heap.size, rfl, ⟨fun h => absurd h hn, fun h => absurd h hn⟩, Nat.le_refl _, fun h => absurd rfl h, hb⟩
    · exact ⟨_, cap, g, rfl, ⟨fun h => absurd h hn, fun h => absurd h hn⟩, h1, fun h => absurd rfl h, hb⟩
theorem mg_next {na nb mx p pa pb qa qb mq ra rb ba ga ka bb gb kb lo hi : Nat} {x y : Nat → Sl} {w wr w6 w7 w8 : World} {v9 v7 : Value} {c c6 : Nat → Value} {row : Option Nat} (hhi : hi ≤ w.heap.size) (hpa : na - p = pa) (hpb : nb - p = pb) (hqa : qa = min pa 60) (hqb : qb = min pb 60) (hra : ra = pa - qa) (hrb : rb = pb - qb) (k1 : pa ≤ ka) (k2 : pb ≤ kb) (hp : p < mx) (hgo : 0 < pa ∨ 0 < pb) (hmq : min (p + 60) mx = p + mq)
    (sx : SlsIn wr lo hi (some ⟨ba, ga, none⟩) pa (fun i => x (p + i))) (sy : SlsIn wr lo hi (some ⟨bb, gb, none⟩) pb (fun i => y (p + i))) (zr : w.heap.size ≤ wr.heap.size) (F6 : FrP (fun q => q = wr.heap.size) wr w6) (HBW : Below w.heap.size w w6) (hat : ∀ i, i < p → atSl c i (mgS na x nb y i)) (at6 : ∀ i, i < mq → atSl c6 i (mgS qa (fun i => x (p + i)) qb (fun i => y (p + i)) i))
    (hrow : row = v9.ownBlock) (ho6 : w6.ownsRow w.heap.size 69 2 v9 p (rowCells (p * 2) c)) (ho7 : w7.ownsRow w.heap.size 69 2 v7 (p + mq) (rowCells (p * 2) c ++ rowCells (mq * 2) c6)) (hg7 : w6.grownBy w7 row) (hw8 : Below w7.heap.size w7 w8) :
    (∃ (p ga' gb' ka' kb' : Nat) (v9 : Value) (c : Nat → Value), v9 = v7 ∧ p ≤ mx + 60 ∧ Value.slice (if ka = qa then some ⟨ba, ga, none⟩ else some ⟨ba, ga + qa * 2, none⟩) ra (ka - qa) = .slice (some ⟨ba, ga', none⟩) (na - p) ka' ∧ Value.slice (if kb = qb then some ⟨bb, gb, none⟩ else some ⟨bb, gb + qb * 2, none⟩) rb (kb - qb) = .slice (some ⟨bb, gb', none⟩) (nb - p) kb' ∧ na - p ≤ ka' ∧ nb - p ≤ kb' ∧ Below w.heap.size w w8 ∧ Hid (SlsIn w8 lo hi (some ⟨ba, ga', none⟩) (na - p) (fun i => x (p + i))) ∧ Hid (SlsIn w8 lo hi (some ⟨bb, gb', none⟩) (nb - p) (fun i => y (p + i))) ∧ Hid (w8.ownsRow w.heap.size 69 2 v9 (min p mx) (rowCells (min p mx * 2) c)) ∧ Hid (∀ i, i < min p mx → atSl c i (mgS na x nb y i))) ∧
    lenV (.slice (if ka = qa then some ⟨ba, ga, none⟩ else some ⟨ba, ga + qa * 2, none⟩) ra (ka - qa)) + lenV (.slice (if kb = qb then some ⟨bb, gb, none⟩ else some ⟨bb, gb + qb * 2, none⟩) rb (kb - qb)) < lenV (.slice (some ⟨ba, ga, none⟩) pa ka) + lenV (.slice (some ⟨bb, gb, none⟩) pb kb) := by
  have B67 : Below w.heap.size w6 w7 := (FrP.of_grown hg7).below (fun k hk e => by have := (ho6.lt k (hrow ▸ e)).1; omega) HBW.size
  have z6 := HBW.size
  have z7 := B67.size
  have B68 : Below w.heap.size w6 w8 := B67.trans (hw8.mono (by omega))
  have Br8 : Below w.heap.size wr w8 := (F6.below (fun k hk e => by omega) zr).trans B68
  refine ⟨⟨p + 60, if ka = qa then ga else ga + qa * 2, if kb = qb then gb else gb + qb * 2, ka - qa, kb - qb, v7, catF c (p * 2) c6, rfl, by omega, ?_, ?_, by omega, by omega, HBW.trans B68, hid ((sx.next hpa hqa k1).below Br8 hhi), hid ((sy.next hpb hqb k2).below Br8 hhi), hid ?_, hid ?_⟩, ?_⟩
  · rw [show na - (p + 60) = ra by omega]; split <;> rfl
  · rw [show nb - (p + 60) = rb by omega]; split <;> rfl
  · rw [hmq, Nat.add_mul, ← rowCells_cat]
    exact ownsRow_fr ho7 (FrP.of_below (P := fun _ => False) hw8) (fun _ _ h => h)
  · rw [hmq]
    intro i hi'
    by_cases h : i < p
    · obtain ⟨a0, a1⟩ := hat i h
      exact ⟨(if_pos (by omega)).trans a0, (if_pos (by omega)).trans a1⟩
    · obtain ⟨j, rfl⟩ : ∃ j, i = p + j := ⟨i - p, by omega⟩
      obtain ⟨a0, a1⟩ := at6 j (by omega)
      rw [mgS_shift na x nb y p qa qb j (by omega) (by omega) (by omega)] at a0 a1
      exact ⟨(if_neg (by omega)).trans (by rw [show (p + j) * 2 - p * 2 = j * 2 by omega]; exact a0), (if_neg (by omega)).trans (by rw [show (p + j) * 2 + 1 - p * 2 = j * 2 + 1 by omega]; exact a1)⟩
  · show ra + rb < pa + pb
    omega
set_option maxRecDepth 100000 in
set_option maxHeartbeats 8000000 in
theorem implMerge_any (na nb : Nat) (x y : Nat → Sl) (ba oa ca bb ob cb : Nat) (w : World) (lo hi : Nat) (hhi : hi ≤ w.heap.size) (hla : (na : Int) ≤ 1048576) (hlb : (nb : Int) ≤ 1048576) (hca : na ≤ ca) (hcb : nb ≤ cb) (hx : SlsIn w lo hi (some ⟨ba, oa, none⟩) na x) (hy : SlsIn w lo hi (some ⟨bb, ob, none⟩) nb y) :
    Calls Try.prog 16 #[.slice (some ⟨ba, oa, none⟩) na ca, .slice (some ⟨bb, ob, none⟩) nb cb] w fun e w' => ∃ ad' cap' g, e = .returned (.slice ad' (max na nb) cap') ∧ SlsAt w' ad' g (max na nb) (mgS na x nb y) ∧ w.heap.size ≤ g ∧ (max na nb ≠ 0 → g < w'.heap.size) ∧ Below w.heap.size w w' := by
  obtain ⟨i0, hi0, hz0, hz1, hz2⟩ := info_parts Try.info69
  have HX := hid hx
  have HY := hid hy
  clear hx hy
  obtain ⟨mx, hmx⟩ : ∃ mx, max na nb = mx := ⟨_, rfl⟩
  have m1 : na ≤ mx := by omega
  have m2 : nb ≤ mx := by omega
  have m3 : (mx : Int) ≤ 1048576 := by omega
  have HMX := hid hmx
  have HI := hid (show (max (na : Int) (nb : Int)) = (mx : Int) by omega)
  rw [hmx]
  clear hmx
  go_enter Try.func16, Try.ntmps16
  go_wp2_with (at_make; refine wpList_make_own _ rfl _ _ 27 rfl w.heap.size 69 i0 _ 2 Try.underlying27 hi0 hz0 hz1 .i64 .i64 _ mx rfl rfl (by have := HMX.out; split <;> omega) (by rw [hz2]; omega) (by unfold maxLen; omega) (Nat.le_refl _) ?_; intro w1 hown1 hgrow1; have HO1 := hid hown1; have HG1 := hid hgrow1; (clear hown1 hgrow1); (generalize (if na < nb then (nb : Int) else (na : Int)) = z13))
  have hB1 : Below w.heap.size w w1 := (Below.refl _ _).grown HG1.out (Nat.le_refl _) (by simp)
  go_loopw [0, 1, 5] (fun a b v wr => ∃ (p ga gb ka kb : Nat) (v9 : Value) (c : Nat → Value), v9 = v ∧ p ≤ mx + 60 ∧ a = .slice (some ⟨ba, ga, none⟩) (na - p) ka ∧ b = .slice (some ⟨bb, gb, none⟩) (nb - p) kb ∧ na - p ≤ ka ∧ nb - p ≤ kb ∧ Below w.heap.size w wr ∧ Hid (SlsIn wr lo hi (some ⟨ba, ga, none⟩) (na - p) (fun i => x (p + i))) ∧ Hid (SlsIn wr lo hi (some ⟨bb, gb, none⟩) (nb - p) (fun i => y (p + i))) ∧ Hid (wr.ownsRow w.heap.size 69 2 v9 (min p mx) (rowCells (min p mx * 2) c)) ∧ Hid (∀ i, i < min p mx → atSl c i (mgS na x nb y i))) (fun a b _ _ => lenV a + lenV b)
  case atStart => exact ⟨0, oa, ob, ca, cb, _, fun _ => undef, rfl, Nat.zero_le _, rfl, rfl, by omega, by omega, hB1, hid (by simpa using HX.out.below hB1 hhi), hid (by simpa using HY.out.below hB1 hhi), hid (by simpa [rowCells] using HO1.out), fun i hi => absurd hi (by omega)⟩
  case round =>
    obtain ⟨p, ga, gb, ka, kb, v9, c, rfl, hp, rfl, rfl, k1, k2, b0, sx, sy, ho, hat⟩ := hrel
    obtain ⟨pa, hpa⟩ : ∃ pa, na - p = pa := ⟨_, rfl⟩
    obtain ⟨pb, hpb⟩ : ∃ pb, nb - p = pb := ⟨_, rfl⟩
    rw [hpa] at k1 sx ⊢
    rw [hpb] at k2 sy ⊢
    have HPA := hid hpa
    have HPB := hid hpb
    clear hpa hpb
    have zr := b0.size
    by_cases hgo : 0 < pa ∨ 0 < pb
    · by_cases h1 : 0 < pa
      · have i1 : (0 : Int) < pa := by omega
        by_cases h2 : pa ≤ 60
        · by_cases h3 : pb ≤ 60
          · go_wp2
            have hne : Nonempty (GW (wr.alloc (.cells Try.zeroCells74 74))) := ⟨⟨_, Below.refl _ _⟩⟩
            refine wp_region_grow (by kernel_rfl) (by kernel_rfl) ?_
            repeat (refine wpQuiet_step (fun K hK => ?_); go_simp; (try rw [if_neg (show ¬ ((60 : Int) < (pa : Int)) by omega)]); (try rw [if_pos (show (60 : Int) < (pa : Int) by omega)]); (try rw [if_neg (show ¬ ((60 : Int) < (pb : Int)) by omega)]); (try rw [if_pos (show (60 : Int) < (pb : Int) by omega)]); (try go_simp); refine hK _ ?_; clear hK K)
            refine wpQuiet_nil ?_
            rintro w5 ⟨u, hu⟩
            have hw5 : Below (wr.alloc (.cells Try.zeroCells74 74)).heap.size (wr.alloc (.cells Try.zeroCells74 74)) w5 := hu ▸ u.prop
            have hr5 : Below wr.heap.size wr w5 := (below_alloc _ _).trans (hw5.mono (by simp))
            have RZ := hid ((zero_row wr).below hw5 (by simp))
            have hz5 := hr5.size
            clear hu u hne hw5
            go_wp2_with fail
            refine (mergeInto_any pa pb (fun i => x (p + i)) (fun i => y (p + i)) ba ga ka bb gb kb wr.heap.size _ w5 lo hi (by omega) (by omega) (by omega) RZ.out ((sx.out.take (by omega)).below hr5 (by omega)) ((sy.out.take (by omega)).below hr5 (by omega))).mono ?_
            rintro e w6 ⟨⟨cap, rfl⟩, ⟨c6, rr6, at6⟩, fr6⟩
            obtain ⟨mq, hmq⟩ : ∃ mq, max pa pb = mq := ⟨_, rfl⟩
            rw [hmq] at at6 ⊢
            have n1 : mq ≤ 60 := by omega
            have n2 : p < mx := by have := HPA.out; have := HPB.out; omega
            have n3 : min p mx = p := by omega
            have n4 : Hid (min (p + 60) mx = p + mq) := (by have := HPA.out; have := HPB.out; have := HMX.out; exact (by omega : min (p + 60) mx = p + mq))
            have F6 := hid ((FrP.of_below (P := fun q => q = wr.heap.size) hr5).trans fr6)
            rw [n3] at ho hat
            have HO6 := hid (ownsRow_fr ho.out F6.out (fun g hg e => by have := (ho.out.lt g hg).2; omega))
            have AT6 := hid at6
            have RR6 := hid rr6
            have zf := F6.out.size
            have ONE := hid (fun u (hu : u ∈ rowCells (mq * 2) c6) => at_one at6 u hu)
            have NEWS := hid (fun j u (hu : (rowCells (mq * 2) c6)[j]? = some u) => row_news rr6 (by omega) j u hu)
            have HBW := hid (b0.trans (F6.out.below (B := w.heap.size) (fun q hq e => by omega) (by omega)))
            clear rr6 at6 fr6 hmq n3 RZ
            go_wp2_with (at_builtin; go_must (refine wpList_append_own_at _ rfl _ _ 27 rfl w.heap.size 69 i0 _ 2 24 Try.underlying27 hi0 hz0 hz1 hz2 rfl (by decide) _ p (rowCells (p * 2) c) rfl HO6.out ⟨wr.heap.size, 0, none⟩ mq cap (rowCells (mq * 2) c6) rfl (rowCells_len _ _) NEWS.out ONE.out (by unfold maxLen; omega) (by omega) (by omega) ?_; intro v7 w7 hown7 hgrow7 hnil7 hat7; have HO7 := hid hown7; have HG7 := hid hgrow7; clear hown7 hgrow7 hnil7 hat7))
            have hne : Nonempty (GW w7) := ⟨⟨_, Below.refl _ _⟩⟩
            refine wp_region_grow (by kernel_rfl) (by kernel_rfl) ?_
            repeat (refine wpQuiet_step (fun K hK => ?_); go_simp; (try rw [if_neg (show ¬ ((60 : Int) < (pa : Int)) by omega)]); (try rw [if_pos (show (60 : Int) < (pa : Int) by omega)]); (try rw [if_neg (show ¬ ((60 : Int) < (pb : Int)) by omega)]); (try rw [if_pos (show (60 : Int) < (pb : Int) by omega)]); (try go_simp); refine hK _ ?_; clear hK K)
            refine wpQuiet_nil ?_
            rintro w8 ⟨u, hu⟩
            have hw8 : Below w7.heap.size w7 w8 := hu ▸ u.prop
            clear hu u hne
            go_wp2
            exact mg_next (qa := pa) (qb := pb) hhi HPA.out HPB.out (by omega) (by omega) (by omega) (by omega) k1 k2 n2 hgo n4.out sx.out sy.out zr F6.out HBW.out hat.out AT6.out rfl HO6.out HO7.out HG7.out hw8
          · have je : 60 ≤ kb := by omega
            have jf : (60 : Int) ≤ kb := by omega
            have jg : 60 ≤ pb := by omega
            have jh : (60 : Int) ≤ pb := by omega
            go_wp2
            have hne : Nonempty (GW (wr.alloc (.cells Try.zeroCells74 74))) := ⟨⟨_, Below.refl _ _⟩⟩
            refine wp_region_grow (by kernel_rfl) (by kernel_rfl) ?_
            repeat (refine wpQuiet_step (fun K hK => ?_); go_simp; (try rw [if_neg (show ¬ ((60 : Int) < (pa : Int)) by omega)]); (try rw [if_pos (show (60 : Int) < (pa : Int) by omega)]); (try rw [if_neg (show ¬ ((60 : Int) < (pb : Int)) by omega)]); (try rw [if_pos (show (60 : Int) < (pb : Int) by omega)]); (try go_simp); refine hK _ ?_; clear hK K)
            refine wpQuiet_nil ?_
            rintro w5 ⟨u, hu⟩
            have hw5 : Below (wr.alloc (.cells Try.zeroCells74 74)).heap.size (wr.alloc (.cells Try.zeroCells74 74)) w5 := hu ▸ u.prop
            have hr5 : Below wr.heap.size wr w5 := (below_alloc _ _).trans (hw5.mono (by simp))
            have RZ := hid ((zero_row wr).below hw5 (by simp))
            have hz5 := hr5.size
            clear hu u hne hw5
            go_wp2_with fail
            refine (mergeInto_any pa 60 (fun i => x (p + i)) (fun i => y (p + i)) ba ga ka bb gb kb wr.heap.size _ w5 lo hi (by omega) (by omega) (by omega) RZ.out ((sx.out.take (by omega)).below hr5 (by omega)) ((sy.out.take (by omega)).below hr5 (by omega))).mono ?_
            rintro e w6 ⟨⟨cap, rfl⟩, ⟨c6, rr6, at6⟩, fr6⟩
            obtain ⟨mq, hmq⟩ : ∃ mq, max pa 60 = mq := ⟨_, rfl⟩
            rw [hmq] at at6 ⊢
            have n1 : mq ≤ 60 := by omega
            have n2 : p < mx := by have := HPA.out; have := HPB.out; omega
            have n3 : min p mx = p := by omega
            have n4 : Hid (min (p + 60) mx = p + mq) := (by have := HPA.out; have := HPB.out; have := HMX.out; exact (by omega : min (p + 60) mx = p + mq))
            have F6 := hid ((FrP.of_below (P := fun q => q = wr.heap.size) hr5).trans fr6)
            rw [n3] at ho hat
            have HO6 := hid (ownsRow_fr ho.out F6.out (fun g hg e => by have := (ho.out.lt g hg).2; omega))
            have AT6 := hid at6
            have RR6 := hid rr6
            have zf := F6.out.size
            have ONE := hid (fun u (hu : u ∈ rowCells (mq * 2) c6) => at_one at6 u hu)
            have NEWS := hid (fun j u (hu : (rowCells (mq * 2) c6)[j]? = some u) => row_news rr6 (by omega) j u hu)
            have HBW := hid (b0.trans (F6.out.below (B := w.heap.size) (fun q hq e => by omega) (by omega)))
            clear rr6 at6 fr6 hmq n3 RZ
            go_wp2_with (at_builtin; go_must (refine wpList_append_own_at _ rfl _ _ 27 rfl w.heap.size 69 i0 _ 2 24 Try.underlying27 hi0 hz0 hz1 hz2 rfl (by decide) _ p (rowCells (p * 2) c) rfl HO6.out ⟨wr.heap.size, 0, none⟩ mq cap (rowCells (mq * 2) c6) rfl (rowCells_len _ _) NEWS.out ONE.out (by unfold maxLen; omega) (by omega) (by omega) ?_; intro v7 w7 hown7 hgrow7 hnil7 hat7; have HO7 := hid hown7; have HG7 := hid hgrow7; clear hown7 hgrow7 hnil7 hat7))
            have hne : Nonempty (GW w7) := ⟨⟨_, Below.refl _ _⟩⟩
            refine wp_region_grow (by kernel_rfl) (by kernel_rfl) ?_
            repeat (refine wpQuiet_step (fun K hK => ?_); go_simp; (try rw [if_neg (show ¬ ((60 : Int) < (pa : Int)) by omega)]); (try rw [if_pos (show (60 : Int) < (pa : Int) by omega)]); (try rw [if_neg (show ¬ ((60 : Int) < (pb : Int)) by omega)]); (try rw [if_pos (show (60 : Int) < (pb : Int) by omega)]); (try go_simp); refine hK _ ?_; clear hK K)
            refine wpQuiet_nil ?_
            rintro w8 ⟨u, hu⟩
            have hw8 : Below w7.heap.size w7 w8 := hu ▸ u.prop
            clear hu u hne
            go_wp2
            exact mg_next (qa := pa) (qb := 60) hhi HPA.out HPB.out (by omega) (by omega) (by omega) (by omega) k1 k2 n2 hgo n4.out sx.out sy.out zr F6.out HBW.out hat.out AT6.out rfl HO6.out HO7.out HG7.out hw8
        · by_cases h3 : pb ≤ 60
          · have ja : 60 ≤ ka := by omega
            have jb : (60 : Int) ≤ ka := by omega
            have jc : 60 ≤ pa := by omega
            have jd : (60 : Int) ≤ pa := by omega
            go_wp2
            have hne : Nonempty (GW (wr.alloc (.cells Try.zeroCells74 74))) := ⟨⟨_, Below.refl _ _⟩⟩
            refine wp_region_grow (by kernel_rfl) (by kernel_rfl) ?_
            repeat (refine wpQuiet_step (fun K hK => ?_); go_simp; (try rw [if_neg (show ¬ ((60 : Int) < (pa : Int)) by omega)]); (try rw [if_pos (show (60 : Int) < (pa : Int) by omega)]); (try rw [if_neg (show ¬ ((60 : Int) < (pb : Int)) by omega)]); (try rw [if_pos (show (60 : Int) < (pb : Int) by omega)]); (try go_simp); refine hK _ ?_; clear hK K)
            refine wpQuiet_nil ?_
            rintro w5 ⟨u, hu⟩
            have hw5 : Below (wr.alloc (.cells Try.zeroCells74 74)).heap.size (wr.alloc (.cells Try.zeroCells74 74)) w5 := hu ▸ u.prop
            have hr5 : Below wr.heap.size wr w5 := (below_alloc _ _).trans (hw5.mono (by simp))
            have RZ := hid ((zero_row wr).below hw5 (by simp))
            have hz5 := hr5.size
            clear hu u hne hw5
            go_wp2_with fail
            refine (mergeInto_any 60 pb (fun i => x (p + i)) (fun i => y (p + i)) ba ga ka bb gb kb wr.heap.size _ w5 lo hi (by omega) (by omega) (by omega) RZ.out ((sx.out.take (by omega)).below hr5 (by omega)) ((sy.out.take (by omega)).below hr5 (by omega))).mono ?_
            rintro e w6 ⟨⟨cap, rfl⟩, ⟨c6, rr6, at6⟩, fr6⟩
            obtain ⟨mq, hmq⟩ : ∃ mq, max 60 pb = mq := ⟨_, rfl⟩
            rw [hmq] at at6 ⊢
            have n1 : mq ≤ 60 := by omega
            have n2 : p < mx := by have := HPA.out; have := HPB.out; omega
            have n3 : min p mx = p := by omega
            have n4 : Hid (min (p + 60) mx = p + mq) := (by have := HPA.out; have := HPB.out; have := HMX.out; exact (by omega : min (p + 60) mx = p + mq))
            have F6 := hid ((FrP.of_below (P := fun q => q = wr.heap.size) hr5).trans fr6)
            rw [n3] at ho hat
            have HO6 := hid (ownsRow_fr ho.out F6.out (fun g hg e => by have := (ho.out.lt g hg).2; omega))
            have AT6 := hid at6
            have RR6 := hid rr6
            have zf := F6.out.size
            have ONE := hid (fun u (hu : u ∈ rowCells (mq * 2) c6) => at_one at6 u hu)
            have NEWS := hid (fun j u (hu : (rowCells (mq * 2) c6)[j]? = some u) => row_news rr6 (by omega) j u hu)
            have HBW := hid (b0.trans (F6.out.below (B := w.heap.size) (fun q hq e => by omega) (by omega)))
            clear rr6 at6 fr6 hmq n3 RZ
            go_wp2_with (at_builtin; go_must (refine wpList_append_own_at _ rfl _ _ 27 rfl w.heap.size 69 i0 _ 2 24 Try.underlying27 hi0 hz0 hz1 hz2 rfl (by decide) _ p (rowCells (p * 2) c) rfl HO6.out ⟨wr.heap.size, 0, none⟩ mq cap (rowCells (mq * 2) c6) rfl (rowCells_len _ _) NEWS.out ONE.out (by unfold maxLen; omega) (by omega) (by omega) ?_; intro v7 w7 hown7 hgrow7 hnil7 hat7; have HO7 := hid hown7; have HG7 := hid hgrow7; clear hown7 hgrow7 hnil7 hat7))
            have hne : Nonempty (GW w7) := ⟨⟨_, Below.refl _ _⟩⟩
            refine wp_region_grow (by kernel_rfl) (by kernel_rfl) ?_
            repeat (refine wpQuiet_step (fun K hK => ?_); go_simp; (try rw [if_neg (show ¬ ((60 : Int) < (pa : Int)) by omega)]); (try rw [if_pos (show (60 : Int) < (pa : Int) by omega)]); (try rw [if_neg (show ¬ ((60 : Int) < (pb : Int)) by omega)]); (try rw [if_pos (show (60 : Int) < (pb : Int) by omega)]); (try go_simp); refine hK _ ?_; clear hK K)
            refine wpQuiet_nil ?_
            rintro w8 ⟨u, hu⟩
            have hw8 : Below w7.heap.size w7 w8 := hu ▸ u.prop
            clear hu u hne
            go_wp2
            exact mg_next (qa := 60) (qb := pb) hhi HPA.out HPB.out (by omega) (by omega) (by omega) (by omega) k1 k2 n2 hgo n4.out sx.out sy.out zr F6.out HBW.out hat.out AT6.out rfl HO6.out HO7.out HG7.out hw8
          · have ja : 60 ≤ ka := by omega
            have jb : (60 : Int) ≤ ka := by omega
            have jc : 60 ≤ pa := by omega
            have jd : (60 : Int) ≤ pa := by omega
            have je : 60 ≤ kb := by omega
            have jf : (60 : Int) ≤ kb := by omega
            have jg : 60 ≤ pb := by omega
            have jh : (60 : Int) ≤ pb := by omega
            go_wp2
            have hne : Nonempty (GW (wr.alloc (.cells Try.zeroCells74 74))) := ⟨⟨_, Below.refl _ _⟩⟩
            refine wp_region_grow (by kernel_rfl) (by kernel_rfl) ?_
            repeat (refine wpQuiet_step (fun K hK => ?_); go_simp; (try rw [if_neg (show ¬ ((60 : Int) < (pa : Int)) by omega)]); (try rw [if_pos (show (60 : Int) < (pa : Int) by omega)]); (try rw [if_neg (show ¬ ((60 : Int) < (pb : Int)) by omega)]); (try rw [if_pos (show (60 : Int) < (pb : Int) by omega)]); (try go_simp); refine hK _ ?_; clear hK K)
            refine wpQuiet_nil ?_
            rintro w5 ⟨u, hu⟩
            have hw5 : Below (wr.alloc (.cells Try.zeroCells74 74)).heap.size (wr.alloc (.cells Try.zeroCells74 74)) w5 := hu ▸ u.prop
            have hr5 : Below wr.heap.size wr w5 := (below_alloc _ _).trans (hw5.mono (by simp))
            have RZ := hid ((zero_row wr).below hw5 (by simp))
            have hz5 := hr5.size
            clear hu u hne hw5
            go_wp2_with fail
            refine (mergeInto_any 60 60 (fun i => x (p + i)) (fun i => y (p + i)) ba ga ka bb gb kb wr.heap.size _ w5 lo hi (by omega) (by omega) (by omega) RZ.out ((sx.out.take (by omega)).below hr5 (by omega)) ((sy.out.take (by omega)).below hr5 (by omega))).mono ?_
            rintro e w6 ⟨⟨cap, rfl⟩, ⟨c6, rr6, at6⟩, fr6⟩
            obtain ⟨mq, hmq⟩ : ∃ mq, max 60 60 = mq := ⟨_, rfl⟩
            rw [hmq] at at6 ⊢
            have n1 : mq ≤ 60 := by omega
            have n2 : p < mx := by have := HPA.out; have := HPB.out; omega
            have n3 : min p mx = p := by omega
            have n4 : Hid (min (p + 60) mx = p + mq) := (by have := HPA.out; have := HPB.out; have := HMX.out; exact (by omega : min (p + 60) mx = p + mq))
            have F6 := hid ((FrP.of_below (P := fun q => q = wr.heap.size) hr5).trans fr6)
            rw [n3] at ho hat
            have HO6 := hid (ownsRow_fr ho.out F6.out (fun g hg e => by have := (ho.out.lt g hg).2; omega))
            have AT6 := hid at6
            have RR6 := hid rr6
            have zf := F6.out.size
            have ONE := hid (fun u (hu : u ∈ rowCells (mq * 2) c6) => at_one at6 u hu)
            have NEWS := hid (fun j u (hu : (rowCells (mq * 2) c6)[j]? = some u) => row_news rr6 (by omega) j u hu)
            have HBW := hid (b0.trans (F6.out.below (B := w.heap.size) (fun q hq e => by omega) (by omega)))
            clear rr6 at6 fr6 hmq n3 RZ
            go_wp2_with (at_builtin; go_must (refine wpList_append_own_at _ rfl _ _ 27 rfl w.heap.size 69 i0 _ 2 24 Try.underlying27 hi0 hz0 hz1 hz2 rfl (by decide) _ p (rowCells (p * 2) c) rfl HO6.out ⟨wr.heap.size, 0, none⟩ mq cap (rowCells (mq * 2) c6) rfl (rowCells_len _ _) NEWS.out ONE.out (by unfold maxLen; omega) (by omega) (by omega) ?_; intro v7 w7 hown7 hgrow7 hnil7 hat7; have HO7 := hid hown7; have HG7 := hid hgrow7; clear hown7 hgrow7 hnil7 hat7))
            have hne : Nonempty (GW w7) := ⟨⟨_, Below.refl _ _⟩⟩
            refine wp_region_grow (by kernel_rfl) (by kernel_rfl) ?_
            repeat (refine wpQuiet_step (fun K hK => ?_); go_simp; (try rw [if_neg (show ¬ ((60 : Int) < (pa : Int)) by omega)]); (try rw [if_pos (show (60 : Int) < (pa : Int) by omega)]); (try rw [if_neg (show ¬ ((60 : Int) < (pb : Int)) by omega)]); (try rw [if_pos (show (60 : Int) < (pb : Int) by omega)]); (try go_simp); refine hK _ ?_; clear hK K)
            refine wpQuiet_nil ?_
            rintro w8 ⟨u, hu⟩
            have hw8 : Below w7.heap.size w7 w8 := hu ▸ u.prop
            clear hu u hne
            go_wp2
            exact mg_next (qa := 60) (qb := 60) hhi HPA.out HPB.out (by omega) (by omega) (by omega) (by omega) k1 k2 n2 hgo n4.out sx.out sy.out zr F6.out HBW.out hat.out AT6.out rfl HO6.out HO7.out HG7.out hw8
      · have i1 : ¬ (0 : Int) < pa := by omega
        have i6 : (0 : Int) < pb := by omega
        have h2 : pa ≤ 60 := by omega
        by_cases h3 : pb ≤ 60
        · go_wp2
          have hne : Nonempty (GW (wr.alloc (.cells Try.zeroCells74 74))) := ⟨⟨_, Below.refl _ _⟩⟩
          refine wp_region_grow (by kernel_rfl) (by kernel_rfl) ?_
          repeat (refine wpQuiet_step (fun K hK => ?_); go_simp; (try rw [if_neg (show ¬ ((60 : Int) < (pa : Int)) by omega)]); (try rw [if_pos (show (60 : Int) < (pa : Int) by omega)]); (try rw [if_neg (show ¬ ((60 : Int) < (pb : Int)) by omega)]); (try rw [if_pos (show (60 : Int) < (pb : Int) by omega)]); (try go_simp); refine hK _ ?_; clear hK K)
          refine wpQuiet_nil ?_
          rintro w5 ⟨u, hu⟩
          have hw5 : Below (wr.alloc (.cells Try.zeroCells74 74)).heap.size (wr.alloc (.cells Try.zeroCells74 74)) w5 := hu ▸ u.prop
          have hr5 : Below wr.heap.size wr w5 := (below_alloc _ _).trans (hw5.mono (by simp))
          have RZ := hid ((zero_row wr).below hw5 (by simp))
          have hz5 := hr5.size
          clear hu u hne hw5
          go_wp2_with fail
          refine (mergeInto_any pa pb (fun i => x (p + i)) (fun i => y (p + i)) ba ga ka bb gb kb wr.heap.size _ w5 lo hi (by omega) (by omega) (by omega) RZ.out ((sx.out.take (by omega)).below hr5 (by omega)) ((sy.out.take (by omega)).below hr5 (by omega))).mono ?_
          rintro e w6 ⟨⟨cap, rfl⟩, ⟨c6, rr6, at6⟩, fr6⟩
          obtain ⟨mq, hmq⟩ : ∃ mq, max pa pb = mq := ⟨_, rfl⟩
          rw [hmq] at at6 ⊢
          have n1 : mq ≤ 60 := by omega
          have n2 : p < mx := by have := HPA.out; have := HPB.out; omega
          have n3 : min p mx = p := by omega
          have n4 : Hid (min (p + 60) mx = p + mq) := (by have := HPA.out; have := HPB.out; have := HMX.out; exact (by omega : min (p + 60) mx = p + mq))
          have F6 := hid ((FrP.of_below (P := fun q => q = wr.heap.size) hr5).trans fr6)
          rw [n3] at ho hat
          have HO6 := hid (ownsRow_fr ho.out F6.out (fun g hg e => by have := (ho.out.lt g hg).2; omega))
          have AT6 := hid at6
          have RR6 := hid rr6
          have zf := F6.out.size
          have ONE := hid (fun u (hu : u ∈ rowCells (mq * 2) c6) => at_one at6 u hu)
          have NEWS := hid (fun j u (hu : (rowCells (mq * 2) c6)[j]? = some u) => row_news rr6 (by omega) j u hu)
          have HBW := hid (b0.trans (F6.out.below (B := w.heap.size) (fun q hq e => by omega) (by omega)))
          clear rr6 at6 fr6 hmq n3 RZ
          go_wp2_with (at_builtin; go_must (refine wpList_append_own_at _ rfl _ _ 27 rfl w.heap.size 69 i0 _ 2 24 Try.underlying27 hi0 hz0 hz1 hz2 rfl (by decide) _ p (rowCells (p * 2) c) rfl HO6.out ⟨wr.heap.size, 0, none⟩ mq cap (rowCells (mq * 2) c6) rfl (rowCells_len _ _) NEWS.out ONE.out (by unfold maxLen; omega) (by omega) (by omega) ?_; intro v7 w7 hown7 hgrow7 hnil7 hat7; have HO7 := hid hown7; have HG7 := hid hgrow7; clear hown7 hgrow7 hnil7 hat7))
          have hne : Nonempty (GW w7) := ⟨⟨_, Below.refl _ _⟩⟩
          refine wp_region_grow (by kernel_rfl) (by kernel_rfl) ?_
          repeat (refine wpQuiet_step (fun K hK => ?_); go_simp; (try rw [if_neg (show ¬ ((60 : Int) < (pa : Int)) by omega)]); (try rw [if_pos (show (60 : Int) < (pa : Int) by omega)]); (try rw [if_neg (show ¬ ((60 : Int) < (pb : Int)) by omega)]); (try rw [if_pos (show (60 : Int) < (pb : Int) by omega)]); (try go_simp); refine hK _ ?_; clear hK K)
          refine wpQuiet_nil ?_
          rintro w8 ⟨u, hu⟩
          have hw8 : Below w7.heap.size w7 w8 := hu ▸ u.prop
          clear hu u hne
          go_wp2
          exact mg_next (qa := pa) (qb := pb) hhi HPA.out HPB.out (by omega) (by omega) (by omega) (by omega) k1 k2 n2 hgo n4.out sx.out sy.out zr F6.out HBW.out hat.out AT6.out rfl HO6.out HO7.out HG7.out hw8
        · have je : 60 ≤ kb := by omega
          have jf : (60 : Int) ≤ kb := by omega
          have jg : 60 ≤ pb := by omega
          have jh : (60 : Int) ≤ pb := by omega
          go_wp2
          have hne : Nonempty (GW (wr.alloc (.cells Try.zeroCells74 74))) := ⟨⟨_, Below.refl _ _⟩⟩
          refine wp_region_grow (by kernel_rfl) (by kernel_rfl) ?_
          repeat (refine wpQuiet_step (fun K hK => ?_); go_simp; (try rw [if_neg (show ¬ ((60 : Int) < (pa : Int)) by omega)]); (try rw [if_pos (show (60 : Int) < (pa : Int) by omega)]); (try rw [if_neg (show ¬ ((60 : Int) < (pb : Int)) by omega)]); (try rw [if_pos (show (60 : Int) < (pb : Int) by omega)]); (try go_simp); refine hK _ ?_; clear hK K)
          refine wpQuiet_nil ?_
          rintro w5 ⟨u, hu⟩
          have hw5 : Below (wr.alloc (.cells Try.zeroCells74 74)).heap.size (wr.alloc (.cells Try.zeroCells74 74)) w5 := hu ▸ u.prop
          have hr5 : Below wr.heap.size wr w5 := (below_alloc _ _).trans (hw5.mono (by simp))
          have RZ := hid ((zero_row wr).below hw5 (by simp))
          have hz5 := hr5.size
          clear hu u hne hw5
          go_wp2_with fail
          refine (mergeInto_any pa 60 (fun i => x (p + i)) (fun i => y (p + i)) ba ga ka bb gb kb wr.heap.size _ w5 lo hi (by omega) (by omega) (by omega) RZ.out ((sx.out.take (by omega)).below hr5 (by omega)) ((sy.out.take (by omega)).below hr5 (by omega))).mono ?_
          rintro e w6 ⟨⟨cap, rfl⟩, ⟨c6, rr6, at6⟩, fr6⟩
          obtain ⟨mq, hmq⟩ : ∃ mq, max pa 60 = mq := ⟨_, rfl⟩
          rw [hmq] at at6 ⊢
          have n1 : mq ≤ 60 := by omega
          have n2 : p < mx := by have := HPA.out; have := HPB.out; omega
          have n3 : min p mx = p := by omega
          have n4 : Hid (min (p + 60) mx = p + mq) := (by have := HPA.out; have := HPB.out; have := HMX.out; exact (by omega : min (p + 60) mx = p + mq))
          have F6 := hid ((FrP.of_below (P := fun q => q = wr.heap.size) hr5).trans fr6)
          rw [n3] at ho hat
          have HO6 := hid (ownsRow_fr ho.out F6.out (fun g hg e => by have := (ho.out.lt g hg).2; omega))
          have AT6 := hid at6
          have RR6 := hid rr6
          have zf := F6.out.size
          have ONE := hid (fun u (hu : u ∈ rowCells (mq * 2) c6) => at_one at6 u hu)
          have NEWS := hid (fun j u (hu : (rowCells (mq * 2) c6)[j]? = some u) => row_news rr6 (by omega) j u hu)
          have HBW := hid (b0.trans (F6.out.below (B := w.heap.size) (fun q hq e => by omega) (by omega)))
          clear rr6 at6 fr6 hmq n3 RZ
          go_wp2_with (at_builtin; go_must (refine wpList_append_own_at _ rfl _ _ 27 rfl w.heap.size 69 i0 _ 2 24 Try.underlying27 hi0 hz0 hz1 hz2 rfl (by decide) _ p (rowCells (p * 2) c) rfl HO6.out ⟨wr.heap.size, 0, none⟩ mq cap (rowCells (mq * 2) c6) rfl (rowCells_len _ _) NEWS.out ONE.out (by unfold maxLen; omega) (by omega) (by omega) ?_; intro v7 w7 hown7 hgrow7 hnil7 hat7; have HO7 := hid hown7; have HG7 := hid hgrow7; clear hown7 hgrow7 hnil7 hat7))
          have hne : Nonempty (GW w7) := ⟨⟨_, Below.refl _ _⟩⟩
          refine wp_region_grow (by kernel_rfl) (by kernel_rfl) ?_
          repeat (refine wpQuiet_step (fun K hK => ?_); go_simp; (try rw [if_neg (show ¬ ((60 : Int) < (pa : Int)) by omega)]); (try rw [if_pos (show (60 : Int) < (pa : Int) by omega)]); (try rw [if_neg (show ¬ ((60 : Int) < (pb : Int)) by omega)]); (try rw [if_pos (show (60 : Int) < (pb : Int) by omega)]); (try go_simp); refine hK _ ?_; clear hK K)
          refine wpQuiet_nil ?_
          rintro w8 ⟨u, hu⟩
          have hw8 : Below w7.heap.size w7 w8 := hu ▸ u.prop
          clear hu u hne
          go_wp2
          exact mg_next (qa := pa) (qb := 60) hhi HPA.out HPB.out (by omega) (by omega) (by omega) (by omega) k1 k2 n2 hgo n4.out sx.out sy.out zr F6.out HBW.out hat.out AT6.out rfl HO6.out HO7.out HG7.out hw8
    · have i1 : ¬ (0 : Int) < pa := by omega
      have i6 : ¬ (0 : Int) < pb := by omega
      have n5 : min p mx = mx := by have := HPA.out; have := HPB.out; have := HMX.out; omega
      rw [n5] at ho hat
      have HO := hid ho.out
      have HAT := hid hat.out
      clear ho hat
      go_wp2
      refine bodyPost_ret (v := v9) (by simp [results, Try.results16, go_sem]) rfl ?_
      obtain ⟨ad', cap', g, e1, e2, e3, e4, e5⟩ := own_sls HO.out HAT.out b0
      exact ⟨ad', ⟨cap', e1⟩, g, e2, e3, e4, e5⟩
end Go.Proofs.Ytipdnhgdaiimlaa
