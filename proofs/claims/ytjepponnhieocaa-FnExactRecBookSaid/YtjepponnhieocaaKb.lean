import Derived.Test.YtjepponnhieocaaKa
namespace Go.Proofs.Ytjepponnhieocaa
open Go.RowKit
set_option maxRecDepth 100000 in
set_option maxHeartbeats 8000000 in
theorem bookSpecH (r : Rc) (sa ha wa ya ba aa : Option Addr) (gd sc dc hc0 wc yc bc ac : Nat) (w : World) (lo hi : Nat) (hhi : hi ≤ w.heap.size) (hm : RcSmall r) (hf : RcFit r) (hc : RcIn w lo hi r (RcA.mk sa (some ⟨gd, 0, none⟩) ha wa ya ba aa sc dc hc0 wc yc bc ac)) :
    Calls Try.prog 22 #[rcV r (RcA.mk sa (some ⟨gd, 0, none⟩) ha wa ya ba aa sc dc hc0 wc yc bc ac)] w fun e w' => ∃ ad cap, e = .returned (.slice ad (bkN r) cap) ∧ StrsIn w' w.heap.size w'.heap.size ad (bkN r) (bkX r) ∧ Below w.heap.size w w' := by
  have HM := hid hm
  have HF := hid hf
  have HC := hid hc
  have hV := hid (specValid_any r (RcA.mk sa (some ⟨gd, 0, none⟩) ha wa ya ba aa sc dc hc0 wc yc bc ac))
  clear hm hf hc
  have mark : Nat := 0
  obtain ⟨bv, hbv⟩ : ∃ b, rcB r = b := ⟨_, rfl⟩
  rw [hbv] at hV
  have HBV0 := hid hbv
  clear hbv
  cases bv
  · have OUT := hid (show bkN r = 0 by simp [bkN, HBV0.out])
    generalize bkN r = O at *
    go_enter Try.func22, Try.ntmps22
    go_wp2_with (first | ((with_reducible show wpList _ _ _ (⟨some 6, _, _, _, _, _⟩ :: _) _ _); clear mark; have Q0 := hid (Bx.new2 w (rcC r (RcA.mk sa (some ⟨gd, 0, none⟩) ha wa ya ba aa sc dc hc0 wc yc bc ac)) #[] 58 9).1; have OW0 := hid (World.ownsRow_made (base := w.heap.size + 1) (e := 9) (size := 1) (w.alloc (.cells (rcC r (RcA.mk sa (some ⟨gd, 0, none⟩) ha wa ya ba aa sc dc hc0 wc yc bc ac)) 58)) #[] 0 (by simp) (Nat.zero_le _) rfl); have hB0 : Below w.heap.size w ((w.alloc (.cells (rcC r (RcA.mk sa (some ⟨gd, 0, none⟩) ha wa ya ba aa sc dc hc0 wc yc bc ac)) 58)).alloc (.cells #[] 9)) := (below_alloc _ _).alloc (by simp) _; (simp only [World.size_alloc] at OW0); (generalize (w.alloc (.cells (rcC r (RcA.mk sa (some ⟨gd, 0, none⟩) ha wa ya ba aa sc dc hc0 wc yc bc ac)) 58)).alloc (.cells #[] 9) = W at *)) | ((with_reducible show wpList _ _ _ (⟨some 6, Op.load 58 _, _, _, _, _⟩ :: _) _ _); refine wpList_load_mid rfl 58 _ rfl w.heap.size 0 rfl (rcC r (RcA.mk sa (some ⟨gd, 0, none⟩) ha wa ya ba aa sc dc hc0 wc yc bc ac)).toList _ (Holds.range (cs := (rcC r (RcA.mk sa (some ⟨gd, 0, none⟩) ha wa ya ba aa sc dc hc0 wc yc bc ac)).toList) Q0.out.cell) Try.underlying58 rfl Try.sz58 ?_) | (go_at_call 46; refine (hV.out W lo hi (Nat.le_trans hhi hB0.size) HF.out (HC.out.below hB0 hhi)).mono ?_; rintro e w1 ⟨rfl, hb1⟩; have hB1 : Below w.heap.size w w1 := hB0.trans (hb1.mono hB0.size); have Q1 := hid (Q0.out.below hb1 Q0.out.lt); have own1 := ownsRow_fr OW0.out (FrP.of_below (P := fun _ => False) hb1) (fun _ _ h => h); have BD : Hid (BdS w1 (w.heap.size + 1) (.slice (some ⟨w.heap.size + 1, 0, none⟩) 0 0) 0 (bkX r)) := ⟨⟨fun _ => .int .i64 0, by simpa [rowCells] using own1, fun i hi => absurd hi (Nat.not_lt_zero _)⟩⟩; clear hb1 Q0 hB0 OW0 own1))
    go_ret
    rw [OUT.out]
    exact ⟨_, _, rfl, fun i hi => absurd hi (Nat.not_lt_zero _), hB1⟩
  obtain ⟨hk0, hk1⟩ := dkB_known (rcB_disk HBV0.out)
  obtain ⟨k, hk⟩ : ∃ k : Nat, r.dk.kn = k := ⟨r.dk.kn.toNat, by omega⟩
  have hkn : k ≤ r.dk.n := by omega
  have HK := hid hk
  have OUT := hid (show bkN r = k by simp [bkN, HBV0.out, hk])
  have hdn := HM.out.dk
  obtain ⟨i0, hi0, hi1, hi2, hi3⟩ := info_parts Try.info9
  clear hk hk0 hk1
  generalize bkN r = O at *
  go_enter Try.func22, Try.ntmps22
  go_wp2_with (first | ((with_reducible show wpList _ _ _ (⟨some 6, _, _, _, _, _⟩ :: _) _ _); clear mark; have Q0 := hid (Bx.new2 w (rcC r (RcA.mk sa (some ⟨gd, 0, none⟩) ha wa ya ba aa sc dc hc0 wc yc bc ac)) #[] 58 9).1; have OW0 := hid (World.ownsRow_made (base := w.heap.size + 1) (e := 9) (size := 1) (w.alloc (.cells (rcC r (RcA.mk sa (some ⟨gd, 0, none⟩) ha wa ya ba aa sc dc hc0 wc yc bc ac)) 58)) #[] 0 (by simp) (Nat.zero_le _) rfl); have hB0 : Below w.heap.size w ((w.alloc (.cells (rcC r (RcA.mk sa (some ⟨gd, 0, none⟩) ha wa ya ba aa sc dc hc0 wc yc bc ac)) 58)).alloc (.cells #[] 9)) := (below_alloc _ _).alloc (by simp) _; (simp only [World.size_alloc] at OW0); (generalize (w.alloc (.cells (rcC r (RcA.mk sa (some ⟨gd, 0, none⟩) ha wa ya ba aa sc dc hc0 wc yc bc ac)) 58)).alloc (.cells #[] 9) = W at *)) | ((with_reducible show wpList _ _ _ (⟨some 6, Op.load 58 _, _, _, _, _⟩ :: _) _ _); refine wpList_load_mid rfl 58 _ rfl w.heap.size 0 rfl (rcC r (RcA.mk sa (some ⟨gd, 0, none⟩) ha wa ya ba aa sc dc hc0 wc yc bc ac)).toList _ (Holds.range (cs := (rcC r (RcA.mk sa (some ⟨gd, 0, none⟩) ha wa ya ba aa sc dc hc0 wc yc bc ac)).toList) Q0.out.cell) Try.underlying58 rfl Try.sz58 ?_) | (go_at_call 46; refine (hV.out W lo hi (Nat.le_trans hhi hB0.size) HF.out (HC.out.below hB0 hhi)).mono ?_; rintro e w1 ⟨rfl, hb1⟩; have hB1 : Below w.heap.size w w1 := hB0.trans (hb1.mono hB0.size); have Q1 := hid (Q0.out.below hb1 Q0.out.lt); have own1 := ownsRow_fr OW0.out (FrP.of_below (P := fun _ => False) hb1) (fun _ _ h => h); have BD : Hid (BdS w1 (w.heap.size + 1) (.slice (some ⟨w.heap.size + 1, 0, none⟩) 0 0) 0 (bkX r)) := ⟨⟨fun _ => .int .i64 0, by simpa [rowCells] using own1, fun i hi => absurd hi (Nat.not_lt_zero _)⟩⟩; clear hb1 Q0 hB0 OW0 own1))
  go_loopw [3, 4] (fun v i wr => ∃ j : Nat, j ≤ k ∧ i = .int .i64 j ∧ Below w.heap.size w wr ∧ Bx wr w.heap.size (rcC r (RcA.mk sa (some ⟨gd, 0, none⟩) ha wa ya ba aa sc dc hc0 wc yc bc ac)) ∧ BdS wr (w.heap.size + 1) v j (bkX r)) (fun _ i _ => k - (intOf i).toNat)
  case atStart => exact ⟨0, Nat.zero_le _, rfl, hB1, Q1.out, BD.out⟩
  case round =>
    obtain ⟨j, hj, rfl, b0, bx, bd⟩ := hrel
    clear BD hB1 Q1
    obtain ⟨q0, q1, q2, q3, q4, q5, q6, q7, q8, q9, q10, q11, q12, q13, q14, q15, q16, q17⟩ := holds18 bx.cell
    rw [HK.out] at q7
    have BXH := hid bx
    have hsz := bx.lt
    clear bx
    by_cases hjk : j < k
    · obtain ⟨b, off, hda, hlo, hbh, hcx⟩ := (HC.out.below b0 hhi).dk j (by omega)
      obtain ⟨rfl, rfl⟩ : gd = b ∧ 0 = off := by simpa using hda
      clear hda
      obtain ⟨d0, d1⟩ := hcx
      have d2 : wr.cell? ⟨gd, 0 + j * 2 + 1, none⟩ = some (.string (bkX r j)) := d1
      clear d1
      simp only [Nat.zero_add] at d0 d2
      have hbw : gd < wr.heap.size := by omega
      have BDH := hid bd
      clear bd
      have BD5 := hid (BDH.out.grow (below_alloc wr (.cells #[.string (bkX r j)] 9)))
      obtain ⟨c, own5, hat⟩ := BD5.out.row
      have HAT := hid hat
      have NW := alloc_news wr [.string (bkX r j)] 9
      have OB := hid own5.lt
      clear hat
      go_wp2_with (at_builtin; go_must (refine wpList_append_own_at _ rfl _ _ 46 rfl (w.heap.size + 1) 9 i0 _ 1 16 Try.underlying46 hi0 hi1 hi2 hi3 rfl (by decide) _ j (rowCells (j * 1) c) rfl own5 ⟨wr.heap.size, 0, none⟩ 1 1 [.string (bkX r j)] rfl rfl NW (by simp [Value.oneCell']) (by unfold maxLen; omega) (by omega) (by simp; omega) ?_; intro v6 w6 own6 grow6 nil6 at6; clear nil6 at6))
      have BD6 := hid (BdS.app HAT.out own6)
      have HB6 : Hid (Below w.heap.size w w6) := (b0.alloc b0.size _).grown grow6 (by simp; omega) (fun k hk => by have := (OB.out k hk).1; omega)
      have BX6 : Hid (Bx w6 w.heap.size (rcC r (RcA.mk sa (some ⟨gd, 0, none⟩) ha wa ya ba aa sc dc hc0 wc yc bc ac))) := (BXH.out.below (below_alloc wr (.cells #[.string (bkX r j)] 9)) hsz).frP (FrP.of_grown grow6) (fun e => by have := (OB.out _ e).1; omega)
      clear own6 grow6 own5 NW BD5 BDH OB BXH q0 q1 q2 q3 q4 q5 q6 q7 q8 q9 q10 q11 q12 q13 q14 q15 q16 q17 d0 d2
      go_wp2
      go_roundw
      case rel => exact ⟨j + 1, by omega, by go_num, HB6.out, BX6.out, BD6.out⟩
      case measure => simp [intOf]; omega
    · obtain rfl : j = k := by omega
      obtain ⟨ad, cap, g, rfl, so, sl⟩ := bd.own
      have SO := hid so
      have SL := hid sl
      clear so sl bd
      go_wp2
      go_ret
      rw [OUT.out]
      exact ⟨ad, ⟨cap, rfl⟩, SO.out.in0 (fun h0 => ⟨by have := SL.out h0; omega, (SL.out h0).2⟩), b0⟩
theorem bookSpec_any (r : Rc) (A : RcA) (w : World) (lo hi : Nat) (hhi : hi ≤ w.heap.size) (hm : RcSmall r) (hf : RcFit r) (hn : RcNew r A) (hc : RcIn w lo hi r A) :
    Calls Try.prog 22 #[rcV r A] w fun e w' => ∃ ad cap, e = .returned (.slice ad (bkN r) cap) ∧ StrsIn w' w.heap.size w'.heap.size ad (bkN r) (bkX r) ∧ Below w.heap.size w w' := by
  obtain ⟨sa, da, ha, wa, ya, ba, aa, sc, dc, hc0, wc, yc, bc, ac⟩ := A
  obtain ⟨gd, hda⟩ := hn.da
  have e : da = some ⟨gd, 0, none⟩ := hda
  subst e
  exact bookSpecH r sa ha wa ya ba aa gd sc dc hc0 wc yc bc ac w lo hi hhi hm hf hc
end Go.Proofs.Ytjepponnhieocaa
