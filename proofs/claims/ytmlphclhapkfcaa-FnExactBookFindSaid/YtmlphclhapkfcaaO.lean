import Derived.Test.YtmlphclhapkfcaaN
namespace Go.Proofs.Ytmlphclhapkfcaa
open Go.RowKit
theorem mkObs_le (k0 : Nat) (x : Nat → Ob) (n : Nat) : mkObs k0 x n ≤ k0 + 6 * szObs n x := by
  unfold szObs
  induction n with
  | zero => simp [mkObs]
  | succ n ih => simp only [mkObs, sumTo, szOb, szStrs] at *; omega
theorem mkChs_le (k0 : Nat) (x : Nat → Ch) (n : Nat) : mkChs k0 x n ≤ k0 + 8 * szChs n x := by
  unfold szChs
  induction n with
  | zero => simp [mkChs]
  | succ n ih => simp only [mkChs, sumTo, szCh, szOb, szStrs] at *; omega
theorem box_cell_fr {w w1 : World} {c : Array Value} {t : TypeId} {lo hi : Nat} (hb : Fr lo hi (w.alloc (.cells c t)) w1) (hh : hi ≤ w.heap.size) (i : Nat) : w1.cell? ⟨w.heap.size, i, none⟩ = c[i]? :=
  (hb.cell (p := ⟨w.heap.size, i, none⟩) (by simp) (Or.inr hh)).trans (World.cell?_alloc_new w c t i)
set_option maxHeartbeats 800000 in
theorem markBk_any (x : Bk) (g1 g2 g3 d1 d2 d3 : Nat) (w : World) (lo hi : Nat) (hs : szBk x ≤ 1048576) (hc : BkOwn w lo hi x g1 g2 g3) :
    Calls Try.prog 10 #[.agg #[.int .i64 x.now, .int .i64 x.floor, .slice (some ⟨g1, 0, none⟩) x.on d1, .slice (some ⟨g2, 0, none⟩) x.hn d2, .slice (some ⟨g3, 0, none⟩) x.tn d3], .int .i64 1] w fun e w' => ∃ k : Nat, e = .returned (.int .i64 k) ∧ Fr lo hi w w' := by
  obtain ⟨⟨h1, r1, ho, ho2⟩, ⟨h2, r2, hch, hch2⟩, ht, hlo, hhi, htop⟩ := hc
  have b1 := mkObs_le 1 x.os x.on
  have b2 := mkChs_le (mkObs 1 x.os x.on) x.hs x.hn
  have b3 : x.tn ≤ szTis x.tn x.ts := by unfold szTis; omega
  have b4 : x.on ≤ szObs x.on x.os := by unfold szObs; omega
  have b5 : x.hn ≤ szChs x.hn x.hs := by unfold szChs; omega
  unfold szBk at hs
  have b6 := mkObs_pos 1 x.os x.on (Nat.le_refl _)
  have b7 := mkChs_pos (mkObs 1 x.os x.on) x.hs x.hn b6
  have hg2 : g1 < h1 := Nat.lt_of_lt_of_le ho.r0 (Nat.le_trans (r_mono ho.mono (Nat.zero_le _) (Nat.le_refl _)) ho.rn)
  have hg3 : g2 < h2 := Nat.lt_of_lt_of_le hch.r0 (Nat.le_trans (r_mono hch.mono (Nat.zero_le _) (Nat.le_refl _)) hch.rn)
  have hA := fun c => below_alloc w (.cells c 37)
  go_enter Try.func10, Try.ntmps10
  go_wp2_with fail
  have c1 := markObs_any x.on x.os g1 h1 d1 1 r1 (w.alloc (.cells #[.int .i64 x.now, .int .i64 x.floor, .slice (some ⟨g1, 0, none⟩) x.on d1, .slice (some ⟨g2, 0, none⟩) x.hn d2, .slice (some ⟨g3, 0, none⟩) x.tn d3] 37)) (by omega) (by omega) (by omega) (ho.rest.below (hA _))
  refine c1.mono ?_
  clear c1
  rintro e w1 ⟨rfl, hf1⟩
  have k3 := box_cell_fr hf1 (by omega) 3
  have HT1 := (ht.fr (Fr.of_below (lo := 0) (hi := 0) (hA _)) (Or.inr (Nat.zero_le _))).fr hf1 (Or.inr (by omega))
  have HC1 := (hch.fr (Fr.of_below (lo := 0) (hi := 0) (hA _)) (Or.inr (Nat.zero_le _))).fr hf1 (Or.inr (by omega))
  simp only [List.getElem?_toArray, List.getElem?_cons_succ, List.getElem?_cons_zero] at k3
  have HT := hid HT1
  have HC := hid HC1
  have HF1 := hid hf1
  clear HT1 HC1 ho hch ht hf1
  go_wp2_with fail
  refine (markChs_any x.hn x.hs g2 h2 d2 (mkObs 1 x.os x.on) r2 w1 (by omega) (by omega) (by omega) HC.out.rest).mono ?_
  rintro e w2 ⟨rfl, hf2⟩
  have k4 := box_cell_fr ((HF1.out.wide (lo2 := lo) (hi2 := hi) (by omega) (by omega)).trans (hf2.wide (by omega) (by omega))) htop 4
  simp only [List.getElem?_toArray, List.getElem?_cons_succ, List.getElem?_cons_zero] at k4
  have HT2 := hid (HT.out.fr hf2 (Or.inr (by omega)))
  have HF2 := hid ((HF1.out.wide (lo2 := lo) (hi2 := hi) (by omega) (by omega)).trans (hf2.wide (by omega) (by omega)))
  clear HT HC HF1 hf2 k3
  go_wp2_with fail
  refine (markTis_any x.tn g3 hi d3 (mkChs (mkObs 1 x.os x.on) x.hs x.hn) w2 (by omega) (by omega) ⟨HT2.out.room, hhi⟩).mono ?_
  rintro e w3 ⟨rfl, hf3⟩
  go_wp2
  go_ret
  exact ⟨_, rfl, (Fr.of_below (hA _)).trans (HF2.out.trans (hf3.wide (by omega) (Nat.le_refl _)))⟩
set_option maxHeartbeats 400000 in
theorem markOb_any (x : Ob) (ad : Option Addr) (cap : Nat) (w : World) (lo hi : Nat) (hhi : hi ≤ w.heap.size) (hl : (x.hn : Int) ≤ 1073741824) (hc : StrsOwn w lo hi ad x.hn x.hs) :
    Calls Try.prog 11 #[.agg #[.string x.kind, .string x.name, .int .i64 x.ver, .int .i64 x.born, .string x.text, .bool x.ending, .slice ad x.hn cap], .int .i64 1] w fun e w' => e = .returned (.int .i64 (1 + x.hn : Nat)) ∧ StrsOwn w' lo hi ad x.hn (fun i => mt (1 + i)) ∧ Fr lo hi w w' := by
  go_enter Try.func11, Try.ntmps11
  go_wp2_with fail
  refine (markStrs_any x.hn x.hs ad cap 1 _ lo hi (by simp; omega) hl (by omega) (by omega) (hc.fr (Fr.of_below (lo := 0) (hi := 0) (below_alloc w _)) hhi (Or.inr (Nat.zero_le _)))).mono ?_
  rintro e w1 ⟨rfl, hs, hf⟩
  have HS := hid hs
  clear hs
  go_wp2
  go_ret
  exact ⟨rfl, HS.out, (Fr.of_below (below_alloc w _)).trans hf⟩
set_option maxHeartbeats 400000 in
theorem heldOb_any (x : Ob) (ad : Option Addr) (cap : Nat) (w : World) (lo hi : Nat) (hhi : hi ≤ w.heap.size) (hl : (x.hn : Int) ≤ 1073741824) (hc : StrsOwn w lo hi ad x.hn (fun i => mt (1 + i))) :
    Calls Try.prog 12 #[.agg #[.string x.kind, .string x.name, .int .i64 x.ver, .int .i64 x.born, .string x.text, .bool x.ending, .slice ad x.hn cap], .int .i64 1] w fun e w' => e = .returned (.int .i64 (1 + x.hn : Nat)) ∧ Below w.heap.size w w' := by
  go_enter Try.func12, Try.ntmps12
  go_wp2_with fail
  refine (heldStrs_any x.hn ad cap 1 _ lo hi (by simp; omega) hl (by omega) (by omega) (hc.fr (Fr.of_below (lo := 0) (hi := 0) (below_alloc w _)) hhi (Or.inr (Nat.zero_le _)))).mono ?_
  rintro e w1 ⟨rfl, hb⟩
  go_wp2
  go_ret
  exact ⟨rfl, (below_alloc w _).trans (hb.mono (by simp))⟩
end Go.Proofs.Ytmlphclhapkfcaa
