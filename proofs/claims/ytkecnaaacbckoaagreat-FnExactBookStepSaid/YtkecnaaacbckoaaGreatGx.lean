import Derived.Test.YtkecnaaacbckoaaGreatGg
namespace Go.Proofs.YtkecnaaacbckoaaGreat
open Go.RowKit
set_option maxRecDepth 100000 in
set_option maxHeartbeats 800000 in
theorem copyObs_row (n : Nat) (c : Nat → Value) (ad : Option Addr) (cap : Nat) (w : World) (lo hi : Nat) (hhi : hi ≤ w.heap.size) (hl : (n : Int) ≤ 1099511627776) (hc : SrcRow w lo hi ad (n * 7) c) :
    Calls Tryz.prog 142 #[.slice ad n cap] w fun e w' => ∃ ad' cap', e = .returned (.slice ad' n cap') ∧ (0 < n → ad' = some ⟨w.heap.size, 0, none⟩ ∧ RowF w' w.heap.size (n * 7) c) ∧ Below w.heap.size w w' := by
  rcases Nat.eq_zero_or_pos n with h0 | hpos
  · subst h0
    go_enter Tryz.func142, Tryz.ntmps142
    go_wp2
    go_ret
    exact ⟨_, _, rfl, fun h => absurd h (Nat.lt_irrefl _), Below.refl _ _⟩
  · obtain ⟨i0, hi0, hz0, hz1, hz2⟩ := info_parts Tryz.info73
    obtain ⟨b, off, rfl, hlo, hbh, _⟩ := hc.at_ 0 (by omega)
    have hne : ((n : Int) == 0) = false := by simp; omega
    have hsz : (Tryz.prog.info? 73).map (·.size) = some 7 := by rw [hi0]; simp [hz1]
    have HC := hid hc
    clear hc
    go_enter Tryz.func142, Tryz.ntmps142
    go_wp2_with (first
      | (at_make; refine wpList_make_full _ rfl _ _ 28 rfl w.heap.size 73 i0 _ 7 Tryz.underlying28 hi0 hz0 hz1 .i64 .i64 _ _ n rfl rfl (by omega) (by omega) (by rw [hz2]; omega) (by unfold maxLen; omega) (by omega) ?_; intro w1 hown1 hgrow1; have hr1 := hid (room_made hown1); have hb1 : Below w.heap.size w w1 := (Below.refl _ _).grown hgrow1 (Nat.le_refl _) (by simp); clear hown1 hgrow1; have hrun := run_copy_many (P := Tryz.prog) w1 28 28 3 73 w.heap.size 0 n n ⟨b, off, none⟩ n cap 7 (rowCells (n * 7) c) Tryz.underlying28 hsz (by rw [rowCells_len]; simp) (by intro j u hj; obtain ⟨h1, rfl⟩ := rowCells_get hj; obtain ⟨b', off', e', _, e3, e4⟩ := HC.out.at_ j h1; cases e'; rw [show ((⟨b, off, none⟩ : Addr).add j) = ⟨b, off + j, none⟩ by simp [Addr.add], hb1.cell (p := ⟨b, off + j, none⟩) (by show b < _; omega)]; exact e4) (by intro j hj; rw [rowCells_len] at hj; obtain ⟨u, hu⟩ := hr1.out.has j hj; rw [Nat.zero_add, hu]; rfl) (by intro j _; exact hr1.out.free _) (by intro v hv; obtain ⟨i, hi, rfl⟩ := List.mem_map.1 hv; exact HC.out.one i (by simpa using hi)); have R1 := hid (RowF.filled c hr1.out); have R2 := hid ((Fr.of_below (lo := w.heap.size) (hi := w.heap.size + 1) hb1).trans (fr_setCells w.heap.size (rowCells (n * 7) c) 0 w1)); clear hr1 HC))
    go_ret
    exact ⟨_, _, rfl, fun _ => ⟨rfl, by simpa using R1.out⟩, by simpa using R2.out.below (Nat.le_refl _) (Nat.le_refl _)⟩
set_option maxRecDepth 100000 in
set_option maxHeartbeats 800000 in
theorem copyChs_row (n : Nat) (c : Nat → Value) (ad : Option Addr) (cap : Nat) (w : World) (lo hi : Nat) (hhi : hi ≤ w.heap.size) (hl : (n : Int) ≤ 1099511627776) (hc : SrcRow w lo hi ad (n * 9) c) :
    Calls Tryz.prog 100 #[.slice ad n cap] w fun e w' => ∃ ad' cap', e = .returned (.slice ad' n cap') ∧ (0 < n → ad' = some ⟨w.heap.size, 0, none⟩ ∧ RowF w' w.heap.size (n * 9) c) ∧ Below w.heap.size w w' := by
  rcases Nat.eq_zero_or_pos n with h0 | hpos
  · subst h0
    go_enter Tryz.func100, Tryz.ntmps100
    go_wp2
    go_ret
    exact ⟨_, _, rfl, fun h => absurd h (Nat.lt_irrefl _), Below.refl _ _⟩
  · obtain ⟨i0, hi0, hz0, hz1, hz2⟩ := info_parts Tryz.info75
    obtain ⟨b, off, rfl, hlo, hbh, _⟩ := hc.at_ 0 (by omega)
    have hne : ((n : Int) == 0) = false := by simp; omega
    have hsz : (Tryz.prog.info? 75).map (·.size) = some 9 := by rw [hi0]; simp [hz1]
    have HC := hid hc
    clear hc
    go_enter Tryz.func100, Tryz.ntmps100
    go_wp2_with (first
      | (at_make; refine wpList_make_full _ rfl _ _ 29 rfl w.heap.size 75 i0 _ 9 Tryz.underlying29 hi0 hz0 hz1 .i64 .i64 _ _ n rfl rfl (by omega) (by omega) (by rw [hz2]; omega) (by unfold maxLen; omega) (by omega) ?_; intro w1 hown1 hgrow1; have hr1 := hid (room_made hown1); have hb1 : Below w.heap.size w w1 := (Below.refl _ _).grown hgrow1 (Nat.le_refl _) (by simp); clear hown1 hgrow1; have hrun := run_copy_many (P := Tryz.prog) w1 29 29 3 75 w.heap.size 0 n n ⟨b, off, none⟩ n cap 9 (rowCells (n * 9) c) Tryz.underlying29 hsz (by rw [rowCells_len]; simp) (by intro j u hj; obtain ⟨h1, rfl⟩ := rowCells_get hj; obtain ⟨b', off', e', _, e3, e4⟩ := HC.out.at_ j h1; cases e'; rw [show ((⟨b, off, none⟩ : Addr).add j) = ⟨b, off + j, none⟩ by simp [Addr.add], hb1.cell (p := ⟨b, off + j, none⟩) (by show b < _; omega)]; exact e4) (by intro j hj; rw [rowCells_len] at hj; obtain ⟨u, hu⟩ := hr1.out.has j hj; rw [Nat.zero_add, hu]; rfl) (by intro j _; exact hr1.out.free _) (by intro v hv; obtain ⟨i, hi, rfl⟩ := List.mem_map.1 hv; exact HC.out.one i (by simpa using hi)); have R1 := hid (RowF.filled c hr1.out); have R2 := hid ((Fr.of_below (lo := w.heap.size) (hi := w.heap.size + 1) hb1).trans (fr_setCells w.heap.size (rowCells (n * 9) c) 0 w1)); clear hr1 HC))
    go_ret
    exact ⟨_, _, rfl, fun _ => ⟨rfl, by simpa using R1.out⟩, by simpa using R2.out.below (Nat.le_refl _) (Nat.le_refl _)⟩
set_option maxRecDepth 100000 in
set_option maxHeartbeats 800000 in
theorem copyTis_row (n : Nat) (c : Nat → Value) (ad : Option Addr) (cap : Nat) (w : World) (lo hi : Nat) (hhi : hi ≤ w.heap.size) (hl : (n : Int) ≤ 1099511627776) (hc : SrcRow w lo hi ad (n * 5) c) :
    Calls Tryz.prog 101 #[.slice ad n cap] w fun e w' => ∃ ad' cap', e = .returned (.slice ad' n cap') ∧ (0 < n → ad' = some ⟨w.heap.size, 0, none⟩ ∧ RowF w' w.heap.size (n * 5) c) ∧ Below w.heap.size w w' := by
  rcases Nat.eq_zero_or_pos n with h0 | hpos
  · subst h0
    go_enter Tryz.func101, Tryz.ntmps101
    go_wp2
    go_ret
    exact ⟨_, _, rfl, fun h => absurd h (Nat.lt_irrefl _), Below.refl _ _⟩
  · obtain ⟨i0, hi0, hz0, hz1, hz2⟩ := info_parts Tryz.info125
    obtain ⟨b, off, rfl, hlo, hbh, _⟩ := hc.at_ 0 (by omega)
    have hne : ((n : Int) == 0) = false := by simp; omega
    have hsz : (Tryz.prog.info? 125).map (·.size) = some 5 := by rw [hi0]; simp [hz1]
    have HC := hid hc
    clear hc
    go_enter Tryz.func101, Tryz.ntmps101
    go_wp2_with (first
      | (at_make; refine wpList_make_full _ rfl _ _ 30 rfl w.heap.size 125 i0 _ 5 Tryz.underlying30 hi0 hz0 hz1 .i64 .i64 _ _ n rfl rfl (by omega) (by omega) (by rw [hz2]; omega) (by unfold maxLen; omega) (by omega) ?_; intro w1 hown1 hgrow1; have hr1 := hid (room_made hown1); have hb1 : Below w.heap.size w w1 := (Below.refl _ _).grown hgrow1 (Nat.le_refl _) (by simp); clear hown1 hgrow1; have hrun := run_copy_many (P := Tryz.prog) w1 30 30 3 125 w.heap.size 0 n n ⟨b, off, none⟩ n cap 5 (rowCells (n * 5) c) Tryz.underlying30 hsz (by rw [rowCells_len]; simp) (by intro j u hj; obtain ⟨h1, rfl⟩ := rowCells_get hj; obtain ⟨b', off', e', _, e3, e4⟩ := HC.out.at_ j h1; cases e'; rw [show ((⟨b, off, none⟩ : Addr).add j) = ⟨b, off + j, none⟩ by simp [Addr.add], hb1.cell (p := ⟨b, off + j, none⟩) (by show b < _; omega)]; exact e4) (by intro j hj; rw [rowCells_len] at hj; obtain ⟨u, hu⟩ := hr1.out.has j hj; rw [Nat.zero_add, hu]; rfl) (by intro j _; exact hr1.out.free _) (by intro v hv; obtain ⟨i, hi, rfl⟩ := List.mem_map.1 hv; exact HC.out.one i (by simpa using hi)); have R1 := hid (RowF.filled c hr1.out); have R2 := hid ((Fr.of_below (lo := w.heap.size) (hi := w.heap.size + 1) hb1).trans (fr_setCells w.heap.size (rowCells (n * 5) c) 0 w1)); clear hr1 HC))
    go_ret
    exact ⟨_, _, rfl, fun _ => ⟨rfl, by simpa using R1.out⟩, by simpa using R2.out.below (Nat.le_refl _) (Nat.le_refl _)⟩
end Go.Proofs.YtkecnaaacbckoaaGreat
namespace Go.Proofs.YtkecnaaacbckoaaGreat
open Go.RowKit
set_option maxRecDepth 100000 in
set_option maxHeartbeats 2000000 in
/-- bookCopyObjects -/
theorem copyObjs_any (n : Nat) (x : Nat → Ob) (a : Option Addr) (c : Nat) (w : World) (lo hi : Nat) (hhi : hi ≤ w.heap.size) (hn : (n : Int) ≤ 1099511627776) (hf : ∀ i, i < n → ObFit (x i)) (hc : ObjsIn w lo hi a n x) :
    Calls Tryz.prog 99 #[.slice a n c] w fun e w' => ∃ ad' cap' g A C hb, e = .returned (.slice ad' n cap') ∧ ObsAt w' ad' g n x A C hb ∧ (∀ q, blkH g n (fun i => (x i).hn) hb q → w.heap.size ≤ q) ∧ Below w.heap.size w w' := by
  obtain ⟨co, Ao, Co, so, ato, sto⟩ := hc.src
  have SO := hid so
  have AO := hid ato
  have HO := hid sto
  have F4 := hid hf
  clear so ato sto hc hf
  go_enter Tryz.func99, Tryz.ntmps99
  go_wp2_with fail
  refine (copyObs_row n co a c _ lo hi hhi (by omega) SO.out).mono ?_
  rintro e w1 ⟨ad1, d1, rfl, hr1, hb1⟩
  have HR1 := hid hr1
  have B1 := hb1
  have HA1 : Hid (0 < n → ad1 = some ⟨w.heap.size, 0, none⟩) := fun h0 => (HR1.out h0).1
  have cp0 : CpOb w1 w.heap.size n 0 x Ao Ao Co (fun _ => 0) :=
    ⟨fun h0 => ⟨co, (HR1.out h0).2, AO.out⟩, fun _ _ _ => rfl, fun i hi => absurd hi (Nat.not_lt_zero _), fun i hi => absurd hi (Nat.not_lt_zero _), fun i j hi => absurd hi (Nat.not_lt_zero _)⟩
  clear hr1 hb1
  go_wp2
  go_loopw [10] (fun i wr => ∃ (k : Nat) (A : Nat → Option Addr) (C hb : Nat → Nat), k ≤ n ∧ i = .int .i64 k ∧ Below w.heap.size w wr ∧ CpOb wr w.heap.size n k x Ao A C hb) (fun i _ => n - (intOf i).toNat)
  case atStart => exact ⟨0, _, _, _, Nat.zero_le _, rfl, B1, cp0⟩
  case round =>
    obtain ⟨k, A, C, hb, hk, rfl, b0, cp⟩ := hrel
    clear cp0
    by_cases hkn : k < n
    · obtain ⟨c, rr, hat⟩ := cp.row (by omega)
      have hA := HA1.out (by omega)
      subst hA
      obtain ⟨t0, t1, t2, t3, t4, t5, t6⟩ := hat k hkn
      have d0 := (rr.cell (k * 7) (by omega)).trans (congrArg some t0)
      have d1 := (rr.cell (k * 7 + 1) (by omega)).trans (congrArg some t1)
      have d2 := (rr.cell (k * 7 + 2) (by omega)).trans (congrArg some t2)
      have d3 := (rr.cell (k * 7 + 3) (by omega)).trans (congrArg some t3)
      have d4 := (rr.cell (k * 7 + 4) (by omega)).trans (congrArg some t4)
      have d5 := (rr.cell (k * 7 + 5) (by omega)).trans (congrArg some t5)
      have d6 := (rr.cell (k * 7 + 6) (by omega)).trans (congrArg some t6)
      have hsrc := HO.out k hkn
      rw [← cp.src k (Nat.le_refl _) hkn] at hsrc
      have HSR := hid hsrc
      have hfk : ((x k).hn : Int) ≤ 8796093022208 := (F4.out k hkn).h
      have CP := hid cp
      have RR := hid rr
      have hwz : w.heap.size < wr.heap.size := rr.lt
      clear t0 t1 t2 t3 t4 t5 t6 hsrc cp rr hat
      go_wp2_with (go_at_call 64; go_must (refine (copyOb_own (x k) (A k) (C k) _ lo hi (by simp; omega) hfk (by exact HSR.out.below (b0.alloc b0.size _) hhi)).mono ?_; rintro e w2 ⟨ad', cap', b', rfl, hb', hlt', ho', hb2⟩; have hb3 : Below wr.heap.size wr w2 := ((below_alloc _ _).trans (hb2.mono (by simp))); have rg := RR.out.below hb3 RR.out.lt; have s0 := rg.cell (k * 7) (by omega); have s1 := rg.cell (k * 7 + 1) (by omega); have s2 := rg.cell (k * 7 + 2) (by omega); have s3 := rg.cell (k * 7 + 3) (by omega); have s4 := rg.cell (k * 7 + 4) (by omega); have s5 := rg.cell (k * 7 + 5) (by omega); have s6 := rg.cell (k * 7 + 6) (by omega); have sf := rg.free; have HB3 := hid hb3; have HOO := hid ho'; have HLT := hid hlt'; have HBP := hid hb'; clear rg hb3 ho' hlt' hb' hb2))
      have hbb : wr.heap.size ≤ b' := by have := HBP.out; simp at this; omega
      have CPP := hid (CP.out.put hkn HB3.out (cap' := cap') hbb HLT.out HOO.out)
      have hz3 := HB3.out.size
      clear s0 s1 s2 s3 s4 s5 s6 sf d0 d1 d2 d3 d4 d5 d6
      go_roundw
      case rel =>
        refine ⟨k + 1, _, _, _, by omega, by go_num, ?_, CPP.out⟩
        iterate 7 refine Below.setCell ?_ (by simp) _
        exact b0.trans (HB3.out.mono (by omega))
      case measure => simp [intOf]; omega
    · have hke : k = n := by omega
      subst hke
      have CPO := hid cp
      clear cp
      go_wp2
      go_ret
      exact ⟨ad1, d1, w.heap.size, A, C, hb, rfl, CPO.out.done HA1.out, fun q hq => (CPO.out.rng hq).1, b0⟩
set_option maxRecDepth 100000 in
/-- bookCopyChange -/
theorem copyCh_own (x : Ch) (ad : Option Addr) (cap : Nat) (w : World) (lo hi : Nat) (hhi : hi ≤ w.heap.size) (hl : (x.ob.hn : Int) ≤ 8796093022208) (hc : StrsIn w lo hi ad x.ob.hn x.ob.hs) :
    Calls Tryz.prog 76 #[.agg #[.int .i64 x.ver, .bool x.gone, .string x.ob.kind, .string x.ob.name, .int .i64 x.ob.ver, .int .i64 x.ob.born, .string x.ob.text, .bool x.ob.ending, .slice ad x.ob.hn cap]] w fun e w' => ∃ ad' cap' b', e = .returned (.agg #[.int .i64 x.ver, .bool x.gone, .string x.ob.kind, .string x.ob.name, .int .i64 x.ob.ver, .int .i64 x.ob.born, .string x.ob.text, .bool x.ob.ending, .slice ad' x.ob.hn cap']) ∧ w.heap.size ≤ b' ∧ (x.ob.hn ≠ 0 → b' < w'.heap.size) ∧ StrsOwn w' b' (b' + 1) ad' x.ob.hn x.ob.hs ∧ Below w.heap.size w w' := by
  have HC := hid hc
  clear hc
  go_enter Tryz.func76, Tryz.ntmps76
  go_wp2_with fail
  refine (copyOb_own x.ob ad cap _ lo hi (by simp; omega) hl (by exact HC.out.below ((below_alloc _ _).alloc (by simp) _) hhi)).mono ?_
  rintro e w2 ⟨ad', cap', b', rfl, hb', hlt', ho', hb2⟩
  have hB2 : Below w.heap.size w w2 := ((below_alloc _ _).alloc (by simp) _).trans (hb2.mono (by simp; omega))
  have hz2 : w.heap.size + 1 < w2.heap.size := by have := hb2.size; simp at this; omega
  obtain ⟨A0, A1, F0, F1⟩ := two_cell' hb2
  have u0 := A0 0
  have u1 := A0 1
  have u2 := A0 2
  have u3 := A0 3
  have u4 := A0 4
  have u5 := A0 5
  have u6 := A0 6
  have u7 := A0 7
  have u8 := A0 8
  have v0 := A1 0
  have v1 := A1 1
  have v2 := A1 2
  have v3 := A1 3
  have v4 := A1 4
  have v5 := A1 5
  have v6 := A1 6
  have v7 := A1 7
  have v8 := A1 8
  simp only [List.getElem?_toArray, List.getElem?_cons_succ, List.getElem?_cons_zero] at u0 u1 u2 u3 u4 u5 u6 u7 u8 v0 v1 v2 v3 v4 v5 v6 v7 v8
  have HO := hid ho'
  have HL := hid hlt'
  have HBB : w.heap.size + 2 ≤ b' := by have := hb'; simp at this; omega
  clear ho' hlt' hb' A0 A1 hb2
  go_wp2
  refine bodyPost_ret (v := .agg #[.int .i64 x.ver, .bool x.gone, .string x.ob.kind, .string x.ob.name, .int .i64 x.ob.ver, .int .i64 x.ob.born, .string x.ob.text, .bool x.ob.ending, .slice ad' x.ob.hn cap']) (by simp [results, Tryz.results76, go_sem, v0, v1, v2, v3, v4, v5, v6, v7, v8]) rfl ⟨ad', cap', b', rfl, by omega, fun h0 => by simpa using HL.out h0, ?_, ?_⟩
  · refine HO.out.frP (P := fun q => q = w.heap.size ∨ q = w.heap.size + 1) ?_ (fun h0 => ⟨by omega, HL.out h0⟩)
    iterate 16 refine FrP.setCell (P := fun q => q = w.heap.size ∨ q = w.heap.size + 1) ?_ (by simp) _
    exact FrP.refl _ _
  · iterate 16 refine Below.setCell ?_ (by simp) _
    exact hB2
end Go.Proofs.YtkecnaaacbckoaaGreat
