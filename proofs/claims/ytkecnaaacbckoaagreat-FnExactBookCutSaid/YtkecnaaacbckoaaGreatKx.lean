import Derived.Test.YtkecnaaacbckoaaGreatKg
namespace Go.Proofs.YtkecnaaacbckoaaGreat
open Go.RowKit
set_option maxRecDepth 100000 in
set_option maxHeartbeats 2000000 in
/-- bookCopyObjects -/
theorem copyObjs_any (n : Nat) (x : Nat → Ob) (a : Option Addr) (c : Nat) (w : World) (lo hi : Nat) (hhi : hi ≤ w.heap.size) (hn : (n : Int) ≤ 1099511627776) (hf : ∀ i, i < n → ObFit (x i)) (hc : ObjsIn w lo hi a n x) :
    Calls Tryz.prog 99 #[.slice a n c] w fun e w' => ∃ ad' cap' g A C hb, e = .returned (.slice ad' n cap') ∧ ObsAt w' ad' g n x A C hb ∧ (∀ q, blkH g n (fun i => (x i).hn) hb q → w.heap.size ≤ q) ∧ Below w.heap.size w w' := by
  obtain ⟨co, Ao, Co, so, ato, sto⟩ := hc.src
  have SO := hid so
  have AO := hid ato
  have HO := hid sto
  have F4 := hid hf
  clear so ato sto hc hf
  go_enter Tryz.func99, Tryz.ntmps99
  go_wp2_with fail
  refine (copyObs_row n co a c _ lo hi hhi (by omega) SO.out).mono ?_
  rintro e w1 ⟨ad1, d1, rfl, hr1, hb1⟩
  have HR1 := hid hr1
  have B1 := hb1
  have HA1 : Hid (0 < n → ad1 = some ⟨w.heap.size, 0, none⟩) := fun h0 => (HR1.out h0).1
  have cp0 : CpOb w1 w.heap.size n 0 x Ao Ao Co (fun _ => 0) :=
    ⟨fun h0 => ⟨co, (HR1.out h0).2, AO.out⟩, fun _ _ _ => rfl, fun i hi => absurd hi (Nat.not_lt_zero _), fun i hi => absurd hi (Nat.not_lt_zero _), fun i j hi => absurd hi (Nat.not_lt_zero _)⟩
  clear hr1 hb1
  go_wp2
  go_loopw [10] (fun i wr => ∃ (k : Nat) (A : Nat → Option Addr) (C hb : Nat → Nat), k ≤ n ∧ i = .int .i64 k ∧ Below w.heap.size w wr ∧ CpOb wr w.heap.size n k x Ao A C hb) (fun i _ => n - (intOf i).toNat)
  case atStart => exact ⟨0, _, _, _, Nat.zero_le _, rfl, B1, cp0⟩
  case round =>
    obtain ⟨k, A, C, hb, hk, rfl, b0, cp⟩ := hrel
    clear cp0
    by_cases hkn : k < n
    · obtain ⟨c, rr, hat⟩ := cp.row (by omega)
      have hA := HA1.out (by omega)
      subst hA
      obtain ⟨t0, t1, t2, t3, t4, t5, t6⟩ := hat k hkn
      have d0 := (rr.cell (k * 7) (by omega)).trans (congrArg some t0)
      have d1 := (rr.cell (k * 7 + 1) (by omega)).trans (congrArg some t1)
      have d2 := (rr.cell (k * 7 + 2) (by omega)).trans (congrArg some t2)
      have d3 := (rr.cell (k * 7 + 3) (by omega)).trans (congrArg some t3)
      have d4 := (rr.cell (k * 7 + 4) (by omega)).trans (congrArg some t4)
      have d5 := (rr.cell (k * 7 + 5) (by omega)).trans (congrArg some t5)
      have d6 := (rr.cell (k * 7 + 6) (by omega)).trans (congrArg some t6)
      have hsrc := HO.out k hkn
      rw [← cp.src k (Nat.le_refl _) hkn] at hsrc
      have HSR := hid hsrc
      have hfk : ((x k).hn : Int) ≤ 8796093022208 := (F4.out k hkn).h
      have CP := hid cp
      have RR := hid rr
      have hwz : w.heap.size < wr.heap.size := rr.lt
      clear t0 t1 t2 t3 t4 t5 t6 hsrc cp rr hat
      go_wp2_with (go_at_call 64; go_must (refine (copyOb_own (x k) (A k) (C k) _ lo hi (by simp; omega) hfk (by exact HSR.out.below (b0.alloc b0.size _) hhi)).mono ?_; rintro e w2 ⟨ad', cap', b', rfl, hb', hlt', ho', hb2⟩; have hb3 : Below wr.heap.size wr w2 := ((below_alloc _ _).trans (hb2.mono (by simp))); have rg := RR.out.below hb3 RR.out.lt; have s0 := rg.cell (k * 7) (by omega); have s1 := rg.cell (k * 7 + 1) (by omega); have s2 := rg.cell (k * 7 + 2) (by omega); have s3 := rg.cell (k * 7 + 3) (by omega); have s4 := rg.cell (k * 7 + 4) (by omega); have s5 := rg.cell (k * 7 + 5) (by omega); have s6 := rg.cell (k * 7 + 6) (by omega); have sf := rg.free; have HB3 := hid hb3; have HOO := hid ho'; have HLT := hid hlt'; have HBP := hid hb'; clear rg hb3 ho' hlt' hb' hb2))
      have hbb : wr.heap.size ≤ b' := by have := HBP.out; simp at this; omega
      have CPP := hid (CP.out.put hkn HB3.out (cap' := cap') hbb HLT.out HOO.out)
      have hz3 := HB3.out.size
      clear s0 s1 s2 s3 s4 s5 s6 sf d0 d1 d2 d3 d4 d5 d6
      go_roundw
      case rel =>
        refine ⟨k + 1, _, _, _, by omega, by go_num, ?_, CPP.out⟩
        iterate 7 refine Below.setCell ?_ (by simp) _
        exact b0.trans (HB3.out.mono (by omega))
      case measure => simp [intOf]; omega
    · have hke : k = n := by omega
      subst hke
      have CPO := hid cp
      clear cp
      go_wp2
      go_ret
      exact ⟨ad1, d1, w.heap.size, A, C, hb, rfl, CPO.out.done HA1.out, fun q hq => (CPO.out.rng hq).1, b0⟩
set_option maxRecDepth 100000 in
/-- bookCopyChange -/
theorem copyCh_own (x : Ch) (ad : Option Addr) (cap : Nat) (w : World) (lo hi : Nat) (hhi : hi ≤ w.heap.size) (hl : (x.ob.hn : Int) ≤ 8796093022208) (hc : StrsIn w lo hi ad x.ob.hn x.ob.hs) :
    Calls Tryz.prog 76 #[.agg #[.int .i64 x.ver, .bool x.gone, .string x.ob.kind, .string x.ob.name, .int .i64 x.ob.ver, .int .i64 x.ob.born, .string x.ob.text, .bool x.ob.ending, .slice ad x.ob.hn cap]] w fun e w' => ∃ ad' cap' b', e = .returned (.agg #[.int .i64 x.ver, .bool x.gone, .string x.ob.kind, .string x.ob.name, .int .i64 x.ob.ver, .int .i64 x.ob.born, .string x.ob.text, .bool x.ob.ending, .slice ad' x.ob.hn cap']) ∧ w.heap.size ≤ b' ∧ (x.ob.hn ≠ 0 → b' < w'.heap.size) ∧ StrsOwn w' b' (b' + 1) ad' x.ob.hn x.ob.hs ∧ Below w.heap.size w w' := by
  have HC := hid hc
  clear hc
  go_enter Tryz.func76, Tryz.ntmps76
  go_wp2_with fail
  refine (copyOb_own x.ob ad cap _ lo hi (by simp; omega) hl (by exact HC.out.below ((below_alloc _ _).alloc (by simp) _) hhi)).mono ?_
  rintro e w2 ⟨ad', cap', b', rfl, hb', hlt', ho', hb2⟩
  have hB2 : Below w.heap.size w w2 := ((below_alloc _ _).alloc (by simp) _).trans (hb2.mono (by simp; omega))
  have hz2 : w.heap.size + 1 < w2.heap.size := by have := hb2.size; simp at this; omega
  obtain ⟨A0, A1, F0, F1⟩ := two_cell' hb2
  have u0 := A0 0
  have u1 := A0 1
  have u2 := A0 2
  have u3 := A0 3
  have u4 := A0 4
  have u5 := A0 5
  have u6 := A0 6
  have u7 := A0 7
  have u8 := A0 8
  have v0 := A1 0
  have v1 := A1 1
  have v2 := A1 2
  have v3 := A1 3
  have v4 := A1 4
  have v5 := A1 5
  have v6 := A1 6
  have v7 := A1 7
  have v8 := A1 8
  simp only [List.getElem?_toArray, List.getElem?_cons_succ, List.getElem?_cons_zero] at u0 u1 u2 u3 u4 u5 u6 u7 u8 v0 v1 v2 v3 v4 v5 v6 v7 v8
  have HO := hid ho'
  have HL := hid hlt'
  have HBB : w.heap.size + 2 ≤ b' := by have := hb'; simp at this; omega
  clear ho' hlt' hb' A0 A1 hb2
  go_wp2
  refine bodyPost_ret (v := .agg #[.int .i64 x.ver, .bool x.gone, .string x.ob.kind, .string x.ob.name, .int .i64 x.ob.ver, .int .i64 x.ob.born, .string x.ob.text, .bool x.ob.ending, .slice ad' x.ob.hn cap']) (by simp [results, Tryz.results76, go_sem, v0, v1, v2, v3, v4, v5, v6, v7, v8]) rfl ⟨ad', cap', b', rfl, by omega, fun h0 => by simpa using HL.out h0, ?_, ?_⟩
  · refine HO.out.frP (P := fun q => q = w.heap.size ∨ q = w.heap.size + 1) ?_ (fun h0 => ⟨by omega, HL.out h0⟩)
    iterate 16 refine FrP.setCell (P := fun q => q = w.heap.size ∨ q = w.heap.size + 1) ?_ (by simp) _
    exact FrP.refl _ _
  · iterate 16 refine Below.setCell ?_ (by simp) _
    exact hB2
end Go.Proofs.YtkecnaaacbckoaaGreat
