import Derived.Test.YtkecnaaacbckoaaTi
namespace Go.Proofs.Ytkecnaaacbckoaa
open Go.RowKit Go.Maps
theorem resFin5 {X : World} {rb : Nat} {o : Array Value} (h : BoxC X rb o) (ho : o.size = 5) (v0 v1 v2 v3 v4 : Value) :
    ∃ Y, ((((X.setCell ⟨rb, 0, none⟩ v0).setCell ⟨rb, 1, none⟩ v1).setCell ⟨rb, 2, none⟩ v2).setCell ⟨rb, 3, none⟩ v3).setCell ⟨rb, 4, none⟩ v4 = Y ∧ FrP (fun q => q = rb) X Y ∧ Y.cell? ⟨rb, 0, none⟩ = some v0 ∧ Y.cell? ⟨rb, 1, none⟩ = some v1 ∧ Y.cell? ⟨rb, 2, none⟩ = some v2 ∧ Y.cell? ⟨rb, 3, none⟩ = some v3 ∧ Y.cell? ⟨rb, 4, none⟩ = some v4 := by
  have F : FrP (fun q => q = rb) X (((((X.setCell ⟨rb, 0, none⟩ v0).setCell ⟨rb, 1, none⟩ v1).setCell ⟨rb, 2, none⟩ v2).setCell ⟨rb, 3, none⟩ v3).setCell ⟨rb, 4, none⟩ v4) :=
    FrP.setCell (P := fun q => q = rb) (FrP.setCell (P := fun q => q = rb) (FrP.setCell (P := fun q => q = rb) (FrP.setCell (P := fun q => q = rb) (FrP.setCell (P := fun q => q = rb) (FrP.refl _ X) (p := ⟨rb, 0, none⟩) rfl _) (p := ⟨rb, 1, none⟩) rfl _) (p := ⟨rb, 2, none⟩) rfl _) (p := ⟨rb, 3, none⟩) rfl _) (p := ⟨rb, 4, none⟩) rfl _
  have b := ((((h.set (j := 0) (by omega) v0).set (j := 1) (by simp; omega) v1).set (j := 2) (by simp; omega) v2).set (j := 3) (by simp; omega) v3).set (j := 4) (by simp; omega) v4
  have c := b.cell
  exact ⟨_, rfl, F, by rw [c 0]; simp [ho], by rw [c 1]; simp [ho], by rw [c 2]; simp [ho], by rw [c 3]; simp [ho], by rw [c 4]; simp [ho]⟩
/-- what comes of taking news -/
def tkS (m : Mr) (cd fv : Int) (n : Nat) (x : Nat → Ch) : TS := if tkC m.at_ cd fv n x = 0 then ⟨max (tkTo ⟨m.at_, m.seen, toL m.n m.os⟩ x n).at_ fv, (tkTo ⟨m.at_, m.seen, toL m.n m.os⟩ x n).seen, (tkTo ⟨m.at_, m.seen, toL m.n m.os⟩ x n).l⟩ else ⟨m.at_, m.seen, toL m.n m.os⟩
set_option maxRecDepth 100000 in
set_option maxHeartbeats 4000000 in
theorem implTake_any (m : Mr) (a : Option Addr) (c : Nat) (cd fv : Int) (n : Nat) (x : Nat → Ch) (an : Option Addr) (cn : Nat) (w : World) (lo hi : Nat) (hhi : hi ≤ w.heap.size) (hmn : (m.n : Int) ≤ 1048576) (hn : (n : Int) ≤ 1048576) (hf : ∀ i, i < m.n → ObFit (m.os i)) (hfx : ∀ i, i < n → ObFit (x i).ob) (hc : ObjsIn w lo hi a m.n m.os) (hx : ChgsIn w lo hi an n x) :
    Calls Try.prog 9 #[.agg #[.string m.kind, .string m.pre, .int .i64 m.at_, .slice a m.n c, .int .i64 m.seen], .agg #[.int .i64 cd, .slice an n cn, .int .i64 fv]] w fun r w' => ∃ (ad' : Option Addr) (cap' g : Nat) (L : List EO), r = .returned (.tuple #[.agg #[.string m.kind, .string m.pre, .int .i64 (tkS m cd fv n x).at_, .slice ad' L.length cap', .int .i64 (tkS m cd fv n x).seen], .int .i64 (tkC m.at_ cd fv n x)]) ∧ L.map EO.ob = (tkS m cd fv n x).l ∧ (L ≠ [] → ad' = some ⟨g, 0, none⟩ ∧ RowE w' g L) ∧ HoldE w' L ∧ (L ≠ [] → w.heap.size ≤ g) ∧ (∀ e, e ∈ L → e.ob.hn ≠ 0 → e.hb ≠ g ∧ w.heap.size ≤ e.hb) ∧ Below w.heap.size w w' := by
  have HC := hid hc
  have HX := hid hx
  have HF := hid hf
  have HFX := hid hfx
  clear hc hx hf hfx
  have hb0 : ∀ o1 o2 o3, Below w.heap.size w (((w.alloc o1).alloc o2).alloc o3) := fun o1 o2 o3 => ((below_alloc _ _).alloc (by simp) _).alloc (by simp; omega) _
  have X0 : BoxC (((w.alloc (.cells #[.string m.kind, .string m.pre, .int .i64 m.at_, .slice a m.n c, .int .i64 m.seen] 32)).alloc (.cells #[.int .i64 cd, .slice an n cn, .int .i64 fv] 38)).alloc (.cells #[.string ByteArray.empty, .string ByteArray.empty, .int .i64 0, .slice none 0 0, .int .i64 0] 32)) w.heap.size #[.string m.kind, .string m.pre, .int .i64 m.at_, .slice a m.n c, .int .i64 m.seen] := ((boxC_new (w := w) (t := 32) (Below.refl _ _)).below (below_alloc _ (.cells #[.int .i64 cd, .slice an n cn, .int .i64 fv] 38))).below (below_alloc _ _)
  have X1 : BoxC (((w.alloc (.cells #[.string m.kind, .string m.pre, .int .i64 m.at_, .slice a m.n c, .int .i64 m.seen] 32)).alloc (.cells #[.int .i64 cd, .slice an n cn, .int .i64 fv] 38)).alloc (.cells #[.string ByteArray.empty, .string ByteArray.empty, .int .i64 0, .slice none 0 0, .int .i64 0] 32)) (w.heap.size + 1) #[.int .i64 cd, .slice an n cn, .int .i64 fv] := by
    have := (boxC_new (w := w.alloc (.cells #[.string m.kind, .string m.pre, .int .i64 m.at_, .slice a m.n c, .int .i64 m.seen] 32)) (c := #[.int .i64 cd, .slice an n cn, .int .i64 fv]) (t := 38) (Below.refl _ _)).below (below_alloc _ (.cells #[.string ByteArray.empty, .string ByteArray.empty, .int .i64 0, .slice none 0 0, .int .i64 0] 32))
    simpa using this
  have X2 : BoxC (((w.alloc (.cells #[.string m.kind, .string m.pre, .int .i64 m.at_, .slice a m.n c, .int .i64 m.seen] 32)).alloc (.cells #[.int .i64 cd, .slice an n cn, .int .i64 fv] 38)).alloc (.cells #[.string ByteArray.empty, .string ByteArray.empty, .int .i64 0, .slice none 0 0, .int .i64 0] 32)) (w.heap.size + 1 + 1) #[.string ByteArray.empty, .string ByteArray.empty, .int .i64 0, .slice none 0 0, .int .i64 0] := by
    have := boxC_new (w := (w.alloc (.cells #[.string m.kind, .string m.pre, .int .i64 m.at_, .slice a m.n c, .int .i64 m.seen] 32)).alloc (.cells #[.int .i64 cd, .slice an n cn, .int .i64 fv] 38)) (c := #[.string ByteArray.empty, .string ByteArray.empty, .int .i64 0, .slice none 0 0, .int .i64 0]) (t := 32) (Below.refl _ _)
    simpa using this
  have hzz : (((w.alloc (.cells #[.string m.kind, .string m.pre, .int .i64 m.at_, .slice a m.n c, .int .i64 m.seen] 32)).alloc (.cells #[.int .i64 cd, .slice an n cn, .int .i64 fv] 38)).alloc (.cells #[.string ByteArray.empty, .string ByteArray.empty, .int .i64 0, .slice none 0 0, .int .i64 0] 32)).heap.size = w.heap.size + 3 := by simp
  have HX0 := hid X0
  have HX1 := hid X1
  have HX2 := hid X2
  clear X0 X1 X2
  go_enter Try.func9, Try.ntmps9
  go_wp2_with fail
  refine (copyObjs_any m.n m.os a c _ lo hi (by simp; omega) (by omega) HF.out (HC.out.below (hb0 _ _ _) hhi)).mono ?_
  rintro e w1 ⟨ad1, cap1, g1, A, C, hb, rfl, ⟨rfl, hnil⟩, hob, hq, hb1⟩
  have hz1 : w.heap.size + 3 ≤ w1.heap.size := by have := hb1.size; simp at this; omega
  have hB1 : Below w.heap.size w w1 := (hb0 _ _ _).trans (hb1.mono (by simp; omega))
  have Y0 := HX0.out.below (by exact hb1)
  have Y1 := HX1.out.below (by exact hb1)
  have Y2 := HX2.out.below (by exact hb1)
  have HOB := hid hob
  have HQ := hid (show ∀ q, blkH g1 m.n (fun i => (m.os i).hn) hb q → w.heap.size + 3 ≤ q from fun q h => by have := hq q h; simp at this; omega)
  have HNL := hid hnil
  obtain ⟨p0, p1, p2, p3, p4⟩ : w1.cell? ⟨w.heap.size, 0, none⟩ = some (.string m.kind) ∧ w1.cell? ⟨w.heap.size, 1, none⟩ = some (.string m.pre) ∧ w1.cell? ⟨w.heap.size, 2, none⟩ = some (.int .i64 m.at_) ∧ w1.cell? ⟨w.heap.size, 3, none⟩ = some (.slice a m.n c) ∧ w1.cell? ⟨w.heap.size, 4, none⟩ = some (.int .i64 m.seen) := ⟨Y0.cell 0, Y0.cell 1, Y0.cell 2, Y0.cell 3, Y0.cell 4⟩
  obtain ⟨q0, q1, q2⟩ : w1.cell? ⟨w.heap.size + 1, 0, none⟩ = some (.int .i64 cd) ∧ w1.cell? ⟨w.heap.size + 1, 1, none⟩ = some (.slice an n cn) ∧ w1.cell? ⟨w.heap.size + 1, 2, none⟩ = some (.int .i64 fv) := ⟨Y1.cell 0, Y1.cell 1, Y1.cell 2⟩
  have f3 := Y0.free 3
  have HY0 := hid Y0
  have HY1 := hid Y1
  have HY2 := hid Y2
  clear hob hq hb1 hnil HX0 HX1 HX2 Y0 Y1 Y2 HC HF
  go_wp2_with fail
  have F1 : FrP (fun q => q = w.heap.size) w1 (w1.setCell ⟨w.heap.size, 3, none⟩ (.slice ad1 m.n m.n)) := FrP.setCell (P := fun q => q = w.heap.size) (FrP.refl _ w1) (p := ⟨w.heap.size, 3, none⟩) rfl _
  have B1' : Below w.heap.size w (w1.setCell ⟨w.heap.size, 3, none⟩ (.slice ad1 m.n m.n)) := hB1.trans (F1.below (fun q hq e => by have : q = w.heap.size := e; omega) hB1.size)
  have hs1 : (w1.setCell ⟨w.heap.size, 3, none⟩ (.slice ad1 m.n m.n)).heap.size = w1.heap.size := World.size_setCell _ _ _
  refine (newsCode_any m ad1 m.n cd fv n x an cn _ lo hi (by rw [hs1]; omega) (by omega) (HX.out.below B1' hhi)).mono ?_
  rintro e w2 ⟨rfl, hb2⟩
  have hz2 : w1.heap.size ≤ w2.heap.size := by have := hb2.size; omega
  have hB2 : Below w.heap.size w w2 := B1'.trans (hb2.mono (by omega))
  have Y0 : BoxC w2 w.heap.size #[.string m.kind, .string m.pre, .int .i64 m.at_, .slice ad1 m.n m.n, .int .i64 m.seen] := (HY0.out.set (j := 3) (by simp) (.slice ad1 m.n m.n)).below hb2
  have Y1 := (HY1.out.fr F1 (by show ¬ _ = _; omega)).below hb2
  have Y2 := (HY2.out.fr F1 (by show ¬ _ = _; omega)).below hb2
  have HOB2 := hid ((HOB.out.fr F1 (fun q hq e => by have h1 := HQ.out q hq; have h2 : q = w.heap.size := e; omega)).grow hb2)
  clear p0 p1 p2 p3 p4 q0 q1 q2 f3 HY0 HY1 HY2 hb2 F1 B1' hs1 HOB
  have HY0 := hid Y0
  have HY1 := hid Y1
  have HY2 := hid Y2
  obtain ⟨p0, p1, p2, p3, p4⟩ : w2.cell? ⟨w.heap.size, 0, none⟩ = some (.string m.kind) ∧ w2.cell? ⟨w.heap.size, 1, none⟩ = some (.string m.pre) ∧ w2.cell? ⟨w.heap.size, 2, none⟩ = some (.int .i64 m.at_) ∧ w2.cell? ⟨w.heap.size, 3, none⟩ = some (.slice ad1 m.n m.n) ∧ w2.cell? ⟨w.heap.size, 4, none⟩ = some (.int .i64 m.seen) := ⟨Y0.cell 0, Y0.cell 1, Y0.cell 2, Y0.cell 3, Y0.cell 4⟩
  obtain ⟨r0, r1, r2, r3, r4⟩ : w2.cell? ⟨w.heap.size + 1 + 1, 0, none⟩ = some (.string ByteArray.empty) ∧ w2.cell? ⟨w.heap.size + 1 + 1, 1, none⟩ = some (.string ByteArray.empty) ∧ w2.cell? ⟨w.heap.size + 1 + 1, 2, none⟩ = some (.int .i64 0) ∧ w2.cell? ⟨w.heap.size + 1 + 1, 3, none⟩ = some (.slice none 0 0) ∧ w2.cell? ⟨w.heap.size + 1 + 1, 4, none⟩ = some (.int .i64 0) := ⟨Y2.cell 0, Y2.cell 1, Y2.cell 2, Y2.cell 3, Y2.cell 4⟩
  have e0 := Y2.free 0
  have e1 := Y2.free 1
  have e2 := Y2.free 2
  have e3 := Y2.free 3
  have e4 := Y2.free 4
  obtain ⟨q0, q1, q2⟩ : w2.cell? ⟨w.heap.size + 1, 0, none⟩ = some (.int .i64 cd) ∧ w2.cell? ⟨w.heap.size + 1, 1, none⟩ = some (.slice an n cn) ∧ w2.cell? ⟨w.heap.size + 1, 2, none⟩ = some (.int .i64 fv) := ⟨Y1.cell 0, Y1.cell 1, Y1.cell 2⟩
  clear Y0 Y1 Y2
  obtain ⟨hE1, hE2, hE3⟩ := rowE_of HOB2.out
  have HE1 := hid hE1
  have HE2 := hid hE2
  have HE3 := hid hE3
  have HQE := hid (show (rowE m.n m.os A C hb ≠ [] → w.heap.size + 3 ≤ g1) ∧ ∀ e, e ∈ rowE m.n m.os A C hb → e.ob.hn ≠ 0 → w.heap.size + 3 ≤ e.hb from ⟨fun h => HQ.out g1 (Or.inl ⟨by
      rcases Nat.eq_zero_or_pos m.n with e | e
      · exact absurd (by rw [e]; rfl) h
      · exact e, rfl⟩), fun e he h0 => by
      obtain ⟨i, hi, rfl⟩ := mem_ixE he
      rw [rowE_len] at hi
      rw [rowE_at hi] at h0 ⊢
      exact HQ.out _ (Or.inr ⟨i, hi, h0, rfl⟩)⟩)
  clear hE1 hE2 hE3 HQ HOB2
  by_cases hC : tkC m.at_ cd fv n x = 0
  · have hS : tkS m cd fv n x = ⟨max (tkTo ⟨m.at_, m.seen, toL m.n m.os⟩ x n).at_ fv, (tkTo ⟨m.at_, m.seen, toL m.n m.os⟩ x n).seen, (tkTo ⟨m.at_, m.seen, toL m.n m.os⟩ x n).l⟩ := if_pos hC
    have HS := hid hS
    have HCC := hid hC
    have hBR := below_alloc w2 (.cells #[.slice ad1 m.n m.n] 61)
    have hbx : BoxC (w2.alloc (.cells #[.slice ad1 m.n m.n] 61)) w2.heap.size #[.slice ad1 m.n m.n] := boxC_new (Below.refl _ _)
    have hnn : rowE m.n m.os A C hb = [] → m.n = 0 := fun h => by have := congrArg List.length h; rw [rowE_len] at this; exact this
    have hD : TkR w m ad1 m.n cd fv n x an cn w2.heap.size (.int .i64 0) (w2.alloc (.cells #[.slice ad1 m.n m.n] 61)) := by
      refine ⟨0, rowE m.n m.os A C hb, ad1, g1, m.n, Nat.zero_le _, rfl, HY0.out.below hBR, HY1.out.below hBR, HY2.out.below hBR, ⟨by rw [rowE_len]; exact hbx.cell 0, hbx.free 0, hbx.lt⟩, ?_, HE2.out.grow hBR, fun h => ?_, fun e he h0 => ⟨fun _ => HE3.out e he h0, ?_, HQE.out.2 e he h0⟩, rowE_obs _ _ _ _ _, by rw [rowE_len]; omega, hB2.trans (hBR.mono hB2.size), by omega⟩
      · by_cases h : rowE m.n m.os A C hb = []
        · exact Or.inl ⟨HNL.out (hnn h), h, hnn h⟩
        · exact Or.inr ⟨(HE1.out h).1, (HE1.out h).2.grow hBR, by rw [rowE_len]; exact Nat.le_refl _⟩
      · have hl : rowE m.n m.os A C hb ≠ [] := fun h2 => h (HNL.out (hnn h2))
        exact ⟨by have := (HE1.out hl).2.lt; omega, HQE.out.1 hl⟩
      · have := HE2.out.lt e he h0
        omega
    have HD := hid hD
    clear hD hbx hBR hS hnn
    rw [hC]
    clear hC
    have zb1 : w.heap.size + 1 < w2.heap.size := by omega
    go_wp2
    go_loopw [9, 28] (fun _ v wr => TkR w m ad1 m.n cd fv n x an cn w2.heap.size v wr) (fun _ v _ => n - (intOf v).toNat)
    case atStart => exact HD.out
    case round =>
      clear p0 p1 p2 p3 p4 q0 q1 q2 r0 r1 r2 r3 r4 e0 e1 e2 e3 e4 HD HY0 HY1 HY2 HE1 HE2 HE3 HQE HNL
      obtain ⟨i, L, ad, g, cap, hile, rfl, hI⟩ := hrel
      have HI := hid hI
      by_cases hin : i < n
      · obtain ⟨b, off, ah, chh, rfl, hlo, hbh, hcx, hsx⟩ := HX.out i hin
        obtain ⟨c0, c1, c2, c3, c4, c5, c6, c7, c8⟩ := hcx.below hI.low (by omega)
        have HSX := hid (hsx.below hI.low hhi)
        have hlow := hI.low.size
        have hbw : b < wr.heap.size := by omega
        obtain ⟨s, hs⟩ : ∃ s, tkTo ⟨m.at_, m.seen, toL m.n m.os⟩ x i = s := ⟨_, rfl⟩
        have HSS := hid (show tkTo ⟨m.at_, m.seen, toL m.n m.os⟩ x (i + 1) = tkStep (x i) s from by rw [← hs]; rfl)
        rw [hs] at hI HI
        have p2 : wr.cell? ⟨w.heap.size, 2, none⟩ = some (.int .i64 s.at_) := hI.bm.cell 2
        have zm : w.heap.size < wr.heap.size := hI.bm.lt
        have hiz : (i : Int) < n := by omega
        have hofx := (HFX.out i hin).h
        clear hI hs hcx hsx
        by_cases hv : (x i).ver ≤ s.at_
        · go_wp2
          go_roundw
          case rel => exact ⟨i + 1, L, ad, g, cap, hin, by go_num, by rw [HSS.out, tkStep, if_pos hv]; exact (HI.out.grow (below_alloc _ _)).skip⟩
          case measure => simp [intOf]; omega
        · have HV := hid hv
          go_wp2_with fail
          have hBw := below_alloc wr (.cells #[.int .i64 (x i).ver, .bool (x i).gone, .string (x i).ob.kind, .string (x i).ob.name, .int .i64 (x i).ob.ver, .int .i64 (x i).ob.born, .string (x i).ob.text, .bool (x i).ob.ending, .slice ah (x i).ob.hn chh] 52)
          refine (tidings_any (x i) ah chh _ lo hi (by simp; omega) hofx (by exact HSX.out.below hBw (by omega))).mono ?_
          rintro r w3 ⟨hcs, hb3⟩
          have hb3' : Below wr.heap.size wr w3 := hBw.trans (hb3.mono (by simp))
          have I3 := hid (HI.out.grow hb3')
          have CBB : Hid (BoxC w3 wr.heap.size #[.int .i64 (x i).ver, .bool (x i).gone, .string (x i).ob.kind, .string (x i).ob.name, .int .i64 (x i).ob.ver, .int .i64 (x i).ob.born, .string (x i).ob.text, .bool (x i).ob.ending, .slice ah (x i).ob.hn chh]) := boxC_new hb3
          have hz3 : wr.heap.size < w3.heap.size := by have := hb3.size; simp at this; omega
          have hln := HI.out.len
          clear hBw hb3 hb3' c0 c1 c2 c3 c4 c5 c6 c7 c8 p2
          rcases hcs with ⟨hg, rfl⟩ | ⟨hg, e, he, rfl, ho, z1, z2⟩
          · go_wp2_with fail
            refine (hearWent_any (x i).ob w2.heap.size ad g cap L w3 I3.out.bR.lt (fun h => (I3.out.gR h).1) I3.out.bR.cell I3.out.bR.free I3.out.row (by omega)).mono ?_
            rintro r w4 ⟨rfl, c4, f4, r4, hf4⟩
            have IF : Hid (TkI w ((w4.setCell ⟨w.heap.size, 2, none⟩ (.int .i64 (x i).ver)).setCell ⟨w.heap.size, 4, none⟩ (.int .i64 (wrap64 (s.seen + 1)))) m ad1 m.n cd fv n (some ⟨b, off, none⟩) cn w2.heap.size (tkTo ⟨m.at_, m.seen, toL m.n m.os⟩ x (i + 1)) (i + 1) (flK (x i).ob L) ad g cap) := by
              show TkI w ((w4.setCell ⟨w.heap.size, 2, none⟩ (.int .i64 (x i).ver)).setCell ⟨w.heap.size, 4, none⟩ (.int .i64 (wrap64 (s.seen + 1)))) m ad1 m.n cd fv n (some ⟨b, off, none⟩) cn w2.heap.size (tkTo ⟨m.at_, m.seen, toL m.n m.os⟩ x (i + 1)) (i + 1) (flK (x i).ob L) ad g cap
              rw [HSS.out]
              exact (I3.out.went (c := x i) (by have := HV.out; omega) hg c4 f4 r4 hf4)
            have hno : ∀ q, q < w.heap.size + 3 ∨ q = wr.heap.size → ¬ (q = w2.heap.size ∨ (L ≠ [] ∧ q = g)) := fun q hq e => by
              have hR3 := HI.out.R3
              have hRl := HI.out.bR.lt
              rcases e with e | ⟨e1, e2⟩
              · omega
              · have h1 := (HI.out.gR (HI.out.nonil e1).1).2
                have h2 := (HI.out.nonil e1).2
                omega
            have cb0 := (hf4.cell (p := ⟨wr.heap.size, 0, none⟩) CBB.out.lt (hno _ (Or.inr rfl))).trans (CBB.out.cell 0)
            have BM := I3.out.bm.fr hf4 (hno _ (Or.inl (by omega)))
            have m2 : w4.cell? ⟨w.heap.size, 2, none⟩ = some (.int .i64 s.at_) := BM.cell 2
            have m4 : w4.cell? ⟨w.heap.size, 4, none⟩ = some (.int .i64 s.seen) := BM.cell 4
            have g2 := BM.free 2
            have g4 := BM.free 4
            simp only [List.getElem?_toArray, List.getElem?_cons_zero] at cb0
            clear BM hno c4 f4 r4 hf4
            go_wp2
            go_roundw
            case rel => exact ⟨i + 1, flK (x i).ob L, ad, g, cap, hin, by go_num, IF.out⟩
            case measure => simp [intOf]; omega
          · have z1' : wr.heap.size ≤ e.hb := by simp at z1; omega
            have HO := hid ho
            have HZ2 := hid z2
            have HEO := hid he
            clear ho z2 he
            go_wp2_with fail
            refine (hearCame_any e w2.heap.size ad g cap L w3 I3.out.bR.lt (fun h => (I3.out.gR h).1) I3.out.bR.cell I3.out.bR.free I3.out.row (by omega)).mono ?_
            rintro r w4 ⟨k, g', cap', rfl, hp, y1, y2, c4, f4, r4, hf4⟩
            have IF : Hid (TkI w ((w4.setCell ⟨w.heap.size, 2, none⟩ (.int .i64 (x i).ver)).setCell ⟨w.heap.size, 4, none⟩ (.int .i64 (wrap64 (s.seen + 1)))) m ad1 m.n cd fv n (some ⟨b, off, none⟩) cn w2.heap.size (tkTo ⟨m.at_, m.seen, toL m.n m.os⟩ x (i + 1)) (i + 1) ((flK e.ob L).take k ++ e :: (flK e.ob L).drop k) (some ⟨g', 0, none⟩) g' cap') := by
              show TkI w ((w4.setCell ⟨w.heap.size, 2, none⟩ (.int .i64 (x i).ver)).setCell ⟨w.heap.size, 4, none⟩ (.int .i64 (wrap64 (s.seen + 1)))) m ad1 m.n cd fv n (some ⟨b, off, none⟩) cn w2.heap.size (tkTo ⟨m.at_, m.seen, toL m.n m.os⟩ x (i + 1)) (i + 1) ((flK e.ob L).take k ++ e :: (flK e.ob L).drop k) (some ⟨g', 0, none⟩) g' cap'
              rw [HSS.out]
              exact (I3.out.came (c := x i) (by have := HV.out; omega) hg HEO.out HO.out HZ2.out (by have := HI.out.R3; have := HI.out.bR.lt; omega) (fun _ e2 => by have := HI.out.bR.lt; omega) (fun _ hl e2 => by have := (HI.out.nonil hl).2; omega) (fun f hf' _ h0 e2 => by have := HI.out.hold.lt f hf' h0; omega) hp y1 y2 c4 f4 r4 hf4)
            clear hp
            have hno : ∀ q, q < w.heap.size + 3 ∨ q = wr.heap.size → ¬ (q = w2.heap.size ∨ (L ≠ [] ∧ q = g)) := fun q hq e => by
              have hR3 := HI.out.R3
              have hRl := HI.out.bR.lt
              rcases e with e | ⟨e1, e2⟩
              · omega
              · have h1 := (HI.out.gR (HI.out.nonil e1).1).2
                have h2 := (HI.out.nonil e1).2
                omega
            have cb0 := (hf4.cell (p := ⟨wr.heap.size, 0, none⟩) CBB.out.lt (hno _ (Or.inr rfl))).trans (CBB.out.cell 0)
            have BM := I3.out.bm.fr hf4 (hno _ (Or.inl (by omega)))
            have m2 : w4.cell? ⟨w.heap.size, 2, none⟩ = some (.int .i64 s.at_) := BM.cell 2
            have m4 : w4.cell? ⟨w.heap.size, 4, none⟩ = some (.int .i64 s.seen) := BM.cell 4
            have g2 := BM.free 2
            have g4 := BM.free 4
            simp only [List.getElem?_toArray, List.getElem?_cons_zero] at cb0
            clear BM hno c4 f4 r4 hf4
            go_wp2
            go_roundw
            case rel => exact ⟨i + 1, (flK e.ob L).take k ++ e :: (flK e.ob L).drop k, some ⟨g', 0, none⟩, g', cap', hin, by go_num, IF.out⟩
            case measure => simp [intOf]; omega
      · obtain rfl : n = i := by omega
        obtain ⟨s, hs⟩ : ∃ s, tkTo ⟨m.at_, m.seen, toL m.n m.os⟩ x n = s := ⟨_, rfl⟩
        have HSS := hid hs
        rw [hs] at hI HI
        clear hs
        obtain ⟨p0, p1, p2, p3, p4⟩ : wr.cell? ⟨w.heap.size, 0, none⟩ = some (.string m.kind) ∧ wr.cell? ⟨w.heap.size, 1, none⟩ = some (.string m.pre) ∧ wr.cell? ⟨w.heap.size, 2, none⟩ = some (.int .i64 s.at_) ∧ wr.cell? ⟨w.heap.size, 3, none⟩ = some (.slice ad1 m.n m.n) ∧ wr.cell? ⟨w.heap.size, 4, none⟩ = some (.int .i64 s.seen) := ⟨hI.bm.cell 0, hI.bm.cell 1, hI.bm.cell 2, hI.bm.cell 3, hI.bm.cell 4⟩
        have q2 : wr.cell? ⟨w.heap.size + 1, 2, none⟩ = some (.int .i64 fv) := hI.bn.cell 2
        have f2 := hI.bm.free 2
        have f3 := hI.bm.free 3
        have cR := hI.bR.cell
        obtain ⟨r0, r1, r2, r3, r4⟩ : wr.cell? ⟨w.heap.size + 1 + 1, 0, none⟩ = some (.string ByteArray.empty) ∧ wr.cell? ⟨w.heap.size + 1 + 1, 1, none⟩ = some (.string ByteArray.empty) ∧ wr.cell? ⟨w.heap.size + 1 + 1, 2, none⟩ = some (.int .i64 0) ∧ wr.cell? ⟨w.heap.size + 1 + 1, 3, none⟩ = some (.slice none 0 0) ∧ wr.cell? ⟨w.heap.size + 1 + 1, 4, none⟩ = some (.int .i64 0) := ⟨hI.br.cell 0, hI.br.cell 1, hI.br.cell 2, hI.br.cell 3, hI.br.cell 4⟩
        have e0 := hI.br.free 0
        have e1 := hI.br.free 1
        have e2 := hI.br.free 2
        have e3 := hI.br.free 3
        have e4 := hI.br.free 4
        have hne : ¬ w2.heap.size = w.heap.size := by omega
        have hnr : ¬ w.heap.size = w2.heap.size := by omega
        clear hI
        go_wp2
        have F1 : FrP (fun q => q = w.heap.size) wr ((wr.setCell ⟨w.heap.size, 3, none⟩ (.slice ad L.length cap)).setCell ⟨w.heap.size, 2, none⟩ (.int .i64 (max s.at_ fv))) := FrP.setCell (P := fun q => q = w.heap.size) (FrP.setCell (P := fun q => q = w.heap.size) (FrP.refl _ wr) (p := ⟨w.heap.size, 3, none⟩) rfl _) (p := ⟨w.heap.size, 2, none⟩) rfl _
        obtain ⟨Y, hY, fY, y0, y1, y2, y3, y4⟩ := resFin5 (HI.out.br.fr F1 (by show ¬ _ = _; omega)) rfl (.string m.kind) (.string m.pre) (.int .i64 (max s.at_ fv)) (.slice ad L.length cap) (.int .i64 s.seen)
        rw [hY]
        refine bodyPost_ret (v := .tuple #[.agg #[.string m.kind, .string m.pre, .int .i64 (max s.at_ fv), .slice ad L.length cap, .int .i64 s.seen], .int .i64 0]) (by simp [results, Try.results9, go_sem, y0, y1, y2, y3, y4]) rfl ?_
        have F2 : FrP (fun q => q = w.heap.size ∨ q = w.heap.size + 1 + 1) wr Y := (F1.mono (fun q e => Or.inl e)).trans (fY.mono (fun q e => Or.inr e))
        have hS2 := HS.out
        rw [HSS.out] at hS2
        rw [hS2, HCC.out]
        have hlowY : Below w.heap.size w Y := HI.out.low.trans (F2.below (fun q hq e => by omega) HI.out.low.size)
        refine ⟨ad, cap, g, L, rfl, HI.out.obs, fun h => ?_, HI.out.hold.fr F2 (fun e he h0 e2 => by have := (HI.out.hb e he h0).2.2; omega), fun h => by have := (HI.out.gR (HI.out.nonil h).1).2; omega, fun e he h0 => ⟨(HI.out.hb e he h0).1 (HI.out.nonil (List.ne_nil_of_mem he)).1, by have := (HI.out.hb e he h0).2.2; omega⟩, hlowY⟩
        rcases HI.out.row with ⟨_, h2, _⟩ | ⟨h1, h2, _⟩
        · exact absurd h2 h
        · exact ⟨h1, h2.fr F2 (fun e2 => by have := (HI.out.gR (HI.out.nonil h).1).2; omega)⟩
  · obtain ⟨rc, hrc⟩ : ∃ rc, tkC m.at_ cd fv n x = rc := ⟨_, rfl⟩
    have hS : tkS m cd fv n x = ⟨m.at_, m.seen, toL m.n m.os⟩ := if_neg hC
    have HS := hid hS
    have HRC := hid hrc
    rw [hrc] at hC
    have hrb : (rc == 0) = false := by simpa using hC
    clear hS
    rw [hrc]
    clear hrc
    go_wp2
    obtain ⟨Y, hY, fY, y0, y1, y2, y3, y4⟩ := resFin5 HY2.out rfl (.string m.kind) (.string m.pre) (.int .i64 m.at_) (.slice ad1 m.n m.n) (.int .i64 m.seen)
    rw [hY]
    have bY : Below w.heap.size w Y := hB2.trans (fY.below (fun q hq e => by have : q = w.heap.size + 1 + 1 := e; omega) hB2.size)
    refine bodyPost_ret (v := .tuple #[.agg #[.string m.kind, .string m.pre, .int .i64 m.at_, .slice ad1 m.n m.n, .int .i64 m.seen], .int .i64 rc]) (by simp [results, Try.results9, go_sem, y0, y1, y2, y3, y4]) rfl ?_
    rw [HS.out, HRC.out]
    refine ⟨ad1, m.n, g1, rowE m.n m.os A C hb, by rw [rowE_len], by rw [rowE_obs]; rfl, fun h => ⟨(HE1.out h).1, (HE1.out h).2.fr fY (fun e => by have h2 := HQE.out.1 h; have h3 : g1 = w.heap.size + 1 + 1 := e; omega)⟩, HE2.out.fr fY (fun e he h0 e2 => by have h2 := HQE.out.2 e he h0; have h3 : e.hb = w.heap.size + 1 + 1 := e2; omega), fun h => by have := HQE.out.1 h; omega, fun e he h0 => ⟨HE3.out e he h0, by have := HQE.out.2 e he h0; omega⟩, bY⟩
end Go.Proofs.Ytkecnaaacbckoaa
