import Derived.Test.YtkecnaaacbckoaaGreatSt
import Derived.Test.YtkecnaaacbckoaaGreatSs
namespace Go.Proofs.YtkecnaaacbckoaaGreat
open Go.RowKit Go.Maps
/-- what a step comes to -/
def stS0 (B : Bk) (m : Mr) (cd fv : Int) (n : Nat) (x : Nat → Ch) : TS := if cd = 2 then ⟨resN B, m.seen, tkL (resL B m.kind m.pre).length (pick B.os (resL B m.kind m.pre))⟩ else tkRes m cd fv n x
def stC0 (m : Mr) (cd fv : Int) (n : Nat) (x : Nat → Ch) : Int := if cd = 2 then 2 else tkC m.at_ cd fv n x
def stS (B : Bk) (m : Mr) (most : Int) : TS := stS0 B m (nwC B m.at_ most) (nwV B m.kind m.pre m.at_ most) (nwN B m.kind m.pre m.at_ most) (nwY B m.kind m.pre m.at_ most)
def stC (B : Bk) (m : Mr) (most : Int) : Int := stC0 m (nwC B m.at_ most) (nwV B m.kind m.pre m.at_ most) (nwN B m.kind m.pre m.at_ most) (nwY B m.kind m.pre m.at_ most)
set_option maxRecDepth 100000 in
set_option maxHeartbeats 4000000 in
theorem implStep_any (B : Bk) (p : Pl) (c1 c2 c3 : Nat) (m : Mr) (a : Option Addr) (c : Nat) (most : Int) (w : World) (hfit : BkFit B) (hon : (B.on : Int) ≤ 1048576) (hsum : (m.n : Int) + B.hn ≤ 1048576) (hpr : (m.pre.size : Int) ≤ 140737488355328) (hf : ∀ i, i < m.n → ObFit (m.os i)) (hat : BkAt w B p) (hc : ObjsIn w 0 w.heap.size a m.n m.os) :
    Calls Tryz.prog 35 #[.agg #[.int .i64 B.now, .int .i64 B.floor, .slice p.a1 B.on c1, .slice p.a2 B.hn c2, .slice p.a3 B.tn c3], .agg #[.string m.kind, .string m.pre, .int .i64 m.at_, .slice a m.n c, .int .i64 m.seen], .int .i64 most] w fun r w' => ∃ (ad' : Option Addr) (cap' g : Nat) (L : List EO), r = .returned (.tuple #[.agg #[.string m.kind, .string m.pre, .int .i64 (stS B m most).at_, .slice ad' L.length cap', .int .i64 (stS B m most).seen], .int .i64 (stC B m most)]) ∧ L.map EO.ob = (stS B m most).l ∧ (L ≠ [] → ad' = some ⟨g, 0, none⟩ ∧ RowE w' g L) ∧ HoldE w' L ∧ (L ≠ [] → w.heap.size ≤ g) ∧ (∀ e, e ∈ L → e.ob.hn ≠ 0 → e.hb ≠ g ∧ w.heap.size ≤ e.hb) ∧ Below w.heap.size w w' := by
  have HAT := hid hat
  have HC := hid hc
  have HF := hid hf
  clear hat hc hf
  have hB0 : Below w.heap.size w (((w.alloc (.cells #[.int .i64 B.now, .int .i64 B.floor, .slice p.a1 B.on c1, .slice p.a2 B.hn c2, .slice p.a3 B.tn c3] 32)).alloc (.cells #[.string m.kind, .string m.pre, .int .i64 m.at_, .slice a m.n c, .int .i64 m.seen] 57)).alloc (.cells #[.string ByteArray.empty, .string ByteArray.empty, .int .i64 0, .slice none 0 0, .int .i64 0] 57)) := ((below_alloc _ _).alloc (by simp) _).alloc (by simp; omega) _
  have X0 : BoxC (((w.alloc (.cells #[.int .i64 B.now, .int .i64 B.floor, .slice p.a1 B.on c1, .slice p.a2 B.hn c2, .slice p.a3 B.tn c3] 32)).alloc (.cells #[.string m.kind, .string m.pre, .int .i64 m.at_, .slice a m.n c, .int .i64 m.seen] 57)).alloc (.cells #[.string ByteArray.empty, .string ByteArray.empty, .int .i64 0, .slice none 0 0, .int .i64 0] 57)) w.heap.size #[.int .i64 B.now, .int .i64 B.floor, .slice p.a1 B.on c1, .slice p.a2 B.hn c2, .slice p.a3 B.tn c3] := ((boxC_new (w := w) (t := 32) (Below.refl _ _)).below (below_alloc _ (.cells #[.string m.kind, .string m.pre, .int .i64 m.at_, .slice a m.n c, .int .i64 m.seen] 57))).below (below_alloc _ _)
  have X1 : BoxC (((w.alloc (.cells #[.int .i64 B.now, .int .i64 B.floor, .slice p.a1 B.on c1, .slice p.a2 B.hn c2, .slice p.a3 B.tn c3] 32)).alloc (.cells #[.string m.kind, .string m.pre, .int .i64 m.at_, .slice a m.n c, .int .i64 m.seen] 57)).alloc (.cells #[.string ByteArray.empty, .string ByteArray.empty, .int .i64 0, .slice none 0 0, .int .i64 0] 57)) (w.heap.size + 1) #[.string m.kind, .string m.pre, .int .i64 m.at_, .slice a m.n c, .int .i64 m.seen] := by
    have := (boxC_new (w := w.alloc (.cells #[.int .i64 B.now, .int .i64 B.floor, .slice p.a1 B.on c1, .slice p.a2 B.hn c2, .slice p.a3 B.tn c3] 32)) (c := #[.string m.kind, .string m.pre, .int .i64 m.at_, .slice a m.n c, .int .i64 m.seen]) (t := 57) (Below.refl _ _)).below (below_alloc _ (.cells #[.string ByteArray.empty, .string ByteArray.empty, .int .i64 0, .slice none 0 0, .int .i64 0] 57))
    simpa using this
  have X2 : BoxC (((w.alloc (.cells #[.int .i64 B.now, .int .i64 B.floor, .slice p.a1 B.on c1, .slice p.a2 B.hn c2, .slice p.a3 B.tn c3] 32)).alloc (.cells #[.string m.kind, .string m.pre, .int .i64 m.at_, .slice a m.n c, .int .i64 m.seen] 57)).alloc (.cells #[.string ByteArray.empty, .string ByteArray.empty, .int .i64 0, .slice none 0 0, .int .i64 0] 57)) (w.heap.size + 1 + 1) #[.string ByteArray.empty, .string ByteArray.empty, .int .i64 0, .slice none 0 0, .int .i64 0] := by
    have := boxC_new (w := (w.alloc (.cells #[.int .i64 B.now, .int .i64 B.floor, .slice p.a1 B.on c1, .slice p.a2 B.hn c2, .slice p.a3 B.tn c3] 32)).alloc (.cells #[.string m.kind, .string m.pre, .int .i64 m.at_, .slice a m.n c, .int .i64 m.seen] 57)) (c := #[.string ByteArray.empty, .string ByteArray.empty, .int .i64 0, .slice none 0 0, .int .i64 0]) (t := 57) (Below.refl _ _)
    simpa using this
  have HX0 := hid X0
  have HX1 := hid X1
  have HX2 := hid X2
  clear X0 X1 X2
  go_enter Tryz.func35, Tryz.ntmps35
  go_wp2_with fail
  refine (callsIn_wide.1 (implNext_in Fence.wide 8 (fun _ _ _ _ _ h => callsIn_wide.2 h) (fun _ => trivial) rfl (by decide) rfl (fun _ R v w h0 h1 => callsIn_wide.2 (place_any R v w h0 h1)) B p c1 c2 c3 m.kind m.pre m.at_ most _ hfit (by exact HAT.out.grow hB0) hpr)).mono ?_
  intro e w1 hP
  obtain ⟨v, rfl, hA, hb1⟩ := hP.ans
  obtain ⟨adn, cn, gn, An, Cn, hbn, rfl, hch, hqn, _⟩ := hA
  have hz1 : w.heap.size + 3 ≤ w1.heap.size := by have := hb1.size; simp at this; omega
  have hB1 : Below w.heap.size w w1 := hB0.trans (hb1.mono (by simp; omega))
  have hn200 := nwN_le B m.kind m.pre m.at_ most
  obtain ⟨cd, hcd⟩ : ∃ cd, (nwC B m.at_ most) = cd := ⟨_, rfl⟩
  obtain ⟨fv, hfv⟩ : ∃ fv, (nwV B m.kind m.pre m.at_ most) = fv := ⟨_, rfl⟩
  obtain ⟨n, hn⟩ : ∃ n, (nwN B m.kind m.pre m.at_ most) = n := ⟨_, rfl⟩
  obtain ⟨x, hx⟩ : ∃ x, (nwY B m.kind m.pre m.at_ most) = x := ⟨_, rfl⟩
  have hfx : ∀ i, i < (nwN B m.kind m.pre m.at_ most) → ObFit ((nwY B m.kind m.pre m.at_ most) i).ob := fun i hi => by
    obtain ⟨j, hj, ej⟩ := nwY_mem hi
    rw [ej]
    exact hfit.hs j hj
  rw [hn, hx] at hch hfx
  rw [hn] at hn200
  rw [hcd, hfv, hn]
  have hSt : (stS B m most) = stS0 B m cd fv n x := by unfold stS; rw [hcd, hfv, hn, hx]
  have hCt : stC B m most = stC0 m cd fv n x := by unfold stC; rw [hcd, hfv, hn, hx]
  have HST := hid hSt
  have HCT := hid hCt
  have HFX := hid hfx
  have hNB := below_alloc w1 (.cells #[.int .i64 cd, .slice adn n cn, .int .i64 fv] 46)
  have HCH := hid (hch.grow hNB)
  have Y0 := (HX0.out.below (by exact hb1)).below hNB
  have Y1 := (HX1.out.below (by exact hb1)).below hNB
  have Y2 := (HX2.out.below (by exact hb1)).below hNB
  have YN : BoxC (w1.alloc (.cells #[.int .i64 cd, .slice adn n cn, .int .i64 fv] 46)) w1.heap.size #[.int .i64 cd, .slice adn n cn, .int .i64 fv] := boxC_new (Below.refl _ _)
  have hBN : Below w.heap.size w (w1.alloc (.cells #[.int .i64 cd, .slice adn n cn, .int .i64 fv] 46)) := hB1.trans (hNB.mono (by omega))
  have hzN : (w1.alloc (.cells #[.int .i64 cd, .slice adn n cn, .int .i64 fv] 46)).heap.size = w1.heap.size + 1 := by simp
  have HY2 := hid Y2
  obtain ⟨b0, b1, b2, b3, b4⟩ : (w1.alloc (.cells #[.int .i64 cd, .slice adn n cn, .int .i64 fv] 46)).cell? ⟨w.heap.size, 0, none⟩ = some (.int .i64 B.now) ∧ (w1.alloc (.cells #[.int .i64 cd, .slice adn n cn, .int .i64 fv] 46)).cell? ⟨w.heap.size, 1, none⟩ = some (.int .i64 B.floor) ∧ (w1.alloc (.cells #[.int .i64 cd, .slice adn n cn, .int .i64 fv] 46)).cell? ⟨w.heap.size, 2, none⟩ = some (.slice p.a1 B.on c1) ∧ (w1.alloc (.cells #[.int .i64 cd, .slice adn n cn, .int .i64 fv] 46)).cell? ⟨w.heap.size, 3, none⟩ = some (.slice p.a2 B.hn c2) ∧ (w1.alloc (.cells #[.int .i64 cd, .slice adn n cn, .int .i64 fv] 46)).cell? ⟨w.heap.size, 4, none⟩ = some (.slice p.a3 B.tn c3) := ⟨Y0.cell 0, Y0.cell 1, Y0.cell 2, Y0.cell 3, Y0.cell 4⟩
  obtain ⟨p0, p1, p2, p3, p4⟩ : (w1.alloc (.cells #[.int .i64 cd, .slice adn n cn, .int .i64 fv] 46)).cell? ⟨w.heap.size + 1, 0, none⟩ = some (.string m.kind) ∧ (w1.alloc (.cells #[.int .i64 cd, .slice adn n cn, .int .i64 fv] 46)).cell? ⟨w.heap.size + 1, 1, none⟩ = some (.string m.pre) ∧ (w1.alloc (.cells #[.int .i64 cd, .slice adn n cn, .int .i64 fv] 46)).cell? ⟨w.heap.size + 1, 2, none⟩ = some (.int .i64 m.at_) ∧ (w1.alloc (.cells #[.int .i64 cd, .slice adn n cn, .int .i64 fv] 46)).cell? ⟨w.heap.size + 1, 3, none⟩ = some (.slice a m.n c) ∧ (w1.alloc (.cells #[.int .i64 cd, .slice adn n cn, .int .i64 fv] 46)).cell? ⟨w.heap.size + 1, 4, none⟩ = some (.int .i64 m.seen) := ⟨Y1.cell 0, Y1.cell 1, Y1.cell 2, Y1.cell 3, Y1.cell 4⟩
  clear Y0 Y1 Y2 YN hch hfx hqn hb1 hSt hCt hcd hfv hn hx HX0 HX1 HX2 hP
  by_cases h2 : cd = 2
  · subst h2
    have h2r : stS0 B m 2 fv n x = ⟨resN B, m.seen, tkL (resL B m.kind m.pre).length (pick B.os (resL B m.kind m.pre))⟩ := if_pos rfl
    have h2c : stC0 m 2 fv n x = 2 := if_pos rfl
    go_wp2_with fail
    refine (implRelist_any B _ _ _ c1 c2 c3 m a c _ _ _ rfl rfl rfl _ 0 w.heap.size (by rw [hzN]; omega) hfit hon hpr (by exact (HAT.out.isIn (lo := 0) (fun _ _ => Nat.zero_le _)).below hBN (Nat.le_refl _))).mono ?_
    rintro r w2 ⟨ad', cap', g, A, C, hb, rfl, hob, hq, hb2⟩
    have Y2 := HY2.out.below hb2
    obtain ⟨r0, r1, r2, r3, r4⟩ : w2.cell? ⟨w.heap.size + 1 + 1, 0, none⟩ = some (.string ByteArray.empty) ∧ w2.cell? ⟨w.heap.size + 1 + 1, 1, none⟩ = some (.string ByteArray.empty) ∧ w2.cell? ⟨w.heap.size + 1 + 1, 2, none⟩ = some (.int .i64 0) ∧ w2.cell? ⟨w.heap.size + 1 + 1, 3, none⟩ = some (.slice none 0 0) ∧ w2.cell? ⟨w.heap.size + 1 + 1, 4, none⟩ = some (.int .i64 0) := ⟨Y2.cell 0, Y2.cell 1, Y2.cell 2, Y2.cell 3, Y2.cell 4⟩
    have e0 := Y2.free 0
    have e1 := Y2.free 1
    have e2 := Y2.free 2
    have e3 := Y2.free 3
    have e4 := Y2.free 4
    have HZ2 := hid Y2
    have hB2 : Below w.heap.size w w2 := hBN.trans (hb2.mono (by omega))
    have hz2 := hb2.size
    have HOB := hid hob
    have HQ := hid (show ∀ q, blkH g (resL B m.kind m.pre).length (fun i => (pick B.os (resL B m.kind m.pre) i).hn) hb q → w.heap.size + 3 ≤ q from fun q h => by have := hq q h; omega)
    generalize (resL B m.kind m.pre).length = nr at *
    generalize pick B.os (resL B m.kind m.pre) = yr at *
    generalize resN B = nn at *
    have H2R := hid h2r
    have H2C := hid h2c
    clear Y2 hob hq hb2 b0 b1 b2 b3 b4 p0 p1 p2 p3 p4 h2r h2c
    go_wp2
    obtain ⟨Y, hY, fY, y0, y1, y2, y3, y4⟩ := resFin5 HZ2.out rfl (.string m.kind) (.string m.pre) (.int .i64 nn) (.slice ad' nr cap') (.int .i64 m.seen)
    rw [hY]
    refine bodyPost_ret (v := .tuple #[.agg #[.string m.kind, .string m.pre, .int .i64 nn, .slice ad' nr cap', .int .i64 m.seen], .int .i64 2]) (by simp [results, Tryz.results35, go_sem, y0, y1, y2, y3, y4]) rfl ?_
    have F2 : FrP (fun q => q = w.heap.size + 1 + 1) w2 Y := fY
    have hBY : Below w.heap.size w Y := hB2.trans (F2.below (fun q hq e => by have : q = w.heap.size + 1 + 1 := e; omega) hB2.size)
    rw [HST.out, HCT.out, H2R.out, H2C.out]
    obtain ⟨hE1, hE2, hE3⟩ := rowE_of HOB.out
    refine ⟨ad', cap', g, rowE nr yr A C hb, by rw [rowE_len], by rw [rowE_obs]; rfl, fun h => ⟨(hE1 h).1, (hE1 h).2.fr F2 (fun e => ?_)⟩, hE2.fr F2 (fun e he h0 e5 => ?_), fun h => ?_, fun e he h0 => ⟨hE3 e he h0, ?_⟩, hBY⟩
    · have h3 : g = w.heap.size + 1 + 1 := e
      have := HQ.out g (Or.inl ⟨by
        rcases Nat.eq_zero_or_pos nr with e6 | e6
        · exact absurd (by rw [e6]; rfl) h
        · exact e6, rfl⟩)
      omega
    · have h3 : e.hb = w.heap.size + 1 + 1 := e5
      obtain ⟨i, hi, rfl⟩ := mem_ixE he
      rw [rowE_len] at hi
      rw [rowE_at hi] at h0 h3
      have := HQ.out (hb i) (Or.inr ⟨i, hi, h0, rfl⟩)
      have h3' : hb i = w.heap.size + 1 + 1 := h3
      omega
    · have := HQ.out g (Or.inl ⟨by
        rcases Nat.eq_zero_or_pos nr with e6 | e6
        · exact absurd (by rw [e6]; rfl) h
        · exact e6, rfl⟩)
      omega
    · obtain ⟨i, hi, rfl⟩ := mem_ixE he
      rw [rowE_len] at hi
      rw [rowE_at hi] at h0 ⊢
      have := HQ.out (hb i) (Or.inr ⟨i, hi, h0, rfl⟩)
      show w.heap.size ≤ hb i
      omega
  · have h2b : (cd == 2) = false := by simpa using h2
    have h1r : stS0 B m cd fv n x = tkRes m cd fv n x := if_neg h2
    have h1c : stC0 m cd fv n x = tkC m.at_ cd fv n x := if_neg h2
    obtain ⟨n0, n1, n2⟩ : (w1.alloc (.cells #[.int .i64 cd, .slice adn n cn, .int .i64 fv] 46)).cell? ⟨w1.heap.size, 0, none⟩ = some (.int .i64 cd) ∧ (w1.alloc (.cells #[.int .i64 cd, .slice adn n cn, .int .i64 fv] 46)).cell? ⟨w1.heap.size, 1, none⟩ = some (.slice adn n cn) ∧ (w1.alloc (.cells #[.int .i64 cd, .slice adn n cn, .int .i64 fv] 46)).cell? ⟨w1.heap.size, 2, none⟩ = some (.int .i64 fv) := by
      have YN : BoxC (w1.alloc (.cells #[.int .i64 cd, .slice adn n cn, .int .i64 fv] 46)) w1.heap.size #[.int .i64 cd, .slice adn n cn, .int .i64 fv] := boxC_new (Below.refl _ _)
      exact ⟨YN.cell 0, YN.cell 1, YN.cell 2⟩
    go_wp2_with fail
    refine (implTake_any m a c cd fv n x adn cn _ 0 (w1.alloc (.cells #[.int .i64 cd, .slice adn n cn, .int .i64 fv] 46)).heap.size (Nat.le_refl _) (by omega) (by omega) HF.out HFX.out (by exact HC.out.up hBN) (by exact HCH.out.isIn (fun _ _ => Nat.zero_le _))).mono ?_
    rintro r w2 ⟨ad', cap', g, L, rfl, hL, hLr, hLh, hLg, hLb, hb2⟩
    have Y2 := HY2.out.below hb2
    obtain ⟨r0, r1, r2, r3, r4⟩ : w2.cell? ⟨w.heap.size + 1 + 1, 0, none⟩ = some (.string ByteArray.empty) ∧ w2.cell? ⟨w.heap.size + 1 + 1, 1, none⟩ = some (.string ByteArray.empty) ∧ w2.cell? ⟨w.heap.size + 1 + 1, 2, none⟩ = some (.int .i64 0) ∧ w2.cell? ⟨w.heap.size + 1 + 1, 3, none⟩ = some (.slice none 0 0) ∧ w2.cell? ⟨w.heap.size + 1 + 1, 4, none⟩ = some (.int .i64 0) := ⟨Y2.cell 0, Y2.cell 1, Y2.cell 2, Y2.cell 3, Y2.cell 4⟩
    have e0 := Y2.free 0
    have e1 := Y2.free 1
    have e2 := Y2.free 2
    have e3 := Y2.free 3
    have e4 := Y2.free 4
    have HZ2 := hid Y2
    have hB2 : Below w.heap.size w w2 := hBN.trans (hb2.mono (by omega))
    have hz2 := hb2.size
    obtain ⟨AT, hAT⟩ : ∃ AT, (tkRes m cd fv n x).at_ = AT := ⟨_, rfl⟩
    obtain ⟨SE, hSE⟩ : ∃ SE, (tkRes m cd fv n x).seen = SE := ⟨_, rfl⟩
    obtain ⟨rc, hrc⟩ : ∃ rc, tkC m.at_ cd fv n x = rc := ⟨_, rfl⟩
    have H1R := hid h1r
    have H1C := hid h1c
    have HAT2 := hid hAT
    have HSE2 := hid hSE
    have HRC := hid hrc
    rw [hAT, hSE, hrc]
    have HL := hid hL
    have HLr := hid hLr
    have HLh := hid hLh
    have HLg := hid hLg
    have HLb := hid hLb
    clear hL hLr hLh hLg hLb
    clear Y2 hb2 b0 b1 b2 b3 b4 p0 p1 p2 p3 p4 n0 n1 n2 h1r h1c hAT hSE hrc
    go_wp2
    obtain ⟨Y, hY, fY, y0, y1, y2, y3, y4⟩ := resFin5 HZ2.out rfl (.string m.kind) (.string m.pre) (.int .i64 AT) (.slice ad' L.length cap') (.int .i64 SE)
    rw [hY]
    refine bodyPost_ret (v := .tuple #[.agg #[.string m.kind, .string m.pre, .int .i64 AT, .slice ad' L.length cap', .int .i64 SE], .int .i64 rc]) (by simp [results, Tryz.results35, go_sem, y0, y1, y2, y3, y4]) rfl ?_
    have F2 : FrP (fun q => q = w.heap.size + 1 + 1) w2 Y := fY
    have hBY : Below w.heap.size w Y := hB2.trans (F2.below (fun q hq e => by have : q = w.heap.size + 1 + 1 := e; omega) hB2.size)
    rw [HST.out, HCT.out, H1R.out, H1C.out, HAT2.out, HSE2.out, HRC.out]
    refine ⟨ad', cap', g, L, rfl, HL.out, fun h => ⟨(HLr.out h).1, (HLr.out h).2.fr F2 (fun e => ?_)⟩, HLh.out.fr F2 (fun e he h0 e5 => ?_), fun h => ?_, fun e he h0 => ⟨(HLb.out e he h0).1, ?_⟩, hBY⟩
    · have h3 : g = w.heap.size + 1 + 1 := e
      have := HLg.out h
      omega
    · have h3 : e.hb = w.heap.size + 1 + 1 := e5
      have := (HLb.out e he h0).2
      omega
    · have := HLg.out h
      omega
    · have := (HLb.out e he h0).2
      omega
set_option maxRecDepth 100000 in
set_option maxHeartbeats 4000000 in
theorem specStep_any (B : Bk) (a1 a2 a3 : Option Addr) (c1 c2 c3 : Nat) (m : Mr) (a : Option Addr) (c : Nat) (most : Int) (w : World) (hfit : BkFit B) (hon : (B.on : Int) ≤ 1048576) (hsum : (m.n : Int) + B.hn ≤ 1048576) (hpr : (m.pre.size : Int) ≤ 140737488355328) (hf : ∀ i, i < m.n → ObFit (m.os i)) (hat : BkIn w 0 w.heap.size B a1 a2 a3) (hc : ObjsIn w 0 w.heap.size a m.n m.os) :
    Calls Tryz.prog 34 #[.agg #[.int .i64 B.now, .int .i64 B.floor, .slice a1 B.on c1, .slice a2 B.hn c2, .slice a3 B.tn c3], .agg #[.string m.kind, .string m.pre, .int .i64 m.at_, .slice a m.n c, .int .i64 m.seen], .int .i64 most] w fun r w' => ∃ (ad' : Option Addr) (cap' n' : Nat) (y : Nat → Ob), r = .returned (.tuple #[.agg #[.string m.kind, .string m.pre, .int .i64 (stS B m most).at_, .slice ad' n' cap', .int .i64 (stS B m most).seen], .int .i64 (stC B m most)]) ∧ tkL n' y = (stS B m most).l ∧ ObjsIn w' w.heap.size w'.heap.size ad' n' y ∧ Below w.heap.size w w' := by
  have HAT := hid hat
  have HC := hid hc
  have HF := hid hf
  clear hat hc hf
  have hB0 : Below w.heap.size w (((w.alloc (.cells #[.int .i64 B.now, .int .i64 B.floor, .slice a1 B.on c1, .slice a2 B.hn c2, .slice a3 B.tn c3] 32)).alloc (.cells #[.string m.kind, .string m.pre, .int .i64 m.at_, .slice a m.n c, .int .i64 m.seen] 57)).alloc (.cells #[.string ByteArray.empty, .string ByteArray.empty, .int .i64 0, .slice none 0 0, .int .i64 0] 57)) := ((below_alloc _ _).alloc (by simp) _).alloc (by simp; omega) _
  have X0 : BoxC (((w.alloc (.cells #[.int .i64 B.now, .int .i64 B.floor, .slice a1 B.on c1, .slice a2 B.hn c2, .slice a3 B.tn c3] 32)).alloc (.cells #[.string m.kind, .string m.pre, .int .i64 m.at_, .slice a m.n c, .int .i64 m.seen] 57)).alloc (.cells #[.string ByteArray.empty, .string ByteArray.empty, .int .i64 0, .slice none 0 0, .int .i64 0] 57)) w.heap.size #[.int .i64 B.now, .int .i64 B.floor, .slice a1 B.on c1, .slice a2 B.hn c2, .slice a3 B.tn c3] := ((boxC_new (w := w) (t := 32) (Below.refl _ _)).below (below_alloc _ (.cells #[.string m.kind, .string m.pre, .int .i64 m.at_, .slice a m.n c, .int .i64 m.seen] 57))).below (below_alloc _ _)
  have X1 : BoxC (((w.alloc (.cells #[.int .i64 B.now, .int .i64 B.floor, .slice a1 B.on c1, .slice a2 B.hn c2, .slice a3 B.tn c3] 32)).alloc (.cells #[.string m.kind, .string m.pre, .int .i64 m.at_, .slice a m.n c, .int .i64 m.seen] 57)).alloc (.cells #[.string ByteArray.empty, .string ByteArray.empty, .int .i64 0, .slice none 0 0, .int .i64 0] 57)) (w.heap.size + 1) #[.string m.kind, .string m.pre, .int .i64 m.at_, .slice a m.n c, .int .i64 m.seen] := by
    have := (boxC_new (w := w.alloc (.cells #[.int .i64 B.now, .int .i64 B.floor, .slice a1 B.on c1, .slice a2 B.hn c2, .slice a3 B.tn c3] 32)) (c := #[.string m.kind, .string m.pre, .int .i64 m.at_, .slice a m.n c, .int .i64 m.seen]) (t := 57) (Below.refl _ _)).below (below_alloc _ (.cells #[.string ByteArray.empty, .string ByteArray.empty, .int .i64 0, .slice none 0 0, .int .i64 0] 57))
    simpa using this
  have X2 : BoxC (((w.alloc (.cells #[.int .i64 B.now, .int .i64 B.floor, .slice a1 B.on c1, .slice a2 B.hn c2, .slice a3 B.tn c3] 32)).alloc (.cells #[.string m.kind, .string m.pre, .int .i64 m.at_, .slice a m.n c, .int .i64 m.seen] 57)).alloc (.cells #[.string ByteArray.empty, .string ByteArray.empty, .int .i64 0, .slice none 0 0, .int .i64 0] 57)) (w.heap.size + 1 + 1) #[.string ByteArray.empty, .string ByteArray.empty, .int .i64 0, .slice none 0 0, .int .i64 0] := by
    have := boxC_new (w := (w.alloc (.cells #[.int .i64 B.now, .int .i64 B.floor, .slice a1 B.on c1, .slice a2 B.hn c2, .slice a3 B.tn c3] 32)).alloc (.cells #[.string m.kind, .string m.pre, .int .i64 m.at_, .slice a m.n c, .int .i64 m.seen] 57)) (c := #[.string ByteArray.empty, .string ByteArray.empty, .int .i64 0, .slice none 0 0, .int .i64 0]) (t := 57) (Below.refl _ _)
    simpa using this
  have HX0 := hid X0
  have HX1 := hid X1
  have HX2 := hid X2
  clear X0 X1 X2
  go_enter Tryz.func34, Tryz.ntmps34
  go_wp2_with fail
  refine (specNext_any B a1 a2 a3 c1 c2 c3 m.kind m.pre m.at_ most _ 0 w.heap.size (by simp; omega) hfit (by exact HAT.out.below hB0 (Nat.le_refl _)) hpr).mono ?_
  intro e w1 hP
  obtain ⟨v, rfl, hA, hb1⟩ := hP.ans
  obtain ⟨adn, cn, gn, An, Cn, hbn, rfl, hch, hqn, _⟩ := hA
  have hz1 : w.heap.size + 3 ≤ w1.heap.size := by have := hb1.size; simp at this; omega
  have hB1 : Below w.heap.size w w1 := hB0.trans (hb1.mono (by simp; omega))
  have hn200 := nwN_le B m.kind m.pre m.at_ most
  obtain ⟨cd, hcd⟩ : ∃ cd, (nwC B m.at_ most) = cd := ⟨_, rfl⟩
  obtain ⟨fv, hfv⟩ : ∃ fv, (nwV B m.kind m.pre m.at_ most) = fv := ⟨_, rfl⟩
  obtain ⟨n, hn⟩ : ∃ n, (nwN B m.kind m.pre m.at_ most) = n := ⟨_, rfl⟩
  obtain ⟨x, hx⟩ : ∃ x, (nwY B m.kind m.pre m.at_ most) = x := ⟨_, rfl⟩
  have hfx : ∀ i, i < (nwN B m.kind m.pre m.at_ most) → ObFit ((nwY B m.kind m.pre m.at_ most) i).ob := fun i hi => by
    obtain ⟨j, hj, ej⟩ := nwY_mem hi
    rw [ej]
    exact hfit.hs j hj
  rw [hn, hx] at hch hfx
  rw [hn] at hn200
  rw [hcd, hfv, hn]
  have hSt : (stS B m most) = stS0 B m cd fv n x := by unfold stS; rw [hcd, hfv, hn, hx]
  have hCt : stC B m most = stC0 m cd fv n x := by unfold stC; rw [hcd, hfv, hn, hx]
  have HST := hid hSt
  have HCT := hid hCt
  have HFX := hid hfx
  have hNB := below_alloc w1 (.cells #[.int .i64 cd, .slice adn n cn, .int .i64 fv] 46)
  have HCH := hid (hch.grow hNB)
  have Y0 := (HX0.out.below (by exact hb1)).below hNB
  have Y1 := (HX1.out.below (by exact hb1)).below hNB
  have Y2 := (HX2.out.below (by exact hb1)).below hNB
  have YN : BoxC (w1.alloc (.cells #[.int .i64 cd, .slice adn n cn, .int .i64 fv] 46)) w1.heap.size #[.int .i64 cd, .slice adn n cn, .int .i64 fv] := boxC_new (Below.refl _ _)
  have hBN : Below w.heap.size w (w1.alloc (.cells #[.int .i64 cd, .slice adn n cn, .int .i64 fv] 46)) := hB1.trans (hNB.mono (by omega))
  have hzN : (w1.alloc (.cells #[.int .i64 cd, .slice adn n cn, .int .i64 fv] 46)).heap.size = w1.heap.size + 1 := by simp
  have HY2 := hid Y2
  obtain ⟨b0, b1, b2, b3, b4⟩ : (w1.alloc (.cells #[.int .i64 cd, .slice adn n cn, .int .i64 fv] 46)).cell? ⟨w.heap.size, 0, none⟩ = some (.int .i64 B.now) ∧ (w1.alloc (.cells #[.int .i64 cd, .slice adn n cn, .int .i64 fv] 46)).cell? ⟨w.heap.size, 1, none⟩ = some (.int .i64 B.floor) ∧ (w1.alloc (.cells #[.int .i64 cd, .slice adn n cn, .int .i64 fv] 46)).cell? ⟨w.heap.size, 2, none⟩ = some (.slice a1 B.on c1) ∧ (w1.alloc (.cells #[.int .i64 cd, .slice adn n cn, .int .i64 fv] 46)).cell? ⟨w.heap.size, 3, none⟩ = some (.slice a2 B.hn c2) ∧ (w1.alloc (.cells #[.int .i64 cd, .slice adn n cn, .int .i64 fv] 46)).cell? ⟨w.heap.size, 4, none⟩ = some (.slice a3 B.tn c3) := ⟨Y0.cell 0, Y0.cell 1, Y0.cell 2, Y0.cell 3, Y0.cell 4⟩
  obtain ⟨p0, p1, p2, p3, p4⟩ : (w1.alloc (.cells #[.int .i64 cd, .slice adn n cn, .int .i64 fv] 46)).cell? ⟨w.heap.size + 1, 0, none⟩ = some (.string m.kind) ∧ (w1.alloc (.cells #[.int .i64 cd, .slice adn n cn, .int .i64 fv] 46)).cell? ⟨w.heap.size + 1, 1, none⟩ = some (.string m.pre) ∧ (w1.alloc (.cells #[.int .i64 cd, .slice adn n cn, .int .i64 fv] 46)).cell? ⟨w.heap.size + 1, 2, none⟩ = some (.int .i64 m.at_) ∧ (w1.alloc (.cells #[.int .i64 cd, .slice adn n cn, .int .i64 fv] 46)).cell? ⟨w.heap.size + 1, 3, none⟩ = some (.slice a m.n c) ∧ (w1.alloc (.cells #[.int .i64 cd, .slice adn n cn, .int .i64 fv] 46)).cell? ⟨w.heap.size + 1, 4, none⟩ = some (.int .i64 m.seen) := ⟨Y1.cell 0, Y1.cell 1, Y1.cell 2, Y1.cell 3, Y1.cell 4⟩
  clear Y0 Y1 Y2 YN hch hfx hqn hb1 hSt hCt hcd hfv hn hx HX0 HX1 HX2 hP
  by_cases h2 : cd = 2
  · subst h2
    have h2r : stS0 B m 2 fv n x = ⟨resN B, m.seen, tkL (resL B m.kind m.pre).length (pick B.os (resL B m.kind m.pre))⟩ := if_pos rfl
    have h2c : stC0 m 2 fv n x = 2 := if_pos rfl
    go_wp2_with fail
    refine (specRelist_any B a1 a2 a3 c1 c2 c3 m a c _ _ _ rfl rfl rfl _ 0 w.heap.size (by rw [hzN]; omega) hfit hon hpr (by exact HAT.out.below hBN (Nat.le_refl _)) (by omega) HF.out (by exact HC.out.below hBN (Nat.le_refl _))).mono ?_
    rintro r w2 ⟨ad', cap', g, A, C, hb, rfl, hob, hq, hb2⟩
    have Y2 := HY2.out.below hb2
    obtain ⟨r0, r1, r2, r3, r4⟩ : w2.cell? ⟨w.heap.size + 1 + 1, 0, none⟩ = some (.string ByteArray.empty) ∧ w2.cell? ⟨w.heap.size + 1 + 1, 1, none⟩ = some (.string ByteArray.empty) ∧ w2.cell? ⟨w.heap.size + 1 + 1, 2, none⟩ = some (.int .i64 0) ∧ w2.cell? ⟨w.heap.size + 1 + 1, 3, none⟩ = some (.slice none 0 0) ∧ w2.cell? ⟨w.heap.size + 1 + 1, 4, none⟩ = some (.int .i64 0) := ⟨Y2.cell 0, Y2.cell 1, Y2.cell 2, Y2.cell 3, Y2.cell 4⟩
    have e0 := Y2.free 0
    have e1 := Y2.free 1
    have e2 := Y2.free 2
    have e3 := Y2.free 3
    have e4 := Y2.free 4
    have HZ2 := hid Y2
    have hB2 : Below w.heap.size w w2 := hBN.trans (hb2.mono (by omega))
    have hz2 := hb2.size
    have HOB := hid hob
    have HQ := hid (show ∀ q, blkH g (resL B m.kind m.pre).length (fun i => (pick B.os (resL B m.kind m.pre) i).hn) hb q → w.heap.size + 3 ≤ q from fun q h => by have := hq q h; omega)
    generalize (resL B m.kind m.pre).length = nr at *
    generalize pick B.os (resL B m.kind m.pre) = yr at *
    generalize resN B = nn at *
    have H2R := hid h2r
    have H2C := hid h2c
    clear Y2 hob hq hb2 b0 b1 b2 b3 b4 p0 p1 p2 p3 p4 h2r h2c
    go_wp2
    obtain ⟨Y, hY, fY, y0, y1, y2, y3, y4⟩ := resFin5 HZ2.out rfl (.string m.kind) (.string m.pre) (.int .i64 nn) (.slice ad' nr cap') (.int .i64 m.seen)
    rw [hY]
    refine bodyPost_ret (v := .tuple #[.agg #[.string m.kind, .string m.pre, .int .i64 nn, .slice ad' nr cap', .int .i64 m.seen], .int .i64 2]) (by simp [results, Tryz.results34, go_sem, y0, y1, y2, y3, y4]) rfl ?_
    have F2 : FrP (fun q => q = w.heap.size + 1 + 1) w2 Y := fY
    have hBY : Below w.heap.size w Y := hB2.trans (F2.below (fun q hq e => by have : q = w.heap.size + 1 + 1 := e; omega) hB2.size)
    rw [HST.out, HCT.out, H2R.out, H2C.out]
    refine ⟨ad', cap', nr, yr, rfl, rfl, fun i hi => ?_, hBY⟩
    obtain ⟨b, off, ah, ch, f1, f2, f3, f4, f5⟩ := (HOB.out.fr F2 (fun q hq e => by have h3 : q = w.heap.size + 1 + 1 := e; have := HQ.out q hq; omega)).isIn (lo := w.heap.size) (fun q hq => by have := HQ.out q hq; omega) i hi
    exact ⟨b, off, ah, ch, f1, f2, f3, f4, f5⟩
  · have h2b : (cd == 2) = false := by simpa using h2
    have h1r : stS0 B m cd fv n x = tkRes m cd fv n x := if_neg h2
    have h1c : stC0 m cd fv n x = tkC m.at_ cd fv n x := if_neg h2
    obtain ⟨n0, n1, n2⟩ : (w1.alloc (.cells #[.int .i64 cd, .slice adn n cn, .int .i64 fv] 46)).cell? ⟨w1.heap.size, 0, none⟩ = some (.int .i64 cd) ∧ (w1.alloc (.cells #[.int .i64 cd, .slice adn n cn, .int .i64 fv] 46)).cell? ⟨w1.heap.size, 1, none⟩ = some (.slice adn n cn) ∧ (w1.alloc (.cells #[.int .i64 cd, .slice adn n cn, .int .i64 fv] 46)).cell? ⟨w1.heap.size, 2, none⟩ = some (.int .i64 fv) := by
      have YN : BoxC (w1.alloc (.cells #[.int .i64 cd, .slice adn n cn, .int .i64 fv] 46)) w1.heap.size #[.int .i64 cd, .slice adn n cn, .int .i64 fv] := boxC_new (Below.refl _ _)
      exact ⟨YN.cell 0, YN.cell 1, YN.cell 2⟩
    go_wp2_with fail
    refine (specTake_any m a c cd fv n x adn cn _ 0 (w1.alloc (.cells #[.int .i64 cd, .slice adn n cn, .int .i64 fv] 46)).heap.size (Nat.le_refl _) (by omega) HF.out HFX.out (by exact HC.out.up hBN) (by exact HCH.out.isIn (fun _ _ => Nat.zero_le _))).mono ?_
    rintro r w2 ⟨ad', cap', n', y, rfl, hL, hLi, hb2⟩
    have Y2 := HY2.out.below hb2
    obtain ⟨r0, r1, r2, r3, r4⟩ : w2.cell? ⟨w.heap.size + 1 + 1, 0, none⟩ = some (.string ByteArray.empty) ∧ w2.cell? ⟨w.heap.size + 1 + 1, 1, none⟩ = some (.string ByteArray.empty) ∧ w2.cell? ⟨w.heap.size + 1 + 1, 2, none⟩ = some (.int .i64 0) ∧ w2.cell? ⟨w.heap.size + 1 + 1, 3, none⟩ = some (.slice none 0 0) ∧ w2.cell? ⟨w.heap.size + 1 + 1, 4, none⟩ = some (.int .i64 0) := ⟨Y2.cell 0, Y2.cell 1, Y2.cell 2, Y2.cell 3, Y2.cell 4⟩
    have e0 := Y2.free 0
    have e1 := Y2.free 1
    have e2 := Y2.free 2
    have e3 := Y2.free 3
    have e4 := Y2.free 4
    have HZ2 := hid Y2
    have hB2 : Below w.heap.size w w2 := hBN.trans (hb2.mono (by omega))
    have hz2 := hb2.size
    obtain ⟨AT, hAT⟩ : ∃ AT, (tkRes m cd fv n x).at_ = AT := ⟨_, rfl⟩
    obtain ⟨SE, hSE⟩ : ∃ SE, (tkRes m cd fv n x).seen = SE := ⟨_, rfl⟩
    obtain ⟨rc, hrc⟩ : ∃ rc, tkC m.at_ cd fv n x = rc := ⟨_, rfl⟩
    have H1R := hid h1r
    have H1C := hid h1c
    have HAT2 := hid hAT
    have HSE2 := hid hSE
    have HRC := hid hrc
    rw [hAT, hSE, hrc]
    have HL := hid hL
    have HLi := hid hLi
    clear hL hLi
    clear Y2 hb2 b0 b1 b2 b3 b4 p0 p1 p2 p3 p4 n0 n1 n2 h1r h1c hAT hSE hrc
    go_wp2
    obtain ⟨Y, hY, fY, y0, y1, y2, y3, y4⟩ := resFin5 HZ2.out rfl (.string m.kind) (.string m.pre) (.int .i64 AT) (.slice ad' n' cap') (.int .i64 SE)
    rw [hY]
    refine bodyPost_ret (v := .tuple #[.agg #[.string m.kind, .string m.pre, .int .i64 AT, .slice ad' n' cap', .int .i64 SE], .int .i64 rc]) (by simp [results, Tryz.results34, go_sem, y0, y1, y2, y3, y4]) rfl ?_
    have F2 : FrP (fun q => q = w.heap.size + 1 + 1) w2 Y := fY
    have hBY : Below w.heap.size w Y := hB2.trans (F2.below (fun q hq e => by have : q = w.heap.size + 1 + 1 := e; omega) hB2.size)
    rw [HST.out, HCT.out, H1R.out, H1C.out, HAT2.out, HSE2.out, HRC.out]
    refine ⟨ad', cap', n', y, rfl, HL.out, fun i hi => ?_, hBY⟩
    obtain ⟨b, off, ah, ch, f1, f2, f3, f4, f5⟩ := HLi.out i hi
    exact ⟨b, off, ah, ch, f1, by omega, Nat.lt_of_lt_of_le f3 F2.size, f4.frP F2 f3 (fun e => by have h3 : b = w.heap.size + 1 + 1 := e; omega), fun k hk => by
      obtain ⟨b', off', g1, g2, g3, g4⟩ := f5 k hk
      exact ⟨b', off', g1, by omega, Nat.lt_of_lt_of_le g3 F2.size, (F2.cell (p := ⟨b', off' + k, none⟩) g3 (fun e => by have h3 : b' = w.heap.size + 1 + 1 := e; omega)).trans g4⟩⟩
end Go.Proofs.YtkecnaaacbckoaaGreat
namespace Go.Proofs.YtkecnaaacbckoaaGreat
open Go.RowKit
def fsV : Value → Value | .tuple a => a.getD 0 undef | v => v
def snV : Value → Value | .tuple a => a.getD 1 undef | v => v
theorem any_listed {ops : Array Oper} {l : Array Bool} (hord : ((List.range ops.size).all fun i => match ops[i]? with | some o => o.after.all (fun e => !Region.binds .any e || decide (e.on < i)) | none => true) = true) (hs : l.size = ops.size) (hr : Region.ready .any ops l = []) : ∀ i, i < ops.size → l.getD i false = true := by
  have conv : ∀ i, i < ops.size → l.getD i true = l.getD i false := fun i hi => by simp [Array.getD, hs, hi]
  intro i
  induction i using Nat.strongRecOn with
  | _ i ih =>
    intro hi
    cases hg : l.getD i false with
    | true => rfl
    | false =>
      exfalso
      have hmem : i ∈ Region.ready .any ops l := by
        unfold Region.ready
        refine List.mem_filter.2 ⟨List.mem_range.2 hi, ?_⟩
        rw [conv i hi, hg]
        have ho := List.all_eq_true.1 hord i (List.mem_range.2 hi)
        rw [Array.getElem?_eq_getElem hi] at ho ⊢
        simp only [Bool.not_false, Bool.true_and, Option.map_some, Option.getD_some]
        refine Array.all_eq_true'.2 fun e he => ?_
        have h1 := Array.all_eq_true'.1 ho e he
        cases hb : Region.binds .any e with
        | false => rfl
        | true =>
          rw [hb] at h1
          have h2 : e.on < i := by simpa using h1
          rw [ih e.on h2 (by omega)]
          rfl
      rw [hr] at hmem
      cases hmem
/-- a drawn region of a law whose function has two answers -/
def RU (mk mkF : (Nat → Value) → Array Value) (W : World) (G : Nat → Value → World → Prop) (F5 : Value → Nat → Nat → World → Prop) (zs : Array Value) (Fin : Value → Value → World → Prop) (l : Array Bool) (a : Act) (X : World) : Prop :=
  ∃ t : Nat → Value, l.size = 12 ∧ Below W.heap.size W X ∧
    (l.getD 11 false = true → a = ⟨mkF t, []⟩ ∧ (∀ i, i < 12 → l.getD i false = true) ∧ t 8 = snV (t 5) ∧ Fin (t 5) (t 9) X) ∧
    (l.getD 11 false = false → a = ⟨mk t, []⟩ ∧
      (l.getD 5 false = true → ∃ u0 u1, t 5 = .tuple #[u0, u1]) ∧
      (l.getD 6 false = true → l.getD 5 false = true ∧ t 6 = t 5) ∧ (l.getD 7 false = true → l.getD 6 false = true ∧ t 7 = fsV (t 5)) ∧ (l.getD 8 false = true → l.getD 6 false = true ∧ t 8 = snV (t 5)) ∧
      (l.getD 10 false = true → (∀ i, i < 8 → l.getD i false = true) ∧ l.getD 9 false = true ∧ Fin (t 5) (t 9) X) ∧
      (l.getD 10 false = false → (∀ i, i < 5 → l.getD i false = true → G i (t i) X) ∧
        (l.getD 5 false = true → ∃ lo hi, W.heap.size ≤ lo ∧ F5 (t 5) lo hi X ∧ (l.getD 9 false = true → ∃ b, t 9 = .pointer (some ⟨b, 0, none⟩) ∧ (b < lo ∨ hi ≤ b))) ∧
        (l.getD 9 false = true → ∃ b, t 9 = .pointer (some ⟨b, 0, none⟩) ∧ W.heap.size ≤ b ∧ BoxC X b zs)))
theorem regionU {P : Program} {id : Nat} {ops : Array Oper} {Q : Exit → Act → World → Prop} {a0 : Act} {W : World} (hm : P.follows .mixedOrders = true)
    (mk mkF : (Nat → Value) → Array Value) (G : Nat → Value → World → Prop) (F5 : Value → Nat → Nat → World → Prop) (zs : Array Value) (T : TypeId) (Fin : Value → Value → World → Prop)
    (hn : ops.size = 12) (hord : ((List.range ops.size).all fun i => match ops[i]? with | some o => o.after.all (fun e => !Region.binds .any e || decide (e.on < i)) | none => true) = true)
    (hd : ∀ l i, i ∈ Region.ready .any ops l → (i = 1 → l.getD 0 false = true) ∧ (i = 3 → l.getD 2 false = true) ∧ (i = 5 → l.getD 1 false = true ∧ l.getD 3 false = true ∧ l.getD 4 false = true) ∧ (i = 6 → l.getD 5 false = true) ∧ (i = 7 → l.getD 6 false = true) ∧ (i = 8 → l.getD 6 false = true) ∧ (i = 10 → (∀ j, j < 8 → l.getD j false = true) ∧ l.getD 9 false = true) ∧ (i = 11 → ∀ j, j < 11 → l.getD j false = true))
    (st : ∀ i v X Y, G i v X → Below X.heap.size X Y → G i v Y) (st5 : ∀ v lo hi X Y, F5 v lo hi X → Below X.heap.size X Y → F5 v lo hi Y) (hi5 : ∀ v lo hi X, F5 v lo hi X → hi ≤ X.heap.size) (tu5 : ∀ v lo hi X, F5 v lo hi X → ∃ u0 u1, v = .tuple #[u0, u1])
    (h0 : a0 = ⟨mk (fun _ => undef), []⟩)
    (s0 : ∀ (t : Nat → Value) (X : World) (K : Act → World → Prop), Below W.heap.size W X → (∀ v Y, G 0 v Y → Below X.heap.size X Y → K ⟨mk (updT t 0 v), []⟩ Y) → wpOp P ops Q 0 K ⟨mk t, []⟩ X)
    (s1 : ∀ (t : Nat → Value) (X : World) (K : Act → World → Prop), Below W.heap.size W X → G 0 (t 0) X → (∀ v Y, G 1 v Y → Below X.heap.size X Y → K ⟨mk (updT t 1 v), []⟩ Y) → wpOp P ops Q 1 K ⟨mk t, []⟩ X)
    (s2 : ∀ (t : Nat → Value) (X : World) (K : Act → World → Prop), Below W.heap.size W X → (∀ v Y, G 2 v Y → Below X.heap.size X Y → K ⟨mk (updT t 2 v), []⟩ Y) → wpOp P ops Q 2 K ⟨mk t, []⟩ X)
    (s3 : ∀ (t : Nat → Value) (X : World) (K : Act → World → Prop), Below W.heap.size W X → G 2 (t 2) X → (∀ v Y, G 3 v Y → Below X.heap.size X Y → K ⟨mk (updT t 3 v), []⟩ Y) → wpOp P ops Q 3 K ⟨mk t, []⟩ X)
    (s4 : ∀ (t : Nat → Value) (X : World) (K : Act → World → Prop), Below W.heap.size W X → (∀ v Y, G 4 v Y → Below X.heap.size X Y → K ⟨mk (updT t 4 v), []⟩ Y) → wpOp P ops Q 4 K ⟨mk t, []⟩ X)
    (s5 : ∀ (t : Nat → Value) (X : World) (K : Act → World → Prop), Below W.heap.size W X → G 1 (t 1) X → G 3 (t 3) X → G 4 (t 4) X → (∀ v Y, F5 v X.heap.size Y.heap.size Y → Below X.heap.size X Y → K ⟨mk (updT t 5 v), []⟩ Y) → wpOp P ops Q 5 K ⟨mk t, []⟩ X)
    (s6 : ∀ (t : Nat → Value) (X : World) (K : Act → World → Prop), K ⟨mk (updT t 6 (t 5)), []⟩ X → wpOp P ops Q 6 K ⟨mk t, []⟩ X)
    (s7 : ∀ (t : Nat → Value) (X : World) (K : Act → World → Prop) (u0 u1 : Value), t 6 = .tuple #[u0, u1] → K ⟨mk (updT t 7 u0), []⟩ X → wpOp P ops Q 7 K ⟨mk t, []⟩ X)
    (s8 : ∀ (t : Nat → Value) (X : World) (K : Act → World → Prop) (u0 u1 : Value), t 6 = .tuple #[u0, u1] → K ⟨mk (updT t 8 u1), []⟩ X → wpOp P ops Q 8 K ⟨mk t, []⟩ X)
    (sa : ∀ (t : Nat → Value) (X : World) (K : Act → World → Prop), K ⟨mk (updT t 9 (.pointer (some ⟨X.heap.size, 0, none⟩))), []⟩ (X.alloc (.cells zs T)) → wpOp P ops Q 9 K ⟨mk t, []⟩ X)
    (ss : ∀ (t : Nat → Value) (X : World) (K : Act → World → Prop) (b lo hi : Nat), Below W.heap.size W X → t 9 = .pointer (some ⟨b, 0, none⟩) → W.heap.size ≤ b → BoxC X b zs → F5 (t 5) lo hi X → W.heap.size ≤ lo → (b < lo ∨ hi ≤ b) → t 7 = fsV (t 5) → (∀ Y, Fin (t 5) (t 9) Y → Below W.heap.size W Y → K ⟨mk t, []⟩ Y) → wpOp P ops Q 10 K ⟨mk t, []⟩ X)
    (s11 : ∀ (t : Nat → Value) (X : World) (K : Act → World → Prop), K ⟨mkF t, []⟩ X → wpOp P ops Q 11 K ⟨mk t, []⟩ X)
    (hfin : ∀ (t : Nat → Value) (X : World), t 8 = snV (t 5) → Fin (t 5) (t 9) X → Below W.heap.size W X → Q .normal ⟨mkF t, []⟩ X) : (Code.region id ops true).wp P Q a0 W := by
  refine wp_region_inv hm (RU mk mkF W G F5 zs Fin) ?_ ?_ ?_ ?_
  · have hz : ∀ i, (Array.replicate ops.size false).getD i false = false := fun i => by simp [Array.getD]
    refine ⟨fun _ => undef, by simp [hn], (Below.refl _ _).drew, fun h => ?_, fun _ => ⟨h0, fun h => ?_, fun h => ?_, fun h => ?_, fun h => ?_, fun h => ?_, fun _ => ⟨fun i _ h => ?_, fun h => ?_, fun h => ?_⟩⟩⟩ <;> (rw [hz] at h; cases h)
  · rintro l a X ⟨t, hs, _⟩
    rw [hs, hn]
  · rintro l a X ⟨t, hs, hb, h11, _⟩ hr
    have AL := any_listed hord (by rw [hs, hn]) hr
    obtain ⟨rfl, _, e8, hF⟩ := h11 (AL 11 (by omega))
    exact hfin t X e8 hF hb
  · rintro l a X i ⟨t, hs, hb, h11, hno⟩ hr
    obtain ⟨d1, d3, d5, d6, d7, d8, d10, d11⟩ := hd l i hr
    obtain ⟨hu, o, ho, _⟩ := mem_ready.1 hr
    have hi12 : i < 12 := by
      rcases Nat.lt_or_ge i 12 with h | h
      · exact h
      · rw [Array.getElem?_eq_none (by omega)] at ho
        cases ho
    have hui : l.getD i false = false := by
      have : l.getD i true = false := hu
      simpa [Array.getD, hs, hi12] using this
    have l11 : l.getD 11 false = false := by
      cases h : l.getD 11 false with
      | false => rfl
      | true => rw [(h11 h).2.1 i hi12] at hui; cases hui
    obtain ⟨rfl, g5, g6, g7, g8, g10, gg⟩ := hno l11
    have kp : ∀ j, ¬ j = i → (l.setIfInBounds i true).getD j false = l.getD j false := fun j hj => by rw [getD_set (by omega), if_neg hj]
    have ki : (l.setIfInBounds i true).getD i false = true := by rw [getD_set (by omega), if_pos rfl]
    have hs' : (l.setIfInBounds i true).size = 12 := by simp [hs]
    have l10 : i < 8 ∨ i = 9 → l.getD 10 false = false := fun hi => by
      cases h : l.getD 10 false with
      | false => rfl
      | true =>
        obtain ⟨a1, a2, _⟩ := g10 h
        rcases hi with h2 | rfl
        · rw [a1 i h2] at hui; cases hui
        · rw [a2] at hui; cases hui
    clear hr hu ho h11 hno
    -- a value that holds whatever is added
    have gstep : ∀ (p : Nat), p < 5 → i = p → ∀ v Y, G p v Y → Below X.heap.size X Y → RU mk mkF W G F5 zs Fin (l.setIfInBounds i true) ⟨mk (updT t p v), []⟩ Y := by
      rintro p hp rfl v Y hv hY
      have n10 := l10 (Or.inl (by omega))
      obtain ⟨gA, gB, gC⟩ := gg n10
      refine ⟨updT t i v, hs', hb.trans (hY.mono hb.size), fun h => ?_, fun _ => ⟨rfl, fun h => ?_, fun h => ?_, fun h => ?_, fun h => ?_, fun h => ?_, fun _ => ⟨fun j hj h => ?_, fun h => ?_, fun h => ?_⟩⟩⟩
      · rw [kp 11 (by omega), l11] at h; cases h
      · rw [kp 5 (by omega)] at h; rw [updT_ne (by omega)]; exact g5 h
      · rw [kp 6 (by omega)] at h; rw [kp 5 (by omega), updT_ne (by omega), updT_ne (by omega)]; exact g6 h
      · rw [kp 7 (by omega)] at h; rw [kp 6 (by omega), updT_ne (by omega), updT_ne (by omega)]; exact g7 h
      · rw [kp 8 (by omega)] at h; rw [kp 6 (by omega), updT_ne (by omega), updT_ne (by omega)]; exact g8 h
      · rw [kp 10 (by omega), n10] at h; cases h
      · by_cases e : j = i
        · subst e; rw [updT_same]; exact hv
        · rw [kp j e] at h; rw [updT_ne e]; exact st _ _ _ _ (gA j hj h) hY
      · rw [kp 5 (by omega)] at h
        obtain ⟨lo, hi, e1, e2, e3⟩ := gB h
        rw [updT_ne (by omega), updT_ne (by omega), kp 9 (by omega)]
        exact ⟨lo, hi, e1, st5 _ _ _ _ _ e2 hY, e3⟩
      · rw [kp 9 (by omega)] at h
        rw [updT_ne (by omega)]
        obtain ⟨b, e1, e2, e3⟩ := gC h
        exact ⟨b, e1, e2, e3.below hY⟩
    rcases (show i = 0 ∨ i = 1 ∨ i = 2 ∨ i = 3 ∨ i = 4 ∨ i = 5 ∨ i = 6 ∨ i = 7 ∨ i = 8 ∨ i = 9 ∨ i = 10 ∨ i = 11 by omega) with rfl | rfl | rfl | rfl | rfl | rfl | rfl | rfl | rfl | rfl | rfl | rfl
    · exact s0 t X _ hb (gstep 0 (by omega) rfl)
    · exact s1 t X _ hb ((gg (l10 (Or.inl (by omega)))).1 0 (by omega) (d1 rfl)) (gstep 1 (by omega) rfl)
    · exact s2 t X _ hb (gstep 2 (by omega) rfl)
    · exact s3 t X _ hb ((gg (l10 (Or.inl (by omega)))).1 2 (by omega) (d3 rfl)) (gstep 3 (by omega) rfl)
    · exact s4 t X _ hb (gstep 4 (by omega) rfl)
    · have n10 := l10 (Or.inl (by omega))
      obtain ⟨gA, gB, gC⟩ := gg n10
      refine s5 t X _ hb (gA 1 (by omega) (d5 rfl).1) (gA 3 (by omega) (d5 rfl).2.1) (gA 4 (by omega) (d5 rfl).2.2) (fun v Y hv hY => ⟨updT t 5 v, hs', hb.trans (hY.mono hb.size), fun h => ?_, fun _ => ⟨rfl, fun h => ?_, fun h => ?_, fun h => ?_, fun h => ?_, fun h => ?_, fun _ => ⟨fun j hj h => ?_, fun h => ?_, fun h => ?_⟩⟩⟩)
      · rw [kp 11 (by omega), l11] at h; cases h
      · rw [updT_same]; exact tu5 _ _ _ _ hv
      · rw [kp 6 (by omega)] at h; rw [(g6 h).1] at hui; cases hui
      · rw [kp 7 (by omega)] at h; rw [(g6 (g7 h).1).1] at hui; cases hui
      · rw [kp 8 (by omega)] at h; rw [(g6 (g8 h).1).1] at hui; cases hui
      · rw [kp 10 (by omega), n10] at h; cases h
      · rw [kp j (by omega)] at h; rw [updT_ne (by omega)]; exact st _ _ _ _ (gA j hj h) hY
      · rw [updT_same, updT_ne (by omega)]
        refine ⟨X.heap.size, Y.heap.size, hb.size, hv, fun h => ?_⟩
        rw [kp 9 (by omega)] at h
        obtain ⟨b, e1, e2, e3⟩ := gC h
        exact ⟨b, e1, Or.inl e3.lt⟩
      · rw [kp 9 (by omega)] at h
        rw [updT_ne (by omega)]
        obtain ⟨b, e1, e2, e3⟩ := gC h
        exact ⟨b, e1, e2, e3.below hY⟩
    · have n10 := l10 (Or.inl (by omega))
      obtain ⟨gA, gB, gC⟩ := gg n10
      refine s6 t X _ ⟨updT t 6 (t 5), hs', hb, fun h => ?_, fun _ => ⟨rfl, fun h => ?_, fun h => ?_, fun h => ?_, fun h => ?_, fun h => ?_, fun _ => ⟨fun j hj h => ?_, fun h => ?_, fun h => ?_⟩⟩⟩
      · rw [kp 11 (by omega), l11] at h; cases h
      · rw [kp 5 (by omega)] at h; rw [updT_ne (by omega)]; exact g5 h
      · rw [kp 5 (by omega), updT_same, updT_ne (by omega)]; exact ⟨d6 rfl, rfl⟩
      · rw [kp 7 (by omega)] at h; rw [(g7 h).1] at hui; cases hui
      · rw [kp 8 (by omega)] at h; rw [(g8 h).1] at hui; cases hui
      · rw [kp 10 (by omega), n10] at h; cases h
      · rw [kp j (by omega)] at h; rw [updT_ne (by omega)]; exact gA j hj h
      · rw [kp 5 (by omega)] at h; rw [updT_ne (by omega), updT_ne (by omega), kp 9 (by omega)]; exact gB h
      · rw [kp 9 (by omega)] at h; rw [updT_ne (by omega)]; exact gC h
    · have n10 := l10 (Or.inl (by omega))
      obtain ⟨gA, gB, gC⟩ := gg n10
      obtain ⟨m5, m6⟩ := g6 (d7 rfl)
      obtain ⟨u0, u1, m7⟩ := g5 m5
      refine s7 t X _ u0 u1 (by rw [m6, m7]) ⟨updT t 7 u0, hs', hb, fun h => ?_, fun _ => ⟨rfl, fun h => ?_, fun h => ?_, fun h => ?_, fun h => ?_, fun h => ?_, fun _ => ⟨fun j hj h => ?_, fun h => ?_, fun h => ?_⟩⟩⟩
      · rw [kp 11 (by omega), l11] at h; cases h
      · rw [kp 5 (by omega)] at h; rw [updT_ne (by omega)]; exact g5 h
      · rw [kp 6 (by omega)] at h; rw [kp 5 (by omega), updT_ne (by omega), updT_ne (by omega)]; exact g6 h
      · rw [kp 6 (by omega), updT_same, updT_ne (by omega), m7]; exact ⟨d7 rfl, rfl⟩
      · rw [kp 8 (by omega)] at h; rw [kp 6 (by omega), updT_ne (by omega), updT_ne (by omega)]; exact g8 h
      · rw [kp 10 (by omega), n10] at h; cases h
      · rw [kp j (by omega)] at h; rw [updT_ne (by omega)]; exact gA j hj h
      · rw [kp 5 (by omega)] at h; rw [updT_ne (by omega), updT_ne (by omega), kp 9 (by omega)]; exact gB h
      · rw [kp 9 (by omega)] at h; rw [updT_ne (by omega)]; exact gC h
    · obtain ⟨m5, m6⟩ := g6 (d8 rfl)
      obtain ⟨u0, u1, m7⟩ := g5 m5
      refine s8 t X _ u0 u1 (by rw [m6, m7]) ⟨updT t 8 u1, hs', hb, fun h => ?_, fun _ => ⟨rfl, fun h => ?_, fun h => ?_, fun h => ?_, fun h => ?_, fun h => ?_, fun h10 => ?_⟩⟩
      · rw [kp 11 (by omega), l11] at h; cases h
      · rw [kp 5 (by omega)] at h; rw [updT_ne (by omega)]; exact g5 h
      · rw [kp 6 (by omega)] at h; rw [kp 5 (by omega), updT_ne (by omega), updT_ne (by omega)]; exact g6 h
      · rw [kp 7 (by omega)] at h; rw [kp 6 (by omega), updT_ne (by omega), updT_ne (by omega)]; exact g7 h
      · rw [kp 6 (by omega), updT_same, updT_ne (by omega), m7]; exact ⟨d8 rfl, rfl⟩
      · rw [kp 10 (by omega)] at h
        obtain ⟨a1, a2, a3⟩ := g10 h
        refine ⟨fun j hj => by rw [kp j (by omega)]; exact a1 j hj, by rw [kp 9 (by omega)]; exact a2, ?_⟩
        rw [updT_ne (by omega), updT_ne (by omega)]
        exact a3
      · rw [kp 10 (by omega)] at h10
        obtain ⟨gA, gB, gC⟩ := gg h10
        refine ⟨fun j hj h => ?_, fun h => ?_, fun h => ?_⟩
        · rw [kp j (by omega)] at h; rw [updT_ne (by omega)]; exact gA j hj h
        · rw [kp 5 (by omega)] at h; rw [updT_ne (by omega), updT_ne (by omega), kp 9 (by omega)]; exact gB h
        · rw [kp 9 (by omega)] at h; rw [updT_ne (by omega)]; exact gC h
    · have n10 := l10 (Or.inr rfl)
      obtain ⟨gA, gB, gC⟩ := gg n10
      have hY := below_alloc X (.cells zs T)
      refine sa t X _ ⟨updT t 9 _, hs', hb.alloc hb.size _, fun h => ?_, fun _ => ⟨rfl, fun h => ?_, fun h => ?_, fun h => ?_, fun h => ?_, fun h => ?_, fun _ => ⟨fun j hj h => ?_, fun h => ?_, fun _ => ?_⟩⟩⟩
      · rw [kp 11 (by omega), l11] at h; cases h
      · rw [kp 5 (by omega)] at h; rw [updT_ne (by omega)]; exact g5 h
      · rw [kp 6 (by omega)] at h; rw [kp 5 (by omega), updT_ne (by omega), updT_ne (by omega)]; exact g6 h
      · rw [kp 7 (by omega)] at h; rw [kp 6 (by omega), updT_ne (by omega), updT_ne (by omega)]; exact g7 h
      · rw [kp 8 (by omega)] at h; rw [kp 6 (by omega), updT_ne (by omega), updT_ne (by omega)]; exact g8 h
      · rw [kp 10 (by omega), n10] at h; cases h
      · rw [kp j (by omega)] at h; rw [updT_ne (by omega)]; exact st _ _ _ _ (gA j hj h) hY
      · rw [kp 5 (by omega)] at h
        rw [updT_ne (by omega), updT_same]
        obtain ⟨lo, hi, e1, e2, e3⟩ := gB h
        exact ⟨lo, hi, e1, st5 _ _ _ _ _ e2 hY, fun _ => ⟨X.heap.size, rfl, Or.inr (hi5 _ _ _ _ e2)⟩⟩
      · rw [updT_same]
        exact ⟨X.heap.size, rfl, hb.size, boxC_new (Below.refl _ _)⟩
    · obtain ⟨a1, a2⟩ := d10 rfl
      have n10 : l.getD 10 false = false := hui
      obtain ⟨gA, gB, gC⟩ := gg n10
      obtain ⟨lo, hi, e1, e2, e3⟩ := gB (a1 5 (by omega))
      obtain ⟨b, f1, f2⟩ := e3 a2
      obtain ⟨b', f3, f5, f6⟩ := gC a2
      obtain rfl : b' = b := by rw [f1] at f3; cases f3; rfl
      refine ss t X _ b' lo hi hb f1 f5 f6 e2 e1 f2 (g7 (a1 7 (by omega))).2 (fun Y hY hbY => ⟨t, hs', hbY, fun h => ?_, fun _ => ⟨rfl, fun h => ?_, fun h => ?_, fun h => ?_, fun h => ?_, fun _ => ⟨fun j hj => ?_, ?_, hY⟩, fun h => ?_⟩⟩)
      · rw [kp 11 (by omega), l11] at h; cases h
      · rw [kp 5 (by omega)] at h; exact g5 h
      · rw [kp 6 (by omega)] at h; rw [kp 5 (by omega)]; exact g6 h
      · rw [kp 7 (by omega)] at h; rw [kp 6 (by omega)]; exact g7 h
      · rw [kp 8 (by omega)] at h; rw [kp 6 (by omega)]; exact g8 h
      · rw [kp j (by omega)]; exact a1 j hj
      · rw [kp 9 (by omega)]; exact a2
      · rw [ki] at h; cases h
    · have al := d11 rfl
      obtain ⟨a1, a2, a3⟩ := g10 (al 10 (by omega))
      refine s11 t X _ ⟨t, hs', hb, fun _ => ⟨rfl, fun j hj => ?_, (g8 (al 8 (by omega))).2, a3⟩, fun h => ?_⟩
      · by_cases e : j = 11
        · subst e; exact ki
        · rw [kp j e]; exact al j (by omega)
      · rw [ki] at h; cases h
end Go.Proofs.YtkecnaaacbckoaaGreat
namespace Go.Proofs.YtkecnaaacbckoaaGreat
open Go.RowKit Go.Maps
theorem StrsIn.frQ {w w' : World} {P : Nat → Prop} {lo hi : Nat} {ad : Option Addr} {n : Nat} {s : Nat → ByteArray} (h : StrsIn w lo hi ad n s) (hf : FrP P w w') (hh : hi ≤ w.heap.size) (hp : ∀ q, lo ≤ q → q < hi → ¬ P q) : StrsIn w' lo hi ad n s := fun i hi' => by
  obtain ⟨b, off, e1, e2, e3, e4⟩ := h i hi'
  exact ⟨b, off, e1, e2, e3, (hf.cell (p := ⟨b, off + i, none⟩) (Nat.lt_of_lt_of_le e3 hh) (hp b e2 e3)).trans e4⟩
theorem ObjsIn.frQ {w w' : World} {P : Nat → Prop} {lo hi : Nat} {ad : Option Addr} {n : Nat} {y : Nat → Ob} (h : ObjsIn w lo hi ad n y) (hf : FrP P w w') (hh : hi ≤ w.heap.size) (hp : ∀ q, lo ≤ q → q < hi → ¬ P q) : ObjsIn w' lo hi ad n y := fun i hi' => by
  obtain ⟨b, off, ah, ch, e1, e2, e3, e4, e5⟩ := h i hi'
  exact ⟨b, off, ah, ch, e1, e2, e3, e4.frP hf (Nat.lt_of_lt_of_le e3 hh) (hp b e2 e3), e5.frQ hf hh hp⟩
def stF4 (B : Bk) (m : Mr) (most : Int) (v : Value) (lo hi : Nat) (X : World) : Prop :=
  (∃ (adw : Option Addr) (cw n' : Nat) (y : Nat → Ob), v = .tuple #[.agg #[.string m.kind, .string m.pre, .int .i64 (stS B m most).at_, .slice adw n' cw, .int .i64 (stS B m most).seen], .int .i64 (stC B m most)] ∧ tkL n' y = (stS B m most).l ∧ ObjsIn X lo hi adw n' y) ∧ hi ≤ X.heap.size
theorem stF4_st (B : Bk) (m : Mr) (most : Int) : ∀ v lo hi X Y, stF4 B m most v lo hi X → Below X.heap.size X Y → stF4 B m most v lo hi Y := by
  rintro v lo hi X Y ⟨⟨adw, cw, n', y, e1, e2, e3⟩, e4⟩ hb
  exact ⟨⟨adw, cw, n', y, e1, e2, e3.below hb e4⟩, Nat.le_trans e4 hb.size⟩
def stG (B : Bk) (a1 a2 a3 : Option Addr) (c1 c2 c3 : Nat) (m : Mr) (a : Option Addr) (c : Nat) (most : Int) (i : Nat) (v : Value) (X : World) : Prop :=
  match i with
  | 0 => v = .agg #[.int .i64 B.now, .int .i64 B.floor, .slice a1 B.on c1, .slice a2 B.hn c2, .slice a3 B.tn c3]
  | 1 => ∃ (p : Pl) (d1 d2 d3 : Nat), v = .agg #[.int .i64 B.now, .int .i64 B.floor, .slice p.a1 B.on d1, .slice p.a2 B.hn d2, .slice p.a3 B.tn d3] ∧ BkAt X B p
  | 2 => v = .agg #[.string m.kind, .string m.pre, .int .i64 m.at_, .slice a m.n c, .int .i64 m.seen]
  | 3 => ∃ g d A C hb, v = .agg #[.string m.kind, .string m.pre, .int .i64 m.at_, .slice (some ⟨g, 0, none⟩) m.n d, .int .i64 m.seen] ∧ ObsAt X (some ⟨g, 0, none⟩) g m.n m.os A C hb
  | _ => v = .int .i64 most
theorem stG_st (B : Bk) (a1 a2 a3 : Option Addr) (c1 c2 c3 : Nat) (m : Mr) (a : Option Addr) (c : Nat) (most : Int) : ∀ i v X Y, stG B a1 a2 a3 c1 c2 c3 m a c most i v X → Below X.heap.size X Y → stG B a1 a2 a3 c1 c2 c3 m a c most i v Y := by
  intro i v X Y h hb
  match i with
  | 0 => exact h
  | 1 =>
    obtain ⟨p, d1, d2, d3, e1, e2⟩ := h
    exact ⟨p, d1, d2, d3, e1, e2.grow hb⟩
  | 2 => exact h
  | 3 =>
    obtain ⟨g, d, A, C, hb', e1, e2⟩ := h
    exact ⟨g, d, A, C, hb', e1, e2.grow hb⟩
  | _ + 4 => exact h
def stFin (B : Bk) (m : Mr) (most : Int) (W : World) (b : Nat) (X : World) : Prop :=
  ∃ (adw : Option Addr) (cw n' : Nat) (y : Nat → Ob) (lo hi : Nat), W.heap.size ≤ b ∧ b < X.heap.size ∧ (X.cell? ⟨b, 0, none⟩ = some (.string m.kind) ∧ X.cell? ⟨b, 1, none⟩ = some (.string m.pre) ∧ X.cell? ⟨b, 2, none⟩ = some (.int .i64 (stS B m most).at_) ∧ X.cell? ⟨b, 3, none⟩ = some (.slice adw n' cw) ∧ X.cell? ⟨b, 4, none⟩ = some (.int .i64 (stS B m most).seen)) ∧ tkL n' y = (stS B m most).l ∧ ObjsIn X lo hi adw n' y ∧ W.heap.size ≤ lo ∧ hi ≤ X.heap.size
theorem tkL_map (L : List EO) : tkL L.length (fun i => (ixE L i).ob) = L.map EO.ob := by
  apply List.ext_getElem
  · simp [tkL]
  · intro i h1 h2
    have hi : i < L.length := by simpa using h2
    simp [tkL, ixE_lt hi]
theorem specStep4 (B : Bk) (p : Pl) (c1 c2 c3 : Nat) (m : Mr) (a : Option Addr) (c : Nat) (most : Int) (X : World) (hfit : BkFit B) (hon : (B.on : Int) ≤ 1048576) (hsum : (m.n : Int) + B.hn ≤ 1048576) (hpr : (m.pre.size : Int) ≤ 140737488355328) (hf : ∀ i, i < m.n → ObFit (m.os i)) (hat : BkAt X B p) (hc : ObjsIn X 0 X.heap.size a m.n m.os) :
    Calls Tryz.prog 34 #[.agg #[.int .i64 B.now, .int .i64 B.floor, .slice p.a1 B.on c1, .slice p.a2 B.hn c2, .slice p.a3 B.tn c3], .agg #[.string m.kind, .string m.pre, .int .i64 m.at_, .slice a m.n c, .int .i64 m.seen], .int .i64 most] X fun r Y => ∃ v, r = .returned v ∧ stF4 B m most v X.heap.size Y.heap.size Y ∧ Below X.heap.size X Y :=
  (specStep_any B p.a1 p.a2 p.a3 c1 c2 c3 m a c most X hfit hon hsum hpr hf (hat.isIn (fun _ _ => Nat.zero_le _)) hc).mono fun _r _Y ⟨ad', cap', n', y, h1, h2, h3, h4⟩ => ⟨_, h1, ⟨⟨ad', cap', n', y, rfl, h2, h3⟩, Nat.le_refl _⟩, h4⟩
theorem implStep4 (B : Bk) (p : Pl) (c1 c2 c3 : Nat) (m : Mr) (a : Option Addr) (c : Nat) (most : Int) (X : World) (hfit : BkFit B) (hon : (B.on : Int) ≤ 1048576) (hsum : (m.n : Int) + B.hn ≤ 1048576) (hpr : (m.pre.size : Int) ≤ 140737488355328) (hf : ∀ i, i < m.n → ObFit (m.os i)) (hat : BkAt X B p) (hc : ObjsIn X 0 X.heap.size a m.n m.os) :
    Calls Tryz.prog 35 #[.agg #[.int .i64 B.now, .int .i64 B.floor, .slice p.a1 B.on c1, .slice p.a2 B.hn c2, .slice p.a3 B.tn c3], .agg #[.string m.kind, .string m.pre, .int .i64 m.at_, .slice a m.n c, .int .i64 m.seen], .int .i64 most] X fun r Y => ∃ v, r = .returned v ∧ stF4 B m most v X.heap.size Y.heap.size Y ∧ Below X.heap.size X Y :=
  (implStep_any B p c1 c2 c3 m a c most X hfit hon hsum hpr hf hat hc).mono fun r Y ⟨ad', cap', g, L, h1, h2, h3, h4, h5, h6, h7⟩ => by
    have hob := obsAt_of (fun h => (h3 h).1) (fun h => (h3 h).2) h4 (fun e he h0 => (h6 e he h0).1)
    refine ⟨_, h1, ⟨⟨ad', cap', L.length, fun i => (ixE L i).ob, rfl, by rw [tkL_map]; exact h2, hob.isIn (fun q hq => ?_)⟩, Nat.le_refl _⟩, h7⟩
    rcases hq with ⟨q1, q2⟩ | ⟨i, q1, q2, q3⟩
    · rw [q2]
      exact h5 (fun e => by rw [e] at q1; exact absurd q1 (Nat.lt_irrefl _))
    · rw [q3]
      exact (h6 _ (ixE_mem q1) q2).2
set_option maxRecDepth 100000 in
set_option maxHeartbeats 2000000 in
theorem stpReg8 (p0 p1 p5 p6 p7 p10 p11 p12 p13 p14 p15 p16 p17 p18 p19 p20 p21 p22 p23 p24 p25 p26 p27 p28 p38 p39 p40 p41 p42 p43 p44 p45 p46 p47 p48 p49 p50 p51 p52 p53 p54 p55 p56 p57 p58 p59 p60 p61 p62 p63 p64 p65 p66 p67 p68 p69 p70 p71 p72 p73 p74 p75 p76 p77 p78 p79 p80 p81 p82 p83 p84 p85 p86 p87 p88 p89 p90 p91 p92 p93 p94 p95 p96 p97 p98 p99 p100 p101 p102 p103 p104 p105 p106 p107 p108 p109 p110 p111 p112 p113 p114 p115 p116 p117 p118 p119 p120 p121 p122 p123 : Value) (s0 : Nat) (B : Bk) (a1 a2 a3 : Option Addr) (c1 c2 c3 : Nat) (m : Mr) (a : Option Addr) (c : Nat) (most : Int) (hfit : BkFit B) (hon : (B.on : Int) ≤ 1048576) (hsum : (m.n : Int) + B.hn ≤ 1048576) (hpr : (m.pre.size : Int) ≤ 140737488355328) (hf : ∀ i, i < m.n → ObFit (m.os i)) (W : World) (hbb : Holds W s0 #[.int .i64 B.now, .int .i64 B.floor, .slice a1 B.on c1, .slice a2 B.hn c2, .slice a3 B.tn c3]) (hbm : Holds W (s0 + 1) #[.string m.kind, .string m.pre, .int .i64 m.at_, .slice a m.n c, .int .i64 m.seen]) (hinb : BkIn W 0 s0 B a1 a2 a3) (hinm : ObjsIn W 0 s0 a m.n m.os) (hs : s0 + 1 < W.heap.size) (Q : Exit → Act → World → Prop)
    (hQ : ∀ u0 u1 u2 u3 u4 u5 u6 u7 u8 b X, stFin B m most W b X → Below W.heap.size W X → Q .normal ⟨#[p0, p1, .int .i64 most, .pointer (some ⟨s0, 0, none⟩), .pointer (some ⟨s0 + 1, 0, none⟩), p5, p6, p7, .pointer (some ⟨b, 0, none⟩), .int .i64 (stC B m most), p10, p11, p12, p13, p14, p15, p16, p17, p18, p19, p20, p21, p22, p23, p24, p25, p26, p27, p28, u6, u0, u1, u2, u3, u4, u5, u7, u8, p38, p39, p40, p41, p42, p43, p44, p45, p46, p47, p48, p49, p50, p51, p52, p53, p54, p55, p56, p57, p58, p59, p60, p61, p62, p63, p64, p65, p66, p67, p68, p69, p70, p71, p72, p73, p74, p75, p76, p77, p78, p79, p80, p81, p82, p83, p84, p85, p86, p87, p88, p89, p90, p91, p92, p93, p94, p95, p96, p97, p98, p99, p100, p101, p102, p103, p104, p105, p106, p107, p108, p109, p110, p111, p112, p113, p114, p115, p116, p117, p118, p119, p120, p121, p122, p123], []⟩ X) :
    Code.wp Tryz.prog (Code.region 8 #[{ dst := some 30, op := Op.load 26 (Operand.tmp 3), type := 26, pos := "exact.go:4153", after := #[], guard := none }, { dst := some 31, op := Op.call { callee := Callee.value (Operand.func 10), args := #[Operand.tmp 30], argTypes := #[26] }, type := 32, pos := "exact.go:4153", after := #[{ on := 0, ground := Ground.data }], guard := none }, { dst := some 32, op := Op.load 54 (Operand.tmp 4), type := 54, pos := "exact.go:4153", after := #[], guard := none }, { dst := some 33, op := Op.call { callee := Callee.value (Operand.func 29), args := #[Operand.tmp 32], argTypes := #[54] }, type := 57, pos := "exact.go:4153", after := #[{ on := 2, ground := Ground.data }, { on := 1, ground := Ground.chain }], guard := none }, { dst := some 34, op := Op.move (Operand.tmp 2), type := 3, pos := "exact.go:4153", after := #[], guard := none }, { dst := some 35, op := Op.call { callee := Callee.value (Operand.func 34), args := #[Operand.tmp 31, Operand.tmp 33, Operand.tmp 34], argTypes := #[32, 57, 3] }, type := 63, pos := "exact.go:4153", after := #[{ on := 1, ground := Ground.data }, { on := 3, ground := Ground.data }, { on := 4, ground := Ground.data }, { on := 3, ground := Ground.chain }], guard := none }, { dst := some 29, op := Op.move (Operand.tmp 35), type := 63, pos := "exact.go:4153", after := #[{ on := 5, ground := Ground.data }], guard := none }, { dst := some 36, op := Op.extract (Operand.tmp 29) 0, type := 57, pos := "exact.go:4153", after := #[{ on := 6, ground := Ground.data }], guard := none }, { dst := some 37, op := Op.extract (Operand.tmp 29) 1, type := 3, pos := "exact.go:4153", after := #[{ on := 6, ground := Ground.data }, { on := 10, ground := Ground.gcOnly Departure.lateStores }], guard := none }, { dst := some 8, op := Op.alloc 57, type := 0, pos := "exact.go:4153", after := #[], guard := none }, { dst := none, op := Op.store 57 (Operand.tmp 8) (Operand.tmp 36), type := 0, pos := "exact.go:4153", after := #[{ on := 9, ground := Ground.data }, { on := 7, ground := Ground.data }, { on := 5, ground := Ground.chain }, { on := 0, ground := Ground.phase }, { on := 1, ground := Ground.phase }, { on := 2, ground := Ground.phase }, { on := 3, ground := Ground.phase }, { on := 4, ground := Ground.phase }, { on := 5, ground := Ground.phase }, { on := 6, ground := Ground.phase }, { on := 7, ground := Ground.phase }, { on := 8, ground := Ground.textOnly Departure.lateStores }, { on := 9, ground := Ground.phase }], guard := none }, { dst := some 9, op := Op.assign (Operand.tmp 37), type := 3, pos := "exact.go:4153", after := #[{ on := 8, ground := Ground.data }, { on := 10, ground := Ground.chain }, { on := 0, ground := Ground.phase }, { on := 1, ground := Ground.phase }, { on := 2, ground := Ground.phase }, { on := 3, ground := Ground.phase }, { on := 4, ground := Ground.phase }, { on := 5, ground := Ground.phase }, { on := 6, ground := Ground.phase }, { on := 7, ground := Ground.phase }, { on := 8, ground := Ground.phase }, { on := 9, ground := Ground.phase }, { on := 10, ground := Ground.phase }], guard := none }] true) Q ⟨#[p0, p1, .int .i64 most, .pointer (some ⟨s0, 0, none⟩), .pointer (some ⟨s0 + 1, 0, none⟩), p5, p6, p7, undef, undef, p10, p11, p12, p13, p14, p15, p16, p17, p18, p19, p20, p21, p22, p23, p24, p25, p26, p27, p28, undef, undef, undef, undef, undef, undef, undef, undef, undef, p38, p39, p40, p41, p42, p43, p44, p45, p46, p47, p48, p49, p50, p51, p52, p53, p54, p55, p56, p57, p58, p59, p60, p61, p62, p63, p64, p65, p66, p67, p68, p69, p70, p71, p72, p73, p74, p75, p76, p77, p78, p79, p80, p81, p82, p83, p84, p85, p86, p87, p88, p89, p90, p91, p92, p93, p94, p95, p96, p97, p98, p99, p100, p101, p102, p103, p104, p105, p106, p107, p108, p109, p110, p111, p112, p113, p114, p115, p116, p117, p118, p119, p120, p121, p122, p123], []⟩ W := by
  refine regionU (by kernel_rfl) (fun t : Nat → Value => #[p0, p1, .int .i64 most, .pointer (some ⟨s0, 0, none⟩), .pointer (some ⟨s0 + 1, 0, none⟩), p5, p6, p7, t 9, undef, p10, p11, p12, p13, p14, p15, p16, p17, p18, p19, p20, p21, p22, p23, p24, p25, p26, p27, p28, t 6, t 0, t 1, t 2, t 3, t 4, t 5, t 7, t 8, p38, p39, p40, p41, p42, p43, p44, p45, p46, p47, p48, p49, p50, p51, p52, p53, p54, p55, p56, p57, p58, p59, p60, p61, p62, p63, p64, p65, p66, p67, p68, p69, p70, p71, p72, p73, p74, p75, p76, p77, p78, p79, p80, p81, p82, p83, p84, p85, p86, p87, p88, p89, p90, p91, p92, p93, p94, p95, p96, p97, p98, p99, p100, p101, p102, p103, p104, p105, p106, p107, p108, p109, p110, p111, p112, p113, p114, p115, p116, p117, p118, p119, p120, p121, p122, p123]) (fun t : Nat → Value => #[p0, p1, .int .i64 most, .pointer (some ⟨s0, 0, none⟩), .pointer (some ⟨s0 + 1, 0, none⟩), p5, p6, p7, t 9, t 8, p10, p11, p12, p13, p14, p15, p16, p17, p18, p19, p20, p21, p22, p23, p24, p25, p26, p27, p28, t 6, t 0, t 1, t 2, t 3, t 4, t 5, t 7, t 8, p38, p39, p40, p41, p42, p43, p44, p45, p46, p47, p48, p49, p50, p51, p52, p53, p54, p55, p56, p57, p58, p59, p60, p61, p62, p63, p64, p65, p66, p67, p68, p69, p70, p71, p72, p73, p74, p75, p76, p77, p78, p79, p80, p81, p82, p83, p84, p85, p86, p87, p88, p89, p90, p91, p92, p93, p94, p95, p96, p97, p98, p99, p100, p101, p102, p103, p104, p105, p106, p107, p108, p109, p110, p111, p112, p113, p114, p115, p116, p117, p118, p119, p120, p121, p122, p123]) (stG B a1 a2 a3 c1 c2 c3 m a c most) (stF4 B m most) #[.string ByteArray.empty, .string ByteArray.empty, .int .i64 0, .slice none 0 0, .int .i64 0] 57 (fun v u X => (∃ u0, v = .tuple #[u0, .int .i64 (stC B m most)]) ∧ ∃ b, u = .pointer (some ⟨b, 0, none⟩) ∧ stFin B m most W b X) rfl (by kernel_rfl) ?_ (stG_st B a1 a2 a3 c1 c2 c3 m a c most) (stF4_st B m most) (fun v lo hi X h => h.2) (fun v lo hi X h => by obtain ⟨⟨adw, cw, n', y, rfl, _⟩, _⟩ := h; exact ⟨_, _, rfl⟩) rfl ?_ ?_ ?_ ?_ ?_ ?_ ?_ ?_ ?_ ?_ ?_ ?_ ?_
  · intro l i hr
    obtain ⟨_, o, ho, hdep⟩ := mem_ready.1 hr
    refine ⟨fun e => ?_, fun e => ?_, fun e => ?_, fun e => ?_, fun e => ?_, fun e => ?_, fun e => ?_, fun e => ?_⟩ <;> subst e <;> simp only [List.getElem?_toArray, List.getElem?_cons_succ, List.getElem?_cons_zero, Option.some.injEq] at ho <;> subst ho
    · exact hdep ⟨0, .data⟩ (by simp) rfl
    · exact hdep ⟨2, .data⟩ (by simp) rfl
    · exact ⟨hdep ⟨1, .data⟩ (by simp) rfl, hdep ⟨3, .data⟩ (by simp) rfl, hdep ⟨4, .data⟩ (by simp) rfl⟩
    · exact hdep ⟨5, .data⟩ (by simp) rfl
    · exact hdep ⟨6, .data⟩ (by simp) rfl
    · exact hdep ⟨6, .data⟩ (by simp) rfl
    · refine ⟨fun j hj => ?_, hdep ⟨9, .data⟩ (by simp) rfl⟩
      rcases (show j = 0 ∨ j = 1 ∨ j = 2 ∨ j = 3 ∨ j = 4 ∨ j = 5 ∨ j = 6 ∨ j = 7 by omega) with rfl | rfl | rfl | rfl | rfl | rfl | rfl | rfl
      · exact hdep ⟨0, .phase⟩ (by simp) rfl
      · exact hdep ⟨1, .phase⟩ (by simp) rfl
      · exact hdep ⟨2, .phase⟩ (by simp) rfl
      · exact hdep ⟨3, .phase⟩ (by simp) rfl
      · exact hdep ⟨4, .phase⟩ (by simp) rfl
      · exact hdep ⟨5, .phase⟩ (by simp) rfl
      · exact hdep ⟨6, .phase⟩ (by simp) rfl
      · exact hdep ⟨7, .phase⟩ (by simp) rfl
    · intro j hj
      rcases (show j = 0 ∨ j = 1 ∨ j = 2 ∨ j = 3 ∨ j = 4 ∨ j = 5 ∨ j = 6 ∨ j = 7 ∨ j = 8 ∨ j = 9 ∨ j = 10 by omega) with rfl | rfl | rfl | rfl | rfl | rfl | rfl | rfl | rfl | rfl | rfl
      · exact hdep ⟨0, .phase⟩ (by simp) rfl
      · exact hdep ⟨1, .phase⟩ (by simp) rfl
      · exact hdep ⟨2, .phase⟩ (by simp) rfl
      · exact hdep ⟨3, .phase⟩ (by simp) rfl
      · exact hdep ⟨4, .phase⟩ (by simp) rfl
      · exact hdep ⟨5, .phase⟩ (by simp) rfl
      · exact hdep ⟨6, .phase⟩ (by simp) rfl
      · exact hdep ⟨7, .phase⟩ (by simp) rfl
      · exact hdep ⟨8, .phase⟩ (by simp) rfl
      · exact hdep ⟨9, .phase⟩ (by simp) rfl
      · exact hdep ⟨10, .chain⟩ (by simp) rfl
  · intro t X K hb hK
    obtain ⟨q0, q1, q2, q3, q4⟩ := holds_bk (hbb.below hb (by omega))
    have h := hK (.agg #[.int .i64 B.now, .int .i64 B.floor, .slice a1 B.on c1, .slice a2 B.hn c2, .slice a3 B.tn c3]) X rfl (Below.refl _ _)
    refine wpOp_of rfl rfl ?_
    go_simp
    exact h
  · intro t X K hb g0 hK
    have e0 : t 0 = .agg #[.int .i64 B.now, .int .i64 B.floor, .slice a1 B.on c1, .slice a2 B.hn c2, .slice a3 B.tn c3] := g0
    refine wpOp_of rfl rfl ?_
    have HK := hid hK
    clear hK g0
    go_simp
    go_at_call 10
    refine (toBk_any B a1 a2 a3 c1 c2 c3 X 0 s0 (by have := hb.size; omega) hfit (hinb.below hb (by omega))).mono ?_
    rintro e Y ⟨g1, g2, g3, d1, d2, d3, rfl, ho, hbY⟩
    obtain ⟨p, w1, w2, w3, h4, h5⟩ := ho.at
    have h := HK.out _ Y ⟨p, d1, d2, d3, rfl, h4⟩ hbY
    simpa [updT, e0, w1, w2, w3] using h
  · intro t X K hb hK
    obtain ⟨q0, q1, q2, q3, q4⟩ : X.cell? ⟨s0 + 1, 0, none⟩ = some (.string m.kind) ∧ X.cell? ⟨s0 + 1, 1, none⟩ = some (.string m.pre) ∧ X.cell? ⟨s0 + 1, 2, none⟩ = some (.int .i64 m.at_) ∧ X.cell? ⟨s0 + 1, 3, none⟩ = some (.slice a m.n c) ∧ X.cell? ⟨s0 + 1, 4, none⟩ = some (.int .i64 m.seen) := by
      have h := hbm.below hb (by omega)
      exact ⟨h 0, h 1, h 2, h 3, h 4⟩
    have h := hK (.agg #[.string m.kind, .string m.pre, .int .i64 m.at_, .slice a m.n c, .int .i64 m.seen]) X rfl (Below.refl _ _)
    refine wpOp_of rfl rfl ?_
    go_simp
    exact h
  · intro t X K hb g2 hK
    have e2 : t 2 = .agg #[.string m.kind, .string m.pre, .int .i64 m.at_, .slice a m.n c, .int .i64 m.seen] := g2
    refine wpOp_of rfl rfl ?_
    have HK := hid hK
    clear hK g2
    go_simp
    go_at_call 29
    refine (toMr_any m a c X 0 s0 (by have := hb.size; omega) (by omega) hf (hinm.below hb (by omega))).mono ?_
    rintro e Y ⟨g, d, A, C, hb', rfl, ho, _, hbY⟩
    have h := HK.out _ Y ⟨g, d, A, C, hb', rfl, ho⟩ hbY
    simpa [updT, e2] using h
  · intro t X K hb hK
    have h := hK (.int .i64 most) X rfl (Below.refl _ _)
    refine wpOp_of rfl rfl ?_
    go_simp
    exact h
  · intro t X K hb g1 g3 g4 hK
    obtain ⟨p, d1, d2, d3, e1, hat⟩ := g1
    obtain ⟨g', d', A', C', hb'', e3, ho'⟩ := g3
    have e4 : t 4 = .int .i64 most := g4
    refine wpOp_of rfl rfl ?_
    have HK := hid hK
    have HAT := hid hat
    have HO' := hid ho'
    clear hK hat ho' g4
    go_simp
    go_at_call 34
    refine (specStep4 B p d1 d2 d3 m _ d' most X hfit hon hsum hpr hf HAT.out (HO'.out.isIn (fun _ _ => Nat.zero_le _))).mono ?_
    rintro e Y ⟨v, rfl, hF, hbY⟩
    have h := HK.out v Y hF hbY
    simpa [updT, e1, e3, e4] using h
  · intro t X K h
    refine wpOp_of rfl rfl ?_
    go_simp
    exact h
  · intro t X K u0 u1 e5 h
    refine wpOp_of rfl rfl ?_
    go_simp
    simpa [updT, e5] using h
  · intro t X K u0 u1 e5 h
    refine wpOp_of rfl rfl ?_
    go_simp
    simpa [updT, e5] using h
  · intro t X K h
    refine wpOp_of rfl rfl ?_
    go_simp
    exact h
  · intro t X K b lo hi hb e8 zb hbx h4 hlo hbl e6 hK
    obtain ⟨⟨adw, cw, n', y, e4, hl, hin⟩, hhi⟩ := h4
    have e6' : t 7 = .agg #[.string m.kind, .string m.pre, .int .i64 (stS B m most).at_, .slice adw n' cw, .int .i64 (stS B m most).seen] := by rw [e6, e4]; rfl
    obtain ⟨Y, hY, fY, y0, y1, y2, y3, y4⟩ := resFin5 hbx rfl (.string m.kind) (.string m.pre) (.int .i64 (stS B m most).at_) (.slice adw n' cw) (.int .i64 (stS B m most).seen)
    have bY : Below W.heap.size W Y := hb.trans (fY.below (fun q hq e => by have : q = b := e; omega) hb.size)
    have h := hK Y ⟨⟨_, e4⟩, b, e8, ⟨adw, cw, n', y, lo, hi, zb, Nat.lt_of_lt_of_le hbx.lt fY.size, ⟨y0, y1, y2, y3, y4⟩, hl, hin.frQ fY hhi (fun q h1 h2 e => by have : q = b := e; omega), hlo, Nat.le_trans hhi fY.size⟩⟩ bY
    obtain ⟨r0, r1, r2, r3, r4⟩ : X.cell? ⟨b, 0, none⟩ = some (.string ByteArray.empty) ∧ X.cell? ⟨b, 1, none⟩ = some (.string ByteArray.empty) ∧ X.cell? ⟨b, 2, none⟩ = some (.int .i64 0) ∧ X.cell? ⟨b, 3, none⟩ = some (.slice none 0 0) ∧ X.cell? ⟨b, 4, none⟩ = some (.int .i64 0) := ⟨hbx.cell 0, hbx.cell 1, hbx.cell 2, hbx.cell 3, hbx.cell 4⟩
    have f0 := hbx.free 0
    have f1 := hbx.free 1
    have f2 := hbx.free 2
    have f3 := hbx.free 3
    have f4 := hbx.free 4
    rw [← hY] at h
    clear hY fY y0 y1 y2 y3 y4 bY hK hbx hin e4 e6 hb
    refine wpOp_of rfl rfl ?_
    go_simp
    simpa [e8, e6'] using h
  · intro t X K h
    refine wpOp_of rfl rfl ?_
    go_simp
    exact h
  · rintro t X e7 ⟨⟨u0, e4⟩, b, e8, hF⟩ hb
    have h := hQ (t 0) (t 1) (t 2) (t 3) (t 4) (t 5) (t 6) (t 7) (t 8) b X hF hb
    have e7' : t 8 = .int .i64 (stC B m most) := by rw [e7, e4]; rfl
    simpa [e8, e7'] using h
set_option maxRecDepth 100000 in
set_option maxHeartbeats 2000000 in
theorem stpReg31 (p0 p1 p5 p6 p7 p8 p9 p10 p11 p12 p13 p14 p15 p16 p19 p20 p21 p22 p23 p24 p25 p26 p27 p28 p29 p30 p31 p32 p33 p34 p35 p36 p37 p38 p39 p40 p41 p42 p43 p44 p45 p46 p47 p48 p49 p50 p51 p52 p53 p54 p55 p56 p57 p58 p59 p60 p61 p62 p63 p64 p65 p66 p67 p68 p69 p70 p71 p72 p73 p74 p75 p76 p77 p78 p79 p80 p81 p82 p83 p84 p85 p86 p87 p88 p89 p90 p91 p92 p93 p94 p95 p96 p97 p107 p108 p109 p110 p111 p112 p113 p114 p115 p116 p117 p118 p119 p120 p121 p122 p123 : Value) (s0 : Nat) (B : Bk) (a1 a2 a3 : Option Addr) (c1 c2 c3 : Nat) (m : Mr) (a : Option Addr) (c : Nat) (most : Int) (hfit : BkFit B) (hon : (B.on : Int) ≤ 1048576) (hsum : (m.n : Int) + B.hn ≤ 1048576) (hpr : (m.pre.size : Int) ≤ 140737488355328) (hf : ∀ i, i < m.n → ObFit (m.os i)) (W : World) (hbb : Holds W s0 #[.int .i64 B.now, .int .i64 B.floor, .slice a1 B.on c1, .slice a2 B.hn c2, .slice a3 B.tn c3]) (hbm : Holds W (s0 + 1) #[.string m.kind, .string m.pre, .int .i64 m.at_, .slice a m.n c, .int .i64 m.seen]) (hinb : BkIn W 0 s0 B a1 a2 a3) (hinm : ObjsIn W 0 s0 a m.n m.os) (hs : s0 + 1 < W.heap.size) (Q : Exit → Act → World → Prop)
    (hQ : ∀ u0 u1 u2 u3 u4 u5 u6 u7 u8 b X, stFin B m most W b X → Below W.heap.size W X → Q .normal ⟨#[p0, p1, .int .i64 most, .pointer (some ⟨s0, 0, none⟩), .pointer (some ⟨s0 + 1, 0, none⟩), p5, p6, p7, p8, p9, p10, p11, p12, p13, p14, p15, p16, .pointer (some ⟨b, 0, none⟩), .int .i64 (stC B m most), p19, p20, p21, p22, p23, p24, p25, p26, p27, p28, p29, p30, p31, p32, p33, p34, p35, p36, p37, p38, p39, p40, p41, p42, p43, p44, p45, p46, p47, p48, p49, p50, p51, p52, p53, p54, p55, p56, p57, p58, p59, p60, p61, p62, p63, p64, p65, p66, p67, p68, p69, p70, p71, p72, p73, p74, p75, p76, p77, p78, p79, p80, p81, p82, p83, p84, p85, p86, p87, p88, p89, p90, p91, p92, p93, p94, p95, p96, p97, u6, u0, u1, u2, u3, u4, u5, u7, u8, p107, p108, p109, p110, p111, p112, p113, p114, p115, p116, p117, p118, p119, p120, p121, p122, p123], []⟩ X) :
    Code.wp Tryz.prog (Code.region 31 #[{ dst := some 99, op := Op.load 26 (Operand.tmp 3), type := 26, pos := "exact.go:4182", after := #[], guard := none }, { dst := some 100, op := Op.call { callee := Callee.value (Operand.func 10), args := #[Operand.tmp 99], argTypes := #[26] }, type := 32, pos := "exact.go:4182", after := #[{ on := 0, ground := Ground.data }], guard := none }, { dst := some 101, op := Op.load 54 (Operand.tmp 4), type := 54, pos := "exact.go:4182", after := #[], guard := none }, { dst := some 102, op := Op.call { callee := Callee.value (Operand.func 29), args := #[Operand.tmp 101], argTypes := #[54] }, type := 57, pos := "exact.go:4182", after := #[{ on := 2, ground := Ground.data }, { on := 1, ground := Ground.chain }], guard := none }, { dst := some 103, op := Op.move (Operand.tmp 2), type := 3, pos := "exact.go:4182", after := #[], guard := none }, { dst := some 104, op := Op.call { callee := Callee.value (Operand.func 35), args := #[Operand.tmp 100, Operand.tmp 102, Operand.tmp 103], argTypes := #[32, 57, 3] }, type := 63, pos := "exact.go:4182", after := #[{ on := 1, ground := Ground.data }, { on := 3, ground := Ground.data }, { on := 4, ground := Ground.data }, { on := 3, ground := Ground.chain }], guard := none }, { dst := some 98, op := Op.move (Operand.tmp 104), type := 63, pos := "exact.go:4182", after := #[{ on := 5, ground := Ground.data }], guard := none }, { dst := some 105, op := Op.extract (Operand.tmp 98) 0, type := 57, pos := "exact.go:4182", after := #[{ on := 6, ground := Ground.data }], guard := none }, { dst := some 106, op := Op.extract (Operand.tmp 98) 1, type := 3, pos := "exact.go:4182", after := #[{ on := 6, ground := Ground.data }, { on := 10, ground := Ground.gcOnly Departure.lateStores }], guard := none }, { dst := some 17, op := Op.alloc 57, type := 0, pos := "exact.go:4182", after := #[], guard := none }, { dst := none, op := Op.store 57 (Operand.tmp 17) (Operand.tmp 105), type := 0, pos := "exact.go:4182", after := #[{ on := 9, ground := Ground.data }, { on := 7, ground := Ground.data }, { on := 5, ground := Ground.chain }, { on := 0, ground := Ground.phase }, { on := 1, ground := Ground.phase }, { on := 2, ground := Ground.phase }, { on := 3, ground := Ground.phase }, { on := 4, ground := Ground.phase }, { on := 5, ground := Ground.phase }, { on := 6, ground := Ground.phase }, { on := 7, ground := Ground.phase }, { on := 8, ground := Ground.textOnly Departure.lateStores }, { on := 9, ground := Ground.phase }], guard := none }, { dst := some 18, op := Op.assign (Operand.tmp 106), type := 3, pos := "exact.go:4182", after := #[{ on := 8, ground := Ground.data }, { on := 10, ground := Ground.chain }, { on := 0, ground := Ground.phase }, { on := 1, ground := Ground.phase }, { on := 2, ground := Ground.phase }, { on := 3, ground := Ground.phase }, { on := 4, ground := Ground.phase }, { on := 5, ground := Ground.phase }, { on := 6, ground := Ground.phase }, { on := 7, ground := Ground.phase }, { on := 8, ground := Ground.phase }, { on := 9, ground := Ground.phase }, { on := 10, ground := Ground.phase }], guard := none }] true) Q ⟨#[p0, p1, .int .i64 most, .pointer (some ⟨s0, 0, none⟩), .pointer (some ⟨s0 + 1, 0, none⟩), p5, p6, p7, p8, p9, p10, p11, p12, p13, p14, p15, p16, undef, undef, p19, p20, p21, p22, p23, p24, p25, p26, p27, p28, p29, p30, p31, p32, p33, p34, p35, p36, p37, p38, p39, p40, p41, p42, p43, p44, p45, p46, p47, p48, p49, p50, p51, p52, p53, p54, p55, p56, p57, p58, p59, p60, p61, p62, p63, p64, p65, p66, p67, p68, p69, p70, p71, p72, p73, p74, p75, p76, p77, p78, p79, p80, p81, p82, p83, p84, p85, p86, p87, p88, p89, p90, p91, p92, p93, p94, p95, p96, p97, undef, undef, undef, undef, undef, undef, undef, undef, undef, p107, p108, p109, p110, p111, p112, p113, p114, p115, p116, p117, p118, p119, p120, p121, p122, p123], []⟩ W := by
  refine regionU (by kernel_rfl) (fun t : Nat → Value => #[p0, p1, .int .i64 most, .pointer (some ⟨s0, 0, none⟩), .pointer (some ⟨s0 + 1, 0, none⟩), p5, p6, p7, p8, p9, p10, p11, p12, p13, p14, p15, p16, t 9, undef, p19, p20, p21, p22, p23, p24, p25, p26, p27, p28, p29, p30, p31, p32, p33, p34, p35, p36, p37, p38, p39, p40, p41, p42, p43, p44, p45, p46, p47, p48, p49, p50, p51, p52, p53, p54, p55, p56, p57, p58, p59, p60, p61, p62, p63, p64, p65, p66, p67, p68, p69, p70, p71, p72, p73, p74, p75, p76, p77, p78, p79, p80, p81, p82, p83, p84, p85, p86, p87, p88, p89, p90, p91, p92, p93, p94, p95, p96, p97, t 6, t 0, t 1, t 2, t 3, t 4, t 5, t 7, t 8, p107, p108, p109, p110, p111, p112, p113, p114, p115, p116, p117, p118, p119, p120, p121, p122, p123]) (fun t : Nat → Value => #[p0, p1, .int .i64 most, .pointer (some ⟨s0, 0, none⟩), .pointer (some ⟨s0 + 1, 0, none⟩), p5, p6, p7, p8, p9, p10, p11, p12, p13, p14, p15, p16, t 9, t 8, p19, p20, p21, p22, p23, p24, p25, p26, p27, p28, p29, p30, p31, p32, p33, p34, p35, p36, p37, p38, p39, p40, p41, p42, p43, p44, p45, p46, p47, p48, p49, p50, p51, p52, p53, p54, p55, p56, p57, p58, p59, p60, p61, p62, p63, p64, p65, p66, p67, p68, p69, p70, p71, p72, p73, p74, p75, p76, p77, p78, p79, p80, p81, p82, p83, p84, p85, p86, p87, p88, p89, p90, p91, p92, p93, p94, p95, p96, p97, t 6, t 0, t 1, t 2, t 3, t 4, t 5, t 7, t 8, p107, p108, p109, p110, p111, p112, p113, p114, p115, p116, p117, p118, p119, p120, p121, p122, p123]) (stG B a1 a2 a3 c1 c2 c3 m a c most) (stF4 B m most) #[.string ByteArray.empty, .string ByteArray.empty, .int .i64 0, .slice none 0 0, .int .i64 0] 57 (fun v u X => (∃ u0, v = .tuple #[u0, .int .i64 (stC B m most)]) ∧ ∃ b, u = .pointer (some ⟨b, 0, none⟩) ∧ stFin B m most W b X) rfl (by kernel_rfl) ?_ (stG_st B a1 a2 a3 c1 c2 c3 m a c most) (stF4_st B m most) (fun v lo hi X h => h.2) (fun v lo hi X h => by obtain ⟨⟨adw, cw, n', y, rfl, _⟩, _⟩ := h; exact ⟨_, _, rfl⟩) rfl ?_ ?_ ?_ ?_ ?_ ?_ ?_ ?_ ?_ ?_ ?_ ?_ ?_
  · intro l i hr
    obtain ⟨_, o, ho, hdep⟩ := mem_ready.1 hr
    refine ⟨fun e => ?_, fun e => ?_, fun e => ?_, fun e => ?_, fun e => ?_, fun e => ?_, fun e => ?_, fun e => ?_⟩ <;> subst e <;> simp only [List.getElem?_toArray, List.getElem?_cons_succ, List.getElem?_cons_zero, Option.some.injEq] at ho <;> subst ho
    · exact hdep ⟨0, .data⟩ (by simp) rfl
    · exact hdep ⟨2, .data⟩ (by simp) rfl
    · exact ⟨hdep ⟨1, .data⟩ (by simp) rfl, hdep ⟨3, .data⟩ (by simp) rfl, hdep ⟨4, .data⟩ (by simp) rfl⟩
    · exact hdep ⟨5, .data⟩ (by simp) rfl
    · exact hdep ⟨6, .data⟩ (by simp) rfl
    · exact hdep ⟨6, .data⟩ (by simp) rfl
    · refine ⟨fun j hj => ?_, hdep ⟨9, .data⟩ (by simp) rfl⟩
      rcases (show j = 0 ∨ j = 1 ∨ j = 2 ∨ j = 3 ∨ j = 4 ∨ j = 5 ∨ j = 6 ∨ j = 7 by omega) with rfl | rfl | rfl | rfl | rfl | rfl | rfl | rfl
      · exact hdep ⟨0, .phase⟩ (by simp) rfl
      · exact hdep ⟨1, .phase⟩ (by simp) rfl
      · exact hdep ⟨2, .phase⟩ (by simp) rfl
      · exact hdep ⟨3, .phase⟩ (by simp) rfl
      · exact hdep ⟨4, .phase⟩ (by simp) rfl
      · exact hdep ⟨5, .phase⟩ (by simp) rfl
      · exact hdep ⟨6, .phase⟩ (by simp) rfl
      · exact hdep ⟨7, .phase⟩ (by simp) rfl
    · intro j hj
      rcases (show j = 0 ∨ j = 1 ∨ j = 2 ∨ j = 3 ∨ j = 4 ∨ j = 5 ∨ j = 6 ∨ j = 7 ∨ j = 8 ∨ j = 9 ∨ j = 10 by omega) with rfl | rfl | rfl | rfl | rfl | rfl | rfl | rfl | rfl | rfl | rfl
      · exact hdep ⟨0, .phase⟩ (by simp) rfl
      · exact hdep ⟨1, .phase⟩ (by simp) rfl
      · exact hdep ⟨2, .phase⟩ (by simp) rfl
      · exact hdep ⟨3, .phase⟩ (by simp) rfl
      · exact hdep ⟨4, .phase⟩ (by simp) rfl
      · exact hdep ⟨5, .phase⟩ (by simp) rfl
      · exact hdep ⟨6, .phase⟩ (by simp) rfl
      · exact hdep ⟨7, .phase⟩ (by simp) rfl
      · exact hdep ⟨8, .phase⟩ (by simp) rfl
      · exact hdep ⟨9, .phase⟩ (by simp) rfl
      · exact hdep ⟨10, .chain⟩ (by simp) rfl
  · intro t X K hb hK
    obtain ⟨q0, q1, q2, q3, q4⟩ := holds_bk (hbb.below hb (by omega))
    have h := hK (.agg #[.int .i64 B.now, .int .i64 B.floor, .slice a1 B.on c1, .slice a2 B.hn c2, .slice a3 B.tn c3]) X rfl (Below.refl _ _)
    refine wpOp_of rfl rfl ?_
    go_simp
    exact h
  · intro t X K hb g0 hK
    have e0 : t 0 = .agg #[.int .i64 B.now, .int .i64 B.floor, .slice a1 B.on c1, .slice a2 B.hn c2, .slice a3 B.tn c3] := g0
    refine wpOp_of rfl rfl ?_
    have HK := hid hK
    clear hK g0
    go_simp
    go_at_call 10
    refine (toBk_any B a1 a2 a3 c1 c2 c3 X 0 s0 (by have := hb.size; omega) hfit (hinb.below hb (by omega))).mono ?_
    rintro e Y ⟨g1, g2, g3, d1, d2, d3, rfl, ho, hbY⟩
    obtain ⟨p, w1, w2, w3, h4, h5⟩ := ho.at
    have h := HK.out _ Y ⟨p, d1, d2, d3, rfl, h4⟩ hbY
    simpa [updT, e0, w1, w2, w3] using h
  · intro t X K hb hK
    obtain ⟨q0, q1, q2, q3, q4⟩ : X.cell? ⟨s0 + 1, 0, none⟩ = some (.string m.kind) ∧ X.cell? ⟨s0 + 1, 1, none⟩ = some (.string m.pre) ∧ X.cell? ⟨s0 + 1, 2, none⟩ = some (.int .i64 m.at_) ∧ X.cell? ⟨s0 + 1, 3, none⟩ = some (.slice a m.n c) ∧ X.cell? ⟨s0 + 1, 4, none⟩ = some (.int .i64 m.seen) := by
      have h := hbm.below hb (by omega)
      exact ⟨h 0, h 1, h 2, h 3, h 4⟩
    have h := hK (.agg #[.string m.kind, .string m.pre, .int .i64 m.at_, .slice a m.n c, .int .i64 m.seen]) X rfl (Below.refl _ _)
    refine wpOp_of rfl rfl ?_
    go_simp
    exact h
  · intro t X K hb g2 hK
    have e2 : t 2 = .agg #[.string m.kind, .string m.pre, .int .i64 m.at_, .slice a m.n c, .int .i64 m.seen] := g2
    refine wpOp_of rfl rfl ?_
    have HK := hid hK
    clear hK g2
    go_simp
    go_at_call 29
    refine (toMr_any m a c X 0 s0 (by have := hb.size; omega) (by omega) hf (hinm.below hb (by omega))).mono ?_
    rintro e Y ⟨g, d, A, C, hb', rfl, ho, _, hbY⟩
    have h := HK.out _ Y ⟨g, d, A, C, hb', rfl, ho⟩ hbY
    simpa [updT, e2] using h
  · intro t X K hb hK
    have h := hK (.int .i64 most) X rfl (Below.refl _ _)
    refine wpOp_of rfl rfl ?_
    go_simp
    exact h
  · intro t X K hb g1 g3 g4 hK
    obtain ⟨p, d1, d2, d3, e1, hat⟩ := g1
    obtain ⟨g', d', A', C', hb'', e3, ho'⟩ := g3
    have e4 : t 4 = .int .i64 most := g4
    refine wpOp_of rfl rfl ?_
    have HK := hid hK
    have HAT := hid hat
    have HO' := hid ho'
    clear hK hat ho' g4
    go_simp
    go_at_call 35
    refine (implStep4 B p d1 d2 d3 m _ d' most X hfit hon hsum hpr hf HAT.out (HO'.out.isIn (fun _ _ => Nat.zero_le _))).mono ?_
    rintro e Y ⟨v, rfl, hF, hbY⟩
    have h := HK.out v Y hF hbY
    simpa [updT, e1, e3, e4] using h
  · intro t X K h
    refine wpOp_of rfl rfl ?_
    go_simp
    exact h
  · intro t X K u0 u1 e5 h
    refine wpOp_of rfl rfl ?_
    go_simp
    simpa [updT, e5] using h
  · intro t X K u0 u1 e5 h
    refine wpOp_of rfl rfl ?_
    go_simp
    simpa [updT, e5] using h
  · intro t X K h
    refine wpOp_of rfl rfl ?_
    go_simp
    exact h
  · intro t X K b lo hi hb e8 zb hbx h4 hlo hbl e6 hK
    obtain ⟨⟨adw, cw, n', y, e4, hl, hin⟩, hhi⟩ := h4
    have e6' : t 7 = .agg #[.string m.kind, .string m.pre, .int .i64 (stS B m most).at_, .slice adw n' cw, .int .i64 (stS B m most).seen] := by rw [e6, e4]; rfl
    obtain ⟨Y, hY, fY, y0, y1, y2, y3, y4⟩ := resFin5 hbx rfl (.string m.kind) (.string m.pre) (.int .i64 (stS B m most).at_) (.slice adw n' cw) (.int .i64 (stS B m most).seen)
    have bY : Below W.heap.size W Y := hb.trans (fY.below (fun q hq e => by have : q = b := e; omega) hb.size)
    have h := hK Y ⟨⟨_, e4⟩, b, e8, ⟨adw, cw, n', y, lo, hi, zb, Nat.lt_of_lt_of_le hbx.lt fY.size, ⟨y0, y1, y2, y3, y4⟩, hl, hin.frQ fY hhi (fun q h1 h2 e => by have : q = b := e; omega), hlo, Nat.le_trans hhi fY.size⟩⟩ bY
    obtain ⟨r0, r1, r2, r3, r4⟩ : X.cell? ⟨b, 0, none⟩ = some (.string ByteArray.empty) ∧ X.cell? ⟨b, 1, none⟩ = some (.string ByteArray.empty) ∧ X.cell? ⟨b, 2, none⟩ = some (.int .i64 0) ∧ X.cell? ⟨b, 3, none⟩ = some (.slice none 0 0) ∧ X.cell? ⟨b, 4, none⟩ = some (.int .i64 0) := ⟨hbx.cell 0, hbx.cell 1, hbx.cell 2, hbx.cell 3, hbx.cell 4⟩
    have f0 := hbx.free 0
    have f1 := hbx.free 1
    have f2 := hbx.free 2
    have f3 := hbx.free 3
    have f4 := hbx.free 4
    rw [← hY] at h
    clear hY fY y0 y1 y2 y3 y4 bY hK hbx hin e4 e6 hb
    refine wpOp_of rfl rfl ?_
    go_simp
    simpa [e8, e6'] using h
  · intro t X K h
    refine wpOp_of rfl rfl ?_
    go_simp
    exact h
  · rintro t X e7 ⟨⟨u0, e4⟩, b, e8, hF⟩ hb
    have h := hQ (t 0) (t 1) (t 2) (t 3) (t 4) (t 5) (t 6) (t 7) (t 8) b X hF hb
    have e7' : t 8 = .int .i64 (stC B m most) := by rw [e7, e4]; rfl
    simpa [e8, e7'] using h
end Go.Proofs.YtkecnaaacbckoaaGreat
namespace Go.Proofs.YtkecnaaacbckoaaGreat
open Go.RowKit Go.Maps
set_option maxRecDepth 100000 in
set_option maxHeartbeats 2000000 in
theorem stpReg14 (p0 p1 p2 p4 p5 p6 p7 p8 p9 p11 p12 p13 p14 p15 p16 p17 p18 p19 p20 p21 p22 p23 p24 p25 p26 p27 p28 p29 p30 p31 p32 p33 p34 p35 p36 p37 p38 p39 p40 p41 p42 p43 p44 p45 p46 p47 p48 p49 p50 p51 p52 p53 p54 p55 p56 p57 p63 p64 p65 p66 p67 p68 p69 p70 p71 p72 p73 p74 p75 p76 p77 p78 p79 p80 p81 p82 p83 p84 p85 p86 p87 p88 p89 p90 p91 p92 p93 p94 p95 p96 p97 p98 p99 p100 p101 p102 p103 p104 p105 p106 p107 p108 p109 p110 p111 p112 p113 p114 p115 p116 p117 p118 p119 p120 p121 p122 p123 : Value) (s0 b10 : Nat) (B : Bk) (a1 a2 a3 : Option Addr) (c1 c2 c3 : Nat) (p : Pl) (d1 d2 d3 : Nat) (hfit : BkFit B) (W : World) (hv : Holds W b10 #[.int .i64 B.now, .int .i64 B.floor, .slice p.a1 B.on d1, .slice p.a2 B.hn d2, .slice p.a3 B.tn d3]) (hbx : Holds W s0 #[.int .i64 B.now, .int .i64 B.floor, .slice a1 B.on c1, .slice a2 B.hn c2, .slice a3 B.tn c3]) (hat : BkAt W B p) (hin : BkIn W 0 s0 B a1 a2 a3) (hs : s0 < W.heap.size) (zb : b10 < W.heap.size) (Q : Exit → Act → World → Prop)
    (hQ : ∀ u0 u1 u2 u3 X, Below W.heap.size W X → Q .normal ⟨#[p0, p1, p2, .pointer (some ⟨s0, 0, none⟩), p4, p5, p6, p7, p8, p9, .pointer (some ⟨b10, 0, none⟩), p11, p12, p13, p14, p15, p16, p17, p18, p19, p20, p21, p22, p23, p24, p25, p26, p27, p28, p29, p30, p31, p32, p33, p34, p35, p36, p37, p38, p39, p40, p41, p42, p43, p44, p45, p46, p47, p48, p49, p50, p51, p52, p53, p54, p55, p56, p57, u0, u1, u2, u3, .bool false, p63, p64, p65, p66, p67, p68, p69, p70, p71, p72, p73, p74, p75, p76, p77, p78, p79, p80, p81, p82, p83, p84, p85, p86, p87, p88, p89, p90, p91, p92, p93, p94, p95, p96, p97, p98, p99, p100, p101, p102, p103, p104, p105, p106, p107, p108, p109, p110, p111, p112, p113, p114, p115, p116, p117, p118, p119, p120, p121, p122, p123], []⟩ X) :
    Code.wp Tryz.prog (Code.region 14 #[{ dst := some 58, op := Op.load 32 (Operand.tmp 10), type := 32, pos := "exact.go:4160", after := #[], guard := none }, { dst := some 59, op := Op.load 26 (Operand.tmp 3), type := 26, pos := "exact.go:4160", after := #[], guard := none }, { dst := some 60, op := Op.call { callee := Callee.value (Operand.func 10), args := #[Operand.tmp 59], argTypes := #[26] }, type := 32, pos := "exact.go:4160", after := #[{ on := 1, ground := Ground.data }], guard := none }, { dst := some 61, op := Op.call { callee := Callee.value (Operand.func 12), args := #[Operand.tmp 58, Operand.tmp 60], argTypes := #[32, 32] }, type := 4, pos := "exact.go:4160", after := #[{ on := 0, ground := Ground.data }, { on := 2, ground := Ground.data }, { on := 2, ground := Ground.chain }], guard := none }, { dst := some 62, op := Op.unOp UnOp.not 4 (Operand.tmp 61), type := 4, pos := "exact.go:4160", after := #[{ on := 3, ground := Ground.data }], guard := none }] true) Q ⟨#[p0, p1, p2, .pointer (some ⟨s0, 0, none⟩), p4, p5, p6, p7, p8, p9, .pointer (some ⟨b10, 0, none⟩), p11, p12, p13, p14, p15, p16, p17, p18, p19, p20, p21, p22, p23, p24, p25, p26, p27, p28, p29, p30, p31, p32, p33, p34, p35, p36, p37, p38, p39, p40, p41, p42, p43, p44, p45, p46, p47, p48, p49, p50, p51, p52, p53, p54, p55, p56, p57, undef, undef, undef, undef, undef, p63, p64, p65, p66, p67, p68, p69, p70, p71, p72, p73, p74, p75, p76, p77, p78, p79, p80, p81, p82, p83, p84, p85, p86, p87, p88, p89, p90, p91, p92, p93, p94, p95, p96, p97, p98, p99, p100, p101, p102, p103, p104, p105, p106, p107, p108, p109, p110, p111, p112, p113, p114, p115, p116, p117, p118, p119, p120, p121, p122, p123], []⟩ W := by
  refine region5 (by kernel_rfl) (fun t : Nat → Value => #[p0, p1, p2, .pointer (some ⟨s0, 0, none⟩), p4, p5, p6, p7, p8, p9, .pointer (some ⟨b10, 0, none⟩), p11, p12, p13, p14, p15, p16, p17, p18, p19, p20, p21, p22, p23, p24, p25, p26, p27, p28, p29, p30, p31, p32, p33, p34, p35, p36, p37, p38, p39, p40, p41, p42, p43, p44, p45, p46, p47, p48, p49, p50, p51, p52, p53, p54, p55, p56, p57, t 0, t 1, t 2, t 3, t 4, p63, p64, p65, p66, p67, p68, p69, p70, p71, p72, p73, p74, p75, p76, p77, p78, p79, p80, p81, p82, p83, p84, p85, p86, p87, p88, p89, p90, p91, p92, p93, p94, p95, p96, p97, p98, p99, p100, p101, p102, p103, p104, p105, p106, p107, p108, p109, p110, p111, p112, p113, p114, p115, p116, p117, p118, p119, p120, p121, p122, p123]) (.agg #[.int .i64 B.now, .int .i64 B.floor, .slice p.a1 B.on d1, .slice p.a2 B.hn d2, .slice p.a3 B.tn d3]) (.agg #[.int .i64 B.now, .int .i64 B.floor, .slice a1 B.on c1, .slice a2 B.hn c2, .slice a3 B.tn c3]) (fun v X => ∃ (p : Pl) (d1 d2 d3 : Nat), v = .agg #[.int .i64 B.now, .int .i64 B.floor, .slice p.a1 B.on d1, .slice p.a2 B.hn d2, .slice p.a3 B.tn d3] ∧ BkAt X B p) rfl (by kernel_rfl) ?hd ?st2 rfl ?s0 ?s1 ?s2 ?s3 ?s4 ?hfin
  case hd =>
    intro l i hr
    obtain ⟨_, o, ho, hdep⟩ := mem_ready.1 hr
    refine ⟨fun e => ?_, fun e => ?_, fun e => ?_⟩ <;> subst e <;> simp only [List.getElem?_toArray, List.getElem?_cons_succ, List.getElem?_cons_zero, Option.some.injEq] at ho <;> subst ho
    · exact hdep ⟨1, .data⟩ (by simp) rfl
    · exact ⟨hdep ⟨0, .data⟩ (by simp) rfl, hdep ⟨2, .data⟩ (by simp) rfl⟩
    · exact hdep ⟨3, .data⟩ (by simp) rfl
  case st2 =>
    rintro v X Y ⟨p, d1, d2, d3, e1, h⟩ hb
    exact ⟨p, d1, d2, d3, e1, h.grow hb⟩
  case s0 =>
    intro t X K hb hK
    obtain ⟨q0, q1, q2, q3, q4⟩ := holds_bk (hv.below hb zb)
    refine wpOp_of rfl rfl ?_
    go_simp
    exact hK
  case s1 =>
    intro t X K hb hK
    obtain ⟨q0, q1, q2, q3, q4⟩ := holds_bk (hbx.below hb hs)
    refine wpOp_of rfl rfl ?_
    go_simp
    exact hK
  case s2 =>
    intro t X K hb e1 hK
    refine wpOp_of rfl rfl ?_
    have HK := hid hK
    clear hK
    go_simp
    go_at_call 10
    refine (toBk_any B a1 a2 a3 c1 c2 c3 X 0 s0 (by have := hb.size; omega) hfit (hin.below hb (by omega))).mono ?_
    rintro e Y ⟨g1, g2, g3, e1', e2', e3', rfl, ho, hbY⟩
    obtain ⟨p', w1, w2, w3, h4, h5⟩ := ho.at
    have h := HK.out _ Y ⟨p', e1', e2', e3', rfl, h4⟩ hbY
    simpa [updT, e1, w1, w2, w3] using h
  case s3 =>
    intro t X K hb e0 h2 hK
    obtain ⟨p', d1', d2', d3', e2, i2⟩ := h2
    refine wpOp_of rfl rfl ?_
    have HK := hid hK
    have HI2 := hid i2
    clear hK i2
    go_simp
    go_at_call 12
    refine (eqBk_any B _ _ _ _ _ _ d1 d2 d3 d1' d2' d3' X 0 X.heap.size 0 X.heap.size (Nat.le_refl _) (Nat.le_refl _) hfit ((hat.grow hb).isIn (fun _ _ => Nat.zero_le _)) (HI2.out.isIn (fun _ _ => Nat.zero_le _))).mono ?_
    rintro e Y ⟨rfl, hbY⟩
    have h := HK.out Y hbY
    simpa [updT, e0, e2] using h
  case s4 =>
    intro t X K e3 hK
    refine wpOp_of rfl rfl ?_
    go_simp
    simpa [updT, e3] using hK
  case hfin =>
    intro t X e4 hb
    have h := hQ (t 0) (t 1) (t 2) (t 3) X hb
    rw [← e4] at h
    exact h
set_option maxRecDepth 100000 in
set_option maxHeartbeats 2000000 in
theorem stpReg16 (p0 p1 p2 p3 p5 p6 p7 p8 p9 p10 p12 p13 p14 p15 p16 p17 p18 p19 p20 p21 p22 p23 p24 p25 p26 p27 p28 p29 p30 p31 p32 p33 p34 p35 p36 p37 p38 p39 p40 p41 p42 p43 p44 p45 p46 p47 p48 p49 p50 p51 p52 p53 p54 p55 p56 p57 p58 p59 p60 p61 p62 p68 p69 p70 p71 p72 p73 p74 p75 p76 p77 p78 p79 p80 p81 p82 p83 p84 p85 p86 p87 p88 p89 p90 p91 p92 p93 p94 p95 p96 p97 p98 p99 p100 p101 p102 p103 p104 p105 p106 p107 p108 p109 p110 p111 p112 p113 p114 p115 p116 p117 p118 p119 p120 p121 p122 p123 : Value) (s0 b11 : Nat) (m : Mr) (a : Option Addr) (c gm dm : Nat) (Am : Nat → Option Addr) (Cm hm : Nat → Nat) (hmn : (m.n : Int) ≤ 1048576) (hf : ∀ i, i < m.n → ObFit (m.os i)) (W : World) (hv : Holds W b11 #[.string m.kind, .string m.pre, .int .i64 m.at_, .slice (some ⟨gm, 0, none⟩) m.n dm, .int .i64 m.seen]) (hbm : Holds W (s0 + 1) #[.string m.kind, .string m.pre, .int .i64 m.at_, .slice a m.n c, .int .i64 m.seen]) (hat : ObsAt W (some ⟨gm, 0, none⟩) gm m.n m.os Am Cm hm) (hinm : ObjsIn W 0 s0 a m.n m.os) (hs : s0 + 1 < W.heap.size) (zb : b11 < W.heap.size) (Q : Exit → Act → World → Prop)
    (hQ : ∀ u0 u1 u2 u3 X, Below W.heap.size W X → Q .normal ⟨#[p0, p1, p2, p3, .pointer (some ⟨s0 + 1, 0, none⟩), p5, p6, p7, p8, p9, p10, .pointer (some ⟨b11, 0, none⟩), p12, p13, p14, p15, p16, p17, p18, p19, p20, p21, p22, p23, p24, p25, p26, p27, p28, p29, p30, p31, p32, p33, p34, p35, p36, p37, p38, p39, p40, p41, p42, p43, p44, p45, p46, p47, p48, p49, p50, p51, p52, p53, p54, p55, p56, p57, p58, p59, p60, p61, p62, u0, u1, u2, u3, .bool false, p68, p69, p70, p71, p72, p73, p74, p75, p76, p77, p78, p79, p80, p81, p82, p83, p84, p85, p86, p87, p88, p89, p90, p91, p92, p93, p94, p95, p96, p97, p98, p99, p100, p101, p102, p103, p104, p105, p106, p107, p108, p109, p110, p111, p112, p113, p114, p115, p116, p117, p118, p119, p120, p121, p122, p123], []⟩ X) :
    Code.wp Tryz.prog (Code.region 16 #[{ dst := some 63, op := Op.load 57 (Operand.tmp 11), type := 57, pos := "exact.go:4163", after := #[], guard := none }, { dst := some 64, op := Op.load 54 (Operand.tmp 4), type := 54, pos := "exact.go:4163", after := #[], guard := none }, { dst := some 65, op := Op.call { callee := Callee.value (Operand.func 29), args := #[Operand.tmp 64], argTypes := #[54] }, type := 57, pos := "exact.go:4163", after := #[{ on := 1, ground := Ground.data }], guard := none }, { dst := some 66, op := Op.call { callee := Callee.value (Operand.func 31), args := #[Operand.tmp 63, Operand.tmp 65], argTypes := #[57, 57] }, type := 4, pos := "exact.go:4163", after := #[{ on := 0, ground := Ground.data }, { on := 2, ground := Ground.data }, { on := 2, ground := Ground.chain }], guard := none }, { dst := some 67, op := Op.unOp UnOp.not 4 (Operand.tmp 66), type := 4, pos := "exact.go:4163", after := #[{ on := 3, ground := Ground.data }], guard := none }] true) Q ⟨#[p0, p1, p2, p3, .pointer (some ⟨s0 + 1, 0, none⟩), p5, p6, p7, p8, p9, p10, .pointer (some ⟨b11, 0, none⟩), p12, p13, p14, p15, p16, p17, p18, p19, p20, p21, p22, p23, p24, p25, p26, p27, p28, p29, p30, p31, p32, p33, p34, p35, p36, p37, p38, p39, p40, p41, p42, p43, p44, p45, p46, p47, p48, p49, p50, p51, p52, p53, p54, p55, p56, p57, p58, p59, p60, p61, p62, undef, undef, undef, undef, undef, p68, p69, p70, p71, p72, p73, p74, p75, p76, p77, p78, p79, p80, p81, p82, p83, p84, p85, p86, p87, p88, p89, p90, p91, p92, p93, p94, p95, p96, p97, p98, p99, p100, p101, p102, p103, p104, p105, p106, p107, p108, p109, p110, p111, p112, p113, p114, p115, p116, p117, p118, p119, p120, p121, p122, p123], []⟩ W := by
  refine region5 (by kernel_rfl) (fun t : Nat → Value => #[p0, p1, p2, p3, .pointer (some ⟨s0 + 1, 0, none⟩), p5, p6, p7, p8, p9, p10, .pointer (some ⟨b11, 0, none⟩), p12, p13, p14, p15, p16, p17, p18, p19, p20, p21, p22, p23, p24, p25, p26, p27, p28, p29, p30, p31, p32, p33, p34, p35, p36, p37, p38, p39, p40, p41, p42, p43, p44, p45, p46, p47, p48, p49, p50, p51, p52, p53, p54, p55, p56, p57, p58, p59, p60, p61, p62, t 0, t 1, t 2, t 3, t 4, p68, p69, p70, p71, p72, p73, p74, p75, p76, p77, p78, p79, p80, p81, p82, p83, p84, p85, p86, p87, p88, p89, p90, p91, p92, p93, p94, p95, p96, p97, p98, p99, p100, p101, p102, p103, p104, p105, p106, p107, p108, p109, p110, p111, p112, p113, p114, p115, p116, p117, p118, p119, p120, p121, p122, p123]) (.agg #[.string m.kind, .string m.pre, .int .i64 m.at_, .slice (some ⟨gm, 0, none⟩) m.n dm, .int .i64 m.seen]) (.agg #[.string m.kind, .string m.pre, .int .i64 m.at_, .slice a m.n c, .int .i64 m.seen]) (fun v X => ∃ g d A C hb, v = .agg #[.string m.kind, .string m.pre, .int .i64 m.at_, .slice (some ⟨g, 0, none⟩) m.n d, .int .i64 m.seen] ∧ ObsAt X (some ⟨g, 0, none⟩) g m.n m.os A C hb) rfl (by kernel_rfl) ?hd ?st2 rfl ?s0 ?s1 ?s2 ?s3 ?s4 ?hfin
  case hd =>
    intro l i hr
    obtain ⟨_, o, ho, hdep⟩ := mem_ready.1 hr
    refine ⟨fun e => ?_, fun e => ?_, fun e => ?_⟩ <;> subst e <;> simp only [List.getElem?_toArray, List.getElem?_cons_succ, List.getElem?_cons_zero, Option.some.injEq] at ho <;> subst ho
    · exact hdep ⟨1, .data⟩ (by simp) rfl
    · exact ⟨hdep ⟨0, .data⟩ (by simp) rfl, hdep ⟨2, .data⟩ (by simp) rfl⟩
    · exact hdep ⟨3, .data⟩ (by simp) rfl
  case st2 =>
    rintro v X Y ⟨g, d, A, C, hb', e1, h⟩ hb
    exact ⟨g, d, A, C, hb', e1, h.grow hb⟩
  case s0 =>
    intro t X K hb hK
    obtain ⟨q0, q1, q2, q3, q4⟩ : X.cell? ⟨b11, 0, none⟩ = some (.string m.kind) ∧ X.cell? ⟨b11, 1, none⟩ = some (.string m.pre) ∧ X.cell? ⟨b11, 2, none⟩ = some (.int .i64 m.at_) ∧ X.cell? ⟨b11, 3, none⟩ = some (.slice (some ⟨gm, 0, none⟩) m.n dm) ∧ X.cell? ⟨b11, 4, none⟩ = some (.int .i64 m.seen) := by
      have h := hv.below hb zb
      exact ⟨h 0, h 1, h 2, h 3, h 4⟩
    refine wpOp_of rfl rfl ?_
    go_simp
    exact hK
  case s1 =>
    intro t X K hb hK
    obtain ⟨q0, q1, q2, q3, q4⟩ : X.cell? ⟨s0 + 1, 0, none⟩ = some (.string m.kind) ∧ X.cell? ⟨s0 + 1, 1, none⟩ = some (.string m.pre) ∧ X.cell? ⟨s0 + 1, 2, none⟩ = some (.int .i64 m.at_) ∧ X.cell? ⟨s0 + 1, 3, none⟩ = some (.slice a m.n c) ∧ X.cell? ⟨s0 + 1, 4, none⟩ = some (.int .i64 m.seen) := by
      have h := hbm.below hb hs
      exact ⟨h 0, h 1, h 2, h 3, h 4⟩
    refine wpOp_of rfl rfl ?_
    go_simp
    exact hK
  case s2 =>
    intro t X K hb e1 hK
    refine wpOp_of rfl rfl ?_
    have HK := hid hK
    clear hK
    go_simp
    go_at_call 29
    refine (toMr_any m a c X 0 s0 (by have := hb.size; omega) (by omega) hf (hinm.below hb (by omega))).mono ?_
    rintro e Y ⟨g, d, A, C, hb', rfl, ho, _, hbY⟩
    have h := HK.out _ Y ⟨g, d, A, C, hb', rfl, ho⟩ hbY
    simpa [updT, e1] using h
  case s3 =>
    intro t X K hb e0 h2 hK
    obtain ⟨g, d', A, C, hb', e2, i2⟩ := h2
    refine wpOp_of rfl rfl ?_
    have HK := hid hK
    have HI2 := hid i2
    clear hK i2
    go_simp
    go_at_call 31
    refine (eqMr_any m _ _ dm d' X 0 X.heap.size 0 X.heap.size (Nat.le_refl _) (Nat.le_refl _) (by omega) (fun i hi => by have := (hf i hi).h; omega) ((hat.grow hb).isIn (fun _ _ => Nat.zero_le _)) (HI2.out.isIn (fun _ _ => Nat.zero_le _))).mono ?_
    rintro e Y ⟨rfl, hbY⟩
    have h := HK.out Y hbY
    simpa [updT, e0, e2] using h
  case s4 =>
    intro t X K e3 hK
    refine wpOp_of rfl rfl ?_
    go_simp
    simpa [updT, e3] using hK
  case hfin =>
    intro t X e4 hb
    have h := hQ (t 0) (t 1) (t 2) (t 3) X hb
    rw [← e4] at h
    exact h
end Go.Proofs.YtkecnaaacbckoaaGreat
