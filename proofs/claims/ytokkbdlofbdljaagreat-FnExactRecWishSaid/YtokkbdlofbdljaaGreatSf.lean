import Derived.Test.YtokkbdlofbdljaaGreatSd
namespace Go.Proofs.YtokkbdlofbdljaaGreat
open Go.RowKit
set_option maxRecDepth 100000 in
set_option maxHeartbeats 8000000 in
theorem has_any (n : Nat) (x : Nat → Sl) (ad : Option Addr) (cap : Nat) (a : ByteArray) (w : World) (lo hi : Nat) (hl : (n : Int) ≤ 1048576) (hbal : ∀ i, i < n → 0 < (x i).bal) (hc : SlsIn w lo hi ad n x) :
    Calls Tryz.prog 33 #[.slice ad n cap, .string a] w fun e w' => e = .returned (.bool (hasB n (fun i => (x i).text) a)) ∧ w' = w := by
  have HC := hid hc
  have HBL := hid hbal
  clear hc hbal
  go_enter Tryz.func33, Tryz.ntmps33
  go_wp2
  go_loopw [5] (fun i wr => ∃ k : Nat, k ≤ n ∧ i = .int .i64 k ∧ wr = w ∧ Hid (∀ j, j < k → ¬ (x j).text = a)) (fun i _ => n - (intOf i).toNat)
  case atStart => exact ⟨0, Nat.zero_le _, rfl, rfl, fun j hj => absurd hj (Nat.not_lt_zero _)⟩
  case round =>
    obtain ⟨k, hk, rfl, rfl, HN⟩ := hrel
    by_cases hkn : k < n
    · obtain ⟨b, off, rfl, hlo, hbh, hcx⟩ := HC.out k hkn
      obtain ⟨c0, c1⟩ := hcx
      have hp := HBL.out k hkn
      by_cases he : (x k).text = a
      · have HE := hid (hasB_yes (s := fun i => (x i).text) hkn he)
        have hbq : ((x k).text.toList == a.toList) = true := by rw [beq_dec]; simp [he]
        clear he
        go_wp2
        go_ret
        exact ⟨ret_bool HE.out.symm, rfl⟩
      · have hbq := beq_ne he
        have hbq2 := beq_ne (fun h => he (Eq.symm h))
        have HP := hid he
        clear he
        go_wp2
        go_roundw
        case rel => exact ⟨k + 1, by omega, by go_num, by first | trivial | rfl, (fun j hj => by
          rcases Nat.lt_or_ge j k with h | h
          · exact HN.out j h
          · obtain rfl : j = k := by omega
            exact HP.out : ∀ j, j < k + 1 → ¬ (x j).text = a)⟩
        case measure => simp [intOf]; omega
    · have HE := hid (hasB_no (n := n) (s := fun i => (x i).text) (a := a) (fun i hi' => HN.out i (by omega)))
      go_wp2
      go_ret
      exact ⟨ret_bool HE.out.symm, rfl⟩
theorem append_one (w : World) (ad : Option Addr) (n cap g : Nat) (s : Nat → ByteArray) (a : ByteArray) (b2 : Nat) (hs : StrsOwn w g (g + 1) ad n s) (hn : (n : Int) ≤ 1048576) (hz : n = 0 → cap = 0) (hlt : n ≠ 0 → g < w.heap.size) (hr : n ≠ 0 → ad = some ⟨g, 0, none⟩ ∧ Room w g cap) (h2 : w.cell? ⟨b2, 0, none⟩ = some (.string a)) :
    ∃ ad' cap' g' w', (Builtin.append_ #[26, 26] 26 #[.slice ad n cap, .slice (some ⟨b2, 0, none⟩) 1 1]).run Tryz.prog w = .ok (.slice ad' (n + 1) cap') w' ∧ StrsOwn w' g' (g' + 1) ad' (n + 1) (updF s n a) ∧ g' < w'.heap.size ∧ FrP (fun q => n ≠ 0 ∧ q = g) w w' ∧ ((n ≠ 0 ∧ g' = g) ∨ w.heap.size ≤ g') := by
  have src : SrcRow w b2 (b2 + 1) (some ⟨b2, 0, none⟩) (1 * 1) (fun _ => .string a) := ⟨fun j hj => ⟨b2, 0, rfl, Nat.le_refl _, Nat.lt_succ_self _, by
    obtain rfl : j = 0 := by omega
    exact h2⟩, fun _ _ => rfl⟩
  by_cases hroom : n + 1 ≤ cap
  · have hn0 : n ≠ 0 := fun h => by have := hz h; omega
    obtain ⟨rfl, rm⟩ := hr hn0
    obtain ⟨i0, hi0, hz0, hz1, hz2⟩ := info_parts Tryz.info9
    have hrun := run_append_room_src (P := Tryz.prog) w 26 26 26 9 i0 Tryz.underlying26 hi0 g 0 n cap (.slice (some ⟨b2, 0, none⟩) 1 1) 1 (rowCells (1 * 1) (fun _ => .string a)) (by rw [hz1]; exact src.src (by omega) Tryz.underlying26) hroom (fun j hj => by
      rw [rowCells_len] at hj
      obtain ⟨u, hu⟩ := rm.has (n + j) (by omega)
      rw [hz1, show 0 + n * 1 + j = n + j by omega, hu]; rfl) (fun j hj => rm.free _)
    rw [hz1, show 0 + n * 1 = n by omega] at hrun
    have hcell : ∀ j, j < n → (w.setCells g n (rowCells (1 * 1) (fun _ => .string a))).cell? ⟨g, j, none⟩ = w.cell? ⟨g, j, none⟩ := fun j hj => World.cell?_setCells_out g _ n w ⟨g, j, none⟩ (fun _ _ => Or.inl hj)
    have hnew : (w.setCells g n (rowCells (1 * 1) (fun _ => .string a))).cell? ⟨g, n, none⟩ = some (.string a) := by
      have := World.cell?_setCells_in g (rowCells (1 * 1) (fun _ => Value.string a)) n w (fun j hj => by
        rw [rowCells_len] at hj
        obtain ⟨u, hu⟩ := rm.has (n + j) (by omega)
        rw [hu]; rfl) 0 (by rw [rowCells_len]; omega)
      rw [Nat.add_zero, rowCells_at] at this
      exact this
    refine ⟨_, _, g, _, hrun, fun i hi => ⟨g, 0, rfl, Nat.le_refl _, Nat.lt_succ_self _, ?_, by rw [World.frozen?_setCells]; exact rm.free _⟩, by rw [size_setCells]; exact rm.lt, FrP.of_fr (fr_setCells g _ n w) (fun k h1 h2 => ⟨hn0, by omega⟩), Or.inl ⟨hn0, rfl⟩⟩
    rw [Nat.zero_add]
    by_cases e : i = n
    · subst e; rw [updF_same]; exact hnew
    · rw [updF_ne _ _ e, hcell i (by omega)]
      obtain ⟨q, off, e1, e2, e3, e4, _⟩ := hs i (by omega)
      cases e1
      rw [Nat.zero_add] at e4
      exact e4
  · obtain ⟨cap', w', hrun, hrow, hb, _⟩ := append_grow (P := Tryz.prog) w 26 26 9 1 16 (.string ByteArray.empty) Tryz.underlying26 Tryz.info9 (by omega) g (g + 1) b2 (b2 + 1) ad n cap _ (hs.isIn.src) (some ⟨b2, 0, none⟩) 1 1 _ src (by omega) (by omega) (by omega)
    refine ⟨_, cap', w.heap.size, w', hrun, RowF.strs (hrow.congr (fun j hj => ?_)), hrow.lt, FrP.of_below hb, Or.inr (Nat.le_refl _)⟩
    unfold catF updF
    by_cases h : j < n * 1
    · rw [if_pos h, if_neg (by omega)]
    · rw [if_neg h, if_pos (by omega)]
theorem RcAt.wishIn {w w' : World} {r : Rc} {p : RcP} (h : RcAt w r p) (hf : FrP (rb p r 3) w w') {g c : Nat} {ad : Option Addr} (a : ByteArray) (hl : g < w'.heap.size) (o : StrsOwn w' g (g + 1) ad (r.wn + 1) (updF r.ws r.wn a)) : RcIn w' 0 w'.heap.size (wishY r a) { p.A with wa := ad, wc := c } := by
  have lt : ∀ j k, j < 7 → rb p r j k → 0 ≤ k ∧ k < w'.heap.size := fun j k hj hk => ⟨Nat.zero_le _, Nat.lt_of_lt_of_le (h.lt k ⟨j, hj, hk⟩) hf.size⟩
  exact ⟨(h.o0.frP hf (fun h0 => ⟨fun e => by have := h.ap 0 3 _ (by omega) (by omega) ⟨h0, rfl⟩ e; omega, h.lt _ ⟨0, by omega, h0, rfl⟩⟩)).isIn (fun h0 => lt 0 _ (by omega) ⟨h0, rfl⟩),
    (h.o1.frP hf (fun h0 => ⟨fun e => by have := h.ap 1 3 _ (by omega) (by omega) ⟨h0, rfl⟩ e; omega, h.lt _ ⟨1, by omega, h0, rfl⟩⟩)).isIn (fun h0 => lt 1 _ (by omega) ⟨h0, rfl⟩),
    (h.o2.fr hf (fun k hk e => by have := h.ap 2 3 k (by omega) (by omega) hk e; omega)).isIn (fun k hk => lt 2 k (by omega) hk),
    o.in0 (fun _ => ⟨Nat.zero_le _, hl⟩),
    (h.o4.frP hf (fun h0 => ⟨fun e => by have := h.ap 4 3 _ (by omega) (by omega) ⟨h0, rfl⟩ e; omega, h.lt _ ⟨4, by omega, h0, rfl⟩⟩)).in0 (fun h0 => lt 4 _ (by omega) ⟨h0, rfl⟩),
    (h.o5.frP hf (fun h0 => ⟨fun e => by have := h.ap 5 3 _ (by omega) (by omega) ⟨h0, rfl⟩ e; omega, h.lt _ ⟨5, by omega, h0, rfl⟩⟩)).isIn (fun h0 => lt 5 _ (by omega) ⟨h0, rfl⟩),
    (h.o6.fr hf (fun k hk e => by have := h.ap 6 3 k (by omega) (by omega) hk e; omega)).isIn (fun k hk => lt 6 k (by omega) hk)⟩
theorem FrP.low {P : Nat → Prop} {w w' : World} (h : FrP (fun q => P q ∨ w.heap.size ≤ q) w w') : FrP P w w' := by
  refine ⟨h.os, h.tape, h.output, h.size, fun k hk ho => h.block k hk (fun e => ?_)⟩
  rcases e with e | e
  · exact ho e
  · omega
abbrev pD (p : RcP) (g : Nat) : RcP := { p with A := ⟨p.A.sa, some ⟨g, 0, none⟩, p.A.ha, p.A.wa, p.A.ya, p.A.ba, p.A.aa, p.A.sc, p.A.dc, p.A.hc, p.A.wc, p.A.yc, p.A.bc, p.A.ac⟩ }
theorem pD_eq (p : RcP) (g : Nat) (h : p.A.da = some ⟨g, 0, none⟩) : pD p g = p := by
  obtain ⟨⟨sa, da, ha, wa, ya, ba, aa, sc, dc, hc, wc, yc, bc, ac⟩, g0, g1, g2, g3, g4, g5, g6, HA, HC, Hb, AA, AC, Ab⟩ := p
  dsimp only at h
  subst h
  rfl
end Go.Proofs.YtokkbdlofbdljaaGreat
namespace Go.Proofs.YtokkbdlofbdljaaGreat
open Go.RowKit
/-- what l14Wish gives -/
def SW (r : Rc) (p : RcP) (a : ByteArray) (w : World) (e : Ending) (w' : World) : Prop := ∃ A', e = .returned (rcV (wishR r a) A') ∧ RcIn w' 0 w'.heap.size (wishR r a) A' ∧ FrP (rb p r 3) w w'
theorem SW_no {r : Rc} {p : RcP} {a : ByteArray} {w W : World} (h : wishOk r a = false) (hat : RcAt w r p) (hb : Below w.heap.size w W) : SW r p a w (.returned (rcV r p.A)) W := by
  have e : wishR r a = r := by simp [wishR, h]
  unfold SW
  rw [e]
  exact ⟨p.A, rfl, (hat.grow hb).isIn (fun k hk => ⟨Nat.zero_le _, Nat.lt_of_lt_of_le (hat.lt k hk) hb.size⟩), FrP.of_below hb⟩
set_option maxRecDepth 100000 in
set_option maxHeartbeats 8000000 in
theorem sWishD (r : Rc) (pp : RcP) (gd : Nat) (a : ByteArray) (w : World) (hm : RcSmall r) (hat : RcAt w r (pD pp gd)) (hws : WsOk w r (pD pp gd)) (hk0 : 0 ≤ r.dk.kn) (hk1 : r.dk.kn ≤ r.dk.n) (hbal : ∀ i, i < r.dk.kn.toNat → 0 < (r.dk.s i).bal) (_ha : (a.size : Int) ≤ 140737488355328) :
    Calls Tryz.prog 71 #[rcV r (pD pp gd).A, .string a] w (SW r (pD pp gd) a w) := by
  have HM := hid hm
  have HAT := hid hat
  have HWS := hid hws
  have HBL := hid hbal
  have HD : Hid (SlsIn w 0 w.heap.size (pD pp gd).A.da r.dk.n r.dk.s) := hat.o1.isIn (fun h0 => ⟨Nat.zero_le _, hat.lt _ ⟨1, by omega, h0, rfl⟩⟩)
  have HS : Hid (StrsIn w 0 w.heap.size (pD pp gd).A.wa r.wn r.ws) := hat.o3.in0 (fun h0 => ⟨Nat.zero_le _, hat.lt _ ⟨3, by omega, h0, rfl⟩⟩)
  have l1 : (r.wn : Int) ≤ 1048576 := hm.wn
  have l2 : (r.dk.n : Int) ≤ 1048576 := hm.dk
  have k2 : r.dk.kn ≤ pp.A.dc := by have h9 : r.dk.n ≤ pp.A.dc := hws.dc; omega
  have k3 : r.dk.kn.toNat ≤ pp.A.dc := by omega
  clear hm hat hws hbal
  obtain ⟨b4, h4⟩ : ∃ b, hasB r.dk.kn.toNat (fun i => (r.dk.s i).text) a = b := ⟨_, rfl⟩
  have HO : Hid (wishOk r a = (inB a.size 1 100 && (decide ((r.wn : Int) < 20) && (!hasB r.wn r.ws a && !b4)))) := by rw [← h4]; rfl
  have mark : Nat := 0
  by_cases s1 : (a.size : Int) < 1
  · have HW := hid (show wishOk r a = false by rw [HO.out, inB_no (Or.inl s1)]; rfl)
    go_enter Tryz.func71, Tryz.ntmps71
    go_wp2_with (first | ((with_reducible show wpList _ _ _ (⟨some 15, _, _, _, _, _⟩ :: _) _ _); clear mark; have Q0 := (Bx.new2 w (rcC r (pD pp gd).A) (rcL 0 0 false).toArray 38 38).1; have Z0 := hid (Bx.new2 w (rcC r (pD pp gd).A) (rcL 0 0 false).toArray 38 38).2; have hB0 : Below w.heap.size w ((w.alloc (.cells (rcC r (pD pp gd).A) 38)).alloc (.cells (rcL 0 0 false).toArray 38)) := (below_alloc _ _).alloc (by simp) _; (generalize (w.alloc (.cells (rcC r (pD pp gd).A) 38)).alloc (.cells (rcL 0 0 false).toArray 38) = W at *); have HQ := hid Q0; obtain ⟨p0, p1, p2, p3, p4, p5, p6, p7, p8, p9, p10, p11, p12, p13, p14, p15, p16, p17⟩ := holds18 Q0.cell; have qf := Q0.free; have qlt : w.heap.size < W.heap.size := Q0.lt; clear Q0) | ((with_reducible show wpList _ _ _ (⟨some 31, _, _, _, _, _⟩ :: _) _ _); clear mark; have Q0 := (Bx.new2 w (rcC r (pD pp gd).A) (rcL 0 0 false).toArray 38 38).1; have Z0 := hid (Bx.new2 w (rcC r (pD pp gd).A) (rcL 0 0 false).toArray 38 38).2; have hB0 : Below w.heap.size w ((w.alloc (.cells (rcC r (pD pp gd).A) 38)).alloc (.cells (rcL 0 0 false).toArray 38)) := (below_alloc _ _).alloc (by simp) _; (generalize (w.alloc (.cells (rcC r (pD pp gd).A) 38)).alloc (.cells (rcL 0 0 false).toArray 38) = W at *); have HQ := hid Q0; obtain ⟨p0, p1, p2, p3, p4, p5, p6, p7, p8, p9, p10, p11, p12, p13, p14, p15, p16, p17⟩ := holds18 Q0.cell; have qf := Q0.free; have qlt : w.heap.size < W.heap.size := Q0.lt; clear Q0) | ((with_reducible show wpList _ _ _ (⟨some 31, Op.load 38 _, _, _, _, _⟩ :: _) _ _); (clear p0 p1 p2 p3 p4 p5 p6 p7 p8 p9 p10 p11 p12 p13 p14 p15 p16 p17); refine wpList_load_mid rfl 38 _ rfl w.heap.size 0 rfl (rcC r (pD pp gd).A).toList _ (Holds.range (cs := (rcC r (pD pp gd).A).toList) HQ.out.cell) Tryz.underlying38 rfl Tryz.sz38 ?_) | ((with_reducible show wpList _ _ _ (⟨none, Op.store 38 _ _, _, _, _, _⟩ :: _) _ _); refine wpList_store_box rfl 38 _ _ rfl (w.heap.size + 1) (rcC r (pD pp gd).A).toList rfl rfl Z0.out rfl Tryz.sz38 (by simp [Value.oneCell']) ?_; intro V hr hfr hsv; have HBV := hid hr; have HFV := hid hfr; clear hr hfr hsv))
    have hBV : Below w.heap.size w V := hB0.trans (HFV.out.below (B := w.heap.size) (Nat.le_succ _) hB0.size)
    exact bodyPost_ret (v := .agg (rcC r (pD pp gd).A)) (results_cell_mid rfl _ _ (w.heap.size + 1) (rcC r (pD pp gd).A).toList _ rfl (Holds.range (cs := (rcC r (pD pp gd).A).toList) HBV.out.cell) Tryz.underlying38 rfl Tryz.sz38) rfl (SW_no HW.out HAT.out hBV)
  by_cases s2 : (100 : Int) < a.size
  · have HW := hid (show wishOk r a = false by rw [HO.out, inB_no (Or.inr s2)]; rfl)
    go_enter Tryz.func71, Tryz.ntmps71
    go_wp2_with (first | ((with_reducible show wpList _ _ _ (⟨some 15, _, _, _, _, _⟩ :: _) _ _); clear mark; have Q0 := (Bx.new2 w (rcC r (pD pp gd).A) (rcL 0 0 false).toArray 38 38).1; have Z0 := hid (Bx.new2 w (rcC r (pD pp gd).A) (rcL 0 0 false).toArray 38 38).2; have hB0 : Below w.heap.size w ((w.alloc (.cells (rcC r (pD pp gd).A) 38)).alloc (.cells (rcL 0 0 false).toArray 38)) := (below_alloc _ _).alloc (by simp) _; (generalize (w.alloc (.cells (rcC r (pD pp gd).A) 38)).alloc (.cells (rcL 0 0 false).toArray 38) = W at *); have HQ := hid Q0; obtain ⟨p0, p1, p2, p3, p4, p5, p6, p7, p8, p9, p10, p11, p12, p13, p14, p15, p16, p17⟩ := holds18 Q0.cell; have qf := Q0.free; have qlt : w.heap.size < W.heap.size := Q0.lt; clear Q0) | ((with_reducible show wpList _ _ _ (⟨some 31, _, _, _, _, _⟩ :: _) _ _); clear mark; have Q0 := (Bx.new2 w (rcC r (pD pp gd).A) (rcL 0 0 false).toArray 38 38).1; have Z0 := hid (Bx.new2 w (rcC r (pD pp gd).A) (rcL 0 0 false).toArray 38 38).2; have hB0 : Below w.heap.size w ((w.alloc (.cells (rcC r (pD pp gd).A) 38)).alloc (.cells (rcL 0 0 false).toArray 38)) := (below_alloc _ _).alloc (by simp) _; (generalize (w.alloc (.cells (rcC r (pD pp gd).A) 38)).alloc (.cells (rcL 0 0 false).toArray 38) = W at *); have HQ := hid Q0; obtain ⟨p0, p1, p2, p3, p4, p5, p6, p7, p8, p9, p10, p11, p12, p13, p14, p15, p16, p17⟩ := holds18 Q0.cell; have qf := Q0.free; have qlt : w.heap.size < W.heap.size := Q0.lt; clear Q0) | ((with_reducible show wpList _ _ _ (⟨some 31, Op.load 38 _, _, _, _, _⟩ :: _) _ _); (clear p0 p1 p2 p3 p4 p5 p6 p7 p8 p9 p10 p11 p12 p13 p14 p15 p16 p17); refine wpList_load_mid rfl 38 _ rfl w.heap.size 0 rfl (rcC r (pD pp gd).A).toList _ (Holds.range (cs := (rcC r (pD pp gd).A).toList) HQ.out.cell) Tryz.underlying38 rfl Tryz.sz38 ?_) | ((with_reducible show wpList _ _ _ (⟨none, Op.store 38 _ _, _, _, _, _⟩ :: _) _ _); refine wpList_store_box rfl 38 _ _ rfl (w.heap.size + 1) (rcC r (pD pp gd).A).toList rfl rfl Z0.out rfl Tryz.sz38 (by simp [Value.oneCell']) ?_; intro V hr hfr hsv; have HBV := hid hr; have HFV := hid hfr; clear hr hfr hsv))
    have hBV : Below w.heap.size w V := hB0.trans (HFV.out.below (B := w.heap.size) (Nat.le_succ _) hB0.size)
    exact bodyPost_ret (v := .agg (rcC r (pD pp gd).A)) (results_cell_mid rfl _ _ (w.heap.size + 1) (rcC r (pD pp gd).A).toList _ rfl (Holds.range (cs := (rcC r (pD pp gd).A).toList) HBV.out.cell) Tryz.underlying38 rfl Tryz.sz38) rfl (SW_no HW.out HAT.out hBV)
  by_cases s3 : (r.wn : Int) < 20
  rotate_left
  · have HW := hid (show wishOk r a = false by rw [HO.out]; simp [s3])
    have s3' : (20 : Int) ≤ r.wn := by omega
    go_enter Tryz.func71, Tryz.ntmps71
    go_wp2_with (first | ((with_reducible show wpList _ _ _ (⟨some 15, _, _, _, _, _⟩ :: _) _ _); clear mark; have Q0 := (Bx.new2 w (rcC r (pD pp gd).A) (rcL 0 0 false).toArray 38 38).1; have Z0 := hid (Bx.new2 w (rcC r (pD pp gd).A) (rcL 0 0 false).toArray 38 38).2; have hB0 : Below w.heap.size w ((w.alloc (.cells (rcC r (pD pp gd).A) 38)).alloc (.cells (rcL 0 0 false).toArray 38)) := (below_alloc _ _).alloc (by simp) _; (generalize (w.alloc (.cells (rcC r (pD pp gd).A) 38)).alloc (.cells (rcL 0 0 false).toArray 38) = W at *); have HQ := hid Q0; obtain ⟨p0, p1, p2, p3, p4, p5, p6, p7, p8, p9, p10, p11, p12, p13, p14, p15, p16, p17⟩ := holds18 Q0.cell; have qf := Q0.free; have qlt : w.heap.size < W.heap.size := Q0.lt; clear Q0) | ((with_reducible show wpList _ _ _ (⟨some 31, _, _, _, _, _⟩ :: _) _ _); clear mark; have Q0 := (Bx.new2 w (rcC r (pD pp gd).A) (rcL 0 0 false).toArray 38 38).1; have Z0 := hid (Bx.new2 w (rcC r (pD pp gd).A) (rcL 0 0 false).toArray 38 38).2; have hB0 : Below w.heap.size w ((w.alloc (.cells (rcC r (pD pp gd).A) 38)).alloc (.cells (rcL 0 0 false).toArray 38)) := (below_alloc _ _).alloc (by simp) _; (generalize (w.alloc (.cells (rcC r (pD pp gd).A) 38)).alloc (.cells (rcL 0 0 false).toArray 38) = W at *); have HQ := hid Q0; obtain ⟨p0, p1, p2, p3, p4, p5, p6, p7, p8, p9, p10, p11, p12, p13, p14, p15, p16, p17⟩ := holds18 Q0.cell; have qf := Q0.free; have qlt : w.heap.size < W.heap.size := Q0.lt; clear Q0) | ((with_reducible show wpList _ _ _ (⟨some 31, Op.load 38 _, _, _, _, _⟩ :: _) _ _); (clear p0 p1 p2 p3 p4 p5 p6 p7 p8 p9 p10 p11 p12 p13 p14 p15 p16 p17); refine wpList_load_mid rfl 38 _ rfl w.heap.size 0 rfl (rcC r (pD pp gd).A).toList _ (Holds.range (cs := (rcC r (pD pp gd).A).toList) HQ.out.cell) Tryz.underlying38 rfl Tryz.sz38 ?_) | ((with_reducible show wpList _ _ _ (⟨none, Op.store 38 _ _, _, _, _, _⟩ :: _) _ _); refine wpList_store_box rfl 38 _ _ rfl (w.heap.size + 1) (rcC r (pD pp gd).A).toList rfl rfl Z0.out rfl Tryz.sz38 (by simp [Value.oneCell']) ?_; intro V hr hfr hsv; have HBV := hid hr; have HFV := hid hfr; clear hr hfr hsv))
    have hBV : Below w.heap.size w V := hB0.trans (HFV.out.below (B := w.heap.size) (Nat.le_succ _) hB0.size)
    exact bodyPost_ret (v := .agg (rcC r (pD pp gd).A)) (results_cell_mid rfl _ _ (w.heap.size + 1) (rcC r (pD pp gd).A).toList _ rfl (Holds.range (cs := (rcC r (pD pp gd).A).toList) HBV.out.cell) Tryz.underlying38 rfl Tryz.sz38) rfl (SW_no HW.out HAT.out hBV)
  cases b4
  rotate_left
  · have HW := hid (show wishOk r a = false by rw [HO.out]; simp)
    go_enter Tryz.func71, Tryz.ntmps71
    go_wp2_with (first | ((with_reducible show wpList _ _ _ (⟨some 15, _, _, _, _, _⟩ :: _) _ _); clear mark; have Q0 := (Bx.new2 w (rcC r (pD pp gd).A) (rcL 0 0 false).toArray 38 38).1; have Z0 := hid (Bx.new2 w (rcC r (pD pp gd).A) (rcL 0 0 false).toArray 38 38).2; have hB0 : Below w.heap.size w ((w.alloc (.cells (rcC r (pD pp gd).A) 38)).alloc (.cells (rcL 0 0 false).toArray 38)) := (below_alloc _ _).alloc (by simp) _; (generalize (w.alloc (.cells (rcC r (pD pp gd).A) 38)).alloc (.cells (rcL 0 0 false).toArray 38) = W at *); have HQ := hid Q0; obtain ⟨p0, p1, p2, p3, p4, p5, p6, p7, p8, p9, p10, p11, p12, p13, p14, p15, p16, p17⟩ := holds18 Q0.cell; have qf := Q0.free; have qlt : w.heap.size < W.heap.size := Q0.lt; clear Q0) | ((with_reducible show wpList _ _ _ (⟨some 31, _, _, _, _, _⟩ :: _) _ _); clear mark; have Q0 := (Bx.new2 w (rcC r (pD pp gd).A) (rcL 0 0 false).toArray 38 38).1; have Z0 := hid (Bx.new2 w (rcC r (pD pp gd).A) (rcL 0 0 false).toArray 38 38).2; have hB0 : Below w.heap.size w ((w.alloc (.cells (rcC r (pD pp gd).A) 38)).alloc (.cells (rcL 0 0 false).toArray 38)) := (below_alloc _ _).alloc (by simp) _; (generalize (w.alloc (.cells (rcC r (pD pp gd).A) 38)).alloc (.cells (rcL 0 0 false).toArray 38) = W at *); have HQ := hid Q0; obtain ⟨p0, p1, p2, p3, p4, p5, p6, p7, p8, p9, p10, p11, p12, p13, p14, p15, p16, p17⟩ := holds18 Q0.cell; have qf := Q0.free; have qlt : w.heap.size < W.heap.size := Q0.lt; clear Q0) | (go_at_call 33; refine (has_any r.dk.kn.toNat r.dk.s (some ⟨gd, 0, none⟩) _ a _ 0 w.heap.size (by omega) HBL.out ((HD.out.take (by omega)).below hB0 (Nat.le_refl _))).mono ?_; rintro e w0 ⟨rfl, hq⟩; replace hq := hq.symm; subst hq; rw [h4]) | ((with_reducible show wpList _ _ _ (⟨some 31, Op.load 38 _, _, _, _, _⟩ :: _) _ _); (clear p0 p1 p2 p3 p4 p5 p6 p7 p8 p9 p10 p11 p12 p13 p14 p15 p16 p17); refine wpList_load_mid rfl 38 _ rfl w.heap.size 0 rfl (rcC r (pD pp gd).A).toList _ (Holds.range (cs := (rcC r (pD pp gd).A).toList) HQ.out.cell) Tryz.underlying38 rfl Tryz.sz38 ?_) | ((with_reducible show wpList _ _ _ (⟨none, Op.store 38 _ _, _, _, _, _⟩ :: _) _ _); refine wpList_store_box rfl 38 _ _ rfl (w.heap.size + 1) (rcC r (pD pp gd).A).toList rfl rfl Z0.out rfl Tryz.sz38 (by simp [Value.oneCell']) ?_; intro V hr hfr hsv; have HBV := hid hr; have HFV := hid hfr; clear hr hfr hsv))
    have hBV : Below w.heap.size w V := hB0.trans (HFV.out.below (B := w.heap.size) (Nat.le_succ _) hB0.size)
    exact bodyPost_ret (v := .agg (rcC r (pD pp gd).A)) (results_cell_mid rfl _ _ (w.heap.size + 1) (rcC r (pD pp gd).A).toList _ rfl (Holds.range (cs := (rcC r (pD pp gd).A).toList) HBV.out.cell) Tryz.underlying38 rfl Tryz.sz38) rfl (SW_no HW.out HAT.out hBV)
  go_enter Tryz.func71, Tryz.ntmps71
  go_wp2_with (first | ((with_reducible show wpList _ _ _ (⟨some 15, _, _, _, _, _⟩ :: _) _ _); clear mark; have Q0 := (Bx.new2 w (rcC r (pD pp gd).A) (rcL 0 0 false).toArray 38 38).1; have Z0 := hid (Bx.new2 w (rcC r (pD pp gd).A) (rcL 0 0 false).toArray 38 38).2; have hB0 : Below w.heap.size w ((w.alloc (.cells (rcC r (pD pp gd).A) 38)).alloc (.cells (rcL 0 0 false).toArray 38)) := (below_alloc _ _).alloc (by simp) _; (generalize (w.alloc (.cells (rcC r (pD pp gd).A) 38)).alloc (.cells (rcL 0 0 false).toArray 38) = W at *); have HQ := hid Q0; obtain ⟨p0, p1, p2, p3, p4, p5, p6, p7, p8, p9, p10, p11, p12, p13, p14, p15, p16, p17⟩ := holds18 Q0.cell; have qf := Q0.free; have qlt : w.heap.size < W.heap.size := Q0.lt; clear Q0) | (go_at_call 33; refine (has_any r.dk.kn.toNat r.dk.s (some ⟨gd, 0, none⟩) _ a _ 0 w.heap.size (by omega) HBL.out ((HD.out.take (by omega)).below hB0 (Nat.le_refl _))).mono ?_; rintro e w0 ⟨rfl, hq⟩; replace hq := hq.symm; subst hq; rw [h4]))
  go_loopw [5] (fun i wr => ∃ k : Nat, k ≤ r.wn ∧ i = .int .i64 k ∧ W = wr ∧ Hid (∀ j, j < k → ¬ r.ws j = a)) (fun i _ => r.wn - (intOf i).toNat)
  case atStart => exact ⟨0, Nat.zero_le _, rfl, rfl, fun j hj => absurd hj (Nat.not_lt_zero _)⟩
  case round =>
    obtain ⟨k, hk, rfl, hwr, HN⟩ := hrel
    subst hwr
    by_cases hkn : k < r.wn
    · obtain ⟨b, off, hA, hlo, hbh, hcx⟩ := (HS.out.below hB0 (Nat.le_refl _)) k hkn
      rw [hA] at p10
      have HA := hid hA
      clear hA
      by_cases he : r.ws k = a
      · have HW := hid (show wishOk r a = false by rw [HO.out, hasB_yes hkn he]; simp)
        have hbq : ((r.ws k).toList == a.toList) = true := by rw [beq_dec]; simp [he]
        clear he
        go_wp2_with (first | ((with_reducible show wpList _ _ _ (⟨some 46, Op.load 38 _, _, _, _, _⟩ :: _) _ _); (clear p0 p1 p2 p3 p4 p5 p6 p7 p8 p9 p10 p11 p12 p13 p14 p15 p16 p17); refine wpList_load_mid rfl 38 _ rfl w.heap.size 0 rfl (rcC r (pD pp gd).A).toList _ (Holds.range (cs := (rcC r (pD pp gd).A).toList) HQ.out.cell) Tryz.underlying38 rfl Tryz.sz38 ?_) | ((with_reducible show wpList _ _ _ (⟨none, Op.store 38 _ _, _, _, _, _⟩ :: _) _ _); refine wpList_store_box rfl 38 _ _ rfl (w.heap.size + 1) (rcC r (pD pp gd).A).toList rfl rfl Z0.out rfl Tryz.sz38 (by simp [Value.oneCell']) ?_; intro V hr hfr hsv; have HBV := hid hr; have HFV := hid hfr; clear hr hfr hsv))
        have hBV : Below w.heap.size w V := hB0.trans (HFV.out.below (B := w.heap.size) (Nat.le_succ _) hB0.size)
        exact bodyPost_ret (v := .agg (rcC r (pD pp gd).A)) (results_cell_mid rfl _ _ (w.heap.size + 1) (rcC r (pD pp gd).A).toList _ rfl (Holds.range (cs := (rcC r (pD pp gd).A).toList) HBV.out.cell) Tryz.underlying38 rfl Tryz.sz38) rfl (SW_no HW.out HAT.out hBV)
      · have hbq := beq_ne he
        have hbq2 := beq_ne (fun h => he (Eq.symm h))
        have HP := hid he
        clear he
        go_wp2
        go_roundw
        case rel => exact ⟨k + 1, by omega, by go_num, by first | trivial | rfl, (fun j hj => by
          rcases Nat.lt_or_ge j k with h | h
          · exact HN.out j h
          · obtain rfl : j = k := by omega
            exact HP.out : ∀ j, j < k + 1 → ¬ r.ws j = a)⟩
        case measure => simp [intOf]; omega
    · have HW := hid (show wishOk r a = true by rw [HO.out, hasB_no (fun i hi => HN.out i (by omega)), inB_yes ⟨by omega, by omega⟩]; simp [s3])
      have hbA : Below w.heap.size w (W.alloc (.cells #[.string a] 9)) := hB0.alloc hB0.size _
      have HO3 := hid (HAT.out.grow hbA).o3
      have HLT := hid HAT.out.lt
      go_wp2_with (first | ((with_reducible show wpList _ _ _ (⟨some 51, _, _, _, _, _⟩ :: _) _ _); obtain ⟨ad2, cap2, g2, w2, hrun, hs2, hl2, hf2, hg2⟩ := append_one (W.alloc (.cells #[.string a] 9)) pp.A.wa r.wn pp.A.wc pp.g3 r.ws a W.heap.size HO3.out l1 HWS.out.zero (fun h0 => Nat.lt_of_lt_of_le (HLT.out _ ⟨3, by omega, h0, rfl⟩) hbA.size) (fun h0 => ⟨(HWS.out.at_ h0).1, (HWS.out.at_ h0).2.below hbA (HLT.out _ ⟨3, by omega, h0, rfl⟩)⟩) (holds_new W #[.string a] 9 0); refine wpList_append_run rfl _ _ 26 26 rfl _ _ _ _ rfl rfl hrun ?_; have g3lt : r.wn ≠ 0 → pp.g3 < w.heap.size := (fun h0 => HLT.out _ ⟨3, by omega, h0, rfl⟩); have zA : (W.alloc (.cells #[.string a] 9)).heap.size = W.heap.size + 1 := World.size_alloc _ _; have Q2 := (HQ.out.below (below_alloc W (.cells #[.string a] 9)) HQ.out.lt).frP hf2 (fun e => by have := g3lt e.1; omega); have z0 := Z0.out.lt; have Z2 := hid ((Z0.out.below (below_alloc W (.cells #[.string a] 9)) Z0.out.lt).frP hf2 (fun e => by have := g3lt e.1; omega)); have HS2 := hid hs2; have HL2 := hid hl2; have HF2 := hid hf2; have HG2 := hid hg2; have HQ2 := hid Q2; (clear p0 p1 p2 p3 p4 p5 p6 p7 p8 p9 p10 p11 p12 p13 p14 p15 p16 p17 qf qlt hrun hs2 hl2 hf2 hg2); obtain ⟨p0, p1, p2, p3, p4, p5, p6, p7, p8, p9, p10, p11, p12, p13, p14, p15, p16, p17⟩ := holds18 Q2.cell; have qf := Q2.free; have qlt : w.heap.size < w2.heap.size := Q2.lt; clear Q2) | ((with_reducible show wpList _ _ _ (⟨some 53, Op.load 38 _, _, _, _, _⟩ :: _) _ _); have HQ3 := hid (HQ2.out.to (hset10 HQ2.out.cell (.slice ad2 (r.wn + 1) cap2))); (clear p0 p1 p2 p3 p4 p5 p6 p7 p8 p9 p10 p11 p12 p13 p14 p15 p16 p17 qf qlt); refine wpList_load_mid rfl 38 _ rfl w.heap.size 0 rfl (#[.int .i64 r.num, .int .i64 r.of, .bool r.up, .int .i64 r.sf.pr, .int .i64 r.sf.kn, .slice pp.A.sa r.sf.n pp.A.sc, .int .i64 r.dk.pr, .int .i64 r.dk.kn, .slice (some ⟨gd, 0, none⟩) r.dk.n pp.A.dc, .slice pp.A.ha r.hn pp.A.hc, .slice ad2 (r.wn + 1) cap2, .bool r.ld, .bool r.tr, .int .i64 r.bal, .slice pp.A.ya r.yn pp.A.yc, .slice pp.A.ba r.bn pp.A.bc, .slice pp.A.aa r.an pp.A.ac, .int .i64 r.hd] : Array Value).toList _ (Holds.range (cs := (#[.int .i64 r.num, .int .i64 r.of, .bool r.up, .int .i64 r.sf.pr, .int .i64 r.sf.kn, .slice pp.A.sa r.sf.n pp.A.sc, .int .i64 r.dk.pr, .int .i64 r.dk.kn, .slice (some ⟨gd, 0, none⟩) r.dk.n pp.A.dc, .slice pp.A.ha r.hn pp.A.hc, .slice ad2 (r.wn + 1) cap2, .bool r.ld, .bool r.tr, .int .i64 r.bal, .slice pp.A.ya r.yn pp.A.yc, .slice pp.A.ba r.bn pp.A.bc, .slice pp.A.aa r.an pp.A.ac, .int .i64 r.hd] : Array Value).toList) HQ3.out.cell) Tryz.underlying38 rfl Tryz.sz38 ?_; have Z3 := hid (Z2.out.frP (P := fun q => q = w.heap.size) ((FrP.refl (fun q => q = w.heap.size) w2).setCell (p := ⟨w.heap.size, 10, none⟩) rfl (.slice ad2 (r.wn + 1) cap2)) (by omega))) | ((with_reducible show wpList _ _ _ (⟨none, Op.store 38 _ _, _, _, _, _⟩ :: _) _ _); refine wpList_store_box rfl 38 _ _ rfl (w.heap.size + 1) (#[.int .i64 r.num, .int .i64 r.of, .bool r.up, .int .i64 r.sf.pr, .int .i64 r.sf.kn, .slice pp.A.sa r.sf.n pp.A.sc, .int .i64 r.dk.pr, .int .i64 r.dk.kn, .slice (some ⟨gd, 0, none⟩) r.dk.n pp.A.dc, .slice pp.A.ha r.hn pp.A.hc, .slice ad2 (r.wn + 1) cap2, .bool r.ld, .bool r.tr, .int .i64 r.bal, .slice pp.A.ya r.yn pp.A.yc, .slice pp.A.ba r.bn pp.A.bc, .slice pp.A.aa r.an pp.A.ac, .int .i64 r.hd] : Array Value).toList rfl rfl Z3.out rfl Tryz.sz38 (by simp [Value.oneCell']) ?_; intro V hr hfr hsv; have HBV := hid hr; have HFV := hid hfr; clear hr hfr hsv))
      have g3lt := fun h0 : r.wn ≠ 0 => HLT.out pp.g3 ⟨3, by omega, h0, rfl⟩
      have zA : (W.alloc (.cells #[.string a] 9)).heap.size = W.heap.size + 1 := World.size_alloc _ _
      have z0 := Z0.out.lt
      have zf := HF2.out.size
      have fvv : FrP (fun q => q = w.heap.size ∨ q = w.heap.size + 1) w2 V := ((FrP.refl (fun q => q = w.heap.size ∨ q = w.heap.size + 1) w2).setCell (p := ⟨w.heap.size, 10, none⟩) (Or.inl rfl) (.slice ad2 (r.wn + 1) cap2)).trans (FrP.of_fr HFV.out (fun k h1 h2 => Or.inr (by omega)))
      have FF : FrP (rb (pD pp gd) r 3) w V := FrP.low ((FrP.of_below hbA).trans ((HF2.out.mono (fun q hq => Or.inl hq)).trans (fvv.mono (fun q hq => Or.inr (by omega)))))
      refine bodyPost_ret (v := .agg #[.int .i64 r.num, .int .i64 r.of, .bool r.up, .int .i64 r.sf.pr, .int .i64 r.sf.kn, .slice pp.A.sa r.sf.n pp.A.sc, .int .i64 r.dk.pr, .int .i64 r.dk.kn, .slice (some ⟨gd, 0, none⟩) r.dk.n pp.A.dc, .slice pp.A.ha r.hn pp.A.hc, .slice ad2 (r.wn + 1) cap2, .bool r.ld, .bool r.tr, .int .i64 r.bal, .slice pp.A.ya r.yn pp.A.yc, .slice pp.A.ba r.bn pp.A.bc, .slice pp.A.aa r.an pp.A.ac, .int .i64 r.hd]) (results_cell_mid rfl _ _ (w.heap.size + 1) (#[.int .i64 r.num, .int .i64 r.of, .bool r.up, .int .i64 r.sf.pr, .int .i64 r.sf.kn, .slice pp.A.sa r.sf.n pp.A.sc, .int .i64 r.dk.pr, .int .i64 r.dk.kn, .slice (some ⟨gd, 0, none⟩) r.dk.n pp.A.dc, .slice pp.A.ha r.hn pp.A.hc, .slice ad2 (r.wn + 1) cap2, .bool r.ld, .bool r.tr, .int .i64 r.bal, .slice pp.A.ya r.yn pp.A.yc, .slice pp.A.ba r.bn pp.A.bc, .slice pp.A.aa r.an pp.A.ac, .int .i64 r.hd] : Array Value).toList _ rfl (Holds.range (cs := (#[.int .i64 r.num, .int .i64 r.of, .bool r.up, .int .i64 r.sf.pr, .int .i64 r.sf.kn, .slice pp.A.sa r.sf.n pp.A.sc, .int .i64 r.dk.pr, .int .i64 r.dk.kn, .slice (some ⟨gd, 0, none⟩) r.dk.n pp.A.dc, .slice pp.A.ha r.hn pp.A.hc, .slice ad2 (r.wn + 1) cap2, .bool r.ld, .bool r.tr, .int .i64 r.bal, .slice pp.A.ya r.yn pp.A.yc, .slice pp.A.ba r.bn pp.A.bc, .slice pp.A.aa r.an pp.A.ac, .int .i64 r.hd] : Array Value).toList) HBV.out.cell) Tryz.underlying38 rfl Tryz.sz38) rfl ?_
      have e9 : wishR r a = wishY r a := by simp [wishR, HW.out]
      unfold SW
      rw [e9]
      exact ⟨{ (pD pp gd).A with wa := ad2, wc := cap2 }, rfl, HAT.out.wishIn FF a (Nat.lt_of_lt_of_le HL2.out fvv.size) (HS2.out.frP fvv (fun h0 => ⟨by
        rcases HG2.out with h | h
        · have := g3lt h.1; omega
        · omega, HL2.out⟩)), FF⟩
theorem sWish_any (r : Rc) (p : RcP) (a : ByteArray) (w : World) (hm : RcSmall r) (hat : RcAt w r p) (hws : WsOk w r p) (hk0 : 0 ≤ r.dk.kn) (hk1 : r.dk.kn ≤ r.dk.n) (hbal : ∀ i, i < r.dk.kn.toNat → 0 < (r.dk.s i).bal) (ha : (a.size : Int) ≤ 140737488355328) :
    Calls Tryz.prog 71 #[rcV r p.A, .string a] w (SW r p a w) := by
  obtain ⟨gd, hgd⟩ := hws.da
  have e := pD_eq p gd hgd
  have h := sWishD r p gd a w hm (by rw [e]; exact hat) (by rw [e]; exact hws) hk0 hk1 hbal ha
  rw [e] at h
  exact h
end Go.Proofs.YtokkbdlofbdljaaGreat
