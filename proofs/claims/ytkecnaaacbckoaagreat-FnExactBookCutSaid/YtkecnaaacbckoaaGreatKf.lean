import Derived.Test.YtkecnaaacbckoaaGreatKb
import Derived.Test.YtkecnaaacbckoaaGreatKd
import Derived.Lib.MinMax
namespace Go.Proofs.YtkecnaaacbckoaaGreat
open Go.RowKit Go.Shelf
theorem between_any (R : Nat) (ab up : Int) (w : World) :
    Calls Tryz.prog 48 #[.pointer (some ⟨R, 0, none⟩), .int .i64 ab, .int .i64 up] w fun e w' => e = .returned (.func (.func 104) #[] #[.pointer (some ⟨w.heap.size + 1, 0, none⟩), .pointer (some ⟨w.heap.size + 1 + 1, 0, none⟩), .pointer (some ⟨w.heap.size, 0, none⟩)]) ∧ w' = ((w.alloc (.cells #[.pointer (some ⟨R, 0, none⟩)] 79)).alloc (.cells #[.int .i64 ab] 3)).alloc (.cells #[.int .i64 up] 3) :=
  callsIn_wide.1 (between_in Fence.wide 9 trivial rfl R ab up w)
theorem appendSeq_any (Ba Bu Br R : Nat) (f k n : Nat) (x : Nat → Ch) (A : Nat → Option Addr) (C : Nat → Nat) (hkn : k ≤ n) (hn2 : n ≤ 200) (hfn : f + n ≤ 1000000) (w : World)
    (hBa : w.cell? ⟨Ba, 0, none⟩ = some (.int .i64 ((f + k : Nat) : Int))) (hBu : w.cell? ⟨Bu, 0, none⟩ = some (.int .i64 ((f + n : Nat) : Int))) (hBr : w.cell? ⟨Br, 0, none⟩ = some (.pointer (some ⟨R, 0, none⟩)))
    (ha : Ba < w.heap.size) (hu : Bu < w.heap.size) (hr : Br < w.heap.size) (hR : R < w.heap.size) (hs : RingAt w R n f x A C) :
    Calls Tryz.prog 103 #[.slice none 0 0, .func (.func 104) #[] #[.pointer (some ⟨Ba, 0, none⟩), .pointer (some ⟨Bu, 0, none⟩), .pointer (some ⟨Br, 0, none⟩)]] w fun e w' => ∃ v, e = .returned v ∧ RwCh w' (w.heap.size + 1) v (n - k) (fun i => x (k + i)) (fun i => A (k + i)) (fun i => C (k + i)) ∧ Below w.heap.size w w' :=
  callsIn_wide.1 (appendSeq_in Fence.wide 9 trivial trivial trivial rfl (by decide) (fun _ R v w h0 h1 => callsIn_wide.2 (place_any R v w h0 h1)) Ba Bu Br R f k n x A C hkn hn2 hfn w hBa hBu hBr ha hu hr hR hs)
set_option maxRecDepth 100000 in
theorem collect_any (Ba Bu Br R : Nat) (f k n : Nat) (x : Nat → Ch) (A : Nat → Option Addr) (C : Nat → Nat) (hkn : k ≤ n) (hn2 : n ≤ 200) (hfn : f + n ≤ 1000000) (w : World)
    (hBa : w.cell? ⟨Ba, 0, none⟩ = some (.int .i64 ((f + k : Nat) : Int))) (hBu : w.cell? ⟨Bu, 0, none⟩ = some (.int .i64 ((f + n : Nat) : Int))) (hBr : w.cell? ⟨Br, 0, none⟩ = some (.pointer (some ⟨R, 0, none⟩)))
    (ha : Ba < w.heap.size) (hu : Bu < w.heap.size) (hr : Br < w.heap.size) (hR : R < w.heap.size) (hs : RingAt w R n f x A C) :
    Calls Tryz.prog 47 #[.func (.func 104) #[] #[.pointer (some ⟨Ba, 0, none⟩), .pointer (some ⟨Bu, 0, none⟩), .pointer (some ⟨Br, 0, none⟩)]] w fun e w' => ∃ v, e = .returned v ∧ RwCh w' (w.heap.size + 1) v (n - k) (fun i => x (k + i)) (fun i => A (k + i)) (fun i => C (k + i)) ∧ Below w.heap.size w w' := by
  have HS := hid hs
  clear hs
  go_enter Tryz.func47, Tryz.ntmps47
  go_wp2_with (go_at_call 103; go_must (refine (appendSeq_any Ba Bu Br R f k n x A C hkn hn2 hfn _ hBa hBu hBr ha hu hr hR HS.out).mono ?_; rintro e w1 ⟨v, rfl, hv, hb1⟩; have HV := hid hv; clear hv))
  go_ret
  exact ⟨v, rfl, HV.out, hb1⟩
theorem RingAt.fr {w w' : World} {R n f : Nat} {x : Nat → Ch} {A : Nat → Option Addr} {C : Nat → Nat} {P : Nat → Prop} (h : RingAt w R n f x A C) (hf : FrP P w w') (hp : ¬ P R) : RingAt w' R n f x A C := by
  have e : ∀ j, w'.cell? ⟨R, j, none⟩ = w.cell? ⟨R, j, none⟩ := fun j => hf.cell (p := ⟨R, j, none⟩) h.room.lt hp
  exact ⟨⟨fun j hj => by obtain ⟨u, hu⟩ := h.room.has j hj; exact ⟨u, (e j).trans hu⟩, fun j => (hf.frozen (p := ⟨R, j, none⟩) h.room.lt hp).trans (h.room.free j), Nat.lt_of_lt_of_le h.room.lt hf.size⟩, fun i hi => (h.at_ i hi).fr (fun j _ => e _)⟩
theorem RwCh.shape {w : World} {base : Nat} {v : Value} {k : Nat} {x : Nat → Ch} {A : Nat → Option Addr} {C : Nat → Nat} (h : RwCh w base v k x A C) : ∃ ad cap, v = .slice ad k cap := by
  obtain ⟨c, r, _⟩ := h.row
  rcases r.2 with ⟨rfl, rfl⟩ | ⟨g, cap, cur, rfl, _⟩
  · exact ⟨none, 0, rfl⟩
  · exact ⟨_, cap, rfl⟩
theorem BkAt.cut {w w' : World} {x : Bk} {p : Pl} {k base : Nat} {v : Value} {ad' : Option Addr} {cap' : Nat} {P : Nat → Prop} (h : BkAt w x p) (hk : k ≤ x.hn) (hf : FrP P w w') (hP : ∀ q, blkB p x q → ¬ P q) (hr : RwCh w' base v (x.hn - k) (fun i => x.hs (k + i)) (fun i => p.A2 (k + i)) (fun i => p.C2 (k + i))) (hv : v = .slice ad' (x.hn - k : Nat) cap') (hbase : w.heap.size ≤ base) :
    ∃ p' : Pl, p'.a1 = p.a1 ∧ p'.a2 = ad' ∧ p'.a3 = p.a3 ∧ BkAt w' (cutB x k) p' ∧ ∀ q, blkB p' (cutB x k) q → blkB p x q ∨ base ≤ q := by
  subst hv
  obtain ⟨g', hg, hrow⟩ : ∃ g', (0 < x.hn - k → ad' = some ⟨g', 0, none⟩ ∧ base ≤ g') ∧ (0 < x.hn - k → ∃ c, RowF w' g' ((x.hn - k) * 9) c ∧ ∀ i, i < x.hn - k → atCh c i (x.hs (i + k)) (p.A2 (i + k)) (p.C2 (i + k))) := by
    obtain ⟨c, r, hat⟩ := hr.row
    rcases Nat.eq_zero_or_pos (x.hn - k) with h0 | h0
    · exact ⟨0, fun h1 => by omega, fun h1 => by omega⟩
    · obtain ⟨g', cap2, e1, e2, e3⟩ := own_shape r h0
      injection e1 with e1 _ _
      refine ⟨g', fun _ => ⟨e1, e2⟩, fun _ => ⟨c, e3, fun i hi => ?_⟩⟩
      rw [Nat.add_comm i k]
      exact hat i hi
  have hb2 : ∀ q, blkH g' (x.hn - k) (fun i => (x.hs (i + k)).ob.hn) (fun i => p.h2 (i + k)) q → (0 < x.hn - k ∧ q = g') ∨ blk2 p x q := fun q hq => by
    rcases hq with ⟨h0, rfl⟩ | ⟨i, hi, h0, rfl⟩
    · exact Or.inl ⟨h0, rfl⟩
    · exact Or.inr (Or.inr ⟨i + k, by omega, h0, rfl⟩)
  refine ⟨⟨p.a1, ad', p.a3, p.g1, g', p.g3, p.A1, p.C1, p.h1, fun i => p.A2 (i + k), fun i => p.C2 (i + k), fun i => p.h2 (i + k)⟩, rfl, rfl, rfl, ⟨h.o.fr hf (fun q hq => hP q (Or.inl hq)), ⟨fun h0 => (hg h0).1, hrow, fun i hi => (h.h.hold (i + k) (by have : i < x.hn - k := hi; omega)).frP hf (fun h0 => ⟨hP _ (Or.inr (Or.inl (Or.inr ⟨i + k, by have : i < x.hn - k := hi; omega, h0, rfl⟩))), h.h.hlt (i + k) (by have : i < x.hn - k := hi; omega) h0⟩), fun i hi h0 => Nat.lt_of_lt_of_le (h.h.hlt (i + k) (by have : i < x.hn - k := hi; omega) h0) hf.size, ⟨fun i hi h0 e => ?_, fun i j hi hj h0 h1 e => ?_⟩⟩, h.t.fr hf (fun q hq => hP q (Or.inr (Or.inr hq))), fun q h1 h2 => ?_, fun q h1 h2 => h.d13 q h1 h2, fun q h1 h2 => ?_⟩, fun q hq => ?_⟩
  · have h2 := h.h.hlt (i + k) (by have : i < x.hn - k := hi; omega) h0
    have h3 := (hg (by have : i < x.hn - k := hi; omega)).2
    have e' : p.h2 (i + k) = g' := e
    omega
  · have := h.h.ap.inj (i + k) (j + k) (by have : i < x.hn - k := hi; omega) (by have : j < x.hn - k := hj; omega) h0 h1 e
    omega
  · rcases hb2 q h2 with ⟨h0, rfl⟩ | h3
    · have a := (hg h0).2
      have b := h.o.blt h1
      omega
    · exact h.d12 q h1 h3
  · rcases hb2 q h1 with ⟨h0, rfl⟩ | h3
    · have a := (hg h0).2
      have b := h.t.blt h2
      omega
    · exact h.d23 q h3 h2
  · rcases hq with h1 | h1 | h1
    · exact Or.inl (Or.inl h1)
    · rcases hb2 q h1 with ⟨h0, rfl⟩ | h3
      · exact Or.inr (hg h0).2
      · exact Or.inl (Or.inr (Or.inl h3))
    · exact Or.inl (Or.inr (Or.inr h1))
set_option maxRecDepth 100000 in
set_option maxHeartbeats 4000000 in
theorem implCutYes_any (x : Bk) (a1 a2 a3 : Option Addr) (c1 c2 c3 : Nat) (fl : Int) (w : World) (lo hi : Nat) (hhi : hi ≤ w.heap.size) (hf : BkFit x) (hc : BkIn w lo hi x a1 a2 a3) (hv : allTo (chk x) 7 = true) :
    Calls Tryz.prog 11 #[.agg #[.int .i64 x.now, .int .i64 x.floor, .slice a1 x.on c1, .slice a2 x.hn c2, .slice a3 x.tn c3], .int .i64 fl] w fun e w' => ∃ (p : Pl) (d1 d2 d3 : Nat), e = .returned (.agg #[.int .i64 x.now, .int .i64 (x.floor + cutN x fl), .slice p.a1 x.on d1, .slice p.a2 (x.hn - cutN x fl) d2, .slice p.a3 x.tn d3]) ∧ BkAt w' (cutB x (cutN x fl)) p ∧ (∀ q, blkB p (cutB x (cutN x fl)) q → w.heap.size ≤ q) ∧ Below w.heap.size w w' := by
  obtain ⟨v0, v1, v2, v3, v4, v5⟩ := valid_hist hv
  obtain ⟨f, hfl⟩ : ∃ f : Nat, x.floor = (f : Int) := ⟨x.floor.toNat, by omega⟩
  have hnow : x.now = ((f + x.hn : Nat) : Int) := by omega
  have hfn : f + x.hn ≤ 1000000 := by omega
  have hkn : cutN x fl ≤ x.hn := by unfold cutN; omega
  have hmx : max x.floor (min fl x.now) = ((f + cutN x fl : Nat) : Int) := by unfold cutN; omega
  generalize hk : cutN x fl = k at hkn hmx ⊢
  have HFL := hid hfl
  have HNOW := hid hnow
  clear hfl hnow hk
  go_enter Tryz.func11, Tryz.ntmps11
  go_wp2_with (first
    | (go_at_call 44; go_must (refine (implValid_any x a1 a2 a3 c1 c2 c3 _ lo hi (by simp; omega) hf (hc.below ((below_alloc _ _).alloc (by simp) _) hhi)).mono ?_; rw [hv]; rintro e w1 ⟨rfl, hb1⟩; have hB1 : Below w.heap.size w w1 := ((below_alloc _ _).alloc (by simp) _).trans (hb1.mono (by simp; omega)); have H1 : Holds w1 w.heap.size (bkCells x a1 a2 a3 c1 c2 c3) := ((holds_new w _ 32).below (below_alloc _ _) (by simp)).below hb1 (by simp; omega); obtain ⟨p0, p1, p2, p3, p4⟩ := holds_bk H1))
    | (go_at_call 45; go_must (refine (bookCopy_any x a1 a2 a3 c1 c2 c3 _ lo hi (by have := hB1.size; omega) hf (hc.below hB1 hhi)).mono ?_; rintro e w2 ⟨p, d1, d2, d3, rfl, hx2, hbl2, hb2⟩; have HX := hid hx2; have HBL := hid hbl2; clear hx2 hbl2)))
  have hB2 : Below w.heap.size w w2 := hB1.trans (hb2.mono hB1.size)
  have zw1 : w.heap.size + 1 < w1.heap.size := by have := hb1.size; simp at this; omega
  have zw2 := hb2.size
  have Rr : RowF w2 (w.heap.size + 1) 5 (vec [.int .i64 0, .int .i64 0, .slice none 0 0, .slice none 0 0, .slice none 0 0]) := by
    have h := RowF.new (w := w.alloc (.cells #[.int .i64 x.now, .int .i64 x.floor, .slice a1 x.on c1, .slice a2 x.hn c2, .slice a3 x.tn c3] 32)) (l := [.int .i64 0, .int .i64 0, .slice none 0 0, .slice none 0 0, .slice none 0 0]) (t := 32) hb1
    rw [World.size_alloc] at h
    exact h.below hb2 (by omega)
  have HK0 := hid (RowF.new (w := w2) (l := [.int .i64 x.now, .int .i64 x.floor, .slice p.a1 x.on d1, .slice p.a2 x.hn d2, .slice p.a3 x.tn d3]) (t := 32) (Below.refl _ _))
  have HRr := hid Rr
  have hgl : 0 < x.hn → p.g2 < w2.heap.size := fun h0 => by obtain ⟨c, r, _⟩ := HX.out.h.row h0; exact r.lt
  have hcc : ∀ i, i < x.hn → ChCells w2 p.g2 (i * 9) (x.hs i) (p.A2 i) (p.C2 i) := fun i hi' => by
    obtain ⟨c, r, e⟩ := HX.out.h.row (by omega)
    obtain ⟨a0, a1, a2, a3, a4, a5, a6, a7, a8⟩ := e i hi'
    exact ⟨(r.cell _ (by omega)).trans (congrArg some a0), (r.cell _ (by omega)).trans (congrArg some a1), (r.cell _ (by omega)).trans (congrArg some a2), (r.cell _ (by omega)).trans (congrArg some a3), (r.cell _ (by omega)).trans (congrArg some a4), (r.cell _ (by omega)).trans (congrArg some a5), (r.cell _ (by omega)).trans (congrArg some a6), (r.cell _ (by omega)).trans (congrArg some a7), (r.cell _ (by omega)).trans (congrArg some a8)⟩
  clear H1 p0 p1 p2 p3 p4 hb1 hb2 Rr
  refine (ringOf_any x.hn x.hs p.a2 p.g2 d2 p.A2 p.C2 f _ v3 hfn (fun i hi' => by rw [v5 i hi', HFL.out]) HX.out.h.addr (fun h0 => by have := hgl h0; simp; omega) (fun i hi' => (hcc i hi').below (below_alloc _ _) (hgl (by omega)))).mono ?_
  rintro e w3 ⟨rfl, hring, hb3⟩
  have HRG := hid hring
  have K3 : RowF w3 w2.heap.size 5 (vec [.int .i64 x.now, .int .i64 x.floor, .slice p.a1 x.on d1, .slice p.a2 x.hn d2, .slice p.a3 x.tn d3]) := HK0.out.below hb3 (by simp)
  have z3 : w2.heap.size + 1 < w3.heap.size := by have h := hring.room.lt; simp at h; omega
  have B23 : Below w2.heap.size w2 w3 := (below_alloc _ _).trans (hb3.mono (by simp))
  have k0 := K3.cell 0 (by omega)
  have k1 := K3.cell 1 (by omega)
  have k2 := K3.cell 2 (by omega)
  have k3 := K3.cell 3 (by omega)
  have k4 := K3.cell 4 (by omega)
  simp only [vec, List.getD_cons_zero, List.getD_cons_succ] at k0 k1 k2 k3 k4
  have kf := K3.free
  have HK3 := hid K3
  have HB3 := hid hb3
  clear hring K3 hb3 hcc
  go_wp2_with fail
  refine (between_any _ _ _ _).mono ?_
  rintro e w7' ⟨rfl, hw7⟩
  obtain ⟨W4, hW4⟩ : ∃ W4, w3.setCell ⟨w2.heap.size, 1, none⟩ (.int .i64 ((f : Int) + (k : Int))) = W4 := ⟨_, rfl⟩
  have z4 : W4.heap.size = w3.heap.size := by rw [← hW4]; simp
  have F34 : FrP (fun q => q = w2.heap.size) w3 W4 := by rw [← hW4]; exact FrP.setCell (FrP.refl _ _) (p := ⟨w2.heap.size, 1, none⟩) (by rfl) _
  have K4 := HK3.out.set (o := 1) (by omega) (.int .i64 ((f : Int) + (k : Int)))
  rw [hW4] at K4 hw7
  have hB47 : Below w3.heap.size W4 w7' := by rw [hw7, ← z4]; exact ((below_alloc _ _).alloc (by simp) _).alloc (by simp; omega) _
  have bR : Boxed w7' w3.heap.size 79 (.pointer (some ⟨w2.heap.size + 1, 0, none⟩)) := by
    rw [hw7, ← z4]; simpa using ((Boxed.new W4 79 (.pointer (some ⟨w2.heap.size + 1, 0, none⟩))).alloc _).alloc _
  have bA : Boxed w7' (w3.heap.size + 1) 3 (.int .i64 ((f : Int) + (k : Int))) := by
    have h := (Boxed.new (W4.alloc (.cells #[.pointer (some ⟨w2.heap.size + 1, 0, none⟩)] 79)) 3 (.int .i64 ((f : Int) + (k : Int)))).alloc (.cells #[.int .i64 x.now] 3)
    rw [World.size_alloc, z4] at h
    rw [hw7]; simpa using h
  have bU : Boxed w7' (w3.heap.size + 1 + 1) 3 (.int .i64 x.now) := by
    have h := Boxed.new ((W4.alloc (.cells #[.pointer (some ⟨w2.heap.size + 1, 0, none⟩)] 79)).alloc (.cells #[.int .i64 ((f : Int) + (k : Int))] 3)) 3 (.int .i64 x.now)
    rw [World.size_alloc, World.size_alloc, z4] at h
    rw [hw7]; simpa using h
  have z7 : w7'.heap.size = w3.heap.size + 3 := by rw [hw7]; simp [z4]
  have RG7 : RingAt w7' (w2.heap.size + 1) x.hn f x.hs p.A2 p.C2 := by
    have h := HRG.out
    rw [World.size_alloc] at h
    exact (h.fr F34 (by omega)).below hB47 z3 (by omega)
  have K7 := K4.below hB47 (by omega)
  clear hw7 K4
  go_wp2_with fail
  refine (collect_any _ _ _ (w2.heap.size + 1) f k x.hn x.hs p.A2 p.C2 hkn v3 hfn w7' (by rw [bA.cell]; simp) (by rw [bU.cell, HNOW.out]) bR.cell (by omega) (by omega) (by omega) (by omega) RG7).mono ?_
  rintro e w8 ⟨v, rfl, rw8, hb8⟩
  obtain ⟨ad', cap', hve⟩ := rw8.shape
  subst hve
  have K8 : RowF w8 w2.heap.size 5 (vec [.int .i64 x.now, .int .i64 ((f : Int) + (k : Int)), .slice p.a1 x.on d1, .slice p.a2 x.hn d2, .slice p.a3 x.tn d3]) := by
    have r := K7.below hb8 (by omega)
    refine ⟨r.lt, r.free, fun q hq => (r.cell q hq).trans (congrArg some ?_)⟩
    rcases (show q = 0 ∨ q = 1 ∨ q = 2 ∨ q = 3 ∨ q = 4 by omega) with rfl | rfl | rfl | rfl | rfl <;> rfl
  have B28 : FrP (fun q => q = w2.heap.size) w2 w8 := ((FrP.of_below B23).trans F34).trans ((FrP.of_below (by rw [z4]; exact hB47)).trans (FrP.of_below hb8))
  have z8 := hb8.size
  have Rr8 := HRr.out.fr B28 (by omega)
  have y0 := K8.cell 0 (by omega)
  have y1 := K8.cell 1 (by omega)
  have y2 := K8.cell 2 (by omega)
  have y3 := K8.cell 3 (by omega)
  have y4 := K8.cell 4 (by omega)
  simp only [vec, List.getD_cons_zero, List.getD_cons_succ] at y0 y1 y2 y3 y4
  have yf := K8.free
  have F89 : FrP (fun q => q = w2.heap.size) w8 (w8.setCell ⟨w2.heap.size, 3, none⟩ (.slice ad' (x.hn - k : Nat) cap')) := FrP.setCell (FrP.refl _ _) (p := ⟨w2.heap.size, 3, none⟩) (by rfl) _
  have Rr9 := Rr8.fr F89 (by omega)
  have t0 := Rr8.cell 0 (by omega)
  have t1 := Rr8.cell 1 (by omega)
  have t2 := Rr8.cell 2 (by omega)
  have t3 := Rr8.cell 3 (by omega)
  have t4 := Rr8.cell 4 (by omega)
  simp only [vec, List.getD_cons_zero, List.getD_cons_succ] at t0 t1 t2 t3 t4
  have tf := Rr8.free
  have RW := hid (row5 (v0 := .int .i64 x.now) (v1 := .int .i64 ((f : Int) + (k : Int))) (v2 := .slice p.a1 x.on d1) (v3 := .slice ad' (x.hn - k : Nat) cap') (v4 := .slice p.a3 x.tn d3) Rr9)
  have HF89 := hid F89
  have HRW := hid rw8
  have HB28 := hid B28
  have hne : ¬ w.heap.size + 1 = w2.heap.size := by omega
  have hne2 : ¬ w2.heap.size = w.heap.size + 1 := by omega
  clear K7 K8 Rr8 Rr9 F89 rw8 B28 RG7 bR bA bU k0 k1 k2 k3 k4 kf
  go_wp2
  have rw := RW.out
  have u0 := rw.cell 0 (by omega)
  have u1 := rw.cell 1 (by omega)
  have u2 := rw.cell 2 (by omega)
  have u3 := rw.cell 3 (by omega)
  have u4 := rw.cell 4 (by omega)
  simp only [vec, List.getD_cons_zero, List.getD_cons_succ] at u0 u1 u2 u3 u4
  refine bodyPost_ret (v := .agg #[.int .i64 x.now, .int .i64 ((f : Int) + (k : Int)), .slice p.a1 x.on d1, .slice ad' (x.hn - k : Nat) cap', .slice p.a3 x.tn d3]) (by simp [results, Tryz.results11, go_sem, u0, u1, u2, u3, u4]) rfl ?_
  have FF := (((((FrP.refl (fun q => q = w2.heap.size ∨ q = w.heap.size + 1) (w8.setCell ⟨w2.heap.size, 3, none⟩ (.slice ad' (x.hn - k : Nat) cap'))).setCell (p := ⟨w.heap.size + 1, 0, none⟩) (Or.inr rfl) (.int .i64 x.now)).setCell (p := ⟨w.heap.size + 1, 1, none⟩) (Or.inr rfl) (.int .i64 ((f : Int) + (k : Int)))).setCell (p := ⟨w.heap.size + 1, 2, none⟩) (Or.inr rfl) (.slice p.a1 x.on d1)).setCell (p := ⟨w.heap.size + 1, 3, none⟩) (Or.inr rfl) (.slice ad' (x.hn - k : Nat) cap')).setCell (p := ⟨w.heap.size + 1, 4, none⟩) (Or.inr rfl) (.slice p.a3 x.tn d3)
  have F8 := (HF89.out.mono (Q := fun q => q = w2.heap.size ∨ q = w.heap.size + 1) (fun q e => Or.inl e)).trans FF
  have F2 := (HB28.out.mono (Q := fun q => q = w2.heap.size ∨ q = w.heap.size + 1) (fun q e => Or.inl e)).trans F8
  have hblt : ∀ q, blkB p x q → ¬ (q = w2.heap.size ∨ q = w.heap.size + 1) := fun q hq e => by
    have a := HBL.out q hq
    have b := HX.out.blt hq
    omega
  obtain ⟨p', e1, e2, e3, hat', hbl'⟩ := HX.out.cut hkn F2 hblt (HRW.out.fr F8 (fun q h1 _ e => by omega)) rfl (by omega)
  exact ⟨p', d1, cap', d3, by rw [HFL.out, e1, e2, e3], hat', fun q hq => by
    rcases hbl' q hq with h1 | h1
    · have := HBL.out q h1
      omega
    · omega, hB2.trans (F2.below (fun q hq e => by omega) (by omega))⟩
theorem blkB0 {p : Pl} {q : Nat} (h : blkB p bk0 q) : False := by
  rcases h with (⟨h0, _⟩ | ⟨i, hi, _⟩) | (⟨h0, _⟩ | ⟨i, hi, _⟩) | ⟨h0, _⟩
  · exact absurd h0 (Nat.lt_irrefl _)
  · exact absurd hi (Nat.not_lt_zero _)
  · exact absurd h0 (Nat.lt_irrefl _)
  · exact absurd hi (Nat.not_lt_zero _)
  · exact absurd h0 (Nat.lt_irrefl _)
theorem bkAt0 (w : World) (p : Pl) : BkAt w bk0 p :=
  ⟨⟨fun h0 => absurd h0 (Nat.lt_irrefl _), fun h0 => absurd h0 (Nat.lt_irrefl _), fun _i hi => absurd hi (Nat.not_lt_zero _), fun _i hi => absurd hi (Nat.not_lt_zero _), ⟨fun _i hi => absurd hi (Nat.not_lt_zero _), fun _i _j hi => absurd hi (Nat.not_lt_zero _)⟩⟩, ⟨fun h0 => absurd h0 (Nat.lt_irrefl _), fun h0 => absurd h0 (Nat.lt_irrefl _), fun _i hi => absurd hi (Nat.not_lt_zero _), fun _i hi => absurd hi (Nat.not_lt_zero _), ⟨fun _i hi => absurd hi (Nat.not_lt_zero _), fun _i _j hi => absurd hi (Nat.not_lt_zero _)⟩⟩, ⟨fun h0 => absurd h0 (Nat.lt_irrefl _), fun h0 => absurd h0 (Nat.lt_irrefl _)⟩, fun _q h1 => (blkB0 (Or.inl h1)).elim, fun _q h1 => (blkB0 (Or.inl h1)).elim, fun _q h1 => (blkB0 (Or.inr (Or.inl h1))).elim⟩
set_option maxRecDepth 100000 in
set_option maxHeartbeats 1000000 in
theorem implCutNo_any (x : Bk) (a1 a2 a3 : Option Addr) (c1 c2 c3 : Nat) (fl : Int) (w : World) (lo hi : Nat) (hhi : hi ≤ w.heap.size) (hf : BkFit x) (hc : BkIn w lo hi x a1 a2 a3) (hv : allTo (chk x) 7 = false) :
    Calls Tryz.prog 11 #[.agg #[.int .i64 x.now, .int .i64 x.floor, .slice a1 x.on c1, .slice a2 x.hn c2, .slice a3 x.tn c3], .int .i64 fl] w fun e w' => e = .returned (.agg #[.int .i64 0, .int .i64 0, .slice none 0 0, .slice none 0 0, .slice none 0 0]) ∧ Below w.heap.size w w' := by
  go_enter Tryz.func11, Tryz.ntmps11
  go_wp2_with (go_at_call 44; go_must (refine (implValid_any x a1 a2 a3 c1 c2 c3 _ lo hi (by simp; omega) hf (hc.below ((below_alloc _ _).alloc (by simp) _) hhi)).mono ?_; rw [hv]; rintro e w1 ⟨rfl, hb1⟩; have R1 := RowF.new (l := [.int .i64 0, .int .i64 0, .slice none 0 0, .slice none 0 0, .slice none 0 0]) hb1; have r0 := R1.cell 0 (by decide); have r1 := R1.cell 1 (by decide); have r2 := R1.cell 2 (by decide); have r3 := R1.cell 3 (by decide); have r4 := R1.cell 4 (by decide); have rf := R1.free; simp only [vec, List.getD_cons_zero, List.getD_cons_succ, World.size_alloc] at r0 r1 r2 r3 r4 rf; have RW := hid R1; clear R1))
  have rw := row5 (v0 := .int .i64 0) (v1 := .int .i64 0) (v2 := .slice none 0 0) (v3 := .slice none 0 0) (v4 := .slice none 0 0) (show RowF w1 (w.heap.size + 1) 5 _ from by have h := RW.out; rw [World.size_alloc] at h; exact h)
  have u0 := rw.cell 0 (by omega)
  have u1 := rw.cell 1 (by omega)
  have u2 := rw.cell 2 (by omega)
  have u3 := rw.cell 3 (by omega)
  have u4 := rw.cell 4 (by omega)
  simp only [vec, List.getD_cons_zero, List.getD_cons_succ] at u0 u1 u2 u3 u4
  refine bodyPost_ret (v := .agg #[.int .i64 0, .int .i64 0, .slice none 0 0, .slice none 0 0, .slice none 0 0]) (by simp [results, Tryz.results11, go_sem, u0, u1, u2, u3, u4]) rfl ⟨rfl, ?_⟩
  have FF := (((((FrP.refl (fun q => q = w.heap.size + 1) w1).setCell (p := ⟨w.heap.size + 1, 0, none⟩) (by rfl) (.int .i64 0)).setCell (p := ⟨w.heap.size + 1, 1, none⟩) (by rfl) (.int .i64 0)).setCell (p := ⟨w.heap.size + 1, 2, none⟩) (by rfl) (.slice none 0 0)).setCell (p := ⟨w.heap.size + 1, 3, none⟩) (by rfl) (.slice none 0 0)).setCell (p := ⟨w.heap.size + 1, 4, none⟩) (by rfl) (.slice none 0 0)
  have zb := hb1.size
  simp only [World.size_alloc] at zb
  exact (((below_alloc _ _).alloc (by simp) _).trans (hb1.mono (by simp; omega))).trans (FF.below (fun q hq e => by omega) (by omega))
end Go.Proofs.YtkecnaaacbckoaaGreat
