import Derived.Test.YtokkbdlofbdljaaGreatCb
import Derived.Test.YtokkbdlofbdljaaGreatRg
import Derived.Test.YtokkbdlofbdljaaGreatNc
namespace Go.Proofs.YtokkbdlofbdljaaGreat
open Go.RowKit
theorem SrcRow.below {w w' : World} {B lo hi : Nat} {ad : Option Addr} {m : Nat} {c : Nat → Value} (h : SrcRow w lo hi ad m c) (hb : Below B w w') (hB : hi ≤ B) : SrcRow w' lo hi ad m c :=
  ⟨fun j hj => by obtain ⟨b, off, e1, e2, e3, e4⟩ := h.at_ j hj; exact ⟨b, off, e1, e2, e3, (hb.cell (p := ⟨b, off + j, none⟩) (by show b < B; omega)).trans e4⟩, h.one⟩
/-- a box: its cells, none of them frozen -/
structure Bx (w : World) (b : Nat) (c : Array Value) : Prop where
  cell : Holds w b c
  free : ∀ i, w.frozen? ⟨b, i, none⟩ = false
  lt : b < w.heap.size
theorem Bx.below {w w' : World} {b B : Nat} {c : Array Value} (h : Bx w b c) (hb : Below B w w') (hB : b < B) : Bx w' b c :=
  ⟨h.cell.below hb hB, fun i => (hb.frozen (p := ⟨b, i, none⟩) hB).trans (h.free i), Nat.lt_of_lt_of_le h.lt hb.size⟩
theorem Bx.frP {w w' : World} {b : Nat} {c : Array Value} {P : Nat → Prop} (h : Bx w b c) (hb : FrP P w w') (ho : ¬ P b) : Bx w' b c :=
  ⟨h.cell.frP hb h.lt ho, fun i => (hb.frozen (p := ⟨b, i, none⟩) h.lt ho).trans (h.free i), Nat.lt_of_lt_of_le h.lt hb.size⟩
theorem Bx.to {w : World} {b : Nat} {c c' : Array Value} {i : Nat} {v : Value} (h : Bx w b c) (hc : Holds (w.setCell ⟨b, i, none⟩ v) b c') : Bx (w.setCell ⟨b, i, none⟩ v) b c' :=
  ⟨hc, fun j => by rw [World.frozen?_setCell]; exact h.free j, by rw [World.size_setCell]; exact h.lt⟩
theorem Bx.there {w : World} {b : Nat} {c : Array Value} (h : Bx w b c) : w.there b 0 c.size := Holds.there h.cell h.free
theorem RcAt.ofRows {w : World} {r : Rc} {p : RcP} (z : Nat → Nat) (o0 : SlsAt w p.A.sa p.g0 r.sf.n r.sf.s) (o1 : SlsAt w p.A.da p.g1 r.dk.n r.dk.s) (o2 : MssAt w p.A.ha p.g2 r.hn r.hs p.HA p.HC p.Hb) (o3 : StrsOwn w p.g3 (p.g3 + 1) p.A.wa r.wn r.ws) (o4 : IntsOwn w p.g4 (p.g4 + 1) p.A.ya r.yn r.ys) (o5 : SlsAt w p.A.ba p.g5 r.bn r.bs) (o6 : AksAt w p.A.aa p.g6 r.an r.as_ p.AA p.AC p.Ab)
    (hz : ∀ j, j < 7 → z j ≤ z (j + 1)) (ht : z 7 ≤ w.heap.size) (hr : ∀ j k, j < 7 → rb p r j k → z j ≤ k ∧ k < z (j + 1)) : RcAt w r p := by
  have mono : ∀ a b, a ≤ b → b ≤ 7 → z a ≤ z b := fun a b hab hb => by
    induction b with
    | zero => have : a = 0 := by omega
              subst this; exact Nat.le_refl _
    | succ m ih =>
      rcases Nat.lt_or_ge m a with h | h
      · have : a = m + 1 := by omega
        subst this; exact Nat.le_refl _
      · exact Nat.le_trans (ih h (by omega)) (hz m (by omega))
  refine ⟨o0, o1, o2, o3, o4, o5, o6, fun k hk => ?_, fun i j k hi hj h1 h2 => ?_⟩
  · obtain ⟨j, hj, hk⟩ := hk
    have := (hr j k hj hk).2
    have := mono (j + 1) 7 (by omega) (by omega)
    omega
  · have e1 := hr i k hi h1
    have e2 := hr j k hj h2
    rcases Nat.lt_trichotomy i j with h | h | h
    · have := mono (i + 1) j (by omega) (by omega); omega
    · exact h
    · have := mono (j + 1) i (by omega) (by omega); omega
def copyReg11G (s q g n cap k : Nat) (a : Option Addr) (c : Nat) (y : Ak) (W : World) (i : Nat) (v : Value) (X : World) : Prop :=
  match i with
  | 0 => v = .pointer (some ⟨s, 16, none⟩)
  | 1 => v = .slice (some ⟨g, 0, none⟩) n cap
  | 2 => v = .int .i64 k
  | 3 => v = .pointer (some ⟨q, 1, none⟩)
  | 4 => v = .slice a y.n c
  | 5 => ∃ ad' cap' b', v = .slice ad' y.n cap' ∧ W.heap.size ≤ b' ∧ (y.n ≠ 0 → b' < X.heap.size) ∧ IntsOwn X b' (b' + 1) ad' y.n y.s
  | 6 => v = .pointer (some ⟨g, k * 2, none⟩)
  | 7 => v = .pointer (some ⟨g, k * 2 + 1, none⟩)
  | _ => True
set_option maxRecDepth 100000 in
set_option maxHeartbeats 8000000 in
theorem copyReg11 (p0 p2 p5 p6 p7 p8 p9 p10 p11 p12 p13 p14 p15 p16 p17 p18 p19 p20 p21 p22 p23 p24 p25 p26 p27 p28 p29 p30 p31 p32 p33 p34 p35 p36 p37 p38 p39 p40 p49 p50 v0 v1 v2 v3 v4 v5 v6 v7 : Value) (s q g n cap k : Nat) (a : Option Addr) (c : Nat) (y : Ak) (W : World) (lo hi : Nat) (h1 : W.cell? ⟨s, 16, none⟩ = some (.slice (some ⟨g, 0, none⟩) n cap)) (h2 : W.cell? ⟨q, 1, none⟩ = some (.slice a y.n c)) (hs : s < W.heap.size) (hq : q < W.heap.size) (hg : g < W.heap.size) (hhi : hi ≤ W.heap.size) (hl : (y.n : Int) ≤ 1048576) (_hl2 : (n : Int) ≤ 1048576) (hin : IntsIn W lo hi a y.n y.s) (hk : k < n) (u : Value) (hu : W.cell? ⟨g, k * 2 + 1, none⟩ = some u) (hfz : W.frozen? ⟨g, k * 2 + 1, none⟩ = false) (Q : Exit → Act → World → Prop)
    (hQ : ∀ (t : Nat → Value) (ad' : Option Addr) (cap' b' : Nat) (Y : World), W.heap.size ≤ b' → (y.n ≠ 0 → b' < Y.heap.size) → IntsOwn Y b' (b' + 1) ad' y.n y.s → Below W.heap.size W Y → Q .normal ⟨#[p0, .pointer (some ⟨s, 0, none⟩), p2, .int .i64 k, .pointer (some ⟨q, 0, none⟩), p5, p6, p7, p8, p9, p10, p11, p12, p13, p14, p15, p16, p17, p18, p19, p20, p21, p22, p23, p24, p25, p26, p27, p28, p29, p30, p31, p32, p33, p34, p35, p36, p37, p38, p39, p40, t 0, t 1, t 2, t 3, t 4, t 5, t 6, t 7, p49, p50], []⟩ (Y.setCell ⟨g, k * 2 + 1, none⟩ (.slice ad' y.n cap'))) :
    Code.wp Tryz.prog (Code.region 11 #[{ dst := some 41, op := Op.fieldAddr 38 (Operand.tmp 1) 12, type := 0, pos := "l14_rec_take.go:264", after := #[], guard := none }, { dst := some 42, op := Op.load 36 (Operand.tmp 41), type := 36, pos := "l14_rec_take.go:264", after := #[{ on := 0, ground := Ground.data }], guard := none }, { dst := some 43, op := Op.move (Operand.tmp 3), type := 3, pos := "l14_rec_take.go:264", after := #[], guard := none }, { dst := some 44, op := Op.fieldAddr 108 (Operand.tmp 4) 1, type := 0, pos := "l14_rec_take.go:264", after := #[], guard := none }, { dst := some 45, op := Op.load 27 (Operand.tmp 44), type := 27, pos := "l14_rec_take.go:264", after := #[{ on := 3, ground := Ground.data }], guard := none }, { dst := some 46, op := Op.call { callee := Callee.value (Operand.func 102), args := #[Operand.tmp 45], argTypes := #[27] }, type := 27, pos := "l14_rec_take.go:264", after := #[{ on := 4, ground := Ground.data }], guard := none }, { dst := some 47, op := Op.indexAddr 36 (Operand.tmp 42) (Operand.tmp 43), type := 0, pos := "l14_rec_take.go:264", after := #[{ on := 1, ground := Ground.data }, { on := 2, ground := Ground.data }, { on := 0, ground := Ground.phase }, { on := 1, ground := Ground.phase }, { on := 2, ground := Ground.phase }, { on := 3, ground := Ground.phase }, { on := 4, ground := Ground.phase }, { on := 5, ground := Ground.phase }], guard := none }, { dst := some 48, op := Op.fieldAddr 108 (Operand.tmp 47) 1, type := 0, pos := "l14_rec_take.go:264", after := #[{ on := 6, ground := Ground.data }, { on := 0, ground := Ground.phase }, { on := 1, ground := Ground.phase }, { on := 2, ground := Ground.phase }, { on := 3, ground := Ground.phase }, { on := 4, ground := Ground.phase }, { on := 5, ground := Ground.phase }], guard := none }, { dst := none, op := Op.store 27 (Operand.tmp 48) (Operand.tmp 46), type := 0, pos := "l14_rec_take.go:264", after := #[{ on := 7, ground := Ground.data }, { on := 5, ground := Ground.data }, { on := 5, ground := Ground.chain }, { on := 0, ground := Ground.phase }, { on := 1, ground := Ground.phase }, { on := 2, ground := Ground.phase }, { on := 3, ground := Ground.phase }, { on := 4, ground := Ground.phase }, { on := 5, ground := Ground.phase }], guard := none }] true) Q ⟨#[p0, .pointer (some ⟨s, 0, none⟩), p2, .int .i64 k, .pointer (some ⟨q, 0, none⟩), p5, p6, p7, p8, p9, p10, p11, p12, p13, p14, p15, p16, p17, p18, p19, p20, p21, p22, p23, p24, p25, p26, p27, p28, p29, p30, p31, p32, p33, p34, p35, p36, p37, p38, p39, p40, v0, v1, v2, v3, v4, v5, v6, v7, p49, p50], []⟩ W := by
  refine regionJ (by kernel_rfl) 8 (fun t : Nat → Value => #[p0, .pointer (some ⟨s, 0, none⟩), p2, .int .i64 k, .pointer (some ⟨q, 0, none⟩), p5, p6, p7, p8, p9, p10, p11, p12, p13, p14, p15, p16, p17, p18, p19, p20, p21, p22, p23, p24, p25, p26, p27, p28, p29, p30, p31, p32, p33, p34, p35, p36, p37, p38, p39, p40, t 0, t 1, t 2, t 3, t 4, t 5, t 6, t 7, p49, p50]) (fun j => match j with | 0 => v0 | 1 => v1 | 2 => v2 | 3 => v3 | 4 => v4 | 5 => v5 | 6 => v6 | _ => v7) (copyReg11G s q g n cap k a c y W) (fun a1 X => ∃ (t : Nat → Value) (ad' : Option Addr) (cap' b' : Nat) (Y : World), a1 = ⟨#[p0, .pointer (some ⟨s, 0, none⟩), p2, .int .i64 k, .pointer (some ⟨q, 0, none⟩), p5, p6, p7, p8, p9, p10, p11, p12, p13, p14, p15, p16, p17, p18, p19, p20, p21, p22, p23, p24, p25, p26, p27, p28, p29, p30, p31, p32, p33, p34, p35, p36, p37, p38, p39, p40, t 0, t 1, t 2, t 3, t 4, t 5, t 6, t 7, p49, p50], []⟩ ∧ X = Y.setCell ⟨g, k * 2 + 1, none⟩ (.slice ad' y.n cap') ∧ W.heap.size ≤ b' ∧ (y.n ≠ 0 → b' < Y.heap.size) ∧ IntsOwn Y b' (b' + 1) ad' y.n y.s ∧ Below W.heap.size W Y) (by kernel_rfl) (by kernel_rfl) (by kernel_rfl) ?_ rfl ?_ ?_ ?_
  · intro i v X Y hi1 h hb
    rcases (show i = 0 ∨ i = 1 ∨ i = 2 ∨ i = 3 ∨ i = 4 ∨ i = 5 ∨ i = 6 ∨ i = 7 by omega) with rfl | rfl | rfl | rfl | rfl | rfl | rfl | rfl
    · exact h
    · exact h
    · exact h
    · exact h
    · exact h
    · obtain ⟨ad', cap', b', e1, e2, e3, e4⟩ := h
      exact ⟨ad', cap', b', e1, e2, fun h0 => Nat.lt_of_lt_of_le (e3 h0) hb.size, e4.frP (FrP.of_below (P := fun _ => False) hb) (fun h0 => ⟨fun h => h, e3 h0⟩)⟩
    · exact h
    · exact h
  · intro i hi1 t X K hb hg1 hK
    rcases (show i = 0 ∨ i = 1 ∨ i = 2 ∨ i = 3 ∨ i = 4 ∨ i = 5 ∨ i = 6 ∨ i = 7 by omega) with rfl | rfl | rfl | rfl | rfl | rfl | rfl | rfl
    · have h := hK (.pointer (some ⟨s, 16, none⟩)) X rfl (Below.refl _ _)
      refine wpOp_of rfl rfl ?_
      clear hK hg1
      go_simp
      simpa [updT] using h
    · have e0 : t 0 = .pointer (some ⟨s, 16, none⟩) := hg1 0 ⟨_, rfl, ⟨0, .data⟩, by simp, rfl, rfl⟩
      have f1 := (hb.cell (p := ⟨s, 16, none⟩) hs).trans h1
      have h := hK (.slice (some ⟨g, 0, none⟩) n cap) X rfl (Below.refl _ _)
      refine wpOp_of rfl rfl ?_
      clear hK hg1
      go_simp
      simpa [updT, e0] using h
    · have h := hK (.int .i64 k) X rfl (Below.refl _ _)
      refine wpOp_of rfl rfl ?_
      clear hK hg1
      go_simp
      simpa [updT] using h
    · have h := hK (.pointer (some ⟨q, 1, none⟩)) X rfl (Below.refl _ _)
      refine wpOp_of rfl rfl ?_
      clear hK hg1
      go_simp
      simpa [updT] using h
    · have e3 : t 3 = .pointer (some ⟨q, 1, none⟩) := hg1 3 ⟨_, rfl, ⟨3, .data⟩, by simp, rfl, rfl⟩
      have f1 := (hb.cell (p := ⟨q, 1, none⟩) hq).trans h2
      have h := hK (.slice a y.n c) X rfl (Below.refl _ _)
      refine wpOp_of rfl rfl ?_
      clear hK hg1
      go_simp
      simpa [updT, e3] using h
    · have e4 : t 4 = .slice a y.n c := hg1 4 ⟨_, rfl, ⟨4, .data⟩, by simp, rfl, rfl⟩
      refine wpOp_of rfl rfl ?_
      have HK := hid hK
      have HI := hid (hin.below hb hhi)
      clear hK hg1 hin
      go_simp
      go_at_call 102
      refine (copyInts_own y.n y.s a c X lo hi (Nat.le_trans hhi hb.size) (by omega) HI.out).mono ?_
      rintro e Y ⟨ad', rfl, ho, hlt, hbY, _⟩
      have h := HK.out _ Y ⟨ad', y.n, X.heap.size, rfl, hb.size, hlt, ho⟩ hbY
      simpa [updT, e4] using h
    · have e1 : t 1 = .slice (some ⟨g, 0, none⟩) n cap := hg1 1 ⟨_, rfl, ⟨1, .data⟩, by simp, rfl, rfl⟩
      have e2 : t 2 = .int .i64 k := hg1 2 ⟨_, rfl, ⟨2, .data⟩, by simp, rfl, rfl⟩
      have h := hK (.pointer (some ⟨g, k * 2, none⟩)) X rfl (Below.refl _ _)
      refine wpOp_of rfl rfl ?_
      clear hK hg1
      go_simp
      simpa [updT, e1, e2] using h
    · have e6 : t 6 = .pointer (some ⟨g, k * 2, none⟩) := hg1 6 ⟨_, rfl, ⟨6, .data⟩, by simp, rfl, rfl⟩
      have h := hK (.pointer (some ⟨g, k * 2 + 1, none⟩)) X rfl (Below.refl _ _)
      refine wpOp_of rfl rfl ?_
      clear hK hg1
      go_simp
      simpa [updT, e6] using h
  · intro t X K hb hg1 hK
    have e7 : t 7 = .pointer (some ⟨g, k * 2 + 1, none⟩) := hg1 7 (by omega)
    obtain ⟨ad', cap', b', e5, k1, k2, k3⟩ : ∃ ad' cap' b', t 5 = .slice ad' y.n cap' ∧ W.heap.size ≤ b' ∧ (y.n ≠ 0 → b' < X.heap.size) ∧ IntsOwn X b' (b' + 1) ad' y.n y.s := hg1 5 (by omega)
    have f1 := (hb.cell (p := ⟨g, k * 2 + 1, none⟩) hg).trans hu
    have f2 := (hb.frozen (p := ⟨g, k * 2 + 1, none⟩) hg).trans hfz
    have h := hK _ (X.setCell ⟨g, k * 2 + 1, none⟩ (.slice ad' y.n cap')) ⟨t, ad', cap', b', X, rfl, rfl, k1, k2, k3, hb⟩
    refine wpOp_of rfl rfl ?_
    clear hK hg1
    go_simp
    simpa [e7, e5] using h
  · rintro a1 X ⟨t, ad', cap', b', Y, rfl, rfl, k1, k2, k3, k4⟩
    exact hQ t ad' cap' b' Y k1 k2 k3 k4
end Go.Proofs.YtokkbdlofbdljaaGreat
namespace Go.Proofs.YtokkbdlofbdljaaGreat
open Go.RowKit
/-- lists with no room behind them -/
structure RcTight (r : Rc) (A : RcA) : Prop where
  sc : A.sc = r.sf.n
  dc : A.dc = r.dk.n
  hc : A.hc = r.hn
  wc : A.wc = r.wn
  yc : A.yc = r.yn
  bc : A.bc = r.bn
  ac : A.ac = r.an
  da : r.dk.n = 0 → A.da = none
set_option maxRecDepth 100000 in
set_option maxHeartbeats 8000000 in
theorem copyDisk_own (d : Dk) (ad : Option Addr) (cap : Nat) (w : World) (lo hi : Nat) (hhi : hi ≤ w.heap.size) (hl : (d.n : Int) ≤ 1099511627776) (hc : SlsIn w lo hi ad d.n d.s) :
    Calls Tryz.prog 99 #[dkV d ad cap] w fun e w' => ∃ ad' b', e = .returned (dkV d ad' d.n) ∧ SlsAt w' ad' b' d.n d.s ∧ (d.n ≠ 0 → w.heap.size ≤ b' ∧ b' < w'.heap.size) ∧ Below w.heap.size w w' ∧ (d.n = 0 → ad' = none) := by
  have HC := hid hc
  clear hc
  go_enter Tryz.func99, Tryz.ntmps99
  go_wp2_with fail
  refine (copySls_own d.n d.s ad cap _ lo hi (by simp; omega) hl (HC.out.below (B := w.heap.size) ((below_alloc _ _).alloc (by simp) _) hhi)).mono ?_
  rintro e w1 ⟨ad', rfl, ho, hlt, hb, hn⟩
  have HN := hid hn
  clear hn
  simp only [World.size_alloc] at ho hlt
  obtain ⟨P1, R1, F1, F2⟩ := two_cell hb
  have hB : Below w.heap.size w w1 := ((below_alloc _ _).alloc (by simp) _).trans (hb.mono (by simp; omega))
  have hz : w.heap.size + 1 < w1.heap.size := by have := hb.size; simp at this; omega
  have HO := hid ho
  have HL := hid hlt
  have q0 : w1.cell? ⟨w.heap.size, 0, none⟩ = some (.int .i64 d.pr) := P1 0
  have q1 : w1.cell? ⟨w.heap.size, 1, none⟩ = some (.int .i64 d.kn) := P1 1
  have q2 : w1.cell? ⟨w.heap.size, 2, none⟩ = some (.slice ad d.n cap) := P1 2
  have s0 : w1.cell? ⟨w.heap.size + 1, 0, none⟩ = some (.int .i64 0) := R1 0
  have s1 : w1.cell? ⟨w.heap.size + 1, 1, none⟩ = some (.int .i64 0) := R1 1
  have s2 : w1.cell? ⟨w.heap.size + 1, 2, none⟩ = some (.slice none 0 0) := R1 2
  clear hb P1 R1 ho hlt
  go_wp2
  refine bodyPost_ret (v := dkV d ad' d.n) (by simp [results, Tryz.results99, go_sem, s0, s1, s2]) rfl ⟨ad', w.heap.size + 1 + 1, rfl, ?_, fun h0 => ?_, ?_, HN.out⟩
  · refine HO.out.frP (P := fun q => q = w.heap.size ∨ q = w.heap.size + 1) ?_ (fun h0 => ⟨by omega, HL.out h0⟩)
    iterate 4 refine FrP.setCell (P := fun q => q = w.heap.size ∨ q = w.heap.size + 1) ?_ (by simp) _
    exact FrP.refl _ _
  · have := HL.out h0
    simp only [World.size_setCell]
    exact ⟨by omega, this⟩
  · refine hB.trans (FrP.below (P := fun q => q = w.heap.size ∨ q = w.heap.size + 1) ?_ (fun k hk e => by omega) hB.size)
    iterate 4 refine FrP.setCell (P := fun q => q = w.heap.size ∨ q = w.heap.size + 1) ?_ (by simp) _
    exact FrP.refl _ _
set_option maxRecDepth 100000 in
set_option maxHeartbeats 8000000 in
theorem recCopy_any (r : Rc) (A : RcA) (w : World) (lo hi : Nat) (hhi : hi ≤ w.heap.size) (hm : RcSmall r) (hc : RcIn w lo hi r A) :
    Calls Tryz.prog 48 #[rcV r A] w fun e w' => ∃ p : RcP, e = .returned (rcV r p.A) ∧ RcAt w' r p ∧ RcTight r p.A ∧ (∀ k, rbs p r k → w.heap.size ≤ k) ∧ Below w.heap.size w w' := by
  have HM := hid hm
  have HI := hid hc
  obtain ⟨Ao, Co, so, sto⟩ := hc.as_.src
  have SO := hid so
  have HO := hid sto
  clear hm hc so sto
  go_enter Tryz.func48, Tryz.ntmps48
  go_wp2_with fail
  refine (copyDisk_own r.sf A.sa A.sc _ lo hi (by simp; omega) (by have := HM.out.sf; omega) (HI.out.below (B := w.heap.size) (((Below.refl _ _).alloc (Nat.le_refl _) _).alloc (by simp) _) hhi).sf).mono ?_
  rintro e w1 ⟨a0, g0, rfl, o0, l0, hb0, _⟩
  simp only [World.size_alloc] at o0 l0
  have hB0 : Below w.heap.size w w1 := (((Below.refl _ _).alloc (Nat.le_refl _) _).alloc (by simp) _).trans (hb0.mono (by simp; omega))
  obtain ⟨P1, R1, F1, F2⟩ := two_cell hb0
  have hz1 : w.heap.size + 1 + 1 ≤ w1.heap.size := by have := hb0.size; simp at this; omega
  have Q0 : Bx w1 w.heap.size #[.int .i64 r.num, .int .i64 r.of, .bool r.up, .int .i64 r.sf.pr, .int .i64 r.sf.kn, .slice A.sa r.sf.n A.sc, .int .i64 r.dk.pr, .int .i64 r.dk.kn, .slice A.da r.dk.n A.dc, .slice A.ha r.hn A.hc, .slice A.wa r.wn A.wc, .bool r.ld, .bool r.tr, .int .i64 r.bal, .slice A.ya r.yn A.yc, .slice A.ba r.bn A.bc, .slice A.aa r.an A.ac, .int .i64 r.hd] := ⟨P1, F1, by omega⟩
  have Z0 : Bx w1 (w.heap.size + 1) #[.int .i64 0, .int .i64 0, .bool false, .int .i64 0, .int .i64 0, .slice none 0 0, .int .i64 0, .int .i64 0, .slice none 0 0, .slice none 0 0, .slice none 0 0, .bool false, .bool false, .int .i64 0, .slice none 0 0, .slice none 0 0, .slice none 0 0, .int .i64 0] := ⟨R1, F2, by omega⟩
  clear hb0 P1 R1 F1 F2
  have O0_0 := hid o0
  have L0 := hid l0
  clear o0 l0
  have hBV0 : Below w.heap.size w (((w1.setCell ⟨w.heap.size, 3, none⟩ (.int .i64 r.sf.pr)).setCell ⟨w.heap.size, 4, none⟩ (.int .i64 r.sf.kn)).setCell ⟨w.heap.size, 5, none⟩ (.slice a0 r.sf.n r.sf.n)) := (((hB0.setCell (p := ⟨w.heap.size, 3, none⟩) (Nat.le_refl _) (.int .i64 r.sf.pr)).setCell (p := ⟨w.heap.size, 4, none⟩) (Nat.le_refl _) (.int .i64 r.sf.kn)).setCell (p := ⟨w.heap.size, 5, none⟩) (Nat.le_refl _) (.slice a0 r.sf.n r.sf.n))
  obtain ⟨p0, p1, p2, p3, p4, p5, p6, p7, p8, p9, p10, p11, p12, p13, p14, p15, p16, p17⟩ := holds18 Q0.cell
  have qf := Q0.free
  go_wp2_with fail
  refine (copyDisk_own r.dk A.da A.dc _ lo hi (by simp only [World.size_setCell]; omega) (by have := HM.out.dk; omega) (HI.out.below (B := w.heap.size) hBV0 hhi).dk).mono ?_
  clear p0 p1 p2 p3 p4 p5 p6 p7 p8 p9 p10 p11 p12 p13 p14 p15 p16 p17 qf
  rintro e w2 ⟨a1, g1, rfl, o1, l1, hb1, n1⟩
  simp only [World.size_setCell] at o1 l1
  have hx1 : Below w1.heap.size (((w1.setCell ⟨w.heap.size, 3, none⟩ (.int .i64 r.sf.pr)).setCell ⟨w.heap.size, 4, none⟩ (.int .i64 r.sf.kn)).setCell ⟨w.heap.size, 5, none⟩ (.slice a0 r.sf.n r.sf.n)) w2 := hb1.mono (by simp only [World.size_setCell]; exact Nat.le_refl _)
  have fr1 : FrP (fun q => q = w.heap.size) w1 w2 := ((((FrP.refl (fun q => q = w.heap.size) w1).setCell (p := ⟨w.heap.size, 3, none⟩) rfl (.int .i64 r.sf.pr)).setCell (p := ⟨w.heap.size, 4, none⟩) rfl (.int .i64 r.sf.kn)).setCell (p := ⟨w.heap.size, 5, none⟩) rfl (.slice a0 r.sf.n r.sf.n)).trans (FrP.of_below (hx1.mono (by simp only [World.size_setCell]; exact Nat.le_refl _)))
  have hB1 : Below w.heap.size w w2 := hBV0.trans (hx1.mono (by omega))
  have hz2 : w1.heap.size ≤ w2.heap.size := fr1.size
  have Q1 : Bx w2 w.heap.size #[.int .i64 r.num, .int .i64 r.of, .bool r.up, .int .i64 r.sf.pr, .int .i64 r.sf.kn, .slice a0 r.sf.n r.sf.n, .int .i64 r.dk.pr, .int .i64 r.dk.kn, .slice A.da r.dk.n A.dc, .slice A.ha r.hn A.hc, .slice A.wa r.wn A.wc, .bool r.ld, .bool r.tr, .int .i64 r.bal, .slice A.ya r.yn A.yc, .slice A.ba r.bn A.bc, .slice A.aa r.an A.ac, .int .i64 r.hd] := (((((((Q0).to (hset3 (Q0).cell (.int .i64 r.sf.pr)))).to (hset4 (((Q0).to (hset3 (Q0).cell (.int .i64 r.sf.pr)))).cell (.int .i64 r.sf.kn)))).to (hset5 (((((Q0).to (hset3 (Q0).cell (.int .i64 r.sf.pr)))).to (hset4 (((Q0).to (hset3 (Q0).cell (.int .i64 r.sf.pr)))).cell (.int .i64 r.sf.kn)))).cell (.slice a0 r.sf.n r.sf.n)))).below hx1 (by omega)
  have Z1 : Bx w2 (w.heap.size + 1) #[.int .i64 0, .int .i64 0, .bool false, .int .i64 0, .int .i64 0, .slice none 0 0, .int .i64 0, .int .i64 0, .slice none 0 0, .slice none 0 0, .slice none 0 0, .bool false, .bool false, .int .i64 0, .slice none 0 0, .slice none 0 0, .slice none 0 0, .int .i64 0] := Z0.frP fr1 (by omega)
  have O0_1 := hid (O0_0.out.frP fr1 (fun h0 => ⟨by have := L0.out h0; omega, by have := L0.out h0; omega⟩))
  clear hb1 hx1 fr1 Q0 Z0 hBV0 hB0 O0_0
  have N1 := hid n1
  clear n1
  have O1_1 := hid o1
  have L1 := hid l1
  clear o1 l1
  have hBV1 : Below w.heap.size w (((w2.setCell ⟨w.heap.size, 6, none⟩ (.int .i64 r.dk.pr)).setCell ⟨w.heap.size, 7, none⟩ (.int .i64 r.dk.kn)).setCell ⟨w.heap.size, 8, none⟩ (.slice a1 r.dk.n r.dk.n)) := (((hB1.setCell (p := ⟨w.heap.size, 6, none⟩) (Nat.le_refl _) (.int .i64 r.dk.pr)).setCell (p := ⟨w.heap.size, 7, none⟩) (Nat.le_refl _) (.int .i64 r.dk.kn)).setCell (p := ⟨w.heap.size, 8, none⟩) (Nat.le_refl _) (.slice a1 r.dk.n r.dk.n))
  obtain ⟨p0, p1, p2, p3, p4, p5, p6, p7, p8, p9, p10, p11, p12, p13, p14, p15, p16, p17⟩ := holds18 Q1.cell
  have qf := Q1.free
  go_wp2_with fail
  refine (copyMss_own r.hn r.hs A.ha A.hc _ lo hi (by simp only [World.size_setCell]; omega) HM.out.hn HM.out.hs (HI.out.below (B := w.heap.size) hBV1 hhi).hs).mono ?_
  clear p0 p1 p2 p3 p4 p5 p6 p7 p8 p9 p10 p11 p12 p13 p14 p15 p16 p17 qf
  rintro e w3 ⟨a2, A2, C2, h2, rfl, o2, l2, hb2⟩
  simp only [World.size_setCell] at o2 l2
  have hx2 : Below w2.heap.size (((w2.setCell ⟨w.heap.size, 6, none⟩ (.int .i64 r.dk.pr)).setCell ⟨w.heap.size, 7, none⟩ (.int .i64 r.dk.kn)).setCell ⟨w.heap.size, 8, none⟩ (.slice a1 r.dk.n r.dk.n)) w3 := hb2.mono (by simp only [World.size_setCell]; exact Nat.le_refl _)
  have fr2 : FrP (fun q => q = w.heap.size) w2 w3 := ((((FrP.refl (fun q => q = w.heap.size) w2).setCell (p := ⟨w.heap.size, 6, none⟩) rfl (.int .i64 r.dk.pr)).setCell (p := ⟨w.heap.size, 7, none⟩) rfl (.int .i64 r.dk.kn)).setCell (p := ⟨w.heap.size, 8, none⟩) rfl (.slice a1 r.dk.n r.dk.n)).trans (FrP.of_below (hx2.mono (by simp only [World.size_setCell]; exact Nat.le_refl _)))
  have hB2 : Below w.heap.size w w3 := hBV1.trans (hx2.mono (by omega))
  have hz3 : w2.heap.size ≤ w3.heap.size := fr2.size
  have Q2 : Bx w3 w.heap.size #[.int .i64 r.num, .int .i64 r.of, .bool r.up, .int .i64 r.sf.pr, .int .i64 r.sf.kn, .slice a0 r.sf.n r.sf.n, .int .i64 r.dk.pr, .int .i64 r.dk.kn, .slice a1 r.dk.n r.dk.n, .slice A.ha r.hn A.hc, .slice A.wa r.wn A.wc, .bool r.ld, .bool r.tr, .int .i64 r.bal, .slice A.ya r.yn A.yc, .slice A.ba r.bn A.bc, .slice A.aa r.an A.ac, .int .i64 r.hd] := (((((((Q1).to (hset6 (Q1).cell (.int .i64 r.dk.pr)))).to (hset7 (((Q1).to (hset6 (Q1).cell (.int .i64 r.dk.pr)))).cell (.int .i64 r.dk.kn)))).to (hset8 (((((Q1).to (hset6 (Q1).cell (.int .i64 r.dk.pr)))).to (hset7 (((Q1).to (hset6 (Q1).cell (.int .i64 r.dk.pr)))).cell (.int .i64 r.dk.kn)))).cell (.slice a1 r.dk.n r.dk.n)))).below hx2 (by omega)
  have Z2 : Bx w3 (w.heap.size + 1) #[.int .i64 0, .int .i64 0, .bool false, .int .i64 0, .int .i64 0, .slice none 0 0, .int .i64 0, .int .i64 0, .slice none 0 0, .slice none 0 0, .slice none 0 0, .bool false, .bool false, .int .i64 0, .slice none 0 0, .slice none 0 0, .slice none 0 0, .int .i64 0] := Z1.frP fr2 (by omega)
  have O0_2 := hid (O0_1.out.frP fr2 (fun h0 => ⟨by have := L0.out h0; omega, by have := L0.out h0; omega⟩))
  have O1_2 := hid (O1_1.out.frP fr2 (fun h0 => ⟨by have := L1.out h0; omega, by have := L1.out h0; omega⟩))
  clear hb2 hx2 fr2 Q1 Z1 hBV1 hB1 O0_1 O1_1
  have O2_2 := hid o2
  have L2 := hid l2
  clear o2 l2
  have hBV2 : Below w.heap.size w (w3.setCell ⟨w.heap.size, 9, none⟩ (.slice a2 r.hn r.hn)) := (hB2.setCell (p := ⟨w.heap.size, 9, none⟩) (Nat.le_refl _) (.slice a2 r.hn r.hn))
  obtain ⟨p0, p1, p2, p3, p4, p5, p6, p7, p8, p9, p10, p11, p12, p13, p14, p15, p16, p17⟩ := holds18 Q2.cell
  have qf := Q2.free
  go_wp2_with fail
  refine (copyStrs_own r.wn r.ws A.wa A.wc _ lo hi (by simp only [World.size_setCell]; omega) (by have := HM.out.wn; omega) (HI.out.below (B := w.heap.size) hBV2 hhi).ws).mono ?_
  clear p0 p1 p2 p3 p4 p5 p6 p7 p8 p9 p10 p11 p12 p13 p14 p15 p16 p17 qf
  rintro e w4 ⟨a3, rfl, o3, l3, hb3, _⟩
  simp only [World.size_setCell] at o3 l3
  have hx3 : Below w3.heap.size (w3.setCell ⟨w.heap.size, 9, none⟩ (.slice a2 r.hn r.hn)) w4 := hb3.mono (by simp only [World.size_setCell]; exact Nat.le_refl _)
  have fr3 : FrP (fun q => q = w.heap.size) w3 w4 := ((FrP.refl (fun q => q = w.heap.size) w3).setCell (p := ⟨w.heap.size, 9, none⟩) rfl (.slice a2 r.hn r.hn)).trans (FrP.of_below (hx3.mono (by simp only [World.size_setCell]; exact Nat.le_refl _)))
  have hB3 : Below w.heap.size w w4 := hBV2.trans (hx3.mono (by omega))
  have hz4 : w3.heap.size ≤ w4.heap.size := fr3.size
  have Q3 : Bx w4 w.heap.size #[.int .i64 r.num, .int .i64 r.of, .bool r.up, .int .i64 r.sf.pr, .int .i64 r.sf.kn, .slice a0 r.sf.n r.sf.n, .int .i64 r.dk.pr, .int .i64 r.dk.kn, .slice a1 r.dk.n r.dk.n, .slice a2 r.hn r.hn, .slice A.wa r.wn A.wc, .bool r.ld, .bool r.tr, .int .i64 r.bal, .slice A.ya r.yn A.yc, .slice A.ba r.bn A.bc, .slice A.aa r.an A.ac, .int .i64 r.hd] := (((Q2).to (hset9 (Q2).cell (.slice a2 r.hn r.hn)))).below hx3 (by omega)
  have Z3 : Bx w4 (w.heap.size + 1) #[.int .i64 0, .int .i64 0, .bool false, .int .i64 0, .int .i64 0, .slice none 0 0, .int .i64 0, .int .i64 0, .slice none 0 0, .slice none 0 0, .slice none 0 0, .bool false, .bool false, .int .i64 0, .slice none 0 0, .slice none 0 0, .slice none 0 0, .int .i64 0] := Z2.frP fr3 (by omega)
  have O0_3 := hid (O0_2.out.frP fr3 (fun h0 => ⟨by have := L0.out h0; omega, by have := L0.out h0; omega⟩))
  have O1_3 := hid (O1_2.out.frP fr3 (fun h0 => ⟨by have := L1.out h0; omega, by have := L1.out h0; omega⟩))
  have O2_3 := hid (O2_2.out.fr fr3 (fun k hk e => by have := L2.out k hk; omega))
  clear hb3 hx3 fr3 Q2 Z2 hBV2 hB2 O0_2 O1_2 O2_2
  have O3_3 := hid o3
  have L3 := hid l3
  clear o3 l3
  have hBV3 : Below w.heap.size w (w4.setCell ⟨w.heap.size, 10, none⟩ (.slice a3 r.wn r.wn)) := (hB3.setCell (p := ⟨w.heap.size, 10, none⟩) (Nat.le_refl _) (.slice a3 r.wn r.wn))
  obtain ⟨p0, p1, p2, p3, p4, p5, p6, p7, p8, p9, p10, p11, p12, p13, p14, p15, p16, p17⟩ := holds18 Q3.cell
  have qf := Q3.free
  go_wp2_with fail
  refine (copyInts_own r.yn r.ys A.ya A.yc _ lo hi (by simp only [World.size_setCell]; omega) (by have := HM.out.yn; omega) (HI.out.below (B := w.heap.size) hBV3 hhi).ys).mono ?_
  clear p0 p1 p2 p3 p4 p5 p6 p7 p8 p9 p10 p11 p12 p13 p14 p15 p16 p17 qf
  rintro e w5 ⟨a4, rfl, o4, l4, hb4, _⟩
  simp only [World.size_setCell] at o4 l4
  have hx4 : Below w4.heap.size (w4.setCell ⟨w.heap.size, 10, none⟩ (.slice a3 r.wn r.wn)) w5 := hb4.mono (by simp only [World.size_setCell]; exact Nat.le_refl _)
  have fr4 : FrP (fun q => q = w.heap.size) w4 w5 := ((FrP.refl (fun q => q = w.heap.size) w4).setCell (p := ⟨w.heap.size, 10, none⟩) rfl (.slice a3 r.wn r.wn)).trans (FrP.of_below (hx4.mono (by simp only [World.size_setCell]; exact Nat.le_refl _)))
  have hB4 : Below w.heap.size w w5 := hBV3.trans (hx4.mono (by omega))
  have hz5 : w4.heap.size ≤ w5.heap.size := fr4.size
  have Q4 : Bx w5 w.heap.size #[.int .i64 r.num, .int .i64 r.of, .bool r.up, .int .i64 r.sf.pr, .int .i64 r.sf.kn, .slice a0 r.sf.n r.sf.n, .int .i64 r.dk.pr, .int .i64 r.dk.kn, .slice a1 r.dk.n r.dk.n, .slice a2 r.hn r.hn, .slice a3 r.wn r.wn, .bool r.ld, .bool r.tr, .int .i64 r.bal, .slice A.ya r.yn A.yc, .slice A.ba r.bn A.bc, .slice A.aa r.an A.ac, .int .i64 r.hd] := (((Q3).to (hset10 (Q3).cell (.slice a3 r.wn r.wn)))).below hx4 (by omega)
  have Z4 : Bx w5 (w.heap.size + 1) #[.int .i64 0, .int .i64 0, .bool false, .int .i64 0, .int .i64 0, .slice none 0 0, .int .i64 0, .int .i64 0, .slice none 0 0, .slice none 0 0, .slice none 0 0, .bool false, .bool false, .int .i64 0, .slice none 0 0, .slice none 0 0, .slice none 0 0, .int .i64 0] := Z3.frP fr4 (by omega)
  have O0_4 := hid (O0_3.out.frP fr4 (fun h0 => ⟨by have := L0.out h0; omega, by have := L0.out h0; omega⟩))
  have O1_4 := hid (O1_3.out.frP fr4 (fun h0 => ⟨by have := L1.out h0; omega, by have := L1.out h0; omega⟩))
  have O2_4 := hid (O2_3.out.fr fr4 (fun k hk e => by have := L2.out k hk; omega))
  have O3_4 := hid (O3_3.out.frP fr4 (fun h0 => ⟨by omega, by have := L3.out h0; omega⟩))
  clear hb4 hx4 fr4 Q3 Z3 hBV3 hB3 O0_3 O1_3 O2_3 O3_3
  have O4_4 := hid o4
  have L4 := hid l4
  clear o4 l4
  have hBV4 : Below w.heap.size w (w5.setCell ⟨w.heap.size, 14, none⟩ (.slice a4 r.yn r.yn)) := (hB4.setCell (p := ⟨w.heap.size, 14, none⟩) (Nat.le_refl _) (.slice a4 r.yn r.yn))
  obtain ⟨p0, p1, p2, p3, p4, p5, p6, p7, p8, p9, p10, p11, p12, p13, p14, p15, p16, p17⟩ := holds18 Q4.cell
  have qf := Q4.free
  go_wp2_with fail
  refine (copySls_own r.bn r.bs A.ba A.bc _ lo hi (by simp only [World.size_setCell]; omega) (by have := HM.out.bn; omega) (HI.out.below (B := w.heap.size) hBV4 hhi).bs).mono ?_
  clear p0 p1 p2 p3 p4 p5 p6 p7 p8 p9 p10 p11 p12 p13 p14 p15 p16 p17 qf
  rintro e w6 ⟨a5, rfl, o5, l5, hb5, _⟩
  simp only [World.size_setCell] at o5 l5
  have hx5 : Below w5.heap.size (w5.setCell ⟨w.heap.size, 14, none⟩ (.slice a4 r.yn r.yn)) w6 := hb5.mono (by simp only [World.size_setCell]; exact Nat.le_refl _)
  have fr5 : FrP (fun q => q = w.heap.size) w5 w6 := ((FrP.refl (fun q => q = w.heap.size) w5).setCell (p := ⟨w.heap.size, 14, none⟩) rfl (.slice a4 r.yn r.yn)).trans (FrP.of_below (hx5.mono (by simp only [World.size_setCell]; exact Nat.le_refl _)))
  have hB5 : Below w.heap.size w w6 := hBV4.trans (hx5.mono (by omega))
  have hz6 : w5.heap.size ≤ w6.heap.size := fr5.size
  have Q5 : Bx w6 w.heap.size #[.int .i64 r.num, .int .i64 r.of, .bool r.up, .int .i64 r.sf.pr, .int .i64 r.sf.kn, .slice a0 r.sf.n r.sf.n, .int .i64 r.dk.pr, .int .i64 r.dk.kn, .slice a1 r.dk.n r.dk.n, .slice a2 r.hn r.hn, .slice a3 r.wn r.wn, .bool r.ld, .bool r.tr, .int .i64 r.bal, .slice a4 r.yn r.yn, .slice A.ba r.bn A.bc, .slice A.aa r.an A.ac, .int .i64 r.hd] := (((Q4).to (hset14 (Q4).cell (.slice a4 r.yn r.yn)))).below hx5 (by omega)
  have Z5 : Bx w6 (w.heap.size + 1) #[.int .i64 0, .int .i64 0, .bool false, .int .i64 0, .int .i64 0, .slice none 0 0, .int .i64 0, .int .i64 0, .slice none 0 0, .slice none 0 0, .slice none 0 0, .bool false, .bool false, .int .i64 0, .slice none 0 0, .slice none 0 0, .slice none 0 0, .int .i64 0] := Z4.frP fr5 (by omega)
  have O0_5 := hid (O0_4.out.frP fr5 (fun h0 => ⟨by have := L0.out h0; omega, by have := L0.out h0; omega⟩))
  have O1_5 := hid (O1_4.out.frP fr5 (fun h0 => ⟨by have := L1.out h0; omega, by have := L1.out h0; omega⟩))
  have O2_5 := hid (O2_4.out.fr fr5 (fun k hk e => by have := L2.out k hk; omega))
  have O3_5 := hid (O3_4.out.frP fr5 (fun h0 => ⟨by omega, by have := L3.out h0; omega⟩))
  have O4_5 := hid (O4_4.out.frP fr5 (fun h0 => ⟨by omega, by have := L4.out h0; omega⟩))
  clear hb5 hx5 fr5 Q4 Z4 hBV4 hB4 O0_4 O1_4 O2_4 O3_4 O4_4
  have O5_5 := hid o5
  have L5 := hid l5
  clear o5 l5
  have hBV5 : Below w.heap.size w (w6.setCell ⟨w.heap.size, 15, none⟩ (.slice a5 r.bn r.bn)) := (hB5.setCell (p := ⟨w.heap.size, 15, none⟩) (Nat.le_refl _) (.slice a5 r.bn r.bn))
  obtain ⟨p0, p1, p2, p3, p4, p5, p6, p7, p8, p9, p10, p11, p12, p13, p14, p15, p16, p17⟩ := holds18 Q5.cell
  have qf := Q5.free
  go_wp2_with fail
  refine (copyAks_row r.an _ A.aa A.ac _ lo hi (by simp only [World.size_setCell]; omega) (by have := HM.out.an; omega) (SO.out.below hBV5 hhi)).mono ?_
  clear p0 p1 p2 p3 p4 p5 p6 p7 p8 p9 p10 p11 p12 p13 p14 p15 p16 p17 qf
  rintro e w7 ⟨a6, rfl, _, hr6, hb6⟩
  simp only [World.size_setCell] at hr6
  have hx6 : Below w6.heap.size (w6.setCell ⟨w.heap.size, 15, none⟩ (.slice a5 r.bn r.bn)) w7 := hb6.mono (by simp only [World.size_setCell]; exact Nat.le_refl _)
  have fr6 : FrP (fun q => q = w.heap.size) w6 w7 := ((FrP.refl (fun q => q = w.heap.size) w6).setCell (p := ⟨w.heap.size, 15, none⟩) rfl (.slice a5 r.bn r.bn)).trans (FrP.of_below (hx6.mono (by simp only [World.size_setCell]; exact Nat.le_refl _)))
  have hB6 : Below w.heap.size w w7 := hBV5.trans (hx6.mono (by omega))
  have hz7 : w6.heap.size ≤ w7.heap.size := fr6.size
  have Q6 : Bx w7 w.heap.size #[.int .i64 r.num, .int .i64 r.of, .bool r.up, .int .i64 r.sf.pr, .int .i64 r.sf.kn, .slice a0 r.sf.n r.sf.n, .int .i64 r.dk.pr, .int .i64 r.dk.kn, .slice a1 r.dk.n r.dk.n, .slice a2 r.hn r.hn, .slice a3 r.wn r.wn, .bool r.ld, .bool r.tr, .int .i64 r.bal, .slice a4 r.yn r.yn, .slice a5 r.bn r.bn, .slice A.aa r.an A.ac, .int .i64 r.hd] := (((Q5).to (hset15 (Q5).cell (.slice a5 r.bn r.bn)))).below hx6 (by omega)
  have Z6 : Bx w7 (w.heap.size + 1) #[.int .i64 0, .int .i64 0, .bool false, .int .i64 0, .int .i64 0, .slice none 0 0, .int .i64 0, .int .i64 0, .slice none 0 0, .slice none 0 0, .slice none 0 0, .bool false, .bool false, .int .i64 0, .slice none 0 0, .slice none 0 0, .slice none 0 0, .int .i64 0] := Z5.frP fr6 (by omega)
  have O0_6 := hid (O0_5.out.frP fr6 (fun h0 => ⟨by have := L0.out h0; omega, by have := L0.out h0; omega⟩))
  have O1_6 := hid (O1_5.out.frP fr6 (fun h0 => ⟨by have := L1.out h0; omega, by have := L1.out h0; omega⟩))
  have O2_6 := hid (O2_5.out.fr fr6 (fun k hk e => by have := L2.out k hk; omega))
  have O3_6 := hid (O3_5.out.frP fr6 (fun h0 => ⟨by omega, by have := L3.out h0; omega⟩))
  have O4_6 := hid (O4_5.out.frP fr6 (fun h0 => ⟨by omega, by have := L4.out h0; omega⟩))
  have O5_6 := hid (O5_5.out.frP fr6 (fun h0 => ⟨by have := L5.out h0; omega, by have := L5.out h0; omega⟩))
  clear hb6 hx6 fr6 Q5 Z5 hBV5 hB5 O0_5 O1_5 O2_5 O3_5 O4_5 O5_5
  have HR6 := hid hr6
  clear hr6
  have hBV6 : Below w.heap.size w (w7.setCell ⟨w.heap.size, 16, none⟩ (.slice a6 r.an r.an)) := (hB6.setCell (p := ⟨w.heap.size, 16, none⟩) (Nat.le_refl _) (.slice a6 r.an r.an))
  obtain ⟨p0, p1, p2, p3, p4, p5, p6, p7, p8, p9, p10, p11, p12, p13, p14, p15, p16, p17⟩ := holds18 Q6.cell
  have qf := Q6.free
  have hx7 : FrP (fun q => q = w.heap.size ∨ q = w6.heap.size) w7 (w7.setCell ⟨w.heap.size, 16, none⟩ (.slice a6 r.an r.an)) := (FrP.refl _ _).setCell (p := ⟨w.heap.size, 16, none⟩) (Or.inl rfl) (.slice a6 r.an r.an)
  have Q7 : Bx (w7.setCell ⟨w.heap.size, 16, none⟩ (.slice a6 r.an r.an)) w.heap.size #[.int .i64 r.num, .int .i64 r.of, .bool r.up, .int .i64 r.sf.pr, .int .i64 r.sf.kn, .slice a0 r.sf.n r.sf.n, .int .i64 r.dk.pr, .int .i64 r.dk.kn, .slice a1 r.dk.n r.dk.n, .slice a2 r.hn r.hn, .slice a3 r.wn r.wn, .bool r.ld, .bool r.tr, .int .i64 r.bal, .slice a4 r.yn r.yn, .slice a5 r.bn r.bn, .slice a6 r.an r.an, .int .i64 r.hd] := Q6.to (hset16 Q6.cell (.slice a6 r.an r.an))
  have HA6 : Hid (0 < r.an → a6 = some ⟨w6.heap.size, 0, none⟩) := fun h0 => (HR6.out h0).1
  have cp0 : CpAk (w7.setCell ⟨w.heap.size, 16, none⟩ (.slice a6 r.an r.an)) w6.heap.size r.an 0 r.as_ Ao Ao Co (fun _ => 0) :=
    ⟨fun h0 => ⟨_, (HR6.out h0).2.fr (P := fun q => q = w.heap.size) ((FrP.refl (fun q => q = w.heap.size) w7).setCell (p := ⟨w.heap.size, 16, none⟩) rfl _) (by omega), fun i _ => akR_at r.as_ Ao Co i⟩, fun _ _ _ => rfl, fun i hi => absurd hi (Nat.not_lt_zero _), fun i hi => absurd hi (Nat.not_lt_zero _), fun i j hi => absurd hi (Nat.not_lt_zero _)⟩
  have HX7 := hid hx7
  have HQ7 := hid Q7
  have HCP := hid cp0
  have HZ6 := hid Z6
  clear hx7 Q7 cp0 Z6 Q6
  go_wp2
  clear p0 p1 p2 p3 p4 p5 p6 p7 p8 p9 p10 p11 p12 p13 p14 p15 p16 p17 qf
  go_loopw [36] (fun i wr => ∃ (k : Nat) (A' : Nat → Option Addr) (C' hb : Nat → Nat), k ≤ r.an ∧ i = .int .i64 k ∧ Below w.heap.size w wr ∧ FrP (fun q => q = w.heap.size ∨ q = w6.heap.size) w7 wr ∧ Bx wr w.heap.size #[.int .i64 r.num, .int .i64 r.of, .bool r.up, .int .i64 r.sf.pr, .int .i64 r.sf.kn, .slice a0 r.sf.n r.sf.n, .int .i64 r.dk.pr, .int .i64 r.dk.kn, .slice a1 r.dk.n r.dk.n, .slice a2 r.hn r.hn, .slice a3 r.wn r.wn, .bool r.ld, .bool r.tr, .int .i64 r.bal, .slice a4 r.yn r.yn, .slice a5 r.bn r.bn, .slice a6 r.an r.an, .int .i64 r.hd] ∧ CpAk wr w6.heap.size r.an k r.as_ Ao A' C' hb) (fun i _ => r.an - (intOf i).toNat)
  case atStart => exact ⟨0, _, _, _, Nat.zero_le _, rfl, hBV6, HX7.out, HQ7.out, HCP.out⟩
  case round =>
    obtain ⟨k, A', C', hb, hk, rfl, b0, fx, bx, cp⟩ := hrel
    clear HX7 HQ7 HCP
    by_cases hkn : k < r.an
    · obtain ⟨c, rr, hat⟩ := cp.row (by omega)
      have hA := HA6.out (by omega)
      subst hA
      obtain ⟨t0, t1⟩ := hat k hkn
      have d0 := (rr.cell (k * 2) (by omega)).trans (congrArg some t0)
      have d1 := (rr.cell (k * 2 + 1) (by omega)).trans (congrArg some t1)
      have hsrc := HO.out k hkn
      rw [← cp.src k (Nat.le_refl _) hkn] at hsrc
      have HSR := hid hsrc
      have hfk : Hid (((r.as_ k).n : Int) ≤ 1048576) := HM.out.as_ k hkn
      have hnn : Hid ((r.an : Int) ≤ 1048576) := HM.out.an
      have CP := hid cp
      have RR := hid rr
      have BX := hid bx
      have FX := hid fx
      have hwz : w6.heap.size < wr.heap.size := rr.lt
      have hsz := bx.lt
      have hle : w.heap.size + 1 + 1 ≤ w6.heap.size := by omega
      obtain ⟨p0, p1, p2, p3, p4, p5, p6, p7, p8, p9, p10, p11, p12, p13, p14, p15, p16, p17⟩ := holds18 bx.cell
      clear t0 t1 hsrc cp rr hat bx fx
      go_wp2
      refine copyReg11 _ _ _ _ _ _ _ _ _ _ _ _ _ _ _ _ _ _ _ _ _ _ _ _ _ _ _ _ _ _ _ _ _ _ _ _ _ _ _ _ _ _ _ _ _ _ _ _ w.heap.size wr.heap.size w6.heap.size r.an r.an k (A' k) (C' k) (r.as_ k) _ lo hi ?h1 ?h2 (by simp; omega) (by simp) (by simp; omega) (by simp; omega) hfk.out hnn.out (HSR.out.below (b0.alloc b0.size _) hhi) hkn (.slice (A' k) (r.as_ k).n (C' k)) ?hu ?hfz _ ?hQ
      case h1 => exact ((below_alloc wr _).cell (p := ⟨w.heap.size, 16, none⟩) hsz).trans p16
      case h2 => exact holds_new wr _ _ 1
      case hu => exact ((below_alloc wr _).cell (p := ⟨w6.heap.size, k * 2 + 1, none⟩) hwz).trans d1
      case hfz => exact ((below_alloc wr _).frozen (p := ⟨w6.heap.size, k * 2 + 1, none⟩) hwz).trans (RR.out.free _)
      case hQ =>
        intro t ad' cap' b' Y k1 k2 k3 k4
        have hY : Below wr.heap.size wr Y := (below_alloc wr _).trans (k4.mono (by simp))
        have CPP := hid (CP.out.put hkn hY (cap' := cap') (by simp at k1; omega) k2 k3)
        have HBB := hid ((b0.trans (hY.mono (by omega))).setCell (p := ⟨w6.heap.size, k * 2 + 1, none⟩) (by show w.heap.size ≤ w6.heap.size; omega) (.slice ad' (r.as_ k).n cap'))
        have HFX := hid ((FX.out.trans (FrP.of_below hY)).setCell (p := ⟨w6.heap.size, k * 2 + 1, none⟩) (Or.inr rfl) (.slice ad' (r.as_ k).n cap'))
        have HBX := hid ((BX.out.below hY hsz).frP ((FrP.refl (fun q => q = w6.heap.size) Y).setCell (p := ⟨w6.heap.size, k * 2 + 1, none⟩) rfl (.slice ad' (r.as_ k).n cap')) (by omega))
        have hn9 := hnn.out
        clear p0 p1 p2 p3 p4 p5 p6 p7 p8 p9 p10 p11 p12 p13 p14 p15 p16 p17 d0 d1 k1 k2 k3 k4 hY CP RR BX FX HSR
        go_wp2
        go_roundw
        case rel => exact ⟨k + 1, _, _, _, by omega, by go_num, HBB.out, HFX.out, HBX.out, CPP.out⟩
        case measure => simp [intOf]; omega
    · have hke : k = r.an := by omega
      have HRG := hid (Holds.range (cs := [.int .i64 r.num, .int .i64 r.of, .bool r.up, .int .i64 r.sf.pr, .int .i64 r.sf.kn, .slice a0 r.sf.n r.sf.n, .int .i64 r.dk.pr, .int .i64 r.dk.kn, .slice a1 r.dk.n r.dk.n, .slice a2 r.hn r.hn, .slice a3 r.wn r.wn, .bool r.ld, .bool r.tr, .int .i64 r.bal, .slice a4 r.yn r.yn, .slice a5 r.bn r.bn, .slice a6 r.an r.an, .int .i64 r.hd]) bx.cell)
      have HTH : Hid (wr.there (w.heap.size + 1) 0 18) := (HZ6.out.frP fx (by omega)).there
      have CPO := hid cp
      have FX := hid fx
      subst hke
      have hzz := fx.size
      have hsz := bx.lt
      have hzr := (HZ6.out.frP fx (by omega)).lt
      clear bx cp fx
      go_wp2_with (first | ((with_reducible show wpList _ _ _ (⟨some 50, Op.load 38 _, _, _, _, _⟩ :: _) _ _); refine wpList_load_mid rfl 38 _ rfl w.heap.size 0 rfl [.int .i64 r.num, .int .i64 r.of, .bool r.up, .int .i64 r.sf.pr, .int .i64 r.sf.kn, .slice a0 r.sf.n r.sf.n, .int .i64 r.dk.pr, .int .i64 r.dk.kn, .slice a1 r.dk.n r.dk.n, .slice a2 r.hn r.hn, .slice a3 r.wn r.wn, .bool r.ld, .bool r.tr, .int .i64 r.bal, .slice a4 r.yn r.yn, .slice a5 r.bn r.bn, .slice a6 r.an r.an, .int .i64 r.hd] _ HRG.out Tryz.underlying38 rfl Tryz.sz38 ?_) | ((with_reducible show wpList _ _ _ (⟨none, Op.store 38 _ _, _, _, _, _⟩ :: _) _ _); refine wpList_store_new rfl 38 _ _ rfl (w.heap.size + 1) [.int .i64 r.num, .int .i64 r.of, .bool r.up, .int .i64 r.sf.pr, .int .i64 r.sf.kn, .slice a0 r.sf.n r.sf.n, .int .i64 r.dk.pr, .int .i64 r.dk.kn, .slice a1 r.dk.n r.dk.n, .slice a2 r.hn r.hn, .slice a3 r.wn r.wn, .bool r.ld, .bool r.tr, .int .i64 r.bal, .slice a4 r.yn r.yn, .slice a5 r.bn r.bn, .slice a6 r.an r.an, .int .i64 r.hd] rfl rfl HTH.out Tryz.sz38 (by simp [Value.oneCell']) ?_; intro V hr hfv hsv; have HRV := hid hr; have HFV := hid hfv; have HSV := hid hsv; clear hr hfv hsv))
      have fv : FrP (fun q => q = w.heap.size + 1) wr V := FrP.of_fr HFV.out (fun k h1 h2 => by omega)
      have F8 : FrP (fun q => q = w.heap.size ∨ (q = w.heap.size + 1 ∨ q = w6.heap.size)) w7 V := (FX.out.mono (fun q hq => by rcases hq with h | h <;> simp [h])).trans (fv.mono (fun q hq => Or.inr (Or.inl hq)))
      refine bodyPost_ret (v := .agg #[.int .i64 r.num, .int .i64 r.of, .bool r.up, .int .i64 r.sf.pr, .int .i64 r.sf.kn, .slice a0 r.sf.n r.sf.n, .int .i64 r.dk.pr, .int .i64 r.dk.kn, .slice a1 r.dk.n r.dk.n, .slice a2 r.hn r.hn, .slice a3 r.wn r.wn, .bool r.ld, .bool r.tr, .int .i64 r.bal, .slice a4 r.yn r.yn, .slice a5 r.bn r.bn, .slice a6 r.an r.an, .int .i64 r.hd]) (results_cell_mid rfl _ _ (w.heap.size + 1) [.int .i64 r.num, .int .i64 r.of, .bool r.up, .int .i64 r.sf.pr, .int .i64 r.sf.kn, .slice a0 r.sf.n r.sf.n, .int .i64 r.dk.pr, .int .i64 r.dk.kn, .slice a1 r.dk.n r.dk.n, .slice a2 r.hn r.hn, .slice a3 r.wn r.wn, .bool r.ld, .bool r.tr, .int .i64 r.bal, .slice a4 r.yn r.yn, .slice a5 r.bn r.bn, .slice a6 r.an r.an, .int .i64 r.hd] _ rfl HRV.out Tryz.underlying38 rfl Tryz.sz38) rfl ⟨⟨⟨a0, a1, a2, a3, a4, a5, a6, r.sf.n, r.dk.n, r.hn, r.wn, r.yn, r.bn, r.an⟩, g0, g1, w2.heap.size, w3.heap.size, w4.heap.size, w5.heap.size, w6.heap.size, A2, C2, h2, A', C', hb⟩, rfl, ?_, ⟨rfl, rfl, rfl, rfl, rfl, rfl, rfl, N1.out⟩, ?_, ?_⟩
      · refine RcAt.ofRows (fun j => match j with | 0 => w.heap.size + 1 + 1 | 1 => w1.heap.size | 2 => w2.heap.size | 3 => w3.heap.size | 4 => w4.heap.size | 5 => w5.heap.size | 6 => w6.heap.size | _ => wr.heap.size) ?_ ?_ ?_ ?_ ?_ ?_ ?_ ?_ ?_ ?_
        · exact O0_6.out.frP F8 (fun h0 => ⟨by have := L0.out h0; omega, by have := L0.out h0; omega⟩)
        · exact O1_6.out.frP F8 (fun h0 => ⟨by have := L1.out h0; omega, by have := L1.out h0; omega⟩)
        · exact O2_6.out.fr F8 (fun k hk e => by have := L2.out k hk; omega)
        · exact O3_6.out.frP F8 (fun h0 => ⟨by have := L3.out h0; omega, by have := L3.out h0; omega⟩)
        · exact O4_6.out.frP F8 (fun h0 => ⟨by have := L4.out h0; omega, by have := L4.out h0; omega⟩)
        · exact O5_6.out.frP F8 (fun h0 => ⟨by have := L5.out h0; omega, by have := L5.out h0; omega⟩)
        · exact (CPO.out.done HA6.out).fr fv (fun k hk e => by have := CPO.out.rng hk; omega)
        · intro j hj
          rcases (show j = 0 ∨ j = 1 ∨ j = 2 ∨ j = 3 ∨ j = 4 ∨ j = 5 ∨ j = 6 by omega) with rfl | rfl | rfl | rfl | rfl | rfl | rfl
          · exact hz1
          · exact hz2
          · exact hz3
          · exact hz4
          · exact hz5
          · exact hz6
          · exact Nat.le_trans hz7 hzz
        · show wr.heap.size ≤ V.heap.size
          rw [HSV.out]
          exact Nat.le_refl _
        · intro j k hj hk
          rcases (show j = 0 ∨ j = 1 ∨ j = 2 ∨ j = 3 ∨ j = 4 ∨ j = 5 ∨ j = 6 by omega) with rfl | rfl | rfl | rfl | rfl | rfl | rfl
          · obtain ⟨h0, rfl⟩ := hk; exact L0.out h0
          · obtain ⟨h0, rfl⟩ := hk; exact L1.out h0
          · exact L2.out k hk
          · obtain ⟨h0, rfl⟩ := hk; exact ⟨Nat.le_refl _, L3.out h0⟩
          · obtain ⟨h0, rfl⟩ := hk; exact ⟨Nat.le_refl _, L4.out h0⟩
          · obtain ⟨h0, rfl⟩ := hk; exact ⟨Nat.le_refl _, L5.out h0⟩
          · exact CPO.out.rng hk
      · rintro k ⟨j, hj, hk⟩
        rcases (show j = 0 ∨ j = 1 ∨ j = 2 ∨ j = 3 ∨ j = 4 ∨ j = 5 ∨ j = 6 by omega) with rfl | rfl | rfl | rfl | rfl | rfl | rfl
        · obtain ⟨h0, rfl⟩ := hk; have h9 := L0.out h0; omega
        · obtain ⟨h0, rfl⟩ := hk; have h9 := L1.out h0; omega
        · have := L2.out k hk; omega
        · have h9 : k = w3.heap.size := hk.2; omega
        · have h9 : k = w4.heap.size := hk.2; omega
        · have h9 : k = w5.heap.size := hk.2; omega
        · have := CPO.out.rng hk; omega
      · exact b0.trans (fv.below (B := w.heap.size) (fun k hk e => by omega) (by omega))
end Go.Proofs.YtokkbdlofbdljaaGreat
