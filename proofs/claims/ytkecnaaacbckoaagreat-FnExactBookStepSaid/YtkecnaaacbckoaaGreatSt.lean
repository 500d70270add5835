import Derived.Test.YtkecnaaacbckoaaGreatLi
import Derived.Test.YtkecnaaacbckoaaGreatZj
import Derived.Test.YtkecnaaacbckoaaGreatGw
import Derived.Test.YtkecnaaacbckoaaGreatL
import Derived.Test.YtkecnaaacbckoaaGreatHj
import Derived.Test.YtkecnaaacbckoaaGreatSs
import Derived.Lib.MinMax
namespace Go.Proofs.YtkecnaaacbckoaaGreat
open Go.RowKit Go.Shelf
attribute [local go_sem] Oper.semAt_some
set_option maxRecDepth 100000 in
set_option maxHeartbeats 1000000 in
theorem implListNo_any (B : Bk) (a1 a2 a3 : Option Addr) (c1 c2 c3 : Nat) (ki pr : ByteArray) (w : World) (lo hi : Nat) (hhi : hi ≤ w.heap.size) (hfit : BkFit B) (hin : BkIn w lo hi B a1 a2 a3) (hv : allTo (chk B) 7 = false) :
    Calls Tryz.prog 79 #[.agg #[.int .i64 B.now, .int .i64 B.floor, .slice a1 B.on c1, .slice a2 B.hn c2, .slice a3 B.tn c3], .string ki, .string pr] w fun e w' => e = .returned (.tuple #[.slice none 0 0, .int .i64 0]) ∧ Below w.heap.size w w' := by
  go_enter Tryz.func79, Tryz.ntmps79
  go_wp2_with (go_at_call 44; go_must (refine (implValid_any B a1 a2 a3 c1 c2 c3 _ lo hi (by simp; omega) hfit (hin.below (below_alloc _ _) hhi)).mono ?_; rw [hv]; rintro e w1 ⟨rfl, hb1⟩))
  refine bodyPost_ret (v := .tuple #[.slice none 0 0, .int .i64 0]) (by simp [results, Tryz.results79, go_sem]) rfl ⟨rfl, ?_⟩
  exact (below_alloc _ _).trans (hb1.mono (by simp))
def RInvL (mk : Value → Value → Value → Value → Value → Array Value) (N0 Bl : Nat) (Pk : Nat → Prop) (W : World) (x : Nat → Ob) (L : List Nat) (k : Nat) (v : Value) (ah : Option Addr) (ch : Nat) (l : Array Bool) (a : Act) (w' : World) : Prop :=
  ∃ (t19 t20 t21 t22 t23 : Value) (w1 w2 : World) (ad' : Option Addr) (cap' b' : Nat) (v' : Value) (A2 : Nat → Option Addr) (C2 h2 : Nat → Nat), a = ⟨mk t19 t20 t21 t22 t23, []⟩ ∧ l.size = 6 ∧
    (l.getD 2 false = true → l.getD 1 false = true) ∧ (l.getD 3 false = true → l.getD 2 false = true) ∧ (l.getD 4 false = true → l.getD 3 false = true) ∧ (l.getD 4 false = true → l.getD 0 false = true) ∧ (l.getD 5 false = true → l.getD 4 false = true) ∧
    (l.getD 0 false = true → t19 = v) ∧ (l.getD 1 false = true → t20 = obV (x k) ah ch) ∧ (l.getD 2 false = false → w' = W.drew) ∧
    (l.getD 2 false = true → t21 = obV (x k) ad' cap' ∧ Below W.heap.size W w1 ∧ W.heap.size ≤ b' ∧ ((x k).hn ≠ 0 → b' < w1.heap.size) ∧ StrsOwn w1 b' (b' + 1) ad' (x k).hn (x k).hs) ∧
    (l.getD 2 false = true → l.getD 3 false = false → w' = w1) ∧
    (l.getD 3 false = true → t22 = .slice (some ⟨w1.heap.size, 0, none⟩) 1 1) ∧
    (l.getD 3 false = true → l.getD 4 false = false → w' = w1.alloc (.cells #[.string (x k).kind, .string (x k).name, .int .i64 (x k).ver, .int .i64 (x k).born, .string (x k).text, .bool (x k).ending, .slice ad' (x k).hn cap'] 73)) ∧
    (l.getD 4 false = true → t23 = v' ∧ BdOb w2 N0 v' (L ++ [k]).length (pick x (L ++ [k])) A2 C2 h2 ∧ Boxed w2 Bl 28 v ∧ KeepsOthers W w2 ∧ FrP Pk W w2) ∧
    (l.getD 4 false = true → l.getD 5 false = false → w' = w2) ∧
    (l.getD 5 false = true → w' = w2.setCell ⟨Bl, 0, none⟩ v')
set_option maxRecDepth 100000 in
set_option maxHeartbeats 4000000 in
theorem implListYes_in (F : Fence) (m : Nat) (hcv : ∀ (k f : Nat) (args : Array Value) (w : World) (R : Ending → World → Prop), Calls Tryz.prog f args w R → CallsIn F k Tryz.prog f args w R) (h7 : F.fn 79) (h21 : F.fn 44) (h22 : F.fn 109) (h23 : F.fn 64) (h51 : F.fn 143) (h52 : F.fn 74) (hro : F.round = none) (hm : 4 ≤ m)
    (B : Bk) (a1 a2 a3 : Option Addr) (c1 c2 c3 : Nat) (ki pr : ByteArray) (w : World) (lo hi : Nat) (hhi : hi ≤ w.heap.size) (hfit : BkFit B) (hon : (B.on : Int) ≤ 1048576) (hpr : (pr.size : Int) ≤ 140737488355328) (hin : BkIn w lo hi B a1 a2 a3) (hv : allTo (chk B) 7 = true) :
    CallsIn F m Tryz.prog 79 #[.agg #[.int .i64 B.now, .int .i64 B.floor, .slice a1 B.on c1, .slice a2 B.hn c2, .slice a3 B.tn c3], .string ki, .string pr] w fun e w' => ∃ ad' cap' g A C hb, e = .returned (.tuple #[.slice ad' (flt (fun i => lkB (B.os i) ki pr) B.on).length cap', .int .i64 B.now]) ∧ ObsAt w' ad' g (flt (fun i => lkB (B.os i) ki pr) B.on).length (pick B.os (flt (fun i => lkB (B.os i) ki pr) B.on)) A C hb ∧ (∀ q, blkH g (flt (fun i => lkB (B.os i) ki pr) B.on).length (fun i => (pick B.os (flt (fun i => lkB (B.os i) ki pr) B.on) i).hn) hb q → w.heap.size ≤ q) ∧ Below w.heap.size w w' := by
  have h1 : 1 ≤ m := by omega
  obtain ⟨i0, hi0, hz0, hz1, hz2⟩ := info_parts Tryz.info73
  refine callsIn_of_wp_marks Tryz.func79 rfl h7 ?_ hro
  simp only [Tryz.ntmps79, List.size_toArray, List.length_cons, List.length_nil, Nat.reduceAdd, Nat.reduceSub, Array.replicate_succ, Array.replicate_zero, List.push_toArray, List.append_toArray, List.nil_append, List.cons_append]
  gi_wp2_with (first
    | (gi_at_call 44; go_must (refine (hcv _ _ _ _ _ (implValid_any B a1 a2 a3 c1 c2 c3 _ lo hi (by simp; omega) hfit (hin.below (below_alloc _ _) hhi))).mono ?_; rw [hv]; rintro e w1 ⟨rfl, hb1⟩; have H1 := (holds_new w (bkCells B a1 a2 a3 c1 c2 c3) 32).below hb1 (by simp); have H2 := H1.below (below_alloc w1 (.cells #[.slice none 0 0] 28)) (by have := hb1.size; simp at this; omega); obtain ⟨p0, p1, p2, p3, p4⟩ := holds_bk H2))
    | (gi_at_call 109; go_must (refine (walk_in F (m - 1) h22 hro _ _ _ _ _ _).mono ?_; rintro e w2 ⟨rfl, rfl⟩)))
  have hb1' : Below w.heap.size w w1 := (below_alloc _ _).trans (hb1.mono (by simp))
  have zw1 : w.heap.size < w1.heap.size := by have := hb1.size; simp at this; omega
  obtain ⟨A, C, hsrc0⟩ := hin.o.choose
  obtain ⟨W0, hW0⟩ : ∃ W0, (((w1.alloc (.cells #[.slice none 0 0] 28)).alloc (.cells #[.slice a1 B.on c1] 28)).alloc (.cells #[.string ki] 9)).alloc (.cells #[.string pr] 9) = W0 := ⟨_, rfl⟩
  have hsz0 : W0.heap.size = w1.heap.size + 4 := by rw [← hW0]; simp
  have hB10 : Below w1.heap.size w1 W0 := by rw [← hW0]; exact (((below_alloc _ _).alloc (by simp) _).alloc (by simp; omega) _).alloc (by simp; omega) _
  have bL : Boxed W0 w1.heap.size 28 (.slice none 0 0) := by rw [← hW0]; exact (((Boxed.new w1 28 (.slice none 0 0)).alloc _).alloc _).alloc _
  have bO : Boxed W0 (w1.heap.size + 1) 28 (.slice a1 B.on c1) := by
    have h := ((Boxed.new (w1.alloc (.cells #[.slice none 0 0] 28)) 28 (.slice a1 B.on c1)).alloc (.cells #[.string ki] 9)).alloc (.cells #[.string pr] 9)
    rw [hW0] at h; simpa using h
  have bK : Boxed W0 (w1.heap.size + 2) 9 (.string ki) := by
    have h := (Boxed.new ((w1.alloc (.cells #[.slice none 0 0] 28)).alloc (.cells #[.slice a1 B.on c1] 28)) 9 (.string ki)).alloc (.cells #[.string pr] 9)
    rw [hW0] at h; simpa using h
  have bP : Boxed W0 (w1.heap.size + 3) 9 (.string pr) := by
    have h := Boxed.new (((w1.alloc (.cells #[.slice none 0 0] 28)).alloc (.cells #[.slice a1 B.on c1] 28)).alloc (.cells #[.string ki] 9)) 9 (.string pr)
    rw [hW0] at h; simpa using h
  have hB0 : Below w.heap.size w W0 := hb1'.trans (hB10.mono (by omega))
  have hsrc : ObSrc W0 hi a1 B.on B.os A C := hsrc0.frP (FrP.of_below (P := fun _ => False) hB0) (fun _ _ h => h) hhi
  have H0 : Holds W0 w.heap.size (bkCells B a1 a2 a3 c1 c2 c3) := H1.below hB10 zw1
  rw [hW0]
  clear hW0 p0 p1 p2 p3 p4 H1 H2 hb1 hB10
  obtain ⟨Pk, hPk⟩ : ∃ Pk : Nat → Prop, Pk = fun q => q = w1.heap.size ∨ w1.heap.size + 4 ≤ q := ⟨_, rfl⟩
  have hPkB : ∀ {X Y : World}, Below (w1.heap.size + 4) X Y → FrP Pk X Y := fun {X Y} h => ⟨h.os, h.tape, h.output, h.size, fun q _ hq => h.block q (by
    rw [hPk] at hq
    rcases Nat.lt_or_ge q (w1.heap.size + 4) with h1 | h1
    · exact h1
    · exact absurd (Or.inr h1) hq)⟩
  have hPkN : ∀ q, ¬ Pk q ↔ ¬ (q = w1.heap.size ∨ w1.heap.size + 4 ≤ q) := fun q => by rw [hPk]
  have hfits : ∀ i, i < B.on → (((B.os i).name.size : Int) ≤ 140737488355328 ∧ ((B.os i).hn : Int) ≤ 8796093022208) := fun i hi' => ⟨(hfit.os i hi').n, (hfit.os i hi').h⟩
  refine wpIn_rangeFunc_ownH (α := Ix B.on) hro h1 (gf := 143) (lb := #[.pointer (some ⟨w1.heap.size + 1, 0, none⟩), .pointer (some ⟨w1.heap.size + 1 + 1, 0, none⟩), .pointer (some ⟨w1.heap.size + 1 + 1 + 1, 0, none⟩)]) (encs := fun k => #[obV (B.os k.1) (A k.1) (C k.1)]) (Kp := FrP Pk) (S := fun ys => ixs ys = flt (fun i => lkB (B.os i) ki pr) B.on) (Sp := fun _ => True) (N := B.on) (w0 := W0) rfl h51 (enters_of Tryz.func143 (by kernel_rfl) rfl)
    ?seq (fun h1 h2 => h1.trans h2) (fun X l o o' hl ho1 ho2 ho3 => hPkB (belowK_b (w := W0) (n₀ := w1.heap.size + 4) (by omega) X l o o' hl ho1 ho2 ho3)) (Below.refl _ _) (fun _ => rfl)
    (fun pre W => (∃ v A' C' hb, Boxed W w1.heap.size 28 v ∧ BdOb W (w1.heap.size + 4) v (ixs pre).length (pick B.os (ixs pre)) A' C' hb) ∧ FrP Pk W0 W)
    (fun _ _ _ => False) ?own (fun _ _ _ _ _ hs _ _ => hs) ?start
    (fun k a' W => ∃ Bx, w1.heap.size + 4 ≤ Bx ∧ W.heap[Bx]? = some (.cells (obCells (B.os k.1) (A k.1) (C k.1)) 73 (0, 0)) ∧ a' = { tmps := #[.agg #[.int .i64 B.now, .int .i64 B.floor, .slice a1 B.on c1, .slice a2 B.hn c2, .slice a3 B.tn c3], .string ki, .string pr, .pointer (some ⟨w.heap.size, 0, none⟩), undef, undef, .slice none 0 0, .int .i64 0, .pointer (some ⟨w1.heap.size, 0, none⟩), .pointer (some ⟨Bx, 0, none⟩), .agg #[.int .i64 B.now, .int .i64 B.floor, .slice a1 B.on c1, .slice a2 B.hn c2, .slice a3 B.tn c3], .bool true, .bool false, .pointer (some ⟨w.heap.size, 2, none⟩), .slice a1 B.on c1, .string ki, .string pr, .func (.func 143) #[] #[.pointer (some ⟨w1.heap.size + 1, 0, none⟩), .pointer (some ⟨w1.heap.size + 1 + 1, 0, none⟩), .pointer (some ⟨w1.heap.size + 1 + 1 + 1, 0, none⟩)], obV (B.os k.1) (A k.1) (C k.1), undef, undef, undef, undef, undef, undef, undef, undef], defers := [] })
    (fun k a' _ X Y row hs hg hr => by
      obtain ⟨Bx, e1, e2, e3⟩ := hs
      refine ⟨Bx, e1, (hg.block Bx (Array.getElem?_eq_some_iff.1 e2).1 (fun e => ?_)).trans e2, e3⟩
      obtain ⟨_, o, ho, hc⟩ := hr Bx e.symm
      rw [e2] at ho
      cases ho
      cases hc)
    ?assign ?body ?done ?stop
  case seq =>
    exact fun l J Jx W hW hJ _ hY h0 => walk1_in F (m - 1) h51 h52 hro (by omega) l _ _ _ hi Pk B.on B.os a1 c1 A C ki pr hon J Jx (fun i w' hi' => hcv _ _ _ _ _ (isOf_any (B.os i) (A i) (C i) ki pr w' (hfits i hi').1 hpr)) W hJ hY
      ((hW.cell (p := ⟨w1.heap.size + 1, 0, none⟩) (by show w1.heap.size + 1 < _; omega)).trans bO.cell) ((hW.cell (p := ⟨w1.heap.size + 2, 0, none⟩) (by show w1.heap.size + 2 < _; omega)).trans bK.cell) ((hW.cell (p := ⟨w1.heap.size + 3, 0, none⟩) (by show w1.heap.size + 3 < _; omega)).trans bP.cell)
      ⟨by have := hW.size; omega, (hPkN _).2 (by omega)⟩ ⟨by have := hW.size; omega, (hPkN _).2 (by omega)⟩ (by have := hW.size; omega) (fun q hq => (hPkN q).2 (by omega)) (hsrc.frP (FrP.of_below (P := fun _ => False) hW) (fun _ _ h => h) (by omega)) h0
  case own =>
    intro pre X Y row hs hg hr
    obtain ⟨⟨v, A', C', hb, e1, e2⟩, e3⟩ := hs
    exact ⟨⟨v, A', C', hb, e1.kept hg (fun e => by have := (hr _ e.symm).1; omega), e2.turn hg (fun r e => (hr r e).2)⟩, e3.trans ((FrP.of_grown hg).mono (fun q hq => by
      rw [hPk]
      have := (hr _ hq).1
      exact Or.inr (by omega)))⟩
  case start =>
    exact ⟨⟨_, fun _ => none, fun _ => 0, fun _ => 0, bL, ⟨⟨fun _ => .int .i64 0, World.ownsRow_nil _ _ _ _, fun i hi' => absurd hi' (Nat.not_lt_zero _)⟩, fun i hi' => absurd hi' (Nat.not_lt_zero _), fun i hi' => absurd hi' (Nat.not_lt_zero _), fun i hi' => absurd hi' (Nat.not_lt_zero _), fun i j hi' => absurd hi' (Nat.not_lt_zero _)⟩⟩, FrP.refl _ _⟩
  case assign =>
    rintro l pre k W K ⟨⟨v, A', C', hb, e1, e2⟩, e3⟩ hK
    simp only [obV]
    gi_wp2
    have z := e3.size
    exact hK _ _ ((KeepsOthers.alloc _ _).from _) (FrP.of_below (below_alloc _ _)) ⟨⟨v, A', C', hb, e1.alloc _, e2.grow (below_alloc _ _)⟩, e3.trans (FrP.of_below (below_alloc _ _))⟩ ⟨W.heap.size, by omega, World.alloc_heap_new W _, rfl⟩
  case body =>
    rintro l0 pre k a' W hl ⟨r, hr⟩ ⟨⟨v, A', C', hb, bV, bd⟩, hf⟩ ⟨Bx, hBx, bX, rfl⟩ hlt
    have zW := hf.size
    have hX : Holds W Bx (obCells (B.os k.1) (A k.1) (C k.1)) := fun i => by simp [World.cell?, bX]
    have hfk := (hfits k.1 k.2).2
    have hsW : StrsIn W 0 hi (A k.1) (B.os k.1).hn (B.os k.1).hs := (hsrc.frP hf (fun q hq => (hPkN q).2 (by omega)) (by omega)).holds k.1 k.2
    have hhW : hi ≤ W.heap.size := by omega
    obtain ⟨x0, x1, x2, x3, x4, x5, x6⟩ := holds_ob hX
    have h1' : 1 ≤ m - 1 - 1 := by omega
    gi_wp2
    refine wpIn_region_inv (by kernel_rfl) (RInvL (fun t19 t20 t21 t22 t23 => #[.agg #[.int .i64 B.now, .int .i64 B.floor, .slice a1 B.on c1, .slice a2 B.hn c2, .slice a3 B.tn c3], .string ki, .string pr, .pointer (some ⟨w.heap.size, 0, none⟩), undef, undef, .slice none 0 0, .int .i64 0, .pointer (some ⟨w1.heap.size, 0, none⟩), .pointer (some ⟨Bx, 0, none⟩), .agg #[.int .i64 B.now, .int .i64 B.floor, .slice a1 B.on c1, .slice a2 B.hn c2, .slice a3 B.tn c3], .bool true, .bool false, .pointer (some ⟨w.heap.size, 2, none⟩), .slice a1 B.on c1, .string ki, .string pr, .func (.func 143) #[] #[.pointer (some ⟨w1.heap.size + 1, 0, none⟩), .pointer (some ⟨w1.heap.size + 1 + 1, 0, none⟩), .pointer (some ⟨w1.heap.size + 1 + 1 + 1, 0, none⟩)], obV (B.os k.1) (A k.1) (C k.1), t19, t20, t21, t22, t23, undef, undef, undef]) (w1.heap.size + 4) w1.heap.size Pk W B.os (ixs pre) k.1 v (A k.1) (C k.1)) ?_ ?_ ?_ ?_
    · refine ⟨_, _, _, _, _, W, W, none, 0, 0, v, fun _ => none, fun _ => 0, fun _ => 0, rfl, by simp, ?_⟩
      simp
    · intro l a w' hI
      obtain ⟨t19, t20, t21, t22, t23, w3, w4, ad2, cap2, b2, v2, A2, C2, h2, rfl, hls, _⟩ := hI
      exact hls
    · intro l a w' hI hr'
      obtain ⟨t19, t20, t21, t22, t23, w3, w4, ad2, cap2, b2, v2, A2, C2, h2, rfl, hls, n21, n32, n43, n40, n54, f0, f1, g0, f2, g1, f3, g2, f4, g4, g5⟩ := hI
      have AL := all_listed (by kernel_rfl) (by rw [hls]; rfl) hr'
      obtain rfl := g5 (AL 5 (by decide))
      obtain ⟨rfl, j1, j2, j3, j4⟩ := f4 (AL 4 (by decide))
      clear n21 n32 n43 n40 n54 f0 f1 g0 f2 g1 f3 g2 f4 g4 g5 AL hr' hls
      gi_wp2
      have hPl : Pk w1.heap.size := by rw [hPk]; exact Or.inl rfl
      exact ⟨(j3.trans (KeepsOthers.setCell _ _ _)).from _, j4.trans ((FrP.refl _ _).setCell hPl _), ⟨⟨t23, A2, C2, h2, j2.set _, by rw [ixs_snoc]; exact j1.fr (P := fun q => q = w1.heap.size) (FrP.setCell (P := fun q => q = w1.heap.size) (FrP.refl _ _) (p := ⟨w1.heap.size, 0, none⟩) (by rfl) _) (fun q hq _ e => by omega)⟩, hf.trans (j4.trans ((FrP.refl _ _).setCell hPl _))⟩⟩
    · intro l a w' i hI hr'
      obtain ⟨t19, t20, t21, t22, t23, w3, w4, ad2, cap2, b2, v2, A2, C2, h2, rfl, hls, n21, n32, n43, n40, n54, f0, f1, g0, f2, g1, f3, g2, f4, g4, g5⟩ := hI
      obtain ⟨hu, o', ho, hdep⟩ := mem_ready.1 hr'
      have hi16 : i < 6 := by
        rcases Nat.lt_or_ge i 6 with h | h
        · exact h
        · rw [Array.getElem?_eq_none (by simpa using h)] at ho
          cases ho
      have kp : ∀ j, ¬ j = i → (l.setIfInBounds i true).getD j false = l.getD j false := fun j hj => by rw [getD_set (by omega), if_neg hj]
      have ki' : (l.setIfInBounds i true).getD i false = true := by rw [getD_set (by omega), if_pos rfl]
      have hsz' : (l.setIfInBounds i true).size = 6 := by simp [hls]
      have hui : l.getD i false = false := by simpa [Array.getD, hls, hi16] using hu
      clear hr' hu
      rcases (show i = 0 ∨ i = 1 ∨ i = 2 ∨ i = 3 ∨ i = 4 ∨ i = 5 by omega) with rfl | rfl | rfl | rfl | rfl | rfl
      · simp only [List.getElem?_toArray, List.getElem?_cons_zero, Option.some.injEq] at ho
        subst ho
        clear hdep
        have l4 := listed_no n40 hui
        have hcl : w'.cell? ⟨w1.heap.size, 0, none⟩ = some v := by
          cases e3 : l.getD 3 false with
          | true =>
            rw [g2 e3 l4]
            exact ((Boxed.of_below bV (f2 (n32 e3)).2.1).alloc _).cell
          | false =>
            cases e2 : l.getD 2 false with
            | true => rw [g1 e2 e3]; exact (Boxed.of_below bV (f2 e2).2.1).cell
            | false => rw [g0 e2]; exact bV.cell
        refine wpOpIn_of rfl rfl ?_
        generalize hK : RInvL (fun t19 t20 t21 t22 t23 => #[.agg #[.int .i64 B.now, .int .i64 B.floor, .slice a1 B.on c1, .slice a2 B.hn c2, .slice a3 B.tn c3], .string ki, .string pr, .pointer (some ⟨w.heap.size, 0, none⟩), undef, undef, .slice none 0 0, .int .i64 0, .pointer (some ⟨w1.heap.size, 0, none⟩), .pointer (some ⟨Bx, 0, none⟩), .agg #[.int .i64 B.now, .int .i64 B.floor, .slice a1 B.on c1, .slice a2 B.hn c2, .slice a3 B.tn c3], .bool true, .bool false, .pointer (some ⟨w.heap.size, 2, none⟩), .slice a1 B.on c1, .string ki, .string pr, .func (.func 143) #[] #[.pointer (some ⟨w1.heap.size + 1, 0, none⟩), .pointer (some ⟨w1.heap.size + 1 + 1, 0, none⟩), .pointer (some ⟨w1.heap.size + 1 + 1 + 1, 0, none⟩)], obV (B.os k.1) (A k.1) (C k.1), t19, t20, t21, t22, t23, undef, undef, undef]) (w1.heap.size + 4) w1.heap.size Pk W B.os (ixs pre) k.1 v (A k.1) (C k.1) (l.setIfInBounds 0 true) = K
        go_simp
        rw [← hK]
        exact ⟨_, t20, t21, t22, t23, w3, w4, ad2, cap2, b2, v2, A2, C2, h2, rfl, hsz', (by rw [kp 2 (by decide), kp 1 (by decide)]; exact n21), (by rw [kp 3 (by decide), kp 2 (by decide)]; exact n32), (by rw [kp 4 (by decide), kp 3 (by decide)]; exact n43), (fun _ => ki'), (by rw [kp 5 (by decide), kp 4 (by decide)]; exact n54), (fun _ => rfl), (by rw [kp 1 (by decide)]; exact f1), (by rw [kp 2 (by decide)]; exact g0), (by rw [kp 2 (by decide)]; exact f2), (by rw [kp 2 (by decide), kp 3 (by decide)]; exact g1), (by rw [kp 3 (by decide)]; exact f3), (by rw [kp 3 (by decide), kp 4 (by decide)]; exact g2), (by rw [kp 4 (by decide)]; exact f4), (by rw [kp 4 (by decide), kp 5 (by decide)]; exact g4), (by rw [kp 5 (by decide)]; exact g5)⟩
      · simp only [List.getElem?_toArray, List.getElem?_cons_succ, List.getElem?_cons_zero, Option.some.injEq] at ho
        subst ho
        clear hdep
        have l2 := listed_no n21 hui
        obtain rfl := g0 l2
        refine wpOpIn_of rfl rfl ?_
        generalize hK : RInvL (fun t19 t20 t21 t22 t23 => #[.agg #[.int .i64 B.now, .int .i64 B.floor, .slice a1 B.on c1, .slice a2 B.hn c2, .slice a3 B.tn c3], .string ki, .string pr, .pointer (some ⟨w.heap.size, 0, none⟩), undef, undef, .slice none 0 0, .int .i64 0, .pointer (some ⟨w1.heap.size, 0, none⟩), .pointer (some ⟨Bx, 0, none⟩), .agg #[.int .i64 B.now, .int .i64 B.floor, .slice a1 B.on c1, .slice a2 B.hn c2, .slice a3 B.tn c3], .bool true, .bool false, .pointer (some ⟨w.heap.size, 2, none⟩), .slice a1 B.on c1, .string ki, .string pr, .func (.func 143) #[] #[.pointer (some ⟨w1.heap.size + 1, 0, none⟩), .pointer (some ⟨w1.heap.size + 1 + 1, 0, none⟩), .pointer (some ⟨w1.heap.size + 1 + 1 + 1, 0, none⟩)], obV (B.os k.1) (A k.1) (C k.1), t19, t20, t21, t22, t23, undef, undef, undef]) (w1.heap.size + 4) w1.heap.size Pk W B.os (ixs pre) k.1 v (A k.1) (C k.1) (l.setIfInBounds 1 true) = K
        go_simp
        rw [← hK]
        exact ⟨t19, _, t21, t22, t23, w3, w4, ad2, cap2, b2, v2, A2, C2, h2, rfl, hsz', (fun _ => ki'), (by rw [kp 3 (by decide), kp 2 (by decide)]; exact n32), (by rw [kp 4 (by decide), kp 3 (by decide)]; exact n43), (by rw [kp 4 (by decide), kp 0 (by decide)]; exact n40), (by rw [kp 5 (by decide), kp 4 (by decide)]; exact n54), (by rw [kp 0 (by decide)]; exact f0), (fun _ => rfl), (by rw [kp 2 (by decide)]; exact g0), (by rw [kp 2 (by decide)]; exact f2), (by rw [kp 2 (by decide), kp 3 (by decide)]; exact g1), (by rw [kp 3 (by decide)]; exact f3), (by rw [kp 3 (by decide), kp 4 (by decide)]; exact g2), (by rw [kp 4 (by decide)]; exact f4), (by rw [kp 4 (by decide), kp 5 (by decide)]; exact g4), (by rw [kp 5 (by decide)]; exact g5)⟩
      · simp only [List.getElem?_toArray, List.getElem?_cons_succ, List.getElem?_cons_zero, Option.some.injEq] at ho
        subst ho
        have q1 : l.getD 1 false = true := hdep ⟨1, .data⟩ (by simp) rfl
        clear hdep
        obtain rfl := f1 q1
        obtain rfl := g0 hui
        have l3 := listed_no n32 hui
        have l4 := listed_no n43 l3
        have l5 := listed_no n54 l4
        refine wpOpIn_of rfl rfl ?_
        generalize hK : RInvL (fun t19 t20 t21 t22 t23 => #[.agg #[.int .i64 B.now, .int .i64 B.floor, .slice a1 B.on c1, .slice a2 B.hn c2, .slice a3 B.tn c3], .string ki, .string pr, .pointer (some ⟨w.heap.size, 0, none⟩), undef, undef, .slice none 0 0, .int .i64 0, .pointer (some ⟨w1.heap.size, 0, none⟩), .pointer (some ⟨Bx, 0, none⟩), .agg #[.int .i64 B.now, .int .i64 B.floor, .slice a1 B.on c1, .slice a2 B.hn c2, .slice a3 B.tn c3], .bool true, .bool false, .pointer (some ⟨w.heap.size, 2, none⟩), .slice a1 B.on c1, .string ki, .string pr, .func (.func 143) #[] #[.pointer (some ⟨w1.heap.size + 1, 0, none⟩), .pointer (some ⟨w1.heap.size + 1 + 1, 0, none⟩), .pointer (some ⟨w1.heap.size + 1 + 1 + 1, 0, none⟩)], obV (B.os k.1) (A k.1) (C k.1), t19, t20, t21, t22, t23, undef, undef, undef]) (w1.heap.size + 4) w1.heap.size Pk W B.os (ixs pre) k.1 v (A k.1) (C k.1) (l.setIfInBounds 2 true) = K
        unfold obV
        go_simp
        refine (CallsIn.inRound l0 (hcv _ _ _ _ _ (copyOb_own (B.os k.1) (A k.1) (C k.1) _ 0 hi (by exact hhW) (by exact hfk) (by exact hsW)))).mono ?_
        rintro e w5 ⟨ad5, cap5, b5, rfl, k1, k2, k3, k4⟩
        rw [← hK]
        exact ⟨t19, _, _, t22, t23, w5, w5, ad5, cap5, b5, v2, A2, C2, h2, rfl, hsz', (fun _ => by rw [kp 1 (by decide)]; exact q1), (fun _ => ki'), (by rw [kp 4 (by decide), kp 3 (by decide)]; exact n43), (by rw [kp 4 (by decide), kp 0 (by decide)]; exact n40), (by rw [kp 5 (by decide), kp 4 (by decide)]; exact n54), (by rw [kp 0 (by decide)]; exact f0), (by rw [kp 1 (by decide)]; exact f1), (fun h => absurd (ki'.symm.trans h) (by decide)), (fun _ => ⟨rfl, ((Below.refl _ _).drew).trans k4, k1, k2, k3⟩), (fun _ _ => rfl), (fun h => by rw [kp 3 (by decide), l3] at h; cases h), (fun h => by rw [kp 3 (by decide), l3] at h; cases h), (fun h => by rw [kp 4 (by decide), l4] at h; cases h), (fun h => by rw [kp 4 (by decide), l4] at h; cases h), (fun h => by rw [kp 5 (by decide), l5] at h; cases h)⟩
      · simp only [List.getElem?_toArray, List.getElem?_cons_succ, List.getElem?_cons_zero, Option.some.injEq] at ho
        subst ho
        have q2 : l.getD 2 false = true := hdep ⟨2, .data⟩ (by simp) rfl
        clear hdep
        obtain ⟨rfl, j1, j2, j3, j4⟩ := f2 q2
        obtain rfl : w3 = w' := (g1 q2 hui).symm
        obtain rfl := f1 (n21 q2)
        have l5 := listed_no n54 (listed_no n43 hui)
        have l4 := listed_no n43 hui
        refine wpOpIn_of rfl rfl ?_
        generalize hK : RInvL (fun t19 t20 t21 t22 t23 => #[.agg #[.int .i64 B.now, .int .i64 B.floor, .slice a1 B.on c1, .slice a2 B.hn c2, .slice a3 B.tn c3], .string ki, .string pr, .pointer (some ⟨w.heap.size, 0, none⟩), undef, undef, .slice none 0 0, .int .i64 0, .pointer (some ⟨w1.heap.size, 0, none⟩), .pointer (some ⟨Bx, 0, none⟩), .agg #[.int .i64 B.now, .int .i64 B.floor, .slice a1 B.on c1, .slice a2 B.hn c2, .slice a3 B.tn c3], .bool true, .bool false, .pointer (some ⟨w.heap.size, 2, none⟩), .slice a1 B.on c1, .string ki, .string pr, .func (.func 143) #[] #[.pointer (some ⟨w1.heap.size + 1, 0, none⟩), .pointer (some ⟨w1.heap.size + 1 + 1, 0, none⟩), .pointer (some ⟨w1.heap.size + 1 + 1 + 1, 0, none⟩)], obV (B.os k.1) (A k.1) (C k.1), t19, t20, t21, t22, t23, undef, undef, undef]) (w1.heap.size + 4) w1.heap.size Pk W B.os (ixs pre) k.1 v (A k.1) (C k.1) (l.setIfInBounds 3 true) = K
        unfold obV
        go_simp
        rw [← hK]
        exact ⟨t19, _, _, _, t23, w3, w4, ad2, cap2, b2, v2, A2, C2, h2, rfl, hsz', (by rw [kp 2 (by decide), kp 1 (by decide)]; exact n21), (fun _ => by rw [kp 2 (by decide)]; exact q2), (fun _ => ki'), (by rw [kp 4 (by decide), kp 0 (by decide)]; exact n40), (by rw [kp 5 (by decide), kp 4 (by decide)]; exact n54), (by rw [kp 0 (by decide)]; exact f0), (by rw [kp 1 (by decide)]; exact f1), (fun h => by rw [kp 2 (by decide), q2] at h; cases h), (by rw [kp 2 (by decide)]; exact fun _ => ⟨rfl, j1, j2, j3, j4⟩), (fun _ h => absurd (ki'.symm.trans h) (by decide)), (fun _ => rfl), (fun _ _ => rfl), (by rw [kp 4 (by decide)]; exact f4), (fun h => by rw [kp 4 (by decide), l4] at h; cases h), (fun h => by rw [kp 5 (by decide), l5] at h; cases h)⟩
      · simp only [List.getElem?_toArray, List.getElem?_cons_succ, List.getElem?_cons_zero, Option.some.injEq] at ho
        subst ho
        have q0 : l.getD 0 false = true := hdep ⟨0, .data⟩ (by simp) rfl
        have q3 : l.getD 3 false = true := hdep ⟨3, .data⟩ (by simp) rfl
        clear hdep
        obtain rfl : v = t19 := (f0 q0).symm
        obtain rfl := f3 q3
        obtain rfl := g2 q3 hui
        obtain ⟨rfl, j1, j2, j3, j4⟩ := f2 (n32 q3)
        have l5 := listed_no n54 hui
        have z3 := j1.size
        have BD1 := (bd.grow j1).grow (below_alloc w3 (.cells #[.string (B.os k.1).kind, .string (B.os k.1).name, .int .i64 (B.os k.1).ver, .int .i64 (B.os k.1).born, .string (B.os k.1).text, .bool (B.os k.1).ending, .slice ad2 (B.os k.1).hn cap2] 73))
        obtain ⟨c, hown, hat⟩ := BD1.row
        have hln : (ixs pre).length < 1048576 := by rw [ixs_len]; omega
        refine wpOpIn_of rfl rfl ?_
        generalize hK : RInvL (fun t19 t20 t21 t22 t23 => #[.agg #[.int .i64 B.now, .int .i64 B.floor, .slice a1 B.on c1, .slice a2 B.hn c2, .slice a3 B.tn c3], .string ki, .string pr, .pointer (some ⟨w.heap.size, 0, none⟩), undef, undef, .slice none 0 0, .int .i64 0, .pointer (some ⟨w1.heap.size, 0, none⟩), .pointer (some ⟨Bx, 0, none⟩), .agg #[.int .i64 B.now, .int .i64 B.floor, .slice a1 B.on c1, .slice a2 B.hn c2, .slice a3 B.tn c3], .bool true, .bool false, .pointer (some ⟨w.heap.size, 2, none⟩), .slice a1 B.on c1, .string ki, .string pr, .func (.func 143) #[] #[.pointer (some ⟨w1.heap.size + 1, 0, none⟩), .pointer (some ⟨w1.heap.size + 1 + 1, 0, none⟩), .pointer (some ⟨w1.heap.size + 1 + 1 + 1, 0, none⟩)], obV (B.os k.1) (A k.1) (C k.1), t19, t20, t21, t22, t23, undef, undef, undef]) (w1.heap.size + 4) w1.heap.size Pk W B.os (ixs pre) k.1 v (A k.1) (C k.1) (l.setIfInBounds 4 true) = K
        refine operIn_append_own _ _ 28 rfl (w1.heap.size + 4) 73 i0 _ 7 96 Tryz.underlying28 hi0 hz0 hz1 hz2 rfl (by decide) _ (ixs pre).length (rowCells ((ixs pre).length * 7) c) rfl hown ⟨w3.heap.size, 0, none⟩ 1 1 [.string (B.os k.1).kind, .string (B.os k.1).name, .int .i64 (B.os k.1).ver, .int .i64 (B.os k.1).born, .string (B.os k.1).text, .bool (B.os k.1).ending, .slice ad2 (B.os k.1).hn cap2] rfl rfl (alloc_news w3 _ 73) (by simp [Value.oneCell']) (by unfold maxLen; omega) (by omega) (by simp; omega) ?_
        intro v' w4' hown2 hgrow2 hat2
        have BD2 := BD1.push (cap' := cap2) hat hown2 hgrow2 hat2 (j4.frP (FrP.of_below (P := fun _ => False) (below_alloc w3 _)) (fun h0 => ⟨fun h => h, j3 h0⟩)) (fun h0 => ⟨by omega, by have := j3 h0; simp; omega⟩)
          (fun h0 e => by
            obtain ⟨c0, r0, _⟩ := bd.row
            have h1 := (r0.lt _ e).2
            omega)
          (fun i hi' h0 h1 e => by
            have h2 := (bd.hlt i hi' h0).2
            omega)
        have hrow : ∀ g, v.ownBlock = some g → w1.heap.size + 4 ≤ g := fun g hg => by obtain ⟨c0, r0, _⟩ := bd.row; exact (r0.lt _ hg).1
        have bx2 : Boxed w4' w1.heap.size 28 v := (Boxed.of_below bV j1).alloc _ |>.kept hgrow2 (fun e => by have := hrow _ e.symm; omega)
        have kw2 : KeepsOthers W w4' := ((keepsO_of_below j1).trans (KeepsOthers.alloc _ _)).trans (KeepsOthers.of_grownBy hgrow2 (fun j o e hj => by
          rcases hown.2 with ⟨h1, _⟩ | ⟨g', cap, cur, h1, h2', h3, h4⟩
          · rw [h1] at e; cases e
          · rw [h1] at e
            cases e
            rw [h3] at hj
            cases hj
            rfl))
        have fr2 : FrP Pk W w4' := ((FrP.of_below j1).trans (FrP.of_below (below_alloc w3 _))).trans ((FrP.of_grown hgrow2).mono (fun q hq => by rw [hPk]; exact Or.inr (hrow q hq)))
        rw [← hK]
        exact ⟨_, t20, _, _, _, w3, w4', ad2, cap2, b2, v', _, _, _, rfl, hsz', (by rw [kp 2 (by decide), kp 1 (by decide)]; exact n21), (by rw [kp 3 (by decide), kp 2 (by decide)]; exact n32), (fun _ => by rw [kp 3 (by decide)]; exact q3), (fun _ => by rw [kp 0 (by decide)]; exact q0), (fun _ => ki'), (fun _ => rfl), (by rw [kp 1 (by decide)]; exact f1), (fun h => by rw [kp 2 (by decide), n32 q3] at h; cases h), (by rw [kp 2 (by decide)]; exact fun _ => ⟨rfl, j1, j2, j3, j4⟩), (fun _ h => by rw [kp 3 (by decide), q3] at h; cases h), (fun _ => rfl), (fun _ h => absurd (ki'.symm.trans h) (by decide)), (fun _ => ⟨rfl, BD2, bx2, kw2, fr2⟩), (fun _ _ => rfl), (fun h => by rw [kp 5 (by decide), l5] at h; cases h)⟩
      · simp only [List.getElem?_toArray, List.getElem?_cons_succ, List.getElem?_cons_zero, Option.some.injEq] at ho
        subst ho
        have q4 : l.getD 4 false = true := hdep ⟨4, .data⟩ (by simp) rfl
        clear hdep
        obtain ⟨rfl, j1, j2, j3, j4⟩ := f4 q4
        obtain rfl : w4 = w' := (g4 q4 hui).symm
        have cb := j2.cell
        have fb := j2.frozen
        obtain ⟨adx, capx, gx, ex, _, _⟩ := j1.done
        obtain ⟨Ln, hLn⟩ : ∃ Ln, (ixs pre ++ [k.1]).length = Ln := ⟨_, rfl⟩
        rw [hLn] at ex
        subst ex
        have y3 := n43 q4
        have y2 := n32 y3
        obtain rfl : v = t19 := (f0 (n40 q4)).symm
        obtain rfl := f1 (n21 y2)
        obtain rfl := (f2 y2).1
        obtain rfl := f3 y3
        refine wpOpIn_of rfl rfl ?_
        generalize hK : RInvL (fun t19 t20 t21 t22 t23 => #[.agg #[.int .i64 B.now, .int .i64 B.floor, .slice a1 B.on c1, .slice a2 B.hn c2, .slice a3 B.tn c3], .string ki, .string pr, .pointer (some ⟨w.heap.size, 0, none⟩), undef, undef, .slice none 0 0, .int .i64 0, .pointer (some ⟨w1.heap.size, 0, none⟩), .pointer (some ⟨Bx, 0, none⟩), .agg #[.int .i64 B.now, .int .i64 B.floor, .slice a1 B.on c1, .slice a2 B.hn c2, .slice a3 B.tn c3], .bool true, .bool false, .pointer (some ⟨w.heap.size, 2, none⟩), .slice a1 B.on c1, .string ki, .string pr, .func (.func 143) #[] #[.pointer (some ⟨w1.heap.size + 1, 0, none⟩), .pointer (some ⟨w1.heap.size + 1 + 1, 0, none⟩), .pointer (some ⟨w1.heap.size + 1 + 1 + 1, 0, none⟩)], obV (B.os k.1) (A k.1) (C k.1), t19, t20, t21, t22, t23, undef, undef, undef]) (w1.heap.size + 4) w1.heap.size Pk W B.os (ixs pre) k.1 v (A k.1) (C k.1) (l.setIfInBounds 5 true) = K
        go_simp
        rw [← hK]
        exact ⟨_, _, _, _, _, w3, w4, ad2, cap2, b2, _, A2, C2, h2, rfl, hsz', (by rw [kp 2 (by decide), kp 1 (by decide)]; exact n21), (by rw [kp 3 (by decide), kp 2 (by decide)]; exact n32), (by rw [kp 4 (by decide), kp 3 (by decide)]; exact n43), (by rw [kp 4 (by decide), kp 0 (by decide)]; exact n40), (fun _ => by rw [kp 4 (by decide)]; exact q4), (by rw [kp 0 (by decide)]; exact f0), (by rw [kp 1 (by decide)]; exact f1), (fun h => by rw [kp 2 (by decide), y2] at h; cases h), (by rw [kp 2 (by decide)]; exact f2), (fun _ h => by rw [kp 3 (by decide), y3] at h; cases h), (by rw [kp 3 (by decide)]; exact f3), (fun _ h => by rw [kp 4 (by decide), q4] at h; cases h), (by rw [kp 4 (by decide)]; exact fun _ => ⟨rfl, j1, j2, j3, j4⟩), (fun _ h => absurd (ki'.symm.trans h) (by decide)), (fun _ => rfl)⟩
  case done =>
    rintro D ys W hD hS ⟨⟨v, A', C', hb, bV, bd⟩, hf⟩ hK
    have bdf : BdOb (W.drew.putObj D (.deferred none)) (w1.heap.size + 4) v (ixs ys).length (pick B.os (ixs ys)) A' C' hb := (bd.grow ((Below.refl _ _).drew)).turn (grownBy_putObj' W.drew D (.deferred none)) (fun r e => by cases e; exact ⟨_, hK, rfl⟩)
    obtain ⟨ad', cap', g, e, at', hq⟩ := bdf.done
    rw [hS] at at' hq
    have AT := hid at'
    have HQ := hid hq
    have zW := hf.size
    have cV := bV.cell
    have H3 : Holds W w.heap.size (bkCells B a1 a2 a3 c1 c2 c3) := fun i => (hf.cell (p := ⟨w.heap.size, i, none⟩) (by show w.heap.size < _; omega) ((hPkN _).2 (by show ¬ (w.heap.size = _ ∨ _ ≤ w.heap.size); omega))).trans (H0 i)
    obtain ⟨p0, p1, p2, p3, p4⟩ := holds_bk H3
    have hBW : Below w.heap.size w W := hB0.trans (hf.below (fun q hq => (hPkN q).2 (by omega)) (by omega))
    have hBf : Below w.heap.size w (W.drew.putObj D (.deferred none)) := (hBW.trans ((Below.refl _ _).drew)).trans (belowK_b (w := W0) (n₀ := w.heap.size) (by omega) W.drew D _ _ hD hK rfl rfl)
    rw [hS] at e
    subst e
    clear at' hq bd bdf bV hS
    gi_wp2
    gi_region
    all_goals gi_wp2
    all_goals refine ⟨by simp, .inl ⟨_, _, rfl, run_takeDeferred hK, ?_⟩⟩
    all_goals exact ⟨.tuple #[.slice ad' (flt (fun i => lkB (B.os i) ki pr) B.on).length cap', .int .i64 B.now], by simp [results, Tryz.results79, go_sem], ad', cap', g, A', C', hb, rfl, AT.out, fun q hq => Nat.le_trans (by omega) (HQ.out q hq), hBf⟩
  case stop =>
    rintro D c pre W _ _ h _
    exact h.elim
/-- which objects a list has, and which version it is of -/
def resL (B : Bk) (ki pr : ByteArray) : List Nat := if allTo (chk B) 7 then flt (fun i => lkB (B.os i) ki pr) B.on else []
def resN (B : Bk) : Int := if allTo (chk B) 7 then B.now else 0
theorem obsAt_nil (w : World) (ad : Option Addr) (g : Nat) (x : Nat → Ob) (A : Nat → Option Addr) (C hb : Nat → Nat) : ObsAt w ad g 0 x A C hb :=
  ⟨fun h0 => absurd h0 (Nat.lt_irrefl _), fun h0 => absurd h0 (Nat.lt_irrefl _), fun _i hi => absurd hi (Nat.not_lt_zero _), fun _i hi => absurd hi (Nat.not_lt_zero _), ⟨fun _i hi => absurd hi (Nat.not_lt_zero _), fun _i _j hi => absurd hi (Nat.not_lt_zero _)⟩⟩
theorem blk_nil {g : Nat} {hn hb : Nat → Nat} {q : Nat} (h : blkH g 0 hn hb q) : False := by
  rcases h with ⟨h0, _⟩ | ⟨i, hi, _⟩
  · exact absurd h0 (Nat.lt_irrefl _)
  · exact absurd hi (Nat.not_lt_zero _)
theorem implList_any (B : Bk) (a1 a2 a3 : Option Addr) (c1 c2 c3 : Nat) (ki pr : ByteArray) (w : World) (lo hi : Nat) (hhi : hi ≤ w.heap.size) (hfit : BkFit B) (hon : (B.on : Int) ≤ 1048576) (hpr : (pr.size : Int) ≤ 140737488355328) (hin : BkIn w lo hi B a1 a2 a3) :
    Calls Tryz.prog 79 #[.agg #[.int .i64 B.now, .int .i64 B.floor, .slice a1 B.on c1, .slice a2 B.hn c2, .slice a3 B.tn c3], .string ki, .string pr] w fun e w' => ∃ ad' cap' g A C hb, e = .returned (.tuple #[.slice ad' (resL B ki pr).length cap', .int .i64 (resN B)]) ∧ ObsAt w' ad' g (resL B ki pr).length (pick B.os (resL B ki pr)) A C hb ∧ (∀ q, blkH g (resL B ki pr).length (fun i => (pick B.os (resL B ki pr) i).hn) hb q → w.heap.size ≤ q) ∧ Below w.heap.size w w' := by
  cases hv : allTo (chk B) 7 with
  | false =>
    have e1 : resL B ki pr = [] := by simp [resL, hv]
    have e2 : resN B = 0 := by simp [resN, hv]
    rw [e1, e2]
    refine (implListNo_any B a1 a2 a3 c1 c2 c3 ki pr w lo hi hhi hfit hin hv).mono ?_
    rintro e w' ⟨rfl, hb⟩
    exact ⟨none, 0, 0, fun _ => none, fun _ => 0, fun _ => 0, rfl, obsAt_nil _ _ _ _ _ _ _, fun q hq => (blk_nil hq).elim, hb⟩
  | true =>
    have e1 : resL B ki pr = flt (fun i => lkB (B.os i) ki pr) B.on := by simp [resL, hv]
    have e2 : resN B = B.now := by simp [resN, hv]
    rw [e1, e2]
    exact callsIn_wide.1 (implListYes_in Fence.wide 9 (fun _ _ _ _ _ h => callsIn_wide.2 h) trivial trivial trivial trivial trivial trivial rfl (by decide) B a1 a2 a3 c1 c2 c3 ki pr w lo hi hhi hfit hon hpr hin hv)
end Go.Proofs.YtkecnaaacbckoaaGreat
namespace Go.Proofs.YtkecnaaacbckoaaGreat
open Go.RowKit
set_option maxRecDepth 100000 in
set_option maxHeartbeats 1000000 in
theorem specBookList_any (B : Bk) (a1 a2 a3 : Option Addr) (c1 c2 c3 : Nat) (ki pr : ByteArray) (w : World) (lo hi : Nat) (hhi : hi ≤ w.heap.size) (hfit : BkFit B) (hon : (B.on : Int) ≤ 1048576) (hpr : (pr.size : Int) ≤ 140737488355328) (hin : BkIn w lo hi B a1 a2 a3) :
    Calls Tryz.prog 78 #[.agg #[.int .i64 B.now, .int .i64 B.floor, .slice a1 B.on c1, .slice a2 B.hn c2, .slice a3 B.tn c3], .string ki, .string pr] w fun e w' => ∃ ad' cap' g A C hb, e = .returned (.tuple #[.slice ad' (resL B ki pr).length cap', .int .i64 (resN B)]) ∧ ObsAt w' ad' g (resL B ki pr).length (pick B.os (resL B ki pr)) A C hb ∧ (∀ q, blkH g (resL B ki pr).length (fun i => (pick B.os (resL B ki pr) i).hn) hb q → w.heap.size ≤ q) ∧ Below w.heap.size w w' := by
  cases hv : allTo (chk B) 7 with
  | false =>
    have HE1 := hid (show resL B ki pr = [] by simp [resL, hv])
    have HE2 := hid (show resN B = 0 by simp [resN, hv])
    go_enter Tryz.func78, Tryz.ntmps78
    go_wp2_with (go_at_call 39; go_must (refine (specValid_any B a1 a2 a3 c1 c2 c3 _ lo hi (by simp; omega) hfit (hin.below (below_alloc _ _) hhi)).mono ?_; rw [hv]; rintro e w1 ⟨rfl, hb1⟩))
    refine bodyPost_ret (v := .tuple #[.slice (some ⟨w1.heap.size, 0, none⟩) 0 0, .int .i64 0]) (by simp [results, Tryz.results78, go_sem]) rfl ?_
    rw [HE1.out, HE2.out]
    exact ⟨_, _, 0, fun _ => none, fun _ => 0, fun _ => 0, rfl, obsAt_nil _ _ _ _ _ _ _, fun q hq => (blk_nil hq).elim, ((below_alloc _ _).trans (hb1.mono (by simp))).alloc (by have := hb1.size; simp at this; omega) _⟩
  | true =>
    have HE1 := hid (show resL B ki pr = flt (fun i => lkB (B.os i) ki pr) B.on by simp [resL, hv])
    have HE2 := hid (show resN B = B.now by simp [resN, hv])
    go_enter Tryz.func78, Tryz.ntmps78
    go_wp2_with (go_at_call 39; go_must (refine (specValid_any B a1 a2 a3 c1 c2 c3 _ lo hi (by simp; omega) hfit (hin.below (below_alloc _ _) hhi)).mono ?_; rw [hv]; rintro e w1 ⟨rfl, hb1⟩))
    have H1 := (holds_new w (bkCells B a1 a2 a3 c1 c2 c3) 32).below hb1 (by simp)
    obtain ⟨p0, p1, p2, p3, p4⟩ := holds_bk H1
    have hb1' : Below w.heap.size w w1 := (below_alloc _ _).trans (hb1.mono (by simp))
    have zw1 : w.heap.size < w1.heap.size := by have := hb1.size; simp at this; omega
    clear hb1
    go_region_with (go_at_call 119; go_must (refine (specList_any B.on B.os a1 c1 ki pr _ lo hi (by have := hb1'.size; simp; omega) hon hpr hfit.os (hin.o.below (hb1'.trans ((Below.refl _ _).drew)) hhi)).mono ?_; rintro e w2 ⟨ad', cap', g, A, C, hb, rfl, at', hq, hb2⟩; have q0 := (hb2.cell (p := ⟨w.heap.size, 0, none⟩) (by exact zw1)).trans p0; have HA := hid at'; have HQ := hid hq; clear at' hq))
    all_goals go_wp2
    all_goals refine bodyPost_ret (v := .tuple #[.slice ad' (flt (fun i => lkB (B.os i) ki pr) B.on).length cap', .int .i64 B.now]) (by simp [results, Tryz.results78, go_sem]) rfl ?_
    all_goals rw [HE1.out, HE2.out]
    all_goals exact ⟨ad', cap', g, A, C, hb, rfl, HA.out, fun q hq => Nat.le_trans hb1'.size (HQ.out q hq), (hb1'.trans ((Below.refl _ _).drew)).trans (hb2.mono hb1'.size)⟩
end Go.Proofs.YtkecnaaacbckoaaGreat
namespace Go.Proofs.YtkecnaaacbckoaaGreat
open Go.RowKit Go.Maps
theorem fit_of_sz {x : Bk} (h : szBk x ≤ 1048576) : (x.on : Int) ≤ 1048576 ∧ (∀ i, i < x.on → ((x.os i).hn : Int) ≤ 1048576) := by
  unfold szBk at h
  have h1 : szObs x.on x.os ≤ 1048576 := by omega
  unfold szObs at h1
  refine ⟨by omega, fun i hi => ?_⟩
  have h2 := sumTo_mono (fun i => szOb (x.os i)) (show i + 1 ≤ x.on by omega)
  simp only [sumTo, szOb, szStrs] at h2 h1
  omega
theorem mkObs_pick (x : Nat → Ob) (p : Nat → Bool) : ∀ n, mkObs 1 (pick x (flt p n)) (flt p n).length ≤ mkObs 1 x n
  | 0 => Nat.le_refl _
  | n + 1 => by
    have ih := mkObs_pick x p n
    cases hp : p n with
    | false => rw [flt_no hp]; exact Nat.le_trans ih (mkObs_mono 1 x (Nat.le_succ n))
    | true =>
      rw [flt_yes hp]
      have e : (flt p n ++ [n]).length = (flt p n).length + 1 := by simp
      rw [e]
      unfold mkObs
      rw [pick_new, mkObs_congr 1 (y := pick x (flt p n)) (fun i hi => pick_old hi)]
      omega
theorem res_len (x : Bk) (ki pr : ByteArray) : (resL x ki pr).length ≤ x.on := by
  unfold resL
  split
  · exact flt_len _ _
  · exact Nat.zero_le _
theorem res_mk (x : Bk) (ki pr : ByteArray) : mkObs 1 (pick x.os (resL x ki pr)) (resL x ki pr).length ≤ mkObs 1 x.os x.on := by
  unfold resL
  split
  · exact mkObs_pick _ _ _
  · exact mkObs_mono 1 x.os (Nat.zero_le _)
section
variable {W W' : World} {s0 : Nat} {x : Bk} {a1 a2 a3 : Option Addr} {c1 c2 c3 : Nat} {n : Nat} {y : Nat → Ob} {z3 z4 : Nat} {adw : Option Addr} {gw : Nat} {Aw : Nat → Option Addr} {Cw hw : Nat → Nat} {p : Pl} {d1 d2 d3 : Nat} {adg : Option Addr} {gg : Nat} {Ag : Nat → Option Addr} {Cg hg : Nat → Nat} {xm : Bk} {yg : Nat → Ob}
theorem Holds.frP {W W' : World} {B : Nat} {c : Array Value} {P : Nat → Prop} (h : Holds W B c) (hf : FrP P W W') (hB : B < W.heap.size) (hp : ¬ P B) : Holds W' B c := fun i => (hf.cell (p := ⟨B, i, none⟩) hB hp).trans (h i)
end
theorem implList_y (B : Bk) (a1 a2 a3 : Option Addr) (c1 c2 c3 : Nat) (ki pr : ByteArray) (n : Nat) (y : Nat → Ob) (nw : Int) (hn : (resL B ki pr).length = n) (hy : pick B.os (resL B ki pr) = y) (hN : resN B = nw) (w : World) (lo hi : Nat) (hhi : hi ≤ w.heap.size) (hfit : BkFit B) (hon : (B.on : Int) ≤ 1048576) (hpr : (pr.size : Int) ≤ 140737488355328) (hin : BkIn w lo hi B a1 a2 a3) :
    Calls Tryz.prog 79 #[.agg #[.int .i64 B.now, .int .i64 B.floor, .slice a1 B.on c1, .slice a2 B.hn c2, .slice a3 B.tn c3], .string ki, .string pr] w fun e w' => ∃ ad' cap' g A C hb, e = .returned (.tuple #[.slice ad' n cap', .int .i64 nw]) ∧ ObsAt w' ad' g n y A C hb ∧ (∀ q, blkH g n (fun i => (y i).hn) hb q → w.heap.size ≤ q) ∧ Below w.heap.size w w' := by
  subst hn; subst hy; subst hN
  exact implList_any B a1 a2 a3 c1 c2 c3 ki pr w lo hi hhi hfit hon hpr hin
theorem specList_y (B : Bk) (a1 a2 a3 : Option Addr) (c1 c2 c3 : Nat) (ki pr : ByteArray) (n : Nat) (y : Nat → Ob) (nw : Int) (hn : (resL B ki pr).length = n) (hy : pick B.os (resL B ki pr) = y) (hN : resN B = nw) (w : World) (lo hi : Nat) (hhi : hi ≤ w.heap.size) (hfit : BkFit B) (hon : (B.on : Int) ≤ 1048576) (hpr : (pr.size : Int) ≤ 140737488355328) (hin : BkIn w lo hi B a1 a2 a3) :
    Calls Tryz.prog 78 #[.agg #[.int .i64 B.now, .int .i64 B.floor, .slice a1 B.on c1, .slice a2 B.hn c2, .slice a3 B.tn c3], .string ki, .string pr] w fun e w' => ∃ ad' cap' g A C hb, e = .returned (.tuple #[.slice ad' n cap', .int .i64 nw]) ∧ ObsAt w' ad' g n y A C hb ∧ (∀ q, blkH g n (fun i => (y i).hn) hb q → w.heap.size ≤ q) ∧ Below w.heap.size w w' := by
  subst hn; subst hy; subst hN
  exact specBookList_any B a1 a2 a3 c1 c2 c3 ki pr w lo hi hhi hfit hon hpr hin
end Go.Proofs.YtkecnaaacbckoaaGreat
namespace Go.Proofs.YtkecnaaacbckoaaGreat
open Go.RowKit Go.Maps
/-- a mirror -/
structure Mr where
  kind : ByteArray
  pre : ByteArray
  at_ : Int
  n : Nat
  os : Nat → Ob
  seen : Int
structure MrFit (m : Mr) : Prop where
  k : (m.kind.size : Int) ≤ 140737488355328
  p : (m.pre.size : Int) ≤ 140737488355328
  n : (m.n : Int) ≤ 8796093022208
  os : ∀ i, i < m.n → ObFit (m.os i)
def szMr (m : Mr) : Nat := m.kind.size + m.pre.size + szObs m.n m.os
set_option maxRecDepth 100000 in
set_option maxHeartbeats 400000 in
theorem szMr_any (m : Mr) (a : Option Addr) (c : Nat) (left : Int) (w : World) (h0 : 0 ≤ left) (h1 : left ≤ 1048576) (lo hi : Nat) (hhi : hi ≤ w.heap.size) (hf : MrFit m) (hc : ObjsIn w lo hi a m.n m.os) :
    Calls Tryz.prog 27 #[.agg #[.string m.kind, .string m.pre, .int .i64 m.at_, .slice a m.n c, .int .i64 m.seen], .int .i64 left] w fun e w' => e = .returned (.int .i64 (szOut left (szMr m))) ∧ Below w.heap.size w w' := by
  obtain ⟨f1, f2, f3, f4⟩ := hf
  have hc1 := hc.below (below_alloc w (.cells #[.string m.kind, .string m.pre, .int .i64 m.at_, .slice a m.n c, .int .i64 m.seen] 54)) hhi
  clear hc
  unfold szMr
  go_enter Tryz.func27, Tryz.ntmps27
  go_wp2_with (go_at_call 36; go_must (refine (szObs_any m.n m.os a c _ _ lo hi (by simp; omega) f3 (by omega) (by omega) f4 (hc1)).mono ?_; rintro e w1 ⟨rfl, hb1⟩))
  · go_ret
    exact ⟨ret_int (szOut_no (by omega)).symm, below_alloc _ _⟩
  · go_ret
    exact ⟨ret_int (szOut_no (by omega)).symm, below_alloc _ _⟩
  · go_ret
    exact ⟨ret_int (szOut_no (by have := szOut_lt (by assumption); omega)).symm, (below_alloc _ _).trans (hb1.mono (by simp))⟩
  · go_ret
    obtain ⟨g1, g2⟩ := szOut_ge (l := left - m.kind.size - m.pre.size) (s := szObs m.n m.os) (by omega)
    exact ⟨ret_int (by have h := szOut_yes (left := left) (s := m.kind.size + m.pre.size + szObs m.n m.os) (by omega); omega), (below_alloc _ _).trans (hb1.mono (by simp))⟩
set_option maxRecDepth 100000 in
set_option maxHeartbeats 800000 in
theorem toMr_any (m : Mr) (a : Option Addr) (c : Nat) (w : World) (lo hi : Nat) (hhi : hi ≤ w.heap.size) (hn : (m.n : Int) ≤ 1099511627776) (hf : ∀ i, i < m.n → ObFit (m.os i)) (hc : ObjsIn w lo hi a m.n m.os) :
    Calls Tryz.prog 29 #[.agg #[.string m.kind, .string m.pre, .int .i64 m.at_, .slice a m.n c, .int .i64 m.seen]] w fun e w' => ∃ g d A C hb, e = .returned (.agg #[.string m.kind, .string m.pre, .int .i64 m.at_, .slice (some ⟨g, 0, none⟩) m.n d, .int .i64 m.seen]) ∧ ObsAt w' (some ⟨g, 0, none⟩) g m.n m.os A C hb ∧ (∀ q, blkH g m.n (fun i => (m.os i).hn) hb q → w.heap.size ≤ q) ∧ Below w.heap.size w w' := by
  go_enter Tryz.func29, Tryz.ntmps29
  go_wp2_with fail
  refine (toObs_any m.n m.os a c _ lo hi (by simp; omega) hn hf (hc.below (B := w.heap.size) ((((Below.refl _ _).alloc (Nat.le_refl _) _).alloc (by simp) _).alloc (by simp; omega) _) hhi)).mono ?_
  rintro e w1 ⟨d1, r1, rfl, ho1, hb1⟩
  have hB1 : Below w.heap.size w w1 := ((((Below.refl _ _).alloc (Nat.le_refl _) _).alloc (by simp) _).alloc (by simp; omega) _).trans (hb1.mono (by simp; omega))
  have hz1 : w.heap.size + 2 < w1.heap.size := by have := hb1.size; simp at this; omega
  obtain ⟨A0, A1, A2, F1, F2⟩ := three_cell hb1
  have b3 := A0 3
  have b4 := A0 4
  have p0 := A1 0
  have p1 := A1 1
  have p2 := A1 2
  have p3 := A1 3
  have p4 := A1 4
  have o0 := A2 0
  have o1 := A2 1
  have o2 := A2 2
  have o3 := A2 3
  have o4 := A2 4
  simp only [List.getElem?_toArray, List.getElem?_cons_succ, List.getElem?_cons_zero] at b3 b4 p0 p1 p2 p3 p4 o0 o1 o2 o3 o4
  simp only [World.size_alloc] at ho1 ⊢
  clear A0 A1 A2 hb1
  have HO1 := hid ho1
  clear ho1
  go_wp2
  refine bodyPost_ret (v := .agg #[.string m.kind, .string m.pre, .int .i64 m.at_, .slice (some ⟨w.heap.size + 1 + 1 + 1, 0, none⟩) m.n d1, .int .i64 m.seen]) (by simp [results, Tryz.results29, go_sem, p0, p1, p2, p3, p4]) rfl ?_
  have hT : Fr w.heap.size (w.heap.size + 3) w1 ((((((((w1.setCell ⟨w.heap.size + 1 + 1, 3, none⟩ (.slice (some ⟨w.heap.size + 1 + 1 + 1, 0, none⟩) m.n d1)).setCell ⟨w.heap.size + 1 + 1, 4, none⟩ (.int .i64 m.seen)).setCell ⟨w.heap.size + 1, 0, none⟩ (.string m.kind)).setCell ⟨w.heap.size + 1, 1, none⟩ (.string m.pre)).setCell ⟨w.heap.size + 1, 2, none⟩ (.int .i64 m.at_)).setCell ⟨w.heap.size + 1, 3, none⟩ (.slice (some ⟨w.heap.size + 1 + 1 + 1, 0, none⟩) m.n d1)).setCell ⟨w.heap.size + 1, 4, none⟩ (.int .i64 m.seen))) := by
    iterate 7 refine Fr.setCell ?_ (by simp; try omega) (by simp; try omega) _
    exact Fr.refl _ _ _
  obtain ⟨A, C, hb, at', hq⟩ := (HO1.out.fr hT (Or.inr (by omega))).at
  have x1 := HO1.out.r0
  refine ⟨_, d1, A, C, hb, rfl, at', fun q hq' => ?_, hB1.trans (Fr.below (lo := w.heap.size) (hi := w.heap.size + 3) hT (Nat.le_refl _) hB1.size)⟩
  have := hq q hq'
  omega
set_option maxRecDepth 100000 in
set_option maxHeartbeats 400000 in
theorem eqMr_any (m : Mr) (a b : Option Addr) (c d : Nat) (w : World) (lo hi lo2 hi2 : Nat) (hh : hi ≤ w.heap.size) (hh2 : hi2 ≤ w.heap.size) (hn : (m.n : Int) ≤ 140737488355328) (hf : ∀ i, i < m.n → ((m.os i).hn : Int) ≤ 140737488355328) (hc : ObjsIn w lo hi a m.n m.os) (hc2 : ObjsIn w lo2 hi2 b m.n m.os) :
    Calls Tryz.prog 31 #[.agg #[.string m.kind, .string m.pre, .int .i64 m.at_, .slice a m.n c, .int .i64 m.seen], .agg #[.string m.kind, .string m.pre, .int .i64 m.at_, .slice b m.n d, .int .i64 m.seen]] w fun e w' => e = .returned (.bool true) ∧ Below w.heap.size w w' := by
  go_enter Tryz.func31, Tryz.ntmps31
  go_wp2_with fail
  refine (eqObs_any m.n m.os a b c d _ lo hi lo2 hi2 (by simp; omega) (by simp; omega) hn hf (hc.below (B := w.heap.size) ((below_alloc _ _).alloc (by simp) _) hh) (hc2.below (B := w.heap.size) ((below_alloc _ _).alloc (by simp) _) hh2)).mono ?_
  rintro e w1 ⟨rfl, hb1⟩
  have hB1 : Below w.heap.size w w1 := ((below_alloc _ _).alloc (by simp) _).trans (hb1.mono (by simp; omega))
  obtain ⟨A0, A1, _, _⟩ := two_cell hb1
  have u4 := A0 4
  have v4 := A1 4
  simp only [List.getElem?_toArray, List.getElem?_cons_succ, List.getElem?_cons_zero] at u4 v4
  clear A0 A1 hb1
  go_wp2
  go_ret
  exact ⟨rfl, hB1⟩
set_option maxRecDepth 100000 in
theorem markMr_own (m : Mr) (ad : Option Addr) (g : Nat) (A : Nat → Option Addr) (C hb : Nat → Nat) (c k0 : Nat) (w : World) (hl : (m.n : Int) ≤ 1048576) (hk1 : 1 ≤ (k0 : Int)) (hk2 : (mkObs k0 m.os m.n : Int) ≤ 1073741824) (hc : ObsAt w ad g m.n m.os A C hb) :
    Calls Tryz.prog 32 #[.agg #[.string m.kind, .string m.pre, .int .i64 m.at_, .slice ad m.n c, .int .i64 m.seen], .int .i64 k0] w fun e w' => e = .returned (.int .i64 (mkObs k0 m.os m.n)) ∧ ObsAt w' ad g m.n (ykOb k0 m.os m.n) A C hb ∧ FrP (blkH g m.n (fun i => (m.os i).hn) hb) w w' := by
  have HC := hid (hc.grow (below_alloc w (.cells #[.string m.kind, .string m.pre, .int .i64 m.at_, .slice ad m.n c, .int .i64 m.seen] 57)))
  clear hc
  go_enter Tryz.func32, Tryz.ntmps32
  go_wp2_with fail
  refine (markObs_own ad g m.n m.os A C hb c k0 _ hl hk1 hk2 HC.out).mono ?_
  rintro e w1 ⟨rfl, o1, f1⟩
  have O1 := hid o1
  have F1 := hid ((FrP.of_below (P := blkH g m.n (fun i => (m.os i).hn) hb) (below_alloc w (.cells #[.string m.kind, .string m.pre, .int .i64 m.at_, .slice ad m.n c, .int .i64 m.seen] 57))).trans f1)
  clear o1 f1
  go_wp2
  go_ret
  exact ⟨rfl, O1.out, F1.out⟩
set_option maxRecDepth 100000 in
theorem heldMr_own (m : Mr) (ad : Option Addr) (g : Nat) (A : Nat → Option Addr) (C hb : Nat → Nat) (c k0 : Nat) (w : World) (os : Nat → Ob) (hl : (m.n : Int) ≤ 1048576) (hk1 : 1 ≤ (k0 : Int)) (hk2 : (mkObs k0 os m.n : Int) ≤ 1073741824) (hc : ObsAt w ad g m.n (ykOb k0 os m.n) A C hb) :
    Calls Tryz.prog 33 #[.agg #[.string m.kind, .string m.pre, .int .i64 m.at_, .slice ad m.n c, .int .i64 m.seen], .int .i64 k0] w fun e w' => e = .returned (.int .i64 (mkObs k0 os m.n)) ∧ Below w.heap.size w w' := by
  have HC := hid (hc.grow (below_alloc w (.cells #[.string m.kind, .string m.pre, .int .i64 m.at_, .slice ad m.n c, .int .i64 m.seen] 57)))
  clear hc
  have hpos := mkObs_pos k0 os m.n (by omega)
  go_enter Tryz.func33, Tryz.ntmps33
  go_wp2_with fail
  refine (heldObs_own ad g m.n os A C hb c k0 _ hl hk1 hk2 HC.out).mono ?_
  rintro e w1 ⟨rfl, hb1⟩
  have hB1 : Below w.heap.size w w1 := (below_alloc _ _).trans (hb1.mono (by simp))
  clear hb1
  go_wp2
  go_ret
  exact ⟨rfl, hB1⟩
end Go.Proofs.YtkecnaaacbckoaaGreat
namespace Go.Proofs.YtkecnaaacbckoaaGreat
open Go.RowKit Go.Maps
set_option maxRecDepth 100000 in
set_option maxHeartbeats 1000000 in
theorem implRelist_any (B : Bk) (a1 a2 a3 : Option Addr) (c1 c2 c3 : Nat) (m : Mr) (a : Option Addr) (c : Nat) (n : Nat) (y : Nat → Ob) (nw : Int) (hn : (resL B m.kind m.pre).length = n) (hy : pick B.os (resL B m.kind m.pre) = y) (hN : resN B = nw) (w : World) (lo hi : Nat) (hhi : hi ≤ w.heap.size) (hfit : BkFit B) (hon : (B.on : Int) ≤ 1048576) (hpr : (m.pre.size : Int) ≤ 140737488355328) (hin : BkIn w lo hi B a1 a2 a3) :
    Calls Tryz.prog 30 #[.agg #[.int .i64 B.now, .int .i64 B.floor, .slice a1 B.on c1, .slice a2 B.hn c2, .slice a3 B.tn c3], .agg #[.string m.kind, .string m.pre, .int .i64 m.at_, .slice a m.n c, .int .i64 m.seen]] w fun e w' => ∃ ad' cap' g A C hb, e = .returned (.agg #[.string m.kind, .string m.pre, .int .i64 nw, .slice ad' n cap', .int .i64 m.seen]) ∧ ObsAt w' ad' g n y A C hb ∧ (∀ q, blkH g n (fun i => (y i).hn) hb q → w.heap.size ≤ q) ∧ Below w.heap.size w w' := by
  have HI := hid hin
  have HN := hid hn
  have HY := hid hy
  have HW := hid hN
  clear hin hn hy hN
  go_enter Tryz.func30, Tryz.ntmps30
  go_wp2_with fail
  refine (implList_y B a1 a2 a3 c1 c2 c3 m.kind m.pre n y nw HN.out HY.out HW.out _ lo hi (by simp; omega) hfit hon hpr (HI.out.below (B := w.heap.size) ((((Below.refl _ _).alloc (Nat.le_refl _) _).alloc (by simp) _).alloc (by simp; omega) _) hhi)).mono ?_
  rintro e w1 ⟨adw, cw, g, A, C, hb, rfl, at1, hq1, hb1⟩
  have hB1 : Below w.heap.size w w1 := ((((Below.refl _ _).alloc (Nat.le_refl _) _).alloc (by simp) _).alloc (by simp; omega) _).trans (hb1.mono (by simp; omega))
  have hz1 : w.heap.size + 2 < w1.heap.size := by have := hb1.size; simp at this; omega
  obtain ⟨A0, A1, A2, F1, F2⟩ := three_cell hb1
  have p0 := A1 0
  have p1 := A1 1
  have p2 := A1 2
  have p3 := A1 3
  have p4 := A1 4
  have o0 := A2 0
  have o1 := A2 1
  have o2 := A2 2
  have o3 := A2 3
  have o4 := A2 4
  simp only [List.getElem?_toArray, List.getElem?_cons_succ, List.getElem?_cons_zero] at p0 p1 p2 p3 p4 o0 o1 o2 o3 o4
  simp only [World.size_alloc] at hq1
  have AT := hid at1
  have HQ := hid hq1
  clear A0 A1 A2 hb1 at1 hq1
  go_wp2
  refine bodyPost_ret (v := .agg #[.string m.kind, .string m.pre, .int .i64 nw, .slice adw n cw, .int .i64 m.seen]) (by simp [results, Tryz.results30, go_sem, o0, o1, o2, o3, o4]) rfl ?_
  refine ⟨adw, cw, g, A, C, hb, rfl, AT.out.fr (P := fun q => q = w.heap.size + 1 ∨ q = w.heap.size + 1 + 1) ?_ (fun q hq e => by have := HQ.out q hq; omega), fun q hq => by have := HQ.out q hq; omega, ?_⟩
  · iterate 7 refine FrP.setCell (P := fun q => q = w.heap.size + 1 ∨ q = w.heap.size + 1 + 1) ?_ (by simp) _
    exact FrP.refl _ _
  · iterate 7 refine Below.setCell ?_ (by simp; try omega) _
    exact hB1
set_option maxRecDepth 100000 in
set_option maxHeartbeats 1000000 in
theorem copyMr_any (m : Mr) (a : Option Addr) (c : Nat) (w : World) (lo hi : Nat) (hhi : hi ≤ w.heap.size) (hl : (m.n : Int) ≤ 1048576) (hf : ∀ i, i < m.n → ObFit (m.os i)) (hc : ObjsIn w lo hi a m.n m.os) :
    Calls Tryz.prog 77 #[.agg #[.string m.kind, .string m.pre, .int .i64 m.at_, .slice a m.n c, .int .i64 m.seen]] w fun e w' => ∃ ad' cap' g A C hb, e = .returned (.agg #[.string m.kind, .string m.pre, .int .i64 m.at_, .slice ad' m.n cap', .int .i64 m.seen]) ∧ ObsAt w' ad' g m.n m.os A C hb ∧ (∀ q, blkH g m.n (fun i => (m.os i).hn) hb q → w.heap.size ≤ q) ∧ Below w.heap.size w w' := by
  have HI := hid hc
  clear hc
  go_enter Tryz.func77, Tryz.ntmps77
  go_wp2_with fail
  refine (specObs_any m.n m.os a c _ lo hi (by simp; omega) hl hf (HI.out.below (B := w.heap.size) (((Below.refl _ _).alloc (Nat.le_refl _) _).alloc (by simp) _) hhi)).mono ?_
  rintro e w1 ⟨adw, cw, g, A, C, hb, rfl, at1, hq1, hb1⟩
  have hB1 : Below w.heap.size w w1 := (((Below.refl _ _).alloc (Nat.le_refl _) _).alloc (by simp) _).trans (hb1.mono (by simp; omega))
  have hz1 : w.heap.size + 1 < w1.heap.size := by have := hb1.size; simp at this; omega
  obtain ⟨A0, A1, F0, F1⟩ := two_cell hb1
  have p0 := A0 0
  have p1 := A0 1
  have p2 := A0 2
  have p3 := A0 3
  have p4 := A0 4
  have o0 := A1 0
  have o1 := A1 1
  have o2 := A1 2
  have o3 := A1 3
  have o4 := A1 4
  simp only [List.getElem?_toArray, List.getElem?_cons_succ, List.getElem?_cons_zero] at p0 p1 p2 p3 p4 o0 o1 o2 o3 o4
  simp only [World.size_alloc] at hq1
  have AT := hid at1
  have HQ := hid hq1
  clear A0 A1 hb1 at1 hq1
  go_wp2
  refine bodyPost_ret (v := .agg #[.string m.kind, .string m.pre, .int .i64 m.at_, .slice adw m.n cw, .int .i64 m.seen]) (by simp [results, Tryz.results77, go_sem, o0, o1, o2, o3, o4]) rfl ?_
  refine ⟨adw, cw, g, A, C, hb, rfl, AT.out.fr (P := fun q => q = w.heap.size ∨ q = w.heap.size + 1) ?_ (fun q hq e => by have := HQ.out q hq; omega), fun q hq => by have := HQ.out q hq; omega, ?_⟩
  · iterate 6 refine FrP.setCell (P := fun q => q = w.heap.size ∨ q = w.heap.size + 1) ?_ (by simp) _
    exact FrP.refl _ _
  · iterate 6 refine Below.setCell ?_ (by simp; try omega) _
    exact hB1
set_option maxRecDepth 100000 in
set_option maxHeartbeats 1000000 in
theorem specRelist_any (B : Bk) (a1 a2 a3 : Option Addr) (c1 c2 c3 : Nat) (m : Mr) (a : Option Addr) (c : Nat) (n : Nat) (y : Nat → Ob) (nw : Int) (hn : (resL B m.kind m.pre).length = n) (hy : pick B.os (resL B m.kind m.pre) = y) (hN : resN B = nw) (w : World) (lo hi : Nat) (hhi : hi ≤ w.heap.size) (hfit : BkFit B) (hon : (B.on : Int) ≤ 1048576) (hpr : (m.pre.size : Int) ≤ 140737488355328) (hin : BkIn w lo hi B a1 a2 a3) (hl : (m.n : Int) ≤ 1048576) (hmf : ∀ i, i < m.n → ObFit (m.os i)) (hmc : ObjsIn w lo hi a m.n m.os) :
    Calls Tryz.prog 28 #[.agg #[.int .i64 B.now, .int .i64 B.floor, .slice a1 B.on c1, .slice a2 B.hn c2, .slice a3 B.tn c3], .agg #[.string m.kind, .string m.pre, .int .i64 m.at_, .slice a m.n c, .int .i64 m.seen]] w fun e w' => ∃ ad' cap' g A C hb, e = .returned (.agg #[.string m.kind, .string m.pre, .int .i64 nw, .slice ad' n cap', .int .i64 m.seen]) ∧ ObsAt w' ad' g n y A C hb ∧ (∀ q, blkH g n (fun i => (y i).hn) hb q → w.heap.size ≤ q) ∧ Below w.heap.size w w' := by
  have HI := hid hin
  have HN := hid hn
  have HY := hid hy
  have HW := hid hN
  have HM := hid hmc
  clear hin hn hy hN hmc
  go_enter Tryz.func28, Tryz.ntmps28
  go_wp2_with fail
  refine (copyMr_any m a c _ lo hi (by simp; omega) hl hmf (HM.out.below (B := w.heap.size) ((((Below.refl _ _).alloc (Nat.le_refl _) _).alloc (by simp) _).alloc (by simp; omega) _) hhi)).mono ?_
  rintro e w0 ⟨ad0, d0, g0, A0', C0', hb0', rfl, _, _, hb0⟩
  have hB0 : Below w.heap.size w w0 := ((((Below.refl _ _).alloc (Nat.le_refl _) _).alloc (by simp) _).alloc (by simp; omega) _).trans (hb0.mono (by simp; omega))
  have hz0 : w.heap.size + 2 < w0.heap.size := by have := hb0.size; simp at this; omega
  obtain ⟨A0, A1, A2, F1, F2⟩ := three_cell hb0
  have k0 := A0 0
  have k1 := A0 1
  have k2 := A0 2
  have k3 := A0 3
  have k4 := A0 4
  have p0 := A1 0
  have p1 := A1 1
  have o0 := A2 0
  have o1 := A2 1
  have o2 := A2 2
  have o3 := A2 3
  have o4 := A2 4
  simp only [List.getElem?_toArray, List.getElem?_cons_succ, List.getElem?_cons_zero] at k0 k1 k2 k3 k4 p0 p1 o0 o1 o2 o3 o4
  clear A0 A1 A2 hb0 F1
  have KB := below_alloc w0 (.cells #[.string m.kind, .string m.pre, .int .i64 m.at_, .slice ad0 m.n d0, .int .i64 m.seen] 57)
  have k0 := (KB.cell (p := ⟨w.heap.size, 0, none⟩) (by show w.heap.size < _; omega)).trans k0
  have k1 := (KB.cell (p := ⟨w.heap.size, 1, none⟩) (by show w.heap.size < _; omega)).trans k1
  have k2 := (KB.cell (p := ⟨w.heap.size, 2, none⟩) (by show w.heap.size < _; omega)).trans k2
  have k3 := (KB.cell (p := ⟨w.heap.size, 3, none⟩) (by show w.heap.size < _; omega)).trans k3
  have k4 := (KB.cell (p := ⟨w.heap.size, 4, none⟩) (by show w.heap.size < _; omega)).trans k4
  have p0 := (KB.cell (p := ⟨w.heap.size + 1, 0, none⟩) (by show w.heap.size + 1 < _; omega)).trans p0
  have p1 := (KB.cell (p := ⟨w.heap.size + 1, 1, none⟩) (by show w.heap.size + 1 < _; omega)).trans p1
  clear KB
  go_wp2_with fail
  refine (specList_y B a1 a2 a3 c1 c2 c3 m.kind m.pre n y nw HN.out HY.out HW.out _ lo hi (by simp; omega) hfit hon hpr (HI.out.below (B := w.heap.size) (hB0.alloc hB0.size _) hhi)).mono ?_
  rintro e w1 ⟨adw, cw, g, A, C, hb, rfl, at1, hq1, hb1⟩
  have hB1 : Below w.heap.size w w1 := (hB0.alloc hB0.size _).trans (hb1.mono (by simp; omega))
  have hz1 : w0.heap.size < w1.heap.size := by have := hb1.size; simp at this; omega
  have x0 := box_cell hb1 0
  have x1 := box_cell hb1 1
  have x2 := box_cell hb1 2
  have x3 := box_cell hb1 3
  have x4 := box_cell hb1 4
  simp only [List.getElem?_toArray, List.getElem?_cons_succ, List.getElem?_cons_zero] at x0 x1 x2 x3 x4
  have fx : ∀ i, w1.frozen? ⟨w0.heap.size, i, none⟩ = false := fun i => (hb1.frozen (p := ⟨w0.heap.size, i, none⟩) (by simp)).trans (by rw [World.frozen?_alloc_at _ _ _ _ rfl])
  have b01 : Below w0.heap.size w0 w1 := (below_alloc _ _).trans (hb1.mono (by simp))
  have o0 := (b01.cell (p := ⟨w.heap.size + 1 + 1, 0, none⟩) (by show w.heap.size + 1 + 1 < _; omega)).trans o0
  have o1 := (b01.cell (p := ⟨w.heap.size + 1 + 1, 1, none⟩) (by show w.heap.size + 1 + 1 < _; omega)).trans o1
  have o2 := (b01.cell (p := ⟨w.heap.size + 1 + 1, 2, none⟩) (by show w.heap.size + 1 + 1 < _; omega)).trans o2
  have o3 := (b01.cell (p := ⟨w.heap.size + 1 + 1, 3, none⟩) (by show w.heap.size + 1 + 1 < _; omega)).trans o3
  have o4 := (b01.cell (p := ⟨w.heap.size + 1 + 1, 4, none⟩) (by show w.heap.size + 1 + 1 < _; omega)).trans o4
  have fo : ∀ i, w1.frozen? ⟨w.heap.size + 1 + 1, i, none⟩ = false := fun i => (b01.frozen (p := ⟨w.heap.size + 1 + 1, i, none⟩) (by show w.heap.size + 1 + 1 < _; omega)).trans (F2 i)
  simp only [World.size_alloc] at hq1
  have AT := hid at1
  have HQ := hid hq1
  have hne : ¬ w.heap.size + 1 + 1 = w0.heap.size := by omega
  have hne2 : ¬ w0.heap.size = w.heap.size + 1 + 1 := by omega
  clear k0 k1 k2 k3 k4 p0 p1 hb1 at1 hq1 F2
  go_wp2
  refine bodyPost_ret (v := .agg #[.string m.kind, .string m.pre, .int .i64 nw, .slice adw n cw, .int .i64 m.seen]) (by simp [results, Tryz.results28, go_sem, o0, o1, o2, o3, o4]) rfl ?_
  refine ⟨adw, cw, g, A, C, hb, rfl, AT.out.fr (P := fun q => q = w0.heap.size ∨ q = w.heap.size + 1 + 1) ?_ (fun q hq e => by have := HQ.out q hq; omega), fun q hq => by have := HQ.out q hq; omega, ?_⟩
  · iterate 7 refine FrP.setCell (P := fun q => q = w0.heap.size ∨ q = w.heap.size + 1 + 1) ?_ (by simp) _
    exact FrP.refl _ _
  · iterate 7 refine Below.setCell ?_ (by simp; try omega) _
    exact hB1
end Go.Proofs.YtkecnaaacbckoaaGreat
namespace Go.Proofs.YtkecnaaacbckoaaGreat
open Go.RowKit Go.Maps
def chAsc (n : Nat) (x : Nat → Ch) : Bool := allTo (fun i => i == 0 || decide ((x (i - 1)).ver < (x i).ver)) n
set_option maxRecDepth 100000 in
set_option maxHeartbeats 400000 in
theorem chBefore_any (x z : Ch) (ad ad2 : Option Addr) (cap cap2 : Nat) (w : World) :
    Calls Tryz.prog 158 #[.agg #[.int .i64 x.ver, .bool x.gone, .string x.ob.kind, .string x.ob.name, .int .i64 x.ob.ver, .int .i64 x.ob.born, .string x.ob.text, .bool x.ob.ending, .slice ad x.ob.hn cap], .agg #[.int .i64 z.ver, .bool z.gone, .string z.ob.kind, .string z.ob.name, .int .i64 z.ob.ver, .int .i64 z.ob.born, .string z.ob.text, .bool z.ob.ending, .slice ad2 z.ob.hn cap2]] w fun e w' => e = .returned (.bool (decide (x.ver < z.ver))) ∧ Below w.heap.size w w' := by
  have HB := hid (show ∀ o1 o2 : Obj, Below w.heap.size w ((w.alloc o1).alloc o2) from fun o1 o2 => (below_alloc' _ _).alloc (by simp) _)
  go_enter Tryz.func158, Tryz.ntmps158
  go_wp2
  go_ret
  exact ⟨rfl, HB.out _ _⟩
set_option maxRecDepth 100000 in
set_option maxHeartbeats 1000000 in
theorem chAsc_any (n : Nat) (x : Nat → Ch) (ad : Option Addr) (cap : Nat) (w : World) (lo hi : Nat) (hhi : hi ≤ w.heap.size) (hl : (n : Int) ≤ 140737488355328) (hc : ChgsIn w lo hi ad n x) :
    Calls Tryz.prog 157 #[.slice ad n cap, .func (.func 158) #[] #[]] w fun e w' => e = .returned (.bool (chAsc n x)) ∧ Below w.heap.size w w' := by
  go_enter Tryz.func157, Tryz.ntmps157
  go_wp2
  go_loopw [5] (fun i wr => ∃ k : Nat, 1 ≤ k ∧ (k ≤ n ∨ k = 1) ∧ i = .int .i64 k ∧ (∀ j, j < k → (j == 0 || decide ((x (j - 1)).ver < (x j).ver)) = true) ∧ Below w.heap.size w wr) (fun i _ => n - (intOf i).toNat)
  case atStart => exact ⟨1, Nat.le_refl _, Or.inr rfl, rfl, fun j hj => (by have : j = 0 := by omega
                                                                            subst this; rfl), Below.refl _ _⟩
  case round =>
    obtain ⟨k, hk1, hk, rfl, hall, hb⟩ := hrel
    by_cases hkn : k < n
    · obtain ⟨m, rfl⟩ : ∃ m, k = m + 1 := ⟨k - 1, by omega⟩
      obtain ⟨b, off, ah, ch, rfl, hlo, hbh, hcx, _⟩ := hc (m + 1) hkn
      obtain ⟨b', off', ah', ch', e, _, hbh', hcm, _⟩ := hc m (by omega)
      cases e
      obtain ⟨d0, d1, d2, d3, d4, d5, d6, d7, d8⟩ := hcx.below hb (by omega)
      obtain ⟨q0, q1, q2, q3, q4, q5, q6, q7, q8⟩ := hcm.below hb (by omega)
      have hbw : b < wr.heap.size := by have := hb.size; omega
      have rd0 := subcell d0 hbw
      have rd1 := subcell d1 hbw
      have rd2 := subcell d2 hbw
      have rd3 := subcell d3 hbw
      have rd4 := subcell d4 hbw
      have rd5 := subcell d5 hbw
      have rd6 := subcell d6 hbw
      have rd7 := subcell d7 hbw
      have rd8 := subcell d8 hbw
      have rq0 := subcell q0 hbw
      have rq1 := subcell q1 hbw
      have rq2 := subcell q2 hbw
      have rq3 := subcell q3 hbw
      have rq4 := subcell q4 hbw
      have rq5 := subcell q5 hbw
      have rq6 := subcell q6 hbw
      have rq7 := subcell q7 hbw
      have rq8 := subcell q8 hbw
      have hne : Nonempty (GW wr) := ⟨⟨wr, Below.refl _ _⟩⟩
      have HA := hid hall
      have hkz : (m : Int) + 1 ≤ n := by omega
      clear hall hc hk hcx hcm d0 d1 d2 d3 d4 d5 d6 d7 d8 q0 q1 q2 q3 q4 q5 q6 q7 q8
      obtain ⟨bb, hlt⟩ : ∃ bb, decide ((x m).ver < (x (m + 1)).ver) = bb := ⟨_, rfl⟩
      have hcall : ∀ W, Calls Tryz.prog 158 #[.agg #[.int .i64 (x m).ver, .bool (x m).gone, .string (x m).ob.kind, .string (x m).ob.name, .int .i64 (x m).ob.ver, .int .i64 (x m).ob.born, .string (x m).ob.text, .bool (x m).ob.ending, .slice ah' (x m).ob.hn ch'], .agg #[.int .i64 (x (m + 1)).ver, .bool (x (m + 1)).gone, .string (x (m + 1)).ob.kind, .string (x (m + 1)).ob.name, .int .i64 (x (m + 1)).ob.ver, .int .i64 (x (m + 1)).ob.born, .string (x (m + 1)).ob.text, .bool (x (m + 1)).ob.ending, .slice ah (x (m + 1)).ob.hn ch]] W fun e w' => e = .returned (.bool bb) ∧ Below W.heap.size W w' := fun W => by
        have := chBefore_any (x m) (x (m + 1)) ah' ah ch' ch W
        rw [hlt] at this
        exact this
      have HL := hid hlt
      have HCL := hid hcall
      clear hlt hcall
      cases bb with
      | false =>
        have HE := hid (show chAsc n x = false from allTo_no (p := fun i => i == 0 || decide ((x (i - 1)).ver < (x i).ver)) hkn (by simpa using HL.out))
        go_wp2
        refine wp_region_grow (by kernel_rfl) (by kernel_rfl) ?_
        repeat (go_big_quiet_step ((go_at_call 158; go_must (exact grow_of (HCL.out _)))))
        refine wpQuiet_nil ?_
        rintro w2 ⟨u, hu⟩
        have hw2 : Below wr.heap.size wr w2 := hu ▸ u.prop
        clear hu u
        go_wp2
        go_ret
        exact ⟨ret_bool HE.out.symm, hb.trans (hw2.mono hb.size)⟩
      | true =>
        have HN := hid (show (m + 1 == 0 || decide ((x (m + 1 - 1)).ver < (x (m + 1)).ver)) = true by simpa using HL.out)
        go_wp2
        refine wp_region_grow (by kernel_rfl) (by kernel_rfl) ?_
        repeat (go_big_quiet_step ((go_at_call 158; go_must (exact grow_of (HCL.out _)))))
        refine wpQuiet_nil ?_
        rintro w2 ⟨u, hu⟩
        have hw2 : Below wr.heap.size wr w2 := hu ▸ u.prop
        clear hu u
        go_wp2
        go_roundw
        case rel => exact ⟨m + 2, by omega, Or.inl (by omega), by go_num, fun j hj => (by
          rcases Nat.lt_or_ge j (m + 1) with h3 | h3
          · exact HA.out j h3
          · have : j = m + 1 := by omega
            subst this; exact HN.out), hb.trans (hw2.mono hb.size)⟩
        case measure => simp [intOf]; omega
    · have HE := hid (show chAsc n x = true from allTo_iff.2 (fun j hj => hall j (by omega)))
      clear hall
      go_wp2
      go_ret
      exact ⟨ret_bool HE.out.symm, hb⟩
/-- the code of taking news -/
def tkC (at_ cd fv : Int) (n : Nat) (x : Nat → Ch) : Int := if cd = 0 then (if fv < at_ ∨ chAsc n x = false then 2 else 0) else 1
set_option maxRecDepth 100000 in
set_option maxHeartbeats 1000000 in
theorem newsCode_any (m : Mr) (a : Option Addr) (c : Nat) (cd fv : Int) (n : Nat) (x : Nat → Ch) (an : Option Addr) (cn : Nat) (w : World) (lo hi : Nat) (hhi : hi ≤ w.heap.size) (hl : (n : Int) ≤ 140737488355328) (hc : ChgsIn w lo hi an n x) :
    Calls Tryz.prog 120 #[.agg #[.string m.kind, .string m.pre, .int .i64 m.at_, .slice a m.n c, .int .i64 m.seen], .agg #[.int .i64 cd, .slice an n cn, .int .i64 fv]] w fun e w' => e = .returned (.int .i64 (tkC m.at_ cd fv n x)) ∧ Below w.heap.size w w' := by
  have hB : ∀ o1 o2 : Obj, Below w.heap.size w ((w.alloc o1).alloc o2) := fun o1 o2 => (below_alloc' _ _).alloc (by simp) _
  have HB := hid hB
  have HC := hid hc
  clear hB hc
  obtain ⟨r, hr⟩ : ∃ r, tkC m.at_ cd fv n x = r := ⟨_, rfl⟩
  have HR := hid hr
  rw [hr]
  clear hr
  by_cases h0 : cd = 0
  · subst h0
    by_cases h1 : fv < m.at_
    · obtain rfl : r = 2 := by have := HR.out; simp [tkC, h1] at this; omega
      go_enter Tryz.func120, Tryz.ntmps120
      go_wp2
      go_ret
      exact ⟨rfl, HB.out _ _⟩
    · cases hA : chAsc n x with
      | true =>
        obtain rfl : r = 0 := by have := HR.out; simp [tkC, h1, hA] at this; omega
        go_enter Tryz.func120, Tryz.ntmps120
        go_wp2_with (go_at_call 157; go_must (refine (chAsc_any n x an cn _ lo hi (by simp; omega) hl (HC.out.below (HB.out _ _) hhi)).mono ?_; rw [hA]; rintro e w1 ⟨rfl, hb1⟩))
        go_ret
        exact ⟨rfl, (HB.out _ _).trans (hb1.mono (by simp; omega))⟩
      | false =>
        obtain rfl : r = 2 := by have := HR.out; simp [tkC, h1, hA] at this; omega
        go_enter Tryz.func120, Tryz.ntmps120
        go_wp2_with (go_at_call 157; go_must (refine (chAsc_any n x an cn _ lo hi (by simp; omega) hl (HC.out.below (HB.out _ _) hhi)).mono ?_; rw [hA]; rintro e w1 ⟨rfl, hb1⟩))
        go_ret
        exact ⟨rfl, (HB.out _ _).trans (hb1.mono (by simp; omega))⟩
  · obtain rfl : r = 1 := by have := HR.out; simp [tkC, h0] at this; omega
    have h0b : (cd == 0) = false := by simpa using h0
    go_enter Tryz.func120, Tryz.ntmps120
    go_wp2
    go_ret
    exact ⟨rfl, HB.out _ _⟩
end Go.Proofs.YtkecnaaacbckoaaGreat
namespace Go.Proofs.YtkecnaaacbckoaaGreat
open Go.RowKit Go.Maps
theorem BoxC.fr {w w1 : World} {P : Nat → Prop} {b : Nat} {c : Array Value} (h : BoxC w b c) (hf : FrP P w w1) (hp : ¬ P b) : BoxC w1 b c :=
  ⟨fun i => (hf.cell (p := ⟨b, i, none⟩) h.lt hp).trans (h.cell i), fun i => (hf.frozen (p := ⟨b, i, none⟩) h.lt hp).trans (h.free i), Nat.lt_of_lt_of_le h.lt hf.size⟩
theorem BoxC.set {w : World} {b j : Nat} {c : Array Value} (h : BoxC w b c) (hj : j < c.size) (u : Value) : BoxC (w.setCell ⟨b, j, none⟩ u) b (c.setIfInBounds j u) := by
  refine ⟨fun i => ?_, fun i => by rw [World.frozen?_setCell]; exact h.free i, by rw [World.size_setCell]; exact h.lt⟩
  by_cases e : i = j
  · subst e
    have hc := h.cell i
    rw [Array.getElem?_eq_getElem hj] at hc
    rw [World.cell?_setCell_same _ _ _ hc]
    simp [hj]
  · rw [World.cell?_setCell_other _ _ _ _ (fun q => e (by injection q with _ q2; exact q2.symm)), h.cell i, Array.getElem?_setIfInBounds_ne (fun q => e q.symm)]
/-- the box of a row -/
structure RowB (w : World) (R : Nat) (v : Value) : Prop where
  cell : w.cell? ⟨R, 0, none⟩ = some v
  free : w.frozen? ⟨R, 0, none⟩ = false
  lt : R < w.heap.size
theorem RowB.fr {w w1 : World} {P : Nat → Prop} {R : Nat} {v : Value} (h : RowB w R v) (hf : FrP P w w1) (hp : ¬ P R) : RowB w1 R v :=
  ⟨(hf.cell (p := ⟨R, 0, none⟩) h.lt hp).trans h.cell, (hf.frozen (p := ⟨R, 0, none⟩) h.lt hp).trans h.free, Nat.lt_of_lt_of_le h.lt hf.size⟩
theorem RowB.below {w w1 : World} {R : Nat} {v : Value} (h : RowB w R v) (hb : Below w.heap.size w w1) : RowB w1 R v := h.fr (FrP.of_below (P := fun _ => False) hb) (fun h => h)
/-- how far taking has come -/
structure TS where
  at_ : Int
  seen : Int
  l : List Ob
def tkStep (c : Ch) (s : TS) : TS := if c.ver ≤ s.at_ then s else ⟨c.ver, wrap64 (s.seen + 1), chgL c.ob c.gone s.l⟩
def tkTo (s : TS) (x : Nat → Ch) : Nat → TS | 0 => s | i + 1 => tkStep (x i) (tkTo s x i)
/-- where impl's loop stands -/
structure TkI (w wr : World) (m : Mr) (ad0 : Option Addr) (c0 : Nat) (cd fv : Int) (n : Nat) (an : Option Addr) (cn R : Nat) (s : TS) (i : Nat) (L : List EO) (ad : Option Addr) (g cap : Nat) : Prop where
  bm : BoxC wr w.heap.size #[.string m.kind, .string m.pre, .int .i64 s.at_, .slice ad0 m.n c0, .int .i64 s.seen]
  bn : BoxC wr (w.heap.size + 1) #[.int .i64 cd, .slice an n cn, .int .i64 fv]
  br : BoxC wr (w.heap.size + 1 + 1) #[.string ByteArray.empty, .string ByteArray.empty, .int .i64 0, .slice none 0 0, .int .i64 0]
  bR : RowB wr R (.slice ad L.length cap)
  row : RowS wr ad g cap L
  hold : HoldE wr L
  gR : ad ≠ none → ¬ R = g ∧ w.heap.size + 3 ≤ g
  hb : ∀ e, e ∈ L → e.ob.hn ≠ 0 → (ad ≠ none → e.hb ≠ g) ∧ e.hb ≠ R ∧ w.heap.size + 3 ≤ e.hb
  obs : L.map EO.ob = s.l
  len : L.length ≤ m.n + i
  low : Below w.heap.size w wr
  R3 : w.heap.size + 3 ≤ R
section
variable {w wr w' : World} {m : Mr} {ad0 : Option Addr} {c0 : Nat} {cd fv : Int} {n : Nat} {an : Option Addr} {cn R : Nat} {s : TS} {i : Nat} {L : List EO} {ad : Option Addr} {g cap : Nat}
theorem TkI.grow (h : TkI w wr m ad0 c0 cd fv n an cn R s i L ad g cap) (hb : Below wr.heap.size wr w') : TkI w w' m ad0 c0 cd fv n an cn R s i L ad g cap :=
  ⟨h.bm.below hb, h.bn.below hb, h.br.below hb, h.bR.below hb, h.row.grow hb, h.hold.grow hb, h.gR, h.hb, h.obs, h.len, h.low.trans (hb.mono h.low.size), h.R3⟩
theorem TkI.skip (h : TkI w wr m ad0 c0 cd fv n an cn R s i L ad g cap) : TkI w wr m ad0 c0 cd fv n an cn R s (i + 1) L ad g cap :=
  ⟨h.bm, h.bn, h.br, h.bR, h.row, h.hold, h.gR, h.hb, h.obs, by have := h.len; omega, h.low, h.R3⟩
theorem TkI.nonil (h : TkI w wr m ad0 c0 cd fv n an cn R s i L ad g cap) (hl : L ≠ []) : ad ≠ none ∧ g < wr.heap.size := by
  rcases h.row with ⟨_, h2, _⟩ | ⟨h1, h2, _⟩
  · exact absurd h2 hl
  · exact ⟨by rw [h1]; simp, h2.lt⟩
/-- another row: what was not the row stays -/
theorem TkI.turn (h : TkI w wr m ad0 c0 cd fv n an cn R s i L ad g cap) {c : Ch} (hv : ¬ c.ver ≤ s.at_) {L' : List EO} {ad' : Option Addr} {g' cap' : Nat} (hf : FrP (fun q => q = R ∨ (L ≠ [] ∧ q = g)) wr w') (hc : w'.cell? ⟨R, 0, none⟩ = some (.slice ad' L'.length cap')) (hz : w'.frozen? ⟨R, 0, none⟩ = false)
    (hrow : RowS w' ad' g' cap' L') (hhold : HoldE w' L') (hgR : ad' ≠ none → ¬ R = g' ∧ w.heap.size + 3 ≤ g') (hhb : ∀ e, e ∈ L' → e.ob.hn ≠ 0 → (ad' ≠ none → e.hb ≠ g') ∧ e.hb ≠ R ∧ w.heap.size + 3 ≤ e.hb) (hobs : L'.map EO.ob = chgL c.ob c.gone s.l) (hlen : L'.length ≤ L.length + 1) :
    TkI w ((w'.setCell ⟨w.heap.size, 2, none⟩ (.int .i64 c.ver)).setCell ⟨w.heap.size, 4, none⟩ (.int .i64 (wrap64 (s.seen + 1)))) m ad0 c0 cd fv n an cn R (tkStep c s) (i + 1) L' ad' g' cap' := by
  have hs : tkStep c s = ⟨c.ver, wrap64 (s.seen + 1), chgL c.ob c.gone s.l⟩ := if_neg hv
  have hR3 := h.R3
  have hno : ∀ q, q < w.heap.size + 3 → ¬ (q = R ∨ (L ≠ [] ∧ q = g)) := fun q hq e => by
    rcases e with e | ⟨e1, e2⟩
    · omega
    · have := (h.gR (h.nonil e1).1).2
      omega
  have F : FrP (fun q => q = w.heap.size) w' ((w'.setCell ⟨w.heap.size, 2, none⟩ (.int .i64 c.ver)).setCell ⟨w.heap.size, 4, none⟩ (.int .i64 (wrap64 (s.seen + 1)))) :=
    FrP.setCell (P := fun q => q = w.heap.size) (FrP.setCell (P := fun q => q = w.heap.size) (FrP.refl _ w') (p := ⟨w.heap.size, 2, none⟩) rfl _) (p := ⟨w.heap.size, 4, none⟩) rfl _
  have hbR : RowB w' R (.slice ad' L'.length cap') := ⟨hc, hz, Nat.lt_of_lt_of_le h.bR.lt hf.size⟩
  rw [hs]
  refine ⟨?_, (h.bn.fr hf (hno _ (by omega))).fr F (by show ¬ _ = _; omega), (h.br.fr hf (hno _ (by omega))).fr F (by show ¬ _ = _; omega), hbR.fr F (by show ¬ _ = _; omega), ?_, hhold.fr F (fun e he h0 => by have := (hhb e he h0).2.2; show ¬ _ = _; omega), hgR, hhb, hobs, by have := h.len; omega, ?_, hR3⟩
  · have b1 := (h.bm.fr hf (hno _ (by omega))).set (j := 2) (by simp) (.int .i64 c.ver)
    have b2 := b1.set (j := 4) (by simp) (.int .i64 (wrap64 (s.seen + 1)))
    exact b2
  · rcases hrow with h1 | ⟨h1, h2, h3⟩
    · exact Or.inl h1
    · exact Or.inr ⟨h1, h2.fr F (by have := (hgR (by rw [h1]; simp)).2; show ¬ _ = _; omega), h3⟩
  · have l1 : Below w.heap.size w w' := h.low.trans (hf.below (fun q hq => hno q (by omega)) h.low.size)
    exact l1.trans (F.below (fun q hq e => by have : q = w.heap.size := e; omega) l1.size)
theorem TkI.went (h : TkI w wr m ad0 c0 cd fv n an cn R s i L ad g cap) {c : Ch} (hv : ¬ c.ver ≤ s.at_) (hg : c.gone = true) (hc : w'.cell? ⟨R, 0, none⟩ = some (.slice ad (flK c.ob L).length cap)) (hz : w'.frozen? ⟨R, 0, none⟩ = false) (hrow : RowS w' ad g cap (flK c.ob L)) (hf : FrP (fun q => q = R ∨ (L ≠ [] ∧ q = g)) wr w') :
    TkI w ((w'.setCell ⟨w.heap.size, 2, none⟩ (.int .i64 c.ver)).setCell ⟨w.heap.size, 4, none⟩ (.int .i64 (wrap64 (s.seen + 1)))) m ad0 c0 cd fv n an cn R (tkStep c s) (i + 1) (flK c.ob L) ad g cap := by
  have hsub : (flK c.ob L).Sublist L := List.filter_sublist
  refine h.turn hv hf hc hz hrow ((h.hold.sub hsub).fr hf (fun e he h0 => ?_)) h.gR (fun e he => h.hb e (hsub.subset he)) ?_ (by have := hsub.length_le; omega)
  · have hh := h.hb e (hsub.subset he) h0
    rintro (h1 | ⟨h1, h2⟩)
    · exact hh.2.1 h1
    · exact hh.1 (h.nonil h1).1 h2
  · rw [flK_map, h.obs, chgL, hg, if_pos rfl]
theorem TkI.came (h : TkI w wr m ad0 c0 cd fv n an cn R s i L ad g cap) {c : Ch} (hv : ¬ c.ver ≤ s.at_) (hg : c.gone = false) {e : EO} {k g' cap' : Nat} (he : e.ob = c.ob) (ho : StrsOwn wr e.hb (e.hb + 1) e.A e.ob.hn e.ob.hs) (hlt : e.ob.hn ≠ 0 → e.hb < wr.heap.size) (h3 : w.heap.size + 3 ≤ e.hb) (hnR : e.ob.hn ≠ 0 → e.hb ≠ R) (hng : e.ob.hn ≠ 0 → L ≠ [] → e.hb ≠ g) (hnew : ∀ f, f ∈ L → e.ob.hn ≠ 0 → f.ob.hn ≠ 0 → e.hb ≠ f.hb)
    (hp : placeP e.ob L k) (z1 : wr.heap.size ≤ g') (z2 : (flK e.ob L).length + 1 ≤ cap') (hc : w'.cell? ⟨R, 0, none⟩ = some (.slice (some ⟨g', 0, none⟩) ((flK e.ob L).length + 1) cap')) (hz : w'.frozen? ⟨R, 0, none⟩ = false) (hrow : RowE w' g' ((flK e.ob L).take k ++ e :: (flK e.ob L).drop k)) (hf : FrP (fun q => q = R ∨ (L ≠ [] ∧ q = g)) wr w') :
    TkI w ((w'.setCell ⟨w.heap.size, 2, none⟩ (.int .i64 c.ver)).setCell ⟨w.heap.size, 4, none⟩ (.int .i64 (wrap64 (s.seen + 1)))) m ad0 c0 cd fv n an cn R (tkStep c s) (i + 1) ((flK e.ob L).take k ++ e :: (flK e.ob L).drop k) (some ⟨g', 0, none⟩) g' cap' := by
  have hsub : (flK e.ob L).Sublist L := List.filter_sublist
  have hlen : ((flK e.ob L).take k ++ e :: (flK e.ob L).drop k).length = (flK e.ob L).length + 1 := by
    have := place_le hp
    simp
    omega
  have hmem : ∀ f, f ∈ (flK e.ob L).take k ++ e :: (flK e.ob L).drop k → f = e ∨ f ∈ L := fun f hf' => by
    rcases List.mem_append.1 hf' with h1 | h1
    · exact Or.inr (hsub.subset (List.mem_of_mem_take h1))
    · rcases List.mem_cons.1 h1 with h2 | h2
      · exact Or.inl h2
      · exact Or.inr (hsub.subset (List.mem_of_mem_drop h2))
  have hho : HoldE wr ((flK e.ob L).take k ++ e :: (flK e.ob L).drop k) := by
    refine HoldE.ins ?_ ho hlt (fun f hf' => ?_)
    · rw [List.take_append_drop]
      exact h.hold.sub hsub
    · rw [List.take_append_drop] at hf'
      exact hnew f (hsub.subset hf')
  have hR := h.bR.lt
  refine h.turn hv hf (by rw [hlen]; exact hc) hz (Or.inr ⟨rfl, hrow, by rw [hlen]; exact z2⟩) (hho.fr hf (fun f hf' h0 => ?_)) (fun _ => ⟨by omega, by have := h.R3; omega⟩) (fun f hf' h0 => ?_) ?_ (by rw [hlen]; have := hsub.length_le; omega)
  · rcases hmem f hf' with rfl | h1
    · rintro (h1 | ⟨h1, h2⟩)
      · exact hnR h0 h1
      · exact hng h0 h1 h2
    · have hh := h.hb f h1 h0
      rintro (h2 | ⟨h2, h4⟩)
      · exact hh.2.1 h2
      · exact hh.1 (h.nonil h2).1 h4
  · rcases hmem f hf' with rfl | h1
    · exact ⟨fun _ => by have := hlt h0; omega, hnR h0, h3⟩
    · have hh := h.hb f h1 h0
      exact ⟨fun _ => by have := h.hold.lt f h1 h0; omega, hh.2.1, hh.2.2⟩
  · rw [put_list hp, h.obs, chgL, hg, he]
    rfl
end
/-- where the loop stands, at a slot and a world -/
def TkR (w : World) (m : Mr) (ad0 : Option Addr) (c0 : Nat) (cd fv : Int) (n : Nat) (x : Nat → Ch) (an : Option Addr) (cn R : Nat) (v : Value) (wr : World) : Prop :=
  ∃ (i : Nat) (L : List EO) (ad : Option Addr) (g cap : Nat), i ≤ n ∧ v = .int .i64 i ∧ TkI w wr m ad0 c0 cd fv n an cn R (tkTo ⟨m.at_, m.seen, tkL m.n m.os⟩ x i) i L ad g cap
end Go.Proofs.YtkecnaaacbckoaaGreat
namespace Go.Proofs.YtkecnaaacbckoaaGreat
open Go.RowKit Go.Maps
theorem resFin5 {X : World} {rb : Nat} {o : Array Value} (h : BoxC X rb o) (ho : o.size = 5) (v0 v1 v2 v3 v4 : Value) :
    ∃ Y, ((((X.setCell ⟨rb, 0, none⟩ v0).setCell ⟨rb, 1, none⟩ v1).setCell ⟨rb, 2, none⟩ v2).setCell ⟨rb, 3, none⟩ v3).setCell ⟨rb, 4, none⟩ v4 = Y ∧ FrP (fun q => q = rb) X Y ∧ Y.cell? ⟨rb, 0, none⟩ = some v0 ∧ Y.cell? ⟨rb, 1, none⟩ = some v1 ∧ Y.cell? ⟨rb, 2, none⟩ = some v2 ∧ Y.cell? ⟨rb, 3, none⟩ = some v3 ∧ Y.cell? ⟨rb, 4, none⟩ = some v4 := by
  have F : FrP (fun q => q = rb) X (((((X.setCell ⟨rb, 0, none⟩ v0).setCell ⟨rb, 1, none⟩ v1).setCell ⟨rb, 2, none⟩ v2).setCell ⟨rb, 3, none⟩ v3).setCell ⟨rb, 4, none⟩ v4) :=
    FrP.setCell (P := fun q => q = rb) (FrP.setCell (P := fun q => q = rb) (FrP.setCell (P := fun q => q = rb) (FrP.setCell (P := fun q => q = rb) (FrP.setCell (P := fun q => q = rb) (FrP.refl _ X) (p := ⟨rb, 0, none⟩) rfl _) (p := ⟨rb, 1, none⟩) rfl _) (p := ⟨rb, 2, none⟩) rfl _) (p := ⟨rb, 3, none⟩) rfl _) (p := ⟨rb, 4, none⟩) rfl _
  have b := ((((h.set (j := 0) (by omega) v0).set (j := 1) (by simp; omega) v1).set (j := 2) (by simp; omega) v2).set (j := 3) (by simp; omega) v3).set (j := 4) (by simp; omega) v4
  have c := b.cell
  exact ⟨_, rfl, F, by rw [c 0]; simp [ho], by rw [c 1]; simp [ho], by rw [c 2]; simp [ho], by rw [c 3]; simp [ho], by rw [c 4]; simp [ho]⟩
/-- what comes of taking news -/
def tkRes (m : Mr) (cd fv : Int) (n : Nat) (x : Nat → Ch) : TS := if tkC m.at_ cd fv n x = 0 then ⟨max (tkTo ⟨m.at_, m.seen, tkL m.n m.os⟩ x n).at_ fv, (tkTo ⟨m.at_, m.seen, tkL m.n m.os⟩ x n).seen, (tkTo ⟨m.at_, m.seen, tkL m.n m.os⟩ x n).l⟩ else ⟨m.at_, m.seen, tkL m.n m.os⟩
set_option maxRecDepth 100000 in
set_option maxHeartbeats 4000000 in
theorem implTake_any (m : Mr) (a : Option Addr) (c : Nat) (cd fv : Int) (n : Nat) (x : Nat → Ch) (an : Option Addr) (cn : Nat) (w : World) (lo hi : Nat) (hhi : hi ≤ w.heap.size) (hmn : (m.n : Int) ≤ 1048576) (hn : (n : Int) ≤ 1048576) (hf : ∀ i, i < m.n → ObFit (m.os i)) (hfx : ∀ i, i < n → ObFit (x i).ob) (hc : ObjsIn w lo hi a m.n m.os) (hx : ChgsIn w lo hi an n x) :
    Calls Tryz.prog 81 #[.agg #[.string m.kind, .string m.pre, .int .i64 m.at_, .slice a m.n c, .int .i64 m.seen], .agg #[.int .i64 cd, .slice an n cn, .int .i64 fv]] w fun r w' => ∃ (ad' : Option Addr) (cap' g : Nat) (L : List EO), r = .returned (.tuple #[.agg #[.string m.kind, .string m.pre, .int .i64 (tkRes m cd fv n x).at_, .slice ad' L.length cap', .int .i64 (tkRes m cd fv n x).seen], .int .i64 (tkC m.at_ cd fv n x)]) ∧ L.map EO.ob = (tkRes m cd fv n x).l ∧ (L ≠ [] → ad' = some ⟨g, 0, none⟩ ∧ RowE w' g L) ∧ HoldE w' L ∧ (L ≠ [] → w.heap.size ≤ g) ∧ (∀ e, e ∈ L → e.ob.hn ≠ 0 → e.hb ≠ g ∧ w.heap.size ≤ e.hb) ∧ Below w.heap.size w w' := by
  have HC := hid hc
  have HX := hid hx
  have HF := hid hf
  have HFX := hid hfx
  clear hc hx hf hfx
  have hb0 : ∀ o1 o2 o3, Below w.heap.size w (((w.alloc o1).alloc o2).alloc o3) := fun o1 o2 o3 => ((below_alloc _ _).alloc (by simp) _).alloc (by simp; omega) _
  have X0 : BoxC (((w.alloc (.cells #[.string m.kind, .string m.pre, .int .i64 m.at_, .slice a m.n c, .int .i64 m.seen] 57)).alloc (.cells #[.int .i64 cd, .slice an n cn, .int .i64 fv] 46)).alloc (.cells #[.string ByteArray.empty, .string ByteArray.empty, .int .i64 0, .slice none 0 0, .int .i64 0] 57)) w.heap.size #[.string m.kind, .string m.pre, .int .i64 m.at_, .slice a m.n c, .int .i64 m.seen] := ((boxC_new (w := w) (t := 57) (Below.refl _ _)).below (below_alloc _ (.cells #[.int .i64 cd, .slice an n cn, .int .i64 fv] 46))).below (below_alloc _ _)
  have X1 : BoxC (((w.alloc (.cells #[.string m.kind, .string m.pre, .int .i64 m.at_, .slice a m.n c, .int .i64 m.seen] 57)).alloc (.cells #[.int .i64 cd, .slice an n cn, .int .i64 fv] 46)).alloc (.cells #[.string ByteArray.empty, .string ByteArray.empty, .int .i64 0, .slice none 0 0, .int .i64 0] 57)) (w.heap.size + 1) #[.int .i64 cd, .slice an n cn, .int .i64 fv] := by
    have := (boxC_new (w := w.alloc (.cells #[.string m.kind, .string m.pre, .int .i64 m.at_, .slice a m.n c, .int .i64 m.seen] 57)) (c := #[.int .i64 cd, .slice an n cn, .int .i64 fv]) (t := 46) (Below.refl _ _)).below (below_alloc _ (.cells #[.string ByteArray.empty, .string ByteArray.empty, .int .i64 0, .slice none 0 0, .int .i64 0] 57))
    simpa using this
  have X2 : BoxC (((w.alloc (.cells #[.string m.kind, .string m.pre, .int .i64 m.at_, .slice a m.n c, .int .i64 m.seen] 57)).alloc (.cells #[.int .i64 cd, .slice an n cn, .int .i64 fv] 46)).alloc (.cells #[.string ByteArray.empty, .string ByteArray.empty, .int .i64 0, .slice none 0 0, .int .i64 0] 57)) (w.heap.size + 1 + 1) #[.string ByteArray.empty, .string ByteArray.empty, .int .i64 0, .slice none 0 0, .int .i64 0] := by
    have := boxC_new (w := (w.alloc (.cells #[.string m.kind, .string m.pre, .int .i64 m.at_, .slice a m.n c, .int .i64 m.seen] 57)).alloc (.cells #[.int .i64 cd, .slice an n cn, .int .i64 fv] 46)) (c := #[.string ByteArray.empty, .string ByteArray.empty, .int .i64 0, .slice none 0 0, .int .i64 0]) (t := 57) (Below.refl _ _)
    simpa using this
  have hzz : (((w.alloc (.cells #[.string m.kind, .string m.pre, .int .i64 m.at_, .slice a m.n c, .int .i64 m.seen] 57)).alloc (.cells #[.int .i64 cd, .slice an n cn, .int .i64 fv] 46)).alloc (.cells #[.string ByteArray.empty, .string ByteArray.empty, .int .i64 0, .slice none 0 0, .int .i64 0] 57)).heap.size = w.heap.size + 3 := by simp
  have HX0 := hid X0
  have HX1 := hid X1
  have HX2 := hid X2
  clear X0 X1 X2
  go_enter Tryz.func81, Tryz.ntmps81
  go_wp2_with fail
  refine (copyObjs2_any m.n m.os a c _ lo hi (by simp; omega) (by omega) HF.out (HC.out.below (hb0 _ _ _) hhi)).mono ?_
  rintro e w1 ⟨ad1, cap1, g1, A, C, hb, rfl, ⟨rfl, hnil⟩, hob, hq, hb1⟩
  have hz1 : w.heap.size + 3 ≤ w1.heap.size := by have := hb1.size; simp at this; omega
  have hB1 : Below w.heap.size w w1 := (hb0 _ _ _).trans (hb1.mono (by simp; omega))
  have Y0 := HX0.out.below (by exact hb1)
  have Y1 := HX1.out.below (by exact hb1)
  have Y2 := HX2.out.below (by exact hb1)
  have HOB := hid hob
  have HQ := hid (show ∀ q, blkH g1 m.n (fun i => (m.os i).hn) hb q → w.heap.size + 3 ≤ q from fun q h => by have := hq q h; simp at this; omega)
  have HNL := hid hnil
  obtain ⟨p0, p1, p2, p3, p4⟩ : w1.cell? ⟨w.heap.size, 0, none⟩ = some (.string m.kind) ∧ w1.cell? ⟨w.heap.size, 1, none⟩ = some (.string m.pre) ∧ w1.cell? ⟨w.heap.size, 2, none⟩ = some (.int .i64 m.at_) ∧ w1.cell? ⟨w.heap.size, 3, none⟩ = some (.slice a m.n c) ∧ w1.cell? ⟨w.heap.size, 4, none⟩ = some (.int .i64 m.seen) := ⟨Y0.cell 0, Y0.cell 1, Y0.cell 2, Y0.cell 3, Y0.cell 4⟩
  obtain ⟨q0, q1, q2⟩ : w1.cell? ⟨w.heap.size + 1, 0, none⟩ = some (.int .i64 cd) ∧ w1.cell? ⟨w.heap.size + 1, 1, none⟩ = some (.slice an n cn) ∧ w1.cell? ⟨w.heap.size + 1, 2, none⟩ = some (.int .i64 fv) := ⟨Y1.cell 0, Y1.cell 1, Y1.cell 2⟩
  have f3 := Y0.free 3
  have HY0 := hid Y0
  have HY1 := hid Y1
  have HY2 := hid Y2
  clear hob hq hb1 hnil HX0 HX1 HX2 Y0 Y1 Y2 HC HF
  go_wp2_with fail
  have F1 : FrP (fun q => q = w.heap.size) w1 (w1.setCell ⟨w.heap.size, 3, none⟩ (.slice ad1 m.n m.n)) := FrP.setCell (P := fun q => q = w.heap.size) (FrP.refl _ w1) (p := ⟨w.heap.size, 3, none⟩) rfl _
  have B1' : Below w.heap.size w (w1.setCell ⟨w.heap.size, 3, none⟩ (.slice ad1 m.n m.n)) := hB1.trans (F1.below (fun q hq e => by have : q = w.heap.size := e; omega) hB1.size)
  have hs1 : (w1.setCell ⟨w.heap.size, 3, none⟩ (.slice ad1 m.n m.n)).heap.size = w1.heap.size := World.size_setCell _ _ _
  refine (newsCode_any m ad1 m.n cd fv n x an cn _ lo hi (by rw [hs1]; omega) (by omega) (HX.out.below B1' hhi)).mono ?_
  rintro e w2 ⟨rfl, hb2⟩
  have hz2 : w1.heap.size ≤ w2.heap.size := by have := hb2.size; omega
  have hB2 : Below w.heap.size w w2 := B1'.trans (hb2.mono (by omega))
  have Y0 : BoxC w2 w.heap.size #[.string m.kind, .string m.pre, .int .i64 m.at_, .slice ad1 m.n m.n, .int .i64 m.seen] := (HY0.out.set (j := 3) (by simp) (.slice ad1 m.n m.n)).below hb2
  have Y1 := (HY1.out.fr F1 (by show ¬ _ = _; omega)).below hb2
  have Y2 := (HY2.out.fr F1 (by show ¬ _ = _; omega)).below hb2
  have HOB2 := hid ((HOB.out.fr F1 (fun q hq e => by have h1 := HQ.out q hq; have h2 : q = w.heap.size := e; omega)).grow hb2)
  clear p0 p1 p2 p3 p4 q0 q1 q2 f3 HY0 HY1 HY2 hb2 F1 B1' hs1 HOB
  have HY0 := hid Y0
  have HY1 := hid Y1
  have HY2 := hid Y2
  obtain ⟨p0, p1, p2, p3, p4⟩ : w2.cell? ⟨w.heap.size, 0, none⟩ = some (.string m.kind) ∧ w2.cell? ⟨w.heap.size, 1, none⟩ = some (.string m.pre) ∧ w2.cell? ⟨w.heap.size, 2, none⟩ = some (.int .i64 m.at_) ∧ w2.cell? ⟨w.heap.size, 3, none⟩ = some (.slice ad1 m.n m.n) ∧ w2.cell? ⟨w.heap.size, 4, none⟩ = some (.int .i64 m.seen) := ⟨Y0.cell 0, Y0.cell 1, Y0.cell 2, Y0.cell 3, Y0.cell 4⟩
  obtain ⟨r0, r1, r2, r3, r4⟩ : w2.cell? ⟨w.heap.size + 1 + 1, 0, none⟩ = some (.string ByteArray.empty) ∧ w2.cell? ⟨w.heap.size + 1 + 1, 1, none⟩ = some (.string ByteArray.empty) ∧ w2.cell? ⟨w.heap.size + 1 + 1, 2, none⟩ = some (.int .i64 0) ∧ w2.cell? ⟨w.heap.size + 1 + 1, 3, none⟩ = some (.slice none 0 0) ∧ w2.cell? ⟨w.heap.size + 1 + 1, 4, none⟩ = some (.int .i64 0) := ⟨Y2.cell 0, Y2.cell 1, Y2.cell 2, Y2.cell 3, Y2.cell 4⟩
  have e0 := Y2.free 0
  have e1 := Y2.free 1
  have e2 := Y2.free 2
  have e3 := Y2.free 3
  have e4 := Y2.free 4
  obtain ⟨q0, q1, q2⟩ : w2.cell? ⟨w.heap.size + 1, 0, none⟩ = some (.int .i64 cd) ∧ w2.cell? ⟨w.heap.size + 1, 1, none⟩ = some (.slice an n cn) ∧ w2.cell? ⟨w.heap.size + 1, 2, none⟩ = some (.int .i64 fv) := ⟨Y1.cell 0, Y1.cell 1, Y1.cell 2⟩
  clear Y0 Y1 Y2
  obtain ⟨hE1, hE2, hE3⟩ := rowE_of HOB2.out
  have HE1 := hid hE1
  have HE2 := hid hE2
  have HE3 := hid hE3
  have HQE := hid (show (rowE m.n m.os A C hb ≠ [] → w.heap.size + 3 ≤ g1) ∧ ∀ e, e ∈ rowE m.n m.os A C hb → e.ob.hn ≠ 0 → w.heap.size + 3 ≤ e.hb from ⟨fun h => HQ.out g1 (Or.inl ⟨by
      rcases Nat.eq_zero_or_pos m.n with e | e
      · exact absurd (by rw [e]; rfl) h
      · exact e, rfl⟩), fun e he h0 => by
      obtain ⟨i, hi, rfl⟩ := mem_ixE he
      rw [rowE_len] at hi
      rw [rowE_at hi] at h0 ⊢
      exact HQ.out _ (Or.inr ⟨i, hi, h0, rfl⟩)⟩)
  clear hE1 hE2 hE3 HQ HOB2
  by_cases hC : tkC m.at_ cd fv n x = 0
  · have hS : tkRes m cd fv n x = ⟨max (tkTo ⟨m.at_, m.seen, tkL m.n m.os⟩ x n).at_ fv, (tkTo ⟨m.at_, m.seen, tkL m.n m.os⟩ x n).seen, (tkTo ⟨m.at_, m.seen, tkL m.n m.os⟩ x n).l⟩ := if_pos hC
    have HS := hid hS
    have HCC := hid hC
    have hBR := below_alloc w2 (.cells #[.slice ad1 m.n m.n] 153)
    have hbx : BoxC (w2.alloc (.cells #[.slice ad1 m.n m.n] 153)) w2.heap.size #[.slice ad1 m.n m.n] := boxC_new (Below.refl _ _)
    have hnn : rowE m.n m.os A C hb = [] → m.n = 0 := fun h => by have := congrArg List.length h; rw [rowE_len] at this; exact this
    have hD : TkR w m ad1 m.n cd fv n x an cn w2.heap.size (.int .i64 0) (w2.alloc (.cells #[.slice ad1 m.n m.n] 153)) := by
      refine ⟨0, rowE m.n m.os A C hb, ad1, g1, m.n, Nat.zero_le _, rfl, HY0.out.below hBR, HY1.out.below hBR, HY2.out.below hBR, ⟨by rw [rowE_len]; exact hbx.cell 0, hbx.free 0, hbx.lt⟩, ?_, HE2.out.grow hBR, fun h => ?_, fun e he h0 => ⟨fun _ => HE3.out e he h0, ?_, HQE.out.2 e he h0⟩, rowE_obs _ _ _ _ _, by rw [rowE_len]; omega, hB2.trans (hBR.mono hB2.size), by omega⟩
      · by_cases h : rowE m.n m.os A C hb = []
        · exact Or.inl ⟨HNL.out (hnn h), h, hnn h⟩
        · exact Or.inr ⟨(HE1.out h).1, (HE1.out h).2.grow hBR, by rw [rowE_len]; exact Nat.le_refl _⟩
      · have hl : rowE m.n m.os A C hb ≠ [] := fun h2 => h (HNL.out (hnn h2))
        exact ⟨by have := (HE1.out hl).2.lt; omega, HQE.out.1 hl⟩
      · have := HE2.out.lt e he h0
        omega
    have HD := hid hD
    clear hD hbx hBR hS hnn
    rw [hC]
    clear hC
    have zb1 : w.heap.size + 1 < w2.heap.size := by omega
    go_wp2
    go_loopw [9, 28] (fun _ v wr => TkR w m ad1 m.n cd fv n x an cn w2.heap.size v wr) (fun _ v _ => n - (intOf v).toNat)
    case atStart => exact HD.out
    case round =>
      clear p0 p1 p2 p3 p4 q0 q1 q2 r0 r1 r2 r3 r4 e0 e1 e2 e3 e4 HD HY0 HY1 HY2 HE1 HE2 HE3 HQE HNL
      obtain ⟨i, L, ad, g, cap, hile, rfl, hI⟩ := hrel
      have HI := hid hI
      by_cases hin : i < n
      · obtain ⟨b, off, ah, chh, rfl, hlo, hbh, hcx, hsx⟩ := HX.out i hin
        obtain ⟨c0, c1, c2, c3, c4, c5, c6, c7, c8⟩ := hcx.below hI.low (by omega)
        have HSX := hid (hsx.below hI.low hhi)
        have hlow := hI.low.size
        have hbw : b < wr.heap.size := by omega
        obtain ⟨s, hs⟩ : ∃ s, tkTo ⟨m.at_, m.seen, tkL m.n m.os⟩ x i = s := ⟨_, rfl⟩
        have HSS := hid (show tkTo ⟨m.at_, m.seen, tkL m.n m.os⟩ x (i + 1) = tkStep (x i) s from by rw [← hs]; rfl)
        rw [hs] at hI HI
        have p2 : wr.cell? ⟨w.heap.size, 2, none⟩ = some (.int .i64 s.at_) := hI.bm.cell 2
        have zm : w.heap.size < wr.heap.size := hI.bm.lt
        have hiz : (i : Int) < n := by omega
        have hofx := (HFX.out i hin).h
        clear hI hs hcx hsx
        by_cases hv : (x i).ver ≤ s.at_
        · go_wp2
          go_roundw
          case rel => exact ⟨i + 1, L, ad, g, cap, hin, by go_num, by rw [HSS.out, tkStep, if_pos hv]; exact (HI.out.grow (below_alloc _ _)).skip⟩
          case measure => simp [intOf]; omega
        · have HV := hid hv
          go_wp2_with fail
          have hBw := below_alloc wr (.cells #[.int .i64 (x i).ver, .bool (x i).gone, .string (x i).ob.kind, .string (x i).ob.name, .int .i64 (x i).ob.ver, .int .i64 (x i).ob.born, .string (x i).ob.text, .bool (x i).ob.ending, .slice ah (x i).ob.hn chh] 75)
          refine (tidings_any (x i) ah chh _ lo hi (by simp; omega) hofx (by exact HSX.out.below hBw (by omega))).mono ?_
          rintro r w3 ⟨hcs, hb3⟩
          have hb3' : Below wr.heap.size wr w3 := hBw.trans (hb3.mono (by simp))
          have I3 := hid (HI.out.grow hb3')
          have CBB : Hid (BoxC w3 wr.heap.size #[.int .i64 (x i).ver, .bool (x i).gone, .string (x i).ob.kind, .string (x i).ob.name, .int .i64 (x i).ob.ver, .int .i64 (x i).ob.born, .string (x i).ob.text, .bool (x i).ob.ending, .slice ah (x i).ob.hn chh]) := boxC_new hb3
          have hz3 : wr.heap.size < w3.heap.size := by have := hb3.size; simp at this; omega
          have hln := HI.out.len
          clear hBw hb3 hb3' c0 c1 c2 c3 c4 c5 c6 c7 c8 p2
          rcases hcs with ⟨hg, rfl⟩ | ⟨hg, e, he, rfl, ho, z1, z2⟩
          · go_wp2_with fail
            refine (hearWent_any (x i).ob w2.heap.size ad g cap L w3 I3.out.bR.lt (fun h => (I3.out.gR h).1) I3.out.bR.cell I3.out.bR.free I3.out.row (by omega)).mono ?_
            rintro r w4 ⟨rfl, c4, f4, r4, hf4⟩
            have IF : Hid (TkI w ((w4.setCell ⟨w.heap.size, 2, none⟩ (.int .i64 (x i).ver)).setCell ⟨w.heap.size, 4, none⟩ (.int .i64 (wrap64 (s.seen + 1)))) m ad1 m.n cd fv n (some ⟨b, off, none⟩) cn w2.heap.size (tkTo ⟨m.at_, m.seen, tkL m.n m.os⟩ x (i + 1)) (i + 1) (flK (x i).ob L) ad g cap) := by
              show TkI w ((w4.setCell ⟨w.heap.size, 2, none⟩ (.int .i64 (x i).ver)).setCell ⟨w.heap.size, 4, none⟩ (.int .i64 (wrap64 (s.seen + 1)))) m ad1 m.n cd fv n (some ⟨b, off, none⟩) cn w2.heap.size (tkTo ⟨m.at_, m.seen, tkL m.n m.os⟩ x (i + 1)) (i + 1) (flK (x i).ob L) ad g cap
              rw [HSS.out]
              exact (I3.out.went (c := x i) (by have := HV.out; omega) hg c4 f4 r4 hf4)
            have hno : ∀ q, q < w.heap.size + 3 ∨ q = wr.heap.size → ¬ (q = w2.heap.size ∨ (L ≠ [] ∧ q = g)) := fun q hq e => by
              have hR3 := HI.out.R3
              have hRl := HI.out.bR.lt
              rcases e with e | ⟨e1, e2⟩
              · omega
              · have h1 := (HI.out.gR (HI.out.nonil e1).1).2
                have h2 := (HI.out.nonil e1).2
                omega
            have cb0 := (hf4.cell (p := ⟨wr.heap.size, 0, none⟩) CBB.out.lt (hno _ (Or.inr rfl))).trans (CBB.out.cell 0)
            have BM := I3.out.bm.fr hf4 (hno _ (Or.inl (by omega)))
            have m2 : w4.cell? ⟨w.heap.size, 2, none⟩ = some (.int .i64 s.at_) := BM.cell 2
            have m4 : w4.cell? ⟨w.heap.size, 4, none⟩ = some (.int .i64 s.seen) := BM.cell 4
            have g2 := BM.free 2
            have g4 := BM.free 4
            simp only [List.getElem?_toArray, List.getElem?_cons_zero] at cb0
            clear BM hno c4 f4 r4 hf4
            go_wp2
            go_roundw
            case rel => exact ⟨i + 1, flK (x i).ob L, ad, g, cap, hin, by go_num, IF.out⟩
            case measure => simp [intOf]; omega
          · have z1' : wr.heap.size ≤ e.hb := by simp at z1; omega
            have HO := hid ho
            have HZ2 := hid z2
            have HEO := hid he
            clear ho z2 he
            go_wp2_with fail
            refine (hearCame_any e w2.heap.size ad g cap L w3 I3.out.bR.lt (fun h => (I3.out.gR h).1) I3.out.bR.cell I3.out.bR.free I3.out.row (by omega)).mono ?_
            rintro r w4 ⟨k, g', cap', rfl, hp, y1, y2, c4, f4, r4, hf4⟩
            have IF : Hid (TkI w ((w4.setCell ⟨w.heap.size, 2, none⟩ (.int .i64 (x i).ver)).setCell ⟨w.heap.size, 4, none⟩ (.int .i64 (wrap64 (s.seen + 1)))) m ad1 m.n cd fv n (some ⟨b, off, none⟩) cn w2.heap.size (tkTo ⟨m.at_, m.seen, tkL m.n m.os⟩ x (i + 1)) (i + 1) ((flK e.ob L).take k ++ e :: (flK e.ob L).drop k) (some ⟨g', 0, none⟩) g' cap') := by
              show TkI w ((w4.setCell ⟨w.heap.size, 2, none⟩ (.int .i64 (x i).ver)).setCell ⟨w.heap.size, 4, none⟩ (.int .i64 (wrap64 (s.seen + 1)))) m ad1 m.n cd fv n (some ⟨b, off, none⟩) cn w2.heap.size (tkTo ⟨m.at_, m.seen, tkL m.n m.os⟩ x (i + 1)) (i + 1) ((flK e.ob L).take k ++ e :: (flK e.ob L).drop k) (some ⟨g', 0, none⟩) g' cap'
              rw [HSS.out]
              exact (I3.out.came (c := x i) (by have := HV.out; omega) hg HEO.out HO.out HZ2.out (by have := HI.out.R3; have := HI.out.bR.lt; omega) (fun _ e2 => by have := HI.out.bR.lt; omega) (fun _ hl e2 => by have := (HI.out.nonil hl).2; omega) (fun f hf' _ h0 e2 => by have := HI.out.hold.lt f hf' h0; omega) hp y1 y2 c4 f4 r4 hf4)
            clear hp
            have hno : ∀ q, q < w.heap.size + 3 ∨ q = wr.heap.size → ¬ (q = w2.heap.size ∨ (L ≠ [] ∧ q = g)) := fun q hq e => by
              have hR3 := HI.out.R3
              have hRl := HI.out.bR.lt
              rcases e with e | ⟨e1, e2⟩
              · omega
              · have h1 := (HI.out.gR (HI.out.nonil e1).1).2
                have h2 := (HI.out.nonil e1).2
                omega
            have cb0 := (hf4.cell (p := ⟨wr.heap.size, 0, none⟩) CBB.out.lt (hno _ (Or.inr rfl))).trans (CBB.out.cell 0)
            have BM := I3.out.bm.fr hf4 (hno _ (Or.inl (by omega)))
            have m2 : w4.cell? ⟨w.heap.size, 2, none⟩ = some (.int .i64 s.at_) := BM.cell 2
            have m4 : w4.cell? ⟨w.heap.size, 4, none⟩ = some (.int .i64 s.seen) := BM.cell 4
            have g2 := BM.free 2
            have g4 := BM.free 4
            simp only [List.getElem?_toArray, List.getElem?_cons_zero] at cb0
            clear BM hno c4 f4 r4 hf4
            go_wp2
            go_roundw
            case rel => exact ⟨i + 1, (flK e.ob L).take k ++ e :: (flK e.ob L).drop k, some ⟨g', 0, none⟩, g', cap', hin, by go_num, IF.out⟩
            case measure => simp [intOf]; omega
      · obtain rfl : n = i := by omega
        obtain ⟨s, hs⟩ : ∃ s, tkTo ⟨m.at_, m.seen, tkL m.n m.os⟩ x n = s := ⟨_, rfl⟩
        have HSS := hid hs
        rw [hs] at hI HI
        clear hs
        obtain ⟨p0, p1, p2, p3, p4⟩ : wr.cell? ⟨w.heap.size, 0, none⟩ = some (.string m.kind) ∧ wr.cell? ⟨w.heap.size, 1, none⟩ = some (.string m.pre) ∧ wr.cell? ⟨w.heap.size, 2, none⟩ = some (.int .i64 s.at_) ∧ wr.cell? ⟨w.heap.size, 3, none⟩ = some (.slice ad1 m.n m.n) ∧ wr.cell? ⟨w.heap.size, 4, none⟩ = some (.int .i64 s.seen) := ⟨hI.bm.cell 0, hI.bm.cell 1, hI.bm.cell 2, hI.bm.cell 3, hI.bm.cell 4⟩
        have q2 : wr.cell? ⟨w.heap.size + 1, 2, none⟩ = some (.int .i64 fv) := hI.bn.cell 2
        have f2 := hI.bm.free 2
        have f3 := hI.bm.free 3
        have cR := hI.bR.cell
        obtain ⟨r0, r1, r2, r3, r4⟩ : wr.cell? ⟨w.heap.size + 1 + 1, 0, none⟩ = some (.string ByteArray.empty) ∧ wr.cell? ⟨w.heap.size + 1 + 1, 1, none⟩ = some (.string ByteArray.empty) ∧ wr.cell? ⟨w.heap.size + 1 + 1, 2, none⟩ = some (.int .i64 0) ∧ wr.cell? ⟨w.heap.size + 1 + 1, 3, none⟩ = some (.slice none 0 0) ∧ wr.cell? ⟨w.heap.size + 1 + 1, 4, none⟩ = some (.int .i64 0) := ⟨hI.br.cell 0, hI.br.cell 1, hI.br.cell 2, hI.br.cell 3, hI.br.cell 4⟩
        have e0 := hI.br.free 0
        have e1 := hI.br.free 1
        have e2 := hI.br.free 2
        have e3 := hI.br.free 3
        have e4 := hI.br.free 4
        have hne : ¬ w2.heap.size = w.heap.size := by omega
        have hnr : ¬ w.heap.size = w2.heap.size := by omega
        clear hI
        go_wp2
        have F1 : FrP (fun q => q = w.heap.size) wr ((wr.setCell ⟨w.heap.size, 3, none⟩ (.slice ad L.length cap)).setCell ⟨w.heap.size, 2, none⟩ (.int .i64 (max s.at_ fv))) := FrP.setCell (P := fun q => q = w.heap.size) (FrP.setCell (P := fun q => q = w.heap.size) (FrP.refl _ wr) (p := ⟨w.heap.size, 3, none⟩) rfl _) (p := ⟨w.heap.size, 2, none⟩) rfl _
        obtain ⟨Y, hY, fY, y0, y1, y2, y3, y4⟩ := resFin5 (HI.out.br.fr F1 (by show ¬ _ = _; omega)) rfl (.string m.kind) (.string m.pre) (.int .i64 (max s.at_ fv)) (.slice ad L.length cap) (.int .i64 s.seen)
        rw [hY]
        refine bodyPost_ret (v := .tuple #[.agg #[.string m.kind, .string m.pre, .int .i64 (max s.at_ fv), .slice ad L.length cap, .int .i64 s.seen], .int .i64 0]) (by simp [results, Tryz.results81, go_sem, y0, y1, y2, y3, y4]) rfl ?_
        have F2 : FrP (fun q => q = w.heap.size ∨ q = w.heap.size + 1 + 1) wr Y := (F1.mono (fun q e => Or.inl e)).trans (fY.mono (fun q e => Or.inr e))
        have hS2 := HS.out
        rw [HSS.out] at hS2
        rw [hS2, HCC.out]
        have hlowY : Below w.heap.size w Y := HI.out.low.trans (F2.below (fun q hq e => by omega) HI.out.low.size)
        refine ⟨ad, cap, g, L, rfl, HI.out.obs, fun h => ?_, HI.out.hold.fr F2 (fun e he h0 e2 => by have := (HI.out.hb e he h0).2.2; omega), fun h => by have := (HI.out.gR (HI.out.nonil h).1).2; omega, fun e he h0 => ⟨(HI.out.hb e he h0).1 (HI.out.nonil (List.ne_nil_of_mem he)).1, by have := (HI.out.hb e he h0).2.2; omega⟩, hlowY⟩
        rcases HI.out.row with ⟨_, h2, _⟩ | ⟨h1, h2, _⟩
        · exact absurd h2 h
        · exact ⟨h1, h2.fr F2 (fun e2 => by have := (HI.out.gR (HI.out.nonil h).1).2; omega)⟩
  · obtain ⟨rc, hrc⟩ : ∃ rc, tkC m.at_ cd fv n x = rc := ⟨_, rfl⟩
    have hS : tkRes m cd fv n x = ⟨m.at_, m.seen, tkL m.n m.os⟩ := if_neg hC
    have HS := hid hS
    have HRC := hid hrc
    rw [hrc] at hC
    have hrb : (rc == 0) = false := by simpa using hC
    clear hS
    rw [hrc]
    clear hrc
    go_wp2
    obtain ⟨Y, hY, fY, y0, y1, y2, y3, y4⟩ := resFin5 HY2.out rfl (.string m.kind) (.string m.pre) (.int .i64 m.at_) (.slice ad1 m.n m.n) (.int .i64 m.seen)
    rw [hY]
    have bY : Below w.heap.size w Y := hB2.trans (fY.below (fun q hq e => by have : q = w.heap.size + 1 + 1 := e; omega) hB2.size)
    refine bodyPost_ret (v := .tuple #[.agg #[.string m.kind, .string m.pre, .int .i64 m.at_, .slice ad1 m.n m.n, .int .i64 m.seen], .int .i64 rc]) (by simp [results, Tryz.results81, go_sem, y0, y1, y2, y3, y4]) rfl ?_
    rw [HS.out, HRC.out]
    refine ⟨ad1, m.n, g1, rowE m.n m.os A C hb, by rw [rowE_len], by rw [rowE_obs]; rfl, fun h => ⟨(HE1.out h).1, (HE1.out h).2.fr fY (fun e => by have h2 := HQE.out.1 h; have h3 : g1 = w.heap.size + 1 + 1 := e; omega)⟩, HE2.out.fr fY (fun e he h0 e2 => by have h2 := HQE.out.2 e he h0; have h3 : e.hb = w.heap.size + 1 + 1 := e2; omega), fun h => by have := HQE.out.1 h; omega, fun e he h0 => ⟨HE3.out e he h0, by have := HQE.out.2 e he h0; omega⟩, bY⟩
end Go.Proofs.YtkecnaaacbckoaaGreat
namespace Go.Proofs.YtkecnaaacbckoaaGreat
open Go.RowKit Go.Maps
theorem StrsIn.setNs {w : World} {lo hi : Nat} {ad : Option Addr} {n : Nat} {s : Nat → ByteArray} {p : Addr} {v : Value} (h : StrsIn w lo hi ad n s) (hv : w.cell? p = some v) (hns : ∀ t, ¬ v = .string t) (u : Value) : StrsIn (w.setCell p u) lo hi ad n s := fun i hi' => by
  obtain ⟨b, off, e1, e2, e3, e4⟩ := h i hi'
  refine ⟨b, off, e1, e2, e3, ?_⟩
  rw [World.cell?_setCell_other _ _ _ _ (fun q => by
    rw [q, e4] at hv
    exact hns _ (Option.some.inj hv).symm)]
  exact e4
/-- where spec's list lies: not in its mirror's box -/
def SkL (w : World) (X LO : Nat) (ad : Option Addr) (n : Nat) (y : Nat → Ob) : Prop :=
  ∀ j, j < n → ∃ b ah ch, ad = some ⟨b, 0, none⟩ ∧ (¬ b = X ∧ LO ≤ b) ∧ b < w.heap.size ∧ ObCells w b (j * 7) (y j) ah ch ∧ StrsIn w LO w.heap.size ah (y j).hn (y j).hs
theorem SkL.grow {w w' : World} {X LO : Nat} {ad : Option Addr} {n : Nat} {y : Nat → Ob} (h : SkL w X LO ad n y) (hb : Below w.heap.size w w') : SkL w' X LO ad n y := fun j hj => by
  obtain ⟨b, ah, ch, e1, e2, e3, e4, e5⟩ := h j hj
  exact ⟨b, ah, ch, e1, e2, Nat.lt_of_lt_of_le e3 hb.size, e4.below hb e3, fun i hi => by
    obtain ⟨b', off, f1, f2, f3, f4⟩ := e5 i hi
    exact ⟨b', off, f1, f2, Nat.lt_of_lt_of_le f3 hb.size, (hb.cell (p := ⟨b', off + i, none⟩) f3).trans f4⟩⟩
theorem SkL.set {w : World} {X LO : Nat} {ad : Option Addr} {n : Nat} {y : Nat → Ob} (h : SkL w X LO ad n y) {k : Nat} {v : Value} (hv : w.cell? ⟨X, k, none⟩ = some v) (hns : ∀ t, ¬ v = .string t) (u : Value) : SkL (w.setCell ⟨X, k, none⟩ u) X LO ad n y := fun j hj => by
  obtain ⟨b, ah, ch, e1, e2, e3, e4, e5⟩ := h j hj
  have F : FrP (fun q => q = X) w (w.setCell ⟨X, k, none⟩ u) := FrP.setCell (P := fun q => q = X) (FrP.refl _ w) (p := ⟨X, k, none⟩) rfl _
  refine ⟨b, ah, ch, e1, e2, by rw [World.size_setCell]; exact e3, e4.frP F e3 e2.1, ?_⟩
  rw [World.size_setCell]
  exact e5.setNs hv hns u
theorem SkL.isIn {w : World} {X LO : Nat} {ad : Option Addr} {n : Nat} {y : Nat → Ob} (h : SkL w X LO ad n y) : ObjsIn w LO w.heap.size ad n y := fun j hj => by
  obtain ⟨b, ah, ch, e1, e2, e3, e4, e5⟩ := h j hj
  exact ⟨b, 0, ah, ch, e1, e2.2, e3, by rw [Nat.zero_add]; exact e4, e5⟩
theorem atOb_cells {w : World} {g m : Nat} {c : Nat → Value} {j : Nat} {y : Ob} {A : Option Addr} {C : Nat} (r : RowF w g (m * 7) c) (hj : j < m) (h : atOb c j y A C) : ObCells w g (j * 7) y A C := by
  obtain ⟨a0, a1, a2, a3, a4, a5, a6⟩ := h
  exact ⟨(r.cell _ (by omega)).trans (congrArg some a0), (r.cell _ (by omega)).trans (congrArg some a1), (r.cell _ (by omega)).trans (congrArg some a2), (r.cell _ (by omega)).trans (congrArg some a3), (r.cell _ (by omega)).trans (congrArg some a4), (r.cell _ (by omega)).trans (congrArg some a5), (r.cell _ (by omega)).trans (congrArg some a6)⟩
theorem SkL.frLow {w w' : World} {P : Nat → Prop} {X LO : Nat} {ad : Option Addr} {n : Nat} {y : Nat → Ob} (h : SkL w X LO ad n y) (hf : FrP P w w') (hp : ∀ q, LO ≤ q → ¬ P q) : SkL w' X LO ad n y := fun j hj => by
  obtain ⟨b, ah, ch, e1, e2, e3, e4, e5⟩ := h j hj
  exact ⟨b, ah, ch, e1, e2, Nat.lt_of_lt_of_le e3 hf.size, e4.frP hf e3 (hp _ e2.2), fun i hi => by
    obtain ⟨b', off, f1, f2, f3, f4⟩ := e5 i hi
    exact ⟨b', off, f1, f2, Nat.lt_of_lt_of_le f3 hf.size, (hf.cell (p := ⟨b', off + i, none⟩) f3 (hp _ f2)).trans f4⟩⟩
theorem skL_obs {w : World} {X LO : Nat} {ad : Option Addr} {g n : Nat} {x : Nat → Ob} {A : Nat → Option Addr} {C hb : Nat → Nat} (h : ObsAt w ad g n x A C hb) (hX : w.heap.size ≤ X) (hq : ∀ q, blkH g n (fun i => (x i).hn) hb q → LO ≤ q) : SkL w X LO ad n x := fun j hj => by
  obtain ⟨c, r, hc⟩ := h.row (by omega)
  have hg := r.lt
  refine ⟨g, A j, C j, h.addr (by omega), ⟨by omega, hq g (Or.inl ⟨by omega, rfl⟩)⟩, hg, atOb_cells r hj (hc j hj), fun i hi => ?_⟩
  obtain ⟨b, off, e1, e2, e3, e4, _⟩ := h.hold j hj i hi
  have h1 := h.hlt j hj (by omega)
  have h2 := hq (hb j) (Or.inr ⟨j, hj, by show ¬ (x j).hn = 0; omega, rfl⟩)
  exact ⟨b, off, e1, by omega, by omega, e4⟩
theorem skL_bdR {w : World} {X LO base hi : Nat} {v : Value} {m : Nat} {y : Nat → Ob} {A : Nat → Option Addr} {C : Nat → Nat} (h : BdR w base LO hi v m y A C) (hX : X < base) (hlo : LO ≤ base) (hhi : hi ≤ w.heap.size) : ∃ ad cap, v = .slice ad m cap ∧ SkL w X LO ad m y := by
  obtain ⟨c, r, hc⟩ := h.row
  rcases r.2 with ⟨rfl, h0⟩ | ⟨g, cap, cur, rfl, hb, _⟩
  · subst h0
    exact ⟨none, 0, rfl, fun j hj => absurd hj (Nat.not_lt_zero _)⟩
  · have rr := row_of_own r
    have hg := rr.lt
    refine ⟨_, cap, rfl, fun j hj => ⟨g, A j, C j, rfl, ⟨by omega, by omega⟩, hg, atOb_cells rr hj (hc j hj), fun i hi => ?_⟩⟩
    obtain ⟨b, off, e1, e2, e3, e4⟩ := h.hold j hj i hi
    exact ⟨b, off, e1, e2, by omega, e4⟩
/-- where spec's loop stands -/
structure SkI (w wr : World) (m : Mr) (cd fv : Int) (n : Nat) (an : Option Addr) (cn X : Nat) (s : TS) (i n' : Nat) (y : Nat → Ob) (ad : Option Addr) (cap : Nat) : Prop where
  bn : BoxC wr (w.heap.size + 1) #[.int .i64 cd, .slice an n cn, .int .i64 fv]
  br : BoxC wr (w.heap.size + 1 + 1) #[.string ByteArray.empty, .string ByteArray.empty, .int .i64 0, .slice none 0 0, .int .i64 0]
  bx : BoxC wr X #[.string m.kind, .string m.pre, .int .i64 s.at_, .slice ad n' cap, .int .i64 s.seen]
  list : SkL wr X (w.heap.size + 3) ad n' y
  obs : tkL n' y = s.l
  len : n' ≤ m.n + i
  low : Below w.heap.size w wr
  X3 : w.heap.size + 3 ≤ X
theorem chgL_len (o : Ob) (gone : Bool) (l : List Ob) : (chgL o gone l).length ≤ l.length + 1 := by
  have hp : ∀ l : List Ob, (putG o l).length ≤ l.length + 1 := fun l => by
    induction l with
    | nil => simp [putG]
    | cons y r ih =>
      simp only [putG]
      split
      · simp; omega
      · have := List.length_filter_le (otherK o) (y :: r)
        simp only [List.length_cons] at this ⊢
        omega
  unfold chgL
  split
  · have := List.length_filter_le (otherK o) l
    omega
  · exact hp l
section
variable {w wr w' : World} {m : Mr} {cd fv : Int} {n : Nat} {an : Option Addr} {cn X : Nat} {s : TS} {i n' : Nat} {y : Nat → Ob} {ad : Option Addr} {cap : Nat}
theorem SkI.grow (h : SkI w wr m cd fv n an cn X s i n' y ad cap) (hb : Below wr.heap.size wr w') : SkI w w' m cd fv n an cn X s i n' y ad cap :=
  ⟨h.bn.below hb, h.br.below hb, h.bx.below hb, h.list.grow hb, h.obs, h.len, h.low.trans (hb.mono h.low.size), h.X3⟩
theorem SkI.skip (h : SkI w wr m cd fv n an cn X s i n' y ad cap) : SkI w wr m cd fv n an cn X s (i + 1) n' y ad cap :=
  ⟨h.bn, h.br, h.bx, h.list, h.obs, by have := h.len; omega, h.low, h.X3⟩
/-- a change is put -/
theorem SkI.turn (h : SkI w wr m cd fv n an cn X s i n' y ad cap) {c : Ch} (hv : ¬ c.ver ≤ s.at_) {A : Nat → Option Addr} {C : Nat → Nat} {v : Value} {base hi : Nat} (hb : Below wr.heap.size wr w') (hbd : BdR w' base (w.heap.size + 3) hi v (putAll n' y c.ob c.gone).m (putAll n' y c.ob c.gone).y A C) (hB : wr.heap.size ≤ base) (hhi : hi ≤ w'.heap.size) :
    ∃ ad' cap', v = .slice ad' (putAll n' y c.ob c.gone).m cap' ∧ SkI w (((w'.setCell ⟨X, 3, none⟩ v).setCell ⟨X, 2, none⟩ (.int .i64 c.ver)).setCell ⟨X, 4, none⟩ (.int .i64 (wrap64 (s.seen + 1)))) m cd fv n an cn X (tkStep c s) (i + 1) (putAll n' y c.ob c.gone).m (putAll n' y c.ob c.gone).y ad' cap' := by
  have hs : tkStep c s = ⟨c.ver, wrap64 (s.seen + 1), chgL c.ob c.gone s.l⟩ := if_neg hv
  have hX3 := h.X3
  have hXl := h.bx.lt
  obtain ⟨ad', cap', rfl, hl⟩ := skL_bdR (X := X) hbd (by omega) (by omega) hhi
  have hG := h.grow hb
  have F : FrP (fun q => q = X) w' (((w'.setCell ⟨X, 3, none⟩ (.slice ad' (putAll n' y c.ob c.gone).m cap')).setCell ⟨X, 2, none⟩ (.int .i64 c.ver)).setCell ⟨X, 4, none⟩ (.int .i64 (wrap64 (s.seen + 1)))) :=
    FrP.setCell (P := fun q => q = X) (FrP.setCell (P := fun q => q = X) (FrP.setCell (P := fun q => q = X) (FrP.refl _ w') (p := ⟨X, 3, none⟩) rfl _) (p := ⟨X, 2, none⟩) rfl _) (p := ⟨X, 4, none⟩) rfl _
  have b1 := hG.bx.set (j := 3) (by simp) (.slice ad' (putAll n' y c.ob c.gone).m cap')
  have b2 := b1.set (j := 2) (by simp) (.int .i64 c.ver)
  have b3 := b2.set (j := 4) (by simp) (.int .i64 (wrap64 (s.seen + 1)))
  have hobs := putAll_list7 n' y c.ob c.gone
  rw [h.obs] at hobs
  refine ⟨ad', cap', rfl, ?_⟩
  rw [hs]
  refine ⟨hG.bn.fr F (by show ¬ _ = _; omega), hG.br.fr F (by show ¬ _ = _; omega), b3, ?_, hobs, ?_, hG.low.trans (F.below (fun q hq e => by have : q = X := e; omega) hG.low.size), hX3⟩
  · exact ((hl.set (hG.bx.cell 3) (fun t e => by cases e) _).set (b1.cell 2) (fun t e => by cases e) _).set (b2.cell 4) (fun t e => by cases e) _
  · have h1 := congrArg List.length hobs
    rw [tkL_len] at h1
    have h2 := chgL_len c.ob c.gone s.l
    have h3 := congrArg List.length h.obs
    rw [tkL_len] at h3
    have := h.len
    omega
end
def SkR (w : World) (m : Mr) (cd fv : Int) (n : Nat) (x : Nat → Ch) (an : Option Addr) (cn X : Nat) (v : Value) (wr : World) : Prop :=
  ∃ (i n' : Nat) (y : Nat → Ob) (ad : Option Addr) (cap : Nat), i ≤ n ∧ v = .int .i64 i ∧ SkI w wr m cd fv n an cn X (tkTo ⟨m.at_, m.seen, tkL m.n m.os⟩ x i) i n' y ad cap
end Go.Proofs.YtkecnaaacbckoaaGreat
namespace Go.Proofs.YtkecnaaacbckoaaGreat
open Go.RowKit Go.Maps
set_option maxRecDepth 100000 in
set_option maxHeartbeats 4000000 in
theorem specTake_any (m : Mr) (a : Option Addr) (c : Nat) (cd fv : Int) (n : Nat) (x : Nat → Ch) (an : Option Addr) (cn : Nat) (w : World) (lo hi : Nat) (hhi : hi ≤ w.heap.size) (hsum : (m.n : Int) + n ≤ 1048576) (hf : ∀ i, i < m.n → ObFit (m.os i)) (hfx : ∀ i, i < n → ObFit (x i).ob) (hc : ObjsIn w lo hi a m.n m.os) (hx : ChgsIn w lo hi an n x) :
    Calls Tryz.prog 80 #[.agg #[.string m.kind, .string m.pre, .int .i64 m.at_, .slice a m.n c, .int .i64 m.seen], .agg #[.int .i64 cd, .slice an n cn, .int .i64 fv]] w fun r w' => ∃ (ad' : Option Addr) (cap' n' : Nat) (y : Nat → Ob), r = .returned (.tuple #[.agg #[.string m.kind, .string m.pre, .int .i64 (tkRes m cd fv n x).at_, .slice ad' n' cap', .int .i64 (tkRes m cd fv n x).seen], .int .i64 (tkC m.at_ cd fv n x)]) ∧ tkL n' y = (tkRes m cd fv n x).l ∧ ObjsIn w' w.heap.size w'.heap.size ad' n' y ∧ Below w.heap.size w w' := by
  have HC := hid hc
  have HX := hid hx
  have HF := hid hf
  have HFX := hid hfx
  clear hc hx hf hfx
  have hb0 : ∀ o1 o2 o3, Below w.heap.size w (((w.alloc o1).alloc o2).alloc o3) := fun o1 o2 o3 => ((below_alloc _ _).alloc (by simp) _).alloc (by simp; omega) _
  have X0 : BoxC (((w.alloc (.cells #[.string m.kind, .string m.pre, .int .i64 m.at_, .slice a m.n c, .int .i64 m.seen] 57)).alloc (.cells #[.int .i64 cd, .slice an n cn, .int .i64 fv] 46)).alloc (.cells #[.string ByteArray.empty, .string ByteArray.empty, .int .i64 0, .slice none 0 0, .int .i64 0] 57)) w.heap.size #[.string m.kind, .string m.pre, .int .i64 m.at_, .slice a m.n c, .int .i64 m.seen] := ((boxC_new (w := w) (t := 57) (Below.refl _ _)).below (below_alloc _ (.cells #[.int .i64 cd, .slice an n cn, .int .i64 fv] 46))).below (below_alloc _ _)
  have X1 : BoxC (((w.alloc (.cells #[.string m.kind, .string m.pre, .int .i64 m.at_, .slice a m.n c, .int .i64 m.seen] 57)).alloc (.cells #[.int .i64 cd, .slice an n cn, .int .i64 fv] 46)).alloc (.cells #[.string ByteArray.empty, .string ByteArray.empty, .int .i64 0, .slice none 0 0, .int .i64 0] 57)) (w.heap.size + 1) #[.int .i64 cd, .slice an n cn, .int .i64 fv] := by
    have := (boxC_new (w := w.alloc (.cells #[.string m.kind, .string m.pre, .int .i64 m.at_, .slice a m.n c, .int .i64 m.seen] 57)) (c := #[.int .i64 cd, .slice an n cn, .int .i64 fv]) (t := 46) (Below.refl _ _)).below (below_alloc _ (.cells #[.string ByteArray.empty, .string ByteArray.empty, .int .i64 0, .slice none 0 0, .int .i64 0] 57))
    simpa using this
  have X2 : BoxC (((w.alloc (.cells #[.string m.kind, .string m.pre, .int .i64 m.at_, .slice a m.n c, .int .i64 m.seen] 57)).alloc (.cells #[.int .i64 cd, .slice an n cn, .int .i64 fv] 46)).alloc (.cells #[.string ByteArray.empty, .string ByteArray.empty, .int .i64 0, .slice none 0 0, .int .i64 0] 57)) (w.heap.size + 1 + 1) #[.string ByteArray.empty, .string ByteArray.empty, .int .i64 0, .slice none 0 0, .int .i64 0] := by
    have := boxC_new (w := (w.alloc (.cells #[.string m.kind, .string m.pre, .int .i64 m.at_, .slice a m.n c, .int .i64 m.seen] 57)).alloc (.cells #[.int .i64 cd, .slice an n cn, .int .i64 fv] 46)) (c := #[.string ByteArray.empty, .string ByteArray.empty, .int .i64 0, .slice none 0 0, .int .i64 0]) (t := 57) (Below.refl _ _)
    simpa using this
  have HX0 := hid X0
  have HX1 := hid X1
  have HX2 := hid X2
  clear X0 X1 X2
  go_enter Tryz.func80, Tryz.ntmps80
  go_wp2_with fail
  refine (copyMr_any m a c _ lo hi (by simp; omega) (by omega) HF.out (HC.out.below (hb0 _ _ _) hhi)).mono ?_
  rintro e w1 ⟨ad1, cap1, g1, A, C, hb, rfl, hob, hq, hb1⟩
  have hz1 : w.heap.size + 3 ≤ w1.heap.size := by have := hb1.size; simp at this; omega
  have hBX := below_alloc w1 (.cells #[.string m.kind, .string m.pre, .int .i64 m.at_, .slice ad1 m.n cap1, .int .i64 m.seen] 57)
  have hB1 : Below w.heap.size w (w1.alloc (.cells #[.string m.kind, .string m.pre, .int .i64 m.at_, .slice ad1 m.n cap1, .int .i64 m.seen] 57)) := ((hb0 _ _ _).trans (hb1.mono (by simp; omega))).trans (hBX.mono (by omega))
  have Y0 := (HX0.out.below (by exact hb1)).below hBX
  have Y1 := (HX1.out.below (by exact hb1)).below hBX
  have Y2 := (HX2.out.below (by exact hb1)).below hBX
  have YX : BoxC (w1.alloc (.cells #[.string m.kind, .string m.pre, .int .i64 m.at_, .slice ad1 m.n cap1, .int .i64 m.seen] 57)) w1.heap.size #[.string m.kind, .string m.pre, .int .i64 m.at_, .slice ad1 m.n cap1, .int .i64 m.seen] := boxC_new (Below.refl _ _)
  have SK0 := hid ((skL_obs (X := w1.heap.size) (LO := w.heap.size + 3) hob (Nat.le_refl _) (fun q h => by have := hq q h; simp at this; omega)).grow hBX)
  have hzX : (w1.alloc (.cells #[.string m.kind, .string m.pre, .int .i64 m.at_, .slice ad1 m.n cap1, .int .i64 m.seen] 57)).heap.size = w1.heap.size + 1 := by simp
  clear hob hq hb1 HX0 HX1 HX2 HC HF hb0 hBX
  obtain ⟨W, hW⟩ : ∃ W, w1.alloc (.cells #[.string m.kind, .string m.pre, .int .i64 m.at_, .slice ad1 m.n cap1, .int .i64 m.seen] 57) = W := ⟨_, rfl⟩
  rw [hW] at hB1 Y0 Y1 Y2 YX SK0 hzX
  have HY0 := hid Y0
  have HY1 := hid Y1
  have HY2 := hid Y2
  have HYX := hid YX
  obtain ⟨q0, q1, q2⟩ : W.cell? ⟨w.heap.size + 1, 0, none⟩ = some (.int .i64 cd) ∧ W.cell? ⟨w.heap.size + 1, 1, none⟩ = some (.slice an n cn) ∧ W.cell? ⟨w.heap.size + 1, 2, none⟩ = some (.int .i64 fv) := ⟨Y1.cell 0, Y1.cell 1, Y1.cell 2⟩
  obtain ⟨x0, x1, x2, x3, x4⟩ : W.cell? ⟨w1.heap.size, 0, none⟩ = some (.string m.kind) ∧ W.cell? ⟨w1.heap.size, 1, none⟩ = some (.string m.pre) ∧ W.cell? ⟨w1.heap.size, 2, none⟩ = some (.int .i64 m.at_) ∧ W.cell? ⟨w1.heap.size, 3, none⟩ = some (.slice ad1 m.n cap1) ∧ W.cell? ⟨w1.heap.size, 4, none⟩ = some (.int .i64 m.seen) := ⟨YX.cell 0, YX.cell 1, YX.cell 2, YX.cell 3, YX.cell 4⟩
  obtain ⟨r0, r1, r2, r3, r4⟩ : W.cell? ⟨w.heap.size + 1 + 1, 0, none⟩ = some (.string ByteArray.empty) ∧ W.cell? ⟨w.heap.size + 1 + 1, 1, none⟩ = some (.string ByteArray.empty) ∧ W.cell? ⟨w.heap.size + 1 + 1, 2, none⟩ = some (.int .i64 0) ∧ W.cell? ⟨w.heap.size + 1 + 1, 3, none⟩ = some (.slice none 0 0) ∧ W.cell? ⟨w.heap.size + 1 + 1, 4, none⟩ = some (.int .i64 0) := ⟨Y2.cell 0, Y2.cell 1, Y2.cell 2, Y2.cell 3, Y2.cell 4⟩
  have e0 := Y2.free 0
  have e1 := Y2.free 1
  have e2 := Y2.free 2
  have e3 := Y2.free 3
  have e4 := Y2.free 4
  clear Y0 Y1 Y2 YX
  have hret : ∀ (V : World) (rc : Int), Below W.heap.size W V → tkC m.at_ cd fv n x = rc → ¬ rc = 0 → ∀ Y : World, FrP (fun q => q = w.heap.size + 1 + 1) V Y → (∃ (ad' : Option Addr) (cap' n' : Nat) (y : Nat → Ob), Ending.returned (.tuple #[.agg #[.string m.kind, .string m.pre, .int .i64 m.at_, .slice ad1 m.n cap1, .int .i64 m.seen], .int .i64 rc]) = .returned (.tuple #[.agg #[.string m.kind, .string m.pre, .int .i64 (tkRes m cd fv n x).at_, .slice ad' n' cap', .int .i64 (tkRes m cd fv n x).seen], .int .i64 (tkC m.at_ cd fv n x)]) ∧ tkL n' y = (tkRes m cd fv n x).l ∧ ObjsIn Y w.heap.size Y.heap.size ad' n' y ∧ Below w.heap.size w Y) := fun V rc hV h1 h2 Y hY => by
    have hS : tkRes m cd fv n x = ⟨m.at_, m.seen, tkL m.n m.os⟩ := if_neg (by rw [h1]; exact h2)
    have hlow := hB1.trans (hV.mono hB1.size)
    rw [hS, h1]
    exact ⟨ad1, cap1, m.n, m.os, rfl, rfl, fun i hi => by
      obtain ⟨b, off, ah, ch, f1, f2, f3, f4, f5⟩ := (((SK0.out.grow hV).frLow hY (fun q hq e => by omega)).isIn) i hi
      exact ⟨b, off, ah, ch, f1, by omega, f3, f4, fun k hk => by
        obtain ⟨b', off', g1, g2, g3, g4⟩ := f5 k hk
        exact ⟨b', off', g1, by omega, g3, g4⟩⟩, hlow.trans (hY.below (fun q hq e => by have : q = w.heap.size + 1 + 1 := e; omega) hlow.size)⟩
  have HRT := hid hret
  clear hret
  by_cases h0 : cd = 0
  · subst h0
    subst hW
    go_wp2
    generalize w1.alloc (.cells #[.string m.kind, .string m.pre, .int .i64 m.at_, .slice ad1 m.n cap1, .int .i64 m.seen] 57) = W at *
    go_loopw [7] (fun i wr => ∃ k : Nat, 1 ≤ k ∧ (k ≤ n ∨ k = 1) ∧ i = .int .i64 k ∧ Hid (∀ j, j < k → (j == 0 || decide ((x (j - 1)).ver < (x j).ver)) = true) ∧ Below W.heap.size W wr) (fun i _ => n - (intOf i).toNat)
    case atStart => exact ⟨1, Nat.le_refl _, Or.inr rfl, rfl, fun j hj => (by have : j = 0 := by omega
                                                                              subst this; rfl), Below.refl _ _⟩
    case round =>
      obtain ⟨k, hk1, hk, rfl, HA, hb⟩ := hrel
      have Z1 := HY1.out.below hb
      have Z2 := HY2.out.below hb
      have ZX := HYX.out.below hb
      have z1 : wr.cell? ⟨w.heap.size + 1, 1, none⟩ = some (.slice an n cn) := Z1.cell 1
      have hzr := hb.size
      have zb1 : w.heap.size + 1 < wr.heap.size := by omega
      clear q0 q1 q2 x0 x1 x2 x3 x4 r0 r1 r2 r3 r4 e0 e1 e2 e3 e4
      by_cases hkn : k < n
      · obtain ⟨j, rfl⟩ : ∃ j, k = j + 1 := ⟨k - 1, by omega⟩
        have hlow := hB1.trans (hb.mono hB1.size)
        obtain ⟨b, off, ah, ch, rfl, hlo, hbh, hcx, _⟩ := HX.out (j + 1) hkn
        obtain ⟨b', off', ah', ch', e, _, hbh', hcm, _⟩ := HX.out j (by omega)
        cases e
        have d0 := (hcx.below hlow (by omega)).c0
        have q0 := (hcm.below hlow (by omega)).c0
        have hbw : b < wr.heap.size := by omega
        have rd0 := subcell d0 hbw
        have rq0 := subcell q0 hbw
        have rz1 := subcell z1 zb1
        have hne : Nonempty (GW wr) := ⟨⟨wr, Below.refl _ _⟩⟩
        have hkz : (j : Int) + 1 < n := by omega
        by_cases hlt : (x j).ver < (x (j + 1)).ver
        · have HN := hid (show (j + 1 == 0 || decide ((x (j + 1 - 1)).ver < (x (j + 1)).ver)) = true by simpa using hlt)
          have hge : ¬ (x j).ver ≥ (x (j + 1)).ver := by omega
          have hgeb : decide ((x (j + 1)).ver ≤ (x j).ver) = false := by simp; omega
          clear hlt Z1 Z2 ZX
          go_wp2
          refine wp_region_grow (by kernel_rfl) (by kernel_rfl) ?_
          repeat (go_big_quiet_step (fail))
          refine wpQuiet_nil ?_
          rintro w2 ⟨u, hu⟩
          have hw2 : Below wr.heap.size wr w2 := hu ▸ u.prop
          clear hu u
          go_wp2
          go_roundw
          case rel => exact ⟨j + 2, by omega, Or.inl (by omega), by go_num, (fun p hp => by
            rcases Nat.lt_or_ge p (j + 1) with h3 | h3
            · exact HA.out p h3
            · have : p = j + 1 := by omega
              subst this; exact HN.out : ∀ p, p < j + 2 → (p == 0 || decide ((x (p - 1)).ver < (x p).ver)) = true), hb.trans (hw2.mono hb.size)⟩
          case measure => simp [intOf]; omega
        · have HE := hid (show chAsc n x = false from allTo_no (p := fun i => i == 0 || decide ((x (i - 1)).ver < (x i).ver)) hkn (by simpa using hlt))
          have hge : (x j).ver ≥ (x (j + 1)).ver := by omega
          have hgeb : decide ((x (j + 1)).ver ≤ (x j).ver) = true := by simp; omega
          clear hlt
          have HZ1 := hid Z1
          have HZ2' := hid Z2
          have HZX := hid ZX
          clear Z1 Z2 ZX
          go_wp2
          refine wp_region_grow (by kernel_rfl) (by kernel_rfl) ?_
          repeat (go_big_quiet_step (fail))
          refine wpQuiet_nil ?_
          rintro w2 ⟨u, hu⟩
          have hw2 : Below wr.heap.size wr w2 := hu ▸ u.prop
          have ZX := HZX.out.below hw2
          have Z2 := HZ2'.out.below hw2
          have hbw2 := hb.trans (hw2.mono hb.size)
          clear hu u rd0 rq0 rz1 d0 q0 z1 hne
          obtain ⟨x0, x1, x2, x3, x4⟩ : w2.cell? ⟨w1.heap.size, 0, none⟩ = some (.string m.kind) ∧ w2.cell? ⟨w1.heap.size, 1, none⟩ = some (.string m.pre) ∧ w2.cell? ⟨w1.heap.size, 2, none⟩ = some (.int .i64 m.at_) ∧ w2.cell? ⟨w1.heap.size, 3, none⟩ = some (.slice ad1 m.n cap1) ∧ w2.cell? ⟨w1.heap.size, 4, none⟩ = some (.int .i64 m.seen) := ⟨ZX.cell 0, ZX.cell 1, ZX.cell 2, ZX.cell 3, ZX.cell 4⟩
          obtain ⟨r0, r1, r2, r3, r4⟩ : w2.cell? ⟨w.heap.size + 1 + 1, 0, none⟩ = some (.string ByteArray.empty) ∧ w2.cell? ⟨w.heap.size + 1 + 1, 1, none⟩ = some (.string ByteArray.empty) ∧ w2.cell? ⟨w.heap.size + 1 + 1, 2, none⟩ = some (.int .i64 0) ∧ w2.cell? ⟨w.heap.size + 1 + 1, 3, none⟩ = some (.slice none 0 0) ∧ w2.cell? ⟨w.heap.size + 1 + 1, 4, none⟩ = some (.int .i64 0) := ⟨Z2.cell 0, Z2.cell 1, Z2.cell 2, Z2.cell 3, Z2.cell 4⟩
          have e0 := Z2.free 0
          have e1 := Z2.free 1
          have e2 := Z2.free 2
          have e3 := Z2.free 3
          have e4 := Z2.free 4
          have HZ2 := hid Z2
          clear ZX Z2
          go_wp2
          obtain ⟨Y, hY, fY, y0, y1, y2, y3, y4⟩ := resFin5 HZ2.out rfl (.string m.kind) (.string m.pre) (.int .i64 m.at_) (.slice ad1 m.n cap1) (.int .i64 m.seen)
          rw [hY]
          refine bodyPost_ret (v := .tuple #[.agg #[.string m.kind, .string m.pre, .int .i64 m.at_, .slice ad1 m.n cap1, .int .i64 m.seen], .int .i64 2]) (by simp [results, Tryz.results80, go_sem, y0, y1, y2, y3, y4]) rfl ?_
          exact HRT.out _ 2 hbw2 (by have := HE.out; simp [tkC, this]) (by decide) Y fY
      · have HE := hid (show chAsc n x = true from allTo_iff.2 (fun j hj => HA.out j (by omega)))
        have Z0 := HY0.out.below hb
        have m2 : wr.cell? ⟨w.heap.size, 2, none⟩ = some (.int .i64 m.at_) := Z0.cell 2
        have z2 : wr.cell? ⟨w.heap.size + 1, 2, none⟩ = some (.int .i64 fv) := Z1.cell 2
        clear Z0
        by_cases hfa : fv < m.at_
        · clear Z1
          obtain ⟨x0, x1, x2, x3, x4⟩ : wr.cell? ⟨w1.heap.size, 0, none⟩ = some (.string m.kind) ∧ wr.cell? ⟨w1.heap.size, 1, none⟩ = some (.string m.pre) ∧ wr.cell? ⟨w1.heap.size, 2, none⟩ = some (.int .i64 m.at_) ∧ wr.cell? ⟨w1.heap.size, 3, none⟩ = some (.slice ad1 m.n cap1) ∧ wr.cell? ⟨w1.heap.size, 4, none⟩ = some (.int .i64 m.seen) := ⟨ZX.cell 0, ZX.cell 1, ZX.cell 2, ZX.cell 3, ZX.cell 4⟩
          obtain ⟨r0, r1, r2, r3, r4⟩ : wr.cell? ⟨w.heap.size + 1 + 1, 0, none⟩ = some (.string ByteArray.empty) ∧ wr.cell? ⟨w.heap.size + 1 + 1, 1, none⟩ = some (.string ByteArray.empty) ∧ wr.cell? ⟨w.heap.size + 1 + 1, 2, none⟩ = some (.int .i64 0) ∧ wr.cell? ⟨w.heap.size + 1 + 1, 3, none⟩ = some (.slice none 0 0) ∧ wr.cell? ⟨w.heap.size + 1 + 1, 4, none⟩ = some (.int .i64 0) := ⟨Z2.cell 0, Z2.cell 1, Z2.cell 2, Z2.cell 3, Z2.cell 4⟩
          have e0 := Z2.free 0
          have e1 := Z2.free 1
          have e2 := Z2.free 2
          have e3 := Z2.free 3
          have e4 := Z2.free 4
          have HZ2 := hid Z2
          clear ZX Z2
          go_wp2
          obtain ⟨Y, hY, fY, y0, y1, y2, y3, y4⟩ := resFin5 HZ2.out rfl (.string m.kind) (.string m.pre) (.int .i64 m.at_) (.slice ad1 m.n cap1) (.int .i64 m.seen)
          rw [hY]
          refine bodyPost_ret (v := .tuple #[.agg #[.string m.kind, .string m.pre, .int .i64 m.at_, .slice ad1 m.n cap1, .int .i64 m.seen], .int .i64 2]) (by simp [results, Tryz.results80, go_sem, y0, y1, y2, y3, y4]) rfl ?_
          exact HRT.out _ 2 hb (by simp [tkC, hfa]) (by decide) Y fY
        · have hC : tkC m.at_ 0 fv n x = 0 := by have := HE.out; simp [tkC, this]; omega
          have HCC := hid hC
          have hlow := hB1.trans (hb.mono hB1.size)
          have HD : Hid (SkR w m 0 fv n x an cn w1.heap.size (.int .i64 0) wr) := ⟨0, m.n, m.os, ad1, cap1, Nat.zero_le _, rfl, Z1, Z2, ZX, SK0.out.grow hb, rfl, by omega, hlow, by omega⟩
          have hS : tkRes m 0 fv n x = ⟨max (tkTo ⟨m.at_, m.seen, tkL m.n m.os⟩ x n).at_ fv, (tkTo ⟨m.at_, m.seen, tkL m.n m.os⟩ x n).seen, (tkTo ⟨m.at_, m.seen, tkL m.n m.os⟩ x n).l⟩ := if_pos hC
          have HS := hid hS
          clear Z1 Z2 ZX hC hS hlow
          obtain ⟨V0, hV0⟩ : ∃ V0, V0 = wr := ⟨_, rfl⟩
          subst hV0
          go_wp2
          go_loopw [8, 9] (fun v _ wr => SkR w m 0 fv n x an cn w1.heap.size v wr) (fun v _ _ => n - (intOf v).toNat)
          case atStart => exact HD.out
          case round =>
            clear HD z1 m2 z2 HY0 HY1 HY2 HYX SK0 hB1 hb HA HE zb1 hfa
            obtain ⟨i, n', y, ad, cap, hile, rfl, hI⟩ := hrel
            have HI := hid hI
            have n1 : wr.cell? ⟨w.heap.size + 1, 1, none⟩ = some (.slice an n cn) := hI.bn.cell 1
            have zn1 : w.heap.size + 1 < wr.heap.size := hI.bn.lt
            have zx1 : w1.heap.size < wr.heap.size := hI.bx.lt
            by_cases hin : i < n
            · obtain ⟨b, off, ah, chh, rfl, hlo, hbh, hcx, hsx⟩ := HX.out i hin
              obtain ⟨c0, c1, c2, c3, c4, c5, c6, c7, c8⟩ := hcx.below hI.low (by omega)
              have HSX := hid (hsx.below hI.low hhi)
              have hlow := hI.low.size
              have hbw : b < wr.heap.size := by omega
              obtain ⟨s, hs⟩ : ∃ s, tkTo ⟨m.at_, m.seen, tkL m.n m.os⟩ x i = s := ⟨_, rfl⟩
              have HSS := hid (show tkTo ⟨m.at_, m.seen, tkL m.n m.os⟩ x (i + 1) = tkStep (x i) s from by rw [← hs]; rfl)
              rw [hs] at hI HI
              have p2 : wr.cell? ⟨w1.heap.size, 2, none⟩ = some (.int .i64 s.at_) := hI.bx.cell 2
              have hiz : (i : Int) < n := by omega
              have hofx := (HFX.out i hin).h
              have hln := hI.len
              clear hI hs hcx hsx
              by_cases hv : (x i).ver ≤ s.at_
              · go_wp2
                go_roundw
                case rel => exact ⟨i + 1, n', y, ad, cap, hin, by go_num, by rw [HSS.out, tkStep, if_pos hv]; exact (HI.out.grow (below_alloc _ _)).skip⟩
                case measure => simp [intOf]; omega
              · have HV := hid hv
                go_wp2_with fail
                have hBw := below_alloc wr (.cells #[.int .i64 (x i).ver, .bool (x i).gone, .string (x i).ob.kind, .string (x i).ob.name, .int .i64 (x i).ob.ver, .int .i64 (x i).ob.born, .string (x i).ob.text, .bool (x i).ob.ending, .slice ah (x i).ob.hn chh] 75)
                refine (specOb_any (x i).ob ah chh _ lo hi (by simp; omega) hofx (by exact HSX.out.below hBw (by omega))).mono ?_
                rintro r w3 ⟨ad', cap', rfl, hs3, hb3⟩
                have hb3' : Below wr.heap.size wr w3 := hBw.trans (hb3.mono (by simp))
                have CBB : Hid (BoxC w3 wr.heap.size #[.int .i64 (x i).ver, .bool (x i).gone, .string (x i).ob.kind, .string (x i).ob.name, .int .i64 (x i).ob.ver, .int .i64 (x i).ob.born, .string (x i).ob.text, .bool (x i).ob.ending, .slice ah (x i).ob.hn chh]) := boxC_new hb3
                have hz3 : wr.heap.size < w3.heap.size := by have := hb3.size; simp at this; omega
                have hs3' : StrsIn w3 (wr.heap.size + 1) w3.heap.size ad' (x i).ob.hn (x i).ob.hs := fun k hk => by
                  obtain ⟨b', off', g1, g2, g3, g4, _⟩ := hs3 k hk
                  exact ⟨b', off', g1, by simp at g2; omega, g3, g4⟩
                have HS3 := hid hs3'
                have HB3 := hid hb3'
                have x3 : w3.cell? ⟨w1.heap.size, 3, none⟩ = some (.slice ad n' cap) := (hb3'.cell (p := ⟨w1.heap.size, 3, none⟩) zx1).trans (HI.out.bx.cell 3)
                have zx3 : w1.heap.size < w3.heap.size := by omega
                have hnx : ¬ w1.heap.size = wr.heap.size := by omega
                have hnx' : ¬ wr.heap.size = w1.heap.size := by omega
                obtain ⟨b0, b1, b2, b3, b4, b5, b6, b7, b8⟩ : w3.cell? ⟨wr.heap.size, 0, none⟩ = some (.int .i64 (x i).ver) ∧ w3.cell? ⟨wr.heap.size, 1, none⟩ = some (.bool (x i).gone) ∧ w3.cell? ⟨wr.heap.size, 2, none⟩ = some (.string (x i).ob.kind) ∧ w3.cell? ⟨wr.heap.size, 3, none⟩ = some (.string (x i).ob.name) ∧ w3.cell? ⟨wr.heap.size, 4, none⟩ = some (.int .i64 (x i).ob.ver) ∧ w3.cell? ⟨wr.heap.size, 5, none⟩ = some (.int .i64 (x i).ob.born) ∧ w3.cell? ⟨wr.heap.size, 6, none⟩ = some (.string (x i).ob.text) ∧ w3.cell? ⟨wr.heap.size, 7, none⟩ = some (.bool (x i).ob.ending) ∧ w3.cell? ⟨wr.heap.size, 8, none⟩ = some (.slice ah (x i).ob.hn chh) := ⟨CBB.out.cell 0, CBB.out.cell 1, CBB.out.cell 2, CBB.out.cell 3, CBB.out.cell 4, CBB.out.cell 5, CBB.out.cell 6, CBB.out.cell 7, CBB.out.cell 8⟩
                have f2 := CBB.out.free 2
                have f3 := CBB.out.free 3
                have f4 := CBB.out.free 4
                have f5 := CBB.out.free 5
                have f6 := CBB.out.free 6
                have f7 := CBB.out.free 7
                have f8 := CBB.out.free 8
                clear hBw hb3 hb3' hs3 hs3' c0 c1 c2 c3 c4 c5 c6 c7 c8 p2 HSX
                go_wp2_with fail
                have F : FrP (fun q => q = wr.heap.size) w3 (w3.setCells wr.heap.size 2 [.string (x i).ob.kind, .string (x i).ob.name, .int .i64 (x i).ob.ver, .int .i64 (x i).ob.born, .string (x i).ob.text, .bool (x i).ob.ending, .slice ad' (x i).ob.hn cap']) := FrP.setCells (P := fun q => q = wr.heap.size) rfl [.string (x i).ob.kind, .string (x i).ob.name, .int .i64 (x i).ob.ver, .int .i64 (x i).ob.born, .string (x i).ob.text, .bool (x i).ob.ending, .slice ad' (x i).ob.hn cap'] 2 w3 w3 (FrP.refl _ _)
                have hcW : (w3.setCells wr.heap.size 2 [.string (x i).ob.kind, .string (x i).ob.name, .int .i64 (x i).ob.ver, .int .i64 (x i).ob.born, .string (x i).ob.text, .bool (x i).ob.ending, .slice ad' (x i).ob.hn cap']).cell? ⟨wr.heap.size, 0, none⟩ = some (.int .i64 (x i).ver) := (World.cell?_setCells_out wr.heap.size [.string (x i).ob.kind, .string (x i).ob.name, .int .i64 (x i).ob.ver, .int .i64 (x i).ob.born, .string (x i).ob.text, .bool (x i).ob.ending, .slice ad' (x i).ob.hn cap'] 2 w3 ⟨wr.heap.size, 0, none⟩ (fun _ _ => Or.inl (by show 0 < 2; omega))).trans b0
                have hWB : Below wr.heap.size wr (w3.setCells wr.heap.size 2 [.string (x i).ob.kind, .string (x i).ob.name, .int .i64 (x i).ob.ver, .int .i64 (x i).ob.born, .string (x i).ob.text, .bool (x i).ob.ending, .slice ad' (x i).ob.hn cap']) := HB3.out.trans (F.below (B := wr.heap.size) (fun q hq e => by have : q = wr.heap.size := e; omega) HB3.out.size)
                have hWz : (w3.setCells wr.heap.size 2 [.string (x i).ob.kind, .string (x i).ob.name, .int .i64 (x i).ob.ver, .int .i64 (x i).ob.born, .string (x i).ob.text, .bool (x i).ob.ending, .slice ad' (x i).ob.hn cap']).heap.size = w3.heap.size := size_setCells' _ _ _ _
                have hX3 := HI.out.X3
                have hSI : StrsIn (w3.setCells wr.heap.size 2 [.string (x i).ob.kind, .string (x i).ob.name, .int .i64 (x i).ob.ver, .int .i64 (x i).ob.born, .string (x i).ob.text, .bool (x i).ob.ending, .slice ad' (x i).ob.hn cap']) (w.heap.size + 3) (w3.setCells wr.heap.size 2 [.string (x i).ob.kind, .string (x i).ob.name, .int .i64 (x i).ob.ver, .int .i64 (x i).ob.born, .string (x i).ob.text, .bool (x i).ob.ending, .slice ad' (x i).ob.hn cap']).heap.size ad' (x i).ob.hn (x i).ob.hs := fun k hk => by
                  obtain ⟨b', off', g1, g2, g3, g4⟩ := HS3.out k hk
                  exact ⟨b', off', g1, by omega, by rw [hWz]; exact g3, (F.cell (p := ⟨b', off' + k, none⟩) g3 (fun e => by have e2 : b' = wr.heap.size := e; omega)).trans g4⟩
                have hcall := l2Put_any n' y ad cap (x i) ad' cap' (w3.setCells wr.heap.size 2 [.string (x i).ob.kind, .string (x i).ob.name, .int .i64 (x i).ob.ver, .int .i64 (x i).ob.born, .string (x i).ob.text, .bool (x i).ob.ending, .slice ad' (x i).ob.hn cap']) (w.heap.size + 3) (w3.setCells wr.heap.size 2 [.string (x i).ob.kind, .string (x i).ob.name, .int .i64 (x i).ob.ver, .int .i64 (x i).ob.born, .string (x i).ob.text, .bool (x i).ob.ending, .slice ad' (x i).ob.hn cap']).heap.size (Nat.le_refl _) (by omega) ((HI.out.list.grow hWB).isIn) hSI
                obtain ⟨PA, hPA⟩ : ∃ PA, putAll n' y (x i).ob (x i).gone = PA := ⟨_, rfl⟩
                have hturn := fun (w4 : World) (A : Nat → Option Addr) (C : Nat → Nat) (v : Value) (base hi2 : Nat) => HI.out.turn (c := x i) (w' := w4) (A := A) (C := C) (v := v) (base := base) (hi := hi2) (by have := HV.out; omega)
                rw [hPA] at hcall
                simp only [hPA] at hturn
                refine hcall.mono ?_
                rintro r w4 ⟨v, A, C, rfl, hbd, hb4⟩
                have hW4 : Below wr.heap.size wr w4 := hWB.trans (hb4.mono hWB.size)
                obtain ⟨ad2, cap2, hv2, hSK⟩ := hturn w4 A C v _ _ hW4 hbd (by omega) hb4.size
                subst hv2
                have IF : Hid (SkI w (((w4.setCell ⟨w1.heap.size, 3, none⟩ (.slice ad2 PA.m cap2)).setCell ⟨w1.heap.size, 2, none⟩ (.int .i64 (x i).ver)).setCell ⟨w1.heap.size, 4, none⟩ (.int .i64 (wrap64 (s.seen + 1)))) m 0 fv n (some ⟨b, off, none⟩) cn w1.heap.size (tkTo ⟨m.at_, m.seen, tkL m.n m.os⟩ x (i + 1)) (i + 1) PA.m PA.y ad2 cap2) := by
                  show SkI w (((w4.setCell ⟨w1.heap.size, 3, none⟩ (.slice ad2 PA.m cap2)).setCell ⟨w1.heap.size, 2, none⟩ (.int .i64 (x i).ver)).setCell ⟨w1.heap.size, 4, none⟩ (.int .i64 (wrap64 (s.seen + 1)))) m 0 fv n (some ⟨b, off, none⟩) cn w1.heap.size (tkTo ⟨m.at_, m.seen, tkL m.n m.os⟩ x (i + 1)) (i + 1) PA.m PA.y ad2 cap2
                  rw [HSS.out]
                  exact hSK
                have BX := HI.out.bx.below hW4
                have k2 : w4.cell? ⟨w1.heap.size, 2, none⟩ = some (.int .i64 s.at_) := BX.cell 2
                have k3 : w4.cell? ⟨w1.heap.size, 3, none⟩ = some (.slice ad n' cap) := BX.cell 3
                have k4 : w4.cell? ⟨w1.heap.size, 4, none⟩ = some (.int .i64 s.seen) := BX.cell 4
                have j2 := BX.free 2
                have j3 := BX.free 3
                have j4 := BX.free 4
                have cb0 := (hb4.cell (p := ⟨wr.heap.size, 0, none⟩) (by rw [hWz]; exact hz3)).trans hcW
                have hz4 : w3.heap.size ≤ w4.heap.size := by have := hb4.size; omega
                clear BX hSK hbd hb4 hturn hcall hSI hWz hWB hcW F x3 b0 b1 b2 b3 b4 b5 b6 b7 b8 f2 f3 f4 f5 f6 f7 f8
                go_wp2
                go_roundw
                case rel => exact ⟨i + 1, PA.m, PA.y, ad2, cap2, hin, by go_num, IF.out⟩
                case measure => simp [intOf]; omega
            · obtain rfl : n = i := by omega
              obtain ⟨s, hs⟩ : ∃ s, tkTo ⟨m.at_, m.seen, tkL m.n m.os⟩ x n = s := ⟨_, rfl⟩
              have HSS := hid hs
              rw [hs] at hI HI
              clear hs
              obtain ⟨x0, x1, x2, x3, x4⟩ : wr.cell? ⟨w1.heap.size, 0, none⟩ = some (.string m.kind) ∧ wr.cell? ⟨w1.heap.size, 1, none⟩ = some (.string m.pre) ∧ wr.cell? ⟨w1.heap.size, 2, none⟩ = some (.int .i64 s.at_) ∧ wr.cell? ⟨w1.heap.size, 3, none⟩ = some (.slice ad n' cap) ∧ wr.cell? ⟨w1.heap.size, 4, none⟩ = some (.int .i64 s.seen) := ⟨hI.bx.cell 0, hI.bx.cell 1, hI.bx.cell 2, hI.bx.cell 3, hI.bx.cell 4⟩
              have q2 : wr.cell? ⟨w.heap.size + 1, 2, none⟩ = some (.int .i64 fv) := hI.bn.cell 2
              have f2 := hI.bx.free 2
              obtain ⟨r0, r1, r2, r3, r4⟩ : wr.cell? ⟨w.heap.size + 1 + 1, 0, none⟩ = some (.string ByteArray.empty) ∧ wr.cell? ⟨w.heap.size + 1 + 1, 1, none⟩ = some (.string ByteArray.empty) ∧ wr.cell? ⟨w.heap.size + 1 + 1, 2, none⟩ = some (.int .i64 0) ∧ wr.cell? ⟨w.heap.size + 1 + 1, 3, none⟩ = some (.slice none 0 0) ∧ wr.cell? ⟨w.heap.size + 1 + 1, 4, none⟩ = some (.int .i64 0) := ⟨hI.br.cell 0, hI.br.cell 1, hI.br.cell 2, hI.br.cell 3, hI.br.cell 4⟩
              have e0 := hI.br.free 0
              have e1 := hI.br.free 1
              have e2 := hI.br.free 2
              have e3 := hI.br.free 3
              have e4 := hI.br.free 4
              have hX3 := hI.X3
              have hn1 : ¬ w1.heap.size = w.heap.size + 1 + 1 := by omega
              have hn2 : ¬ w.heap.size + 1 + 1 = w1.heap.size := by omega
              clear hI
              by_cases hfx : fv > s.at_
              · have hmx : max s.at_ fv = fv := by omega
                go_wp2
                have F1 : FrP (fun q => q = w1.heap.size) wr (wr.setCell ⟨w1.heap.size, 2, none⟩ (.int .i64 fv)) := FrP.setCell (P := fun q => q = w1.heap.size) (FrP.refl _ wr) (p := ⟨w1.heap.size, 2, none⟩) rfl _
                obtain ⟨Y, hY, fY, y0, y1, y2, y3, y4⟩ := resFin5 (HI.out.br.fr F1 (by show ¬ _ = _; omega)) rfl (.string m.kind) (.string m.pre) (.int .i64 fv) (.slice ad n' cap) (.int .i64 s.seen)
                rw [hY]
                refine bodyPost_ret (v := .tuple #[.agg #[.string m.kind, .string m.pre, .int .i64 fv, .slice ad n' cap, .int .i64 s.seen], .int .i64 0]) (by simp [results, Tryz.results80, go_sem, y0, y1, y2, y3, y4]) rfl ?_
                have hS2 := HS.out
                rw [HSS.out] at hS2
                rw [hS2, HCC.out, hmx]
                have F2 : FrP (fun q => q = w1.heap.size ∨ q = w.heap.size + 1 + 1) wr Y := (F1.mono (fun q e => Or.inl e)).trans (fY.mono (fun q e => Or.inr e))
                have hL := (HI.out.list.set x2 (fun t e => by cases e) (.int .i64 fv)).frLow fY (fun q hq e => by have : q = w.heap.size + 1 + 1 := e; omega)
                refine ⟨ad, cap, n', y, rfl, HI.out.obs, fun k hk => ?_, HI.out.low.trans (F2.below (fun q hq e => by have := HI.out.X3; omega) HI.out.low.size)⟩
                obtain ⟨b', off', ah', ch', g1, g2, g3, g4, g5⟩ := hL.isIn k hk
                exact ⟨b', off', ah', ch', g1, by omega, g3, g4, fun k2 hk2 => by
                  obtain ⟨b3, off3, h1, h2, h3, h4⟩ := g5 k2 hk2
                  exact ⟨b3, off3, h1, by omega, h3, h4⟩⟩
              · have hmx : max s.at_ fv = s.at_ := by omega
                go_wp2
                obtain ⟨Y, hY, fY, y0, y1, y2, y3, y4⟩ := resFin5 (HI.out.br) rfl (.string m.kind) (.string m.pre) (.int .i64 s.at_) (.slice ad n' cap) (.int .i64 s.seen)
                rw [hY]
                refine bodyPost_ret (v := .tuple #[.agg #[.string m.kind, .string m.pre, .int .i64 s.at_, .slice ad n' cap, .int .i64 s.seen], .int .i64 0]) (by simp [results, Tryz.results80, go_sem, y0, y1, y2, y3, y4]) rfl ?_
                have hS2 := HS.out
                rw [HSS.out] at hS2
                rw [hS2, HCC.out, hmx]
                have F2 : FrP (fun q => q = w1.heap.size ∨ q = w.heap.size + 1 + 1) wr Y := fY.mono (fun q e => Or.inr e)
                have hL := HI.out.list.frLow fY (fun q hq e => by have : q = w.heap.size + 1 + 1 := e; omega)
                refine ⟨ad, cap, n', rfl, y, HI.out.obs, fun k hk => ?_, HI.out.low.trans (F2.below (fun q hq e => by have := HI.out.X3; omega) HI.out.low.size)⟩
                obtain ⟨b', off', ah', ch', g1, g2, g3, g4, g5⟩ := hL.isIn k hk
                exact ⟨b', off', ah', ch', g1, by omega, g3, g4, fun k2 hk2 => by
                  obtain ⟨b3, off3, h1, h2, h3, h4⟩ := g5 k2 hk2
                  exact ⟨b3, off3, h1, by omega, h3, h4⟩⟩
  · have h0b : (cd == 0) = false := by simpa using h0
    have hrc : tkC m.at_ cd fv n x = 1 := if_neg h0
    have HRC := hid hrc
    clear hrc
    subst hW
    go_wp2
    obtain ⟨Y, hY, fY, y0, y1, y2, y3, y4⟩ := resFin5 HY2.out rfl (.string m.kind) (.string m.pre) (.int .i64 m.at_) (.slice ad1 m.n cap1) (.int .i64 m.seen)
    rw [hY]
    refine bodyPost_ret (v := .tuple #[.agg #[.string m.kind, .string m.pre, .int .i64 m.at_, .slice ad1 m.n cap1, .int .i64 m.seen], .int .i64 1]) (by simp [results, Tryz.results80, go_sem, y0, y1, y2, y3, y4]) rfl ?_
    exact HRT.out _ 1 (Below.refl _ _) HRC.out (by decide) Y fY
end Go.Proofs.YtkecnaaacbckoaaGreat
namespace Go.Proofs.YtkecnaaacbckoaaGreat
open Go.RowKit Go.Maps
/-- how much a list weighs -/
def wtL : List Ob → Nat | [] => 0 | o :: r => (6 + o.hn) + wtL r
theorem wtL_append : ∀ k l, wtL (k ++ l) = wtL k + wtL l
  | [], l => by simp [wtL]
  | o :: r, l => by simp only [List.cons_append, wtL, wtL_append r l]; omega
theorem wtL_filter (p : Ob → Bool) : ∀ l, wtL (l.filter p) ≤ wtL l
  | [] => Nat.le_refl _
  | o :: r => by
    have ih := wtL_filter p r
    rw [List.filter_cons]
    split
    · simp only [wtL]; omega
    · simp only [wtL]; omega
theorem wtL_put (o : Ob) : ∀ l, wtL (putG o l) ≤ wtL l + (6 + o.hn)
  | [] => by simp [putG, wtL]
  | y :: r => by
    have ih := wtL_put o r
    simp only [putG]
    split
    · simp only [wtL]; omega
    · have := wtL_filter (otherK o) (y :: r)
      simp only [wtL] at this ⊢
      omega
theorem wtL_chg (o : Ob) (gone : Bool) (l : List Ob) : wtL (chgL o gone l) ≤ wtL l + (6 + o.hn) := by
  unfold chgL
  split
  · have := wtL_filter (otherK o) l
    omega
  · exact wtL_put o l
theorem mkObs_wt (k0 : Nat) (y : Nat → Ob) : ∀ n, mkObs k0 y n = k0 + wtL (tkL n y)
  | 0 => rfl
  | n + 1 => by
    rw [tkL_succ, wtL_append, show mkObs k0 y (n + 1) = mkObs k0 y n + 6 + (y n).hn from rfl, mkObs_wt k0 y n]
    simp only [wtL]
    omega
theorem chgL_len' (o : Ob) (gone : Bool) (l : List Ob) : (chgL o gone l).length ≤ l.length + 1 := by
  have hp : ∀ l : List Ob, (putG o l).length ≤ l.length + 1 := fun l => by
    induction l with
    | nil => simp [putG]
    | cons y r ih =>
      simp only [putG]
      split
      · simp; omega
      · have := List.length_filter_le (otherK o) (y :: r)
        simp only [List.length_cons] at this ⊢
        omega
  unfold chgL
  split
  · have := List.length_filter_le (otherK o) l
    omega
  · exact hp l
theorem tkTo_bound (s : TS) (x : Nat → Ch) : ∀ i, (tkTo s x i).l.length ≤ s.l.length + i ∧ wtL (tkTo s x i).l + 1 ≤ wtL s.l + mkChs 1 x i
  | 0 => ⟨Nat.le_refl _, Nat.le_refl _⟩
  | i + 1 => by
    obtain ⟨h1, h2⟩ := tkTo_bound s x i
    have e : mkChs 1 x (i + 1) = mkChs 1 x i + 8 + (x i).ob.hn := rfl
    show (tkStep (x i) (tkTo s x i)).l.length ≤ _ ∧ wtL (tkStep (x i) (tkTo s x i)).l + 1 ≤ _
    unfold tkStep
    split
    · exact ⟨by omega, by omega⟩
    · have h3 := chgL_len' (x i).ob (x i).gone (tkTo s x i).l
      have h4 := wtL_chg (x i).ob (x i).gone (tkTo s x i).l
      exact ⟨by show (chgL _ _ _).length ≤ _; omega, by show wtL (chgL _ _ _) + 1 ≤ _; omega⟩
theorem wtL_mem {o : Ob} : ∀ {l : List Ob}, o ∈ l → 6 + o.hn ≤ wtL l
  | y :: r, h => by
    rcases List.mem_cons.1 h with rfl | h1
    · simp only [wtL]; omega
    · have := wtL_mem h1
      simp only [wtL]; omega
theorem tkL_mem' {n : Nat} {y : Nat → Ob} {i : Nat} (h : i < n) : y i ∈ tkL n y := by
  unfold tkL
  exact List.mem_map.2 ⟨i, List.mem_range.2 h, rfl⟩
end Go.Proofs.YtkecnaaacbckoaaGreat
