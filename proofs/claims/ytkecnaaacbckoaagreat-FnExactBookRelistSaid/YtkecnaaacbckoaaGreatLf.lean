import Derived.Test.YtkecnaaacbckoaaGreatLi
import Derived.Test.YtkecnaaacbckoaaGreatZj
import Derived.Test.YtkecnaaacbckoaaGreatGw
namespace Go.Proofs.YtkecnaaacbckoaaGreat
open Go.RowKit Go.Shelf
attribute [local go_sem] Oper.semAt_some
set_option maxRecDepth 100000 in
set_option maxHeartbeats 1000000 in
theorem walk_in (F : Fence) (m : Nat) (h22 : F.fn 109) (hro : F.round = none) (ad : Option Addr) (n cap : Nat) (ki pr : ByteArray) (w : World) :
    CallsIn F m Tryz.prog 109 #[.slice ad n cap, .string ki, .string pr] w fun e w' => e = .returned (.func (.func 143) #[] #[.pointer (some ⟨w.heap.size, 0, none⟩), .pointer (some ⟨w.heap.size + 1, 0, none⟩), .pointer (some ⟨w.heap.size + 1 + 1, 0, none⟩)]) ∧ w' = ((w.alloc (.cells #[.slice ad n cap] 28)).alloc (.cells #[.string ki] 9)).alloc (.cells #[.string pr] 9) := by
  refine callsIn_of_wp Tryz.func109 rfl h22 ?_ hro
  simp only [Tryz.ntmps109, List.size_toArray, List.length_cons, List.length_nil, Nat.reduceAdd, Nat.reduceSub, Array.replicate_succ, Array.replicate_zero, List.push_toArray, List.append_toArray, List.nil_append, List.cons_append]
  gi_wp2
  go_ret
  exact ⟨rfl, rfl⟩
set_option maxRecDepth 100000 in
set_option maxHeartbeats 1000000 in
theorem implListNo_any (B : Bk) (a1 a2 a3 : Option Addr) (c1 c2 c3 : Nat) (ki pr : ByteArray) (w : World) (lo hi : Nat) (hhi : hi ≤ w.heap.size) (hfit : BkFit B) (hin : BkIn w lo hi B a1 a2 a3) (hv : allTo (chk B) 7 = false) :
    Calls Tryz.prog 79 #[.agg #[.int .i64 B.now, .int .i64 B.floor, .slice a1 B.on c1, .slice a2 B.hn c2, .slice a3 B.tn c3], .string ki, .string pr] w fun e w' => e = .returned (.tuple #[.slice none 0 0, .int .i64 0]) ∧ Below w.heap.size w w' := by
  go_enter Tryz.func79, Tryz.ntmps79
  go_wp2_with (go_at_call 44; go_must (refine (implValid_any B a1 a2 a3 c1 c2 c3 _ lo hi (by simp; omega) hfit (hin.below (below_alloc _ _) hhi)).mono ?_; rw [hv]; rintro e w1 ⟨rfl, hb1⟩))
  refine bodyPost_ret (v := .tuple #[.slice none 0 0, .int .i64 0]) (by simp [results, Tryz.results79, go_sem]) rfl ⟨rfl, ?_⟩
  exact (below_alloc _ _).trans (hb1.mono (by simp))
def RInv (mk : Value → Value → Value → Value → Value → Array Value) (N0 Bl : Nat) (Pk : Nat → Prop) (W : World) (x : Nat → Ob) (L : List Nat) (k : Nat) (v : Value) (ah : Option Addr) (ch : Nat) (l : Array Bool) (a : Act) (w' : World) : Prop :=
  ∃ (t19 t20 t21 t22 t23 : Value) (w1 w2 : World) (ad' : Option Addr) (cap' b' : Nat) (v' : Value) (A2 : Nat → Option Addr) (C2 h2 : Nat → Nat), a = ⟨mk t19 t20 t21 t22 t23, []⟩ ∧ l.size = 6 ∧
    (l.getD 2 false = true → l.getD 1 false = true) ∧ (l.getD 3 false = true → l.getD 2 false = true) ∧ (l.getD 4 false = true → l.getD 3 false = true) ∧ (l.getD 4 false = true → l.getD 0 false = true) ∧ (l.getD 5 false = true → l.getD 4 false = true) ∧
    (l.getD 0 false = true → t19 = v) ∧ (l.getD 1 false = true → t20 = obV (x k) ah ch) ∧ (l.getD 2 false = false → w' = W.drew) ∧
    (l.getD 2 false = true → t21 = obV (x k) ad' cap' ∧ Below W.heap.size W w1 ∧ W.heap.size ≤ b' ∧ ((x k).hn ≠ 0 → b' < w1.heap.size) ∧ StrsOwn w1 b' (b' + 1) ad' (x k).hn (x k).hs) ∧
    (l.getD 2 false = true → l.getD 3 false = false → w' = w1) ∧
    (l.getD 3 false = true → t22 = .slice (some ⟨w1.heap.size, 0, none⟩) 1 1) ∧
    (l.getD 3 false = true → l.getD 4 false = false → w' = w1.alloc (.cells #[.string (x k).kind, .string (x k).name, .int .i64 (x k).ver, .int .i64 (x k).born, .string (x k).text, .bool (x k).ending, .slice ad' (x k).hn cap'] 73)) ∧
    (l.getD 4 false = true → t23 = v' ∧ BdOb w2 N0 v' (L ++ [k]).length (pick x (L ++ [k])) A2 C2 h2 ∧ Boxed w2 Bl 28 v ∧ KeepsOthers W w2 ∧ FrP Pk W w2) ∧
    (l.getD 4 false = true → l.getD 5 false = false → w' = w2) ∧
    (l.getD 5 false = true → w' = w2.setCell ⟨Bl, 0, none⟩ v')
theorem listed_no {l : Array Bool} {i j : Nat} (h : l.getD i false = true → l.getD j false = true) (hj : l.getD j false = false) : l.getD i false = false := by
  cases hi : l.getD i false with
  | false => rfl
  | true => rw [h hi] at hj; cases hj
theorem Boxed.of_below {W W' : World} {B : Nat} {t : TypeId} {v : Value} (h : Boxed W B t v) (hb : Below W.heap.size W W') : Boxed W' B t v := (hb.block B h.lt).trans h
set_option maxRecDepth 100000 in
set_option maxHeartbeats 4000000 in
theorem implListYes_in (F : Fence) (m : Nat) (hcv : ∀ (k f : Nat) (args : Array Value) (w : World) (R : Ending → World → Prop), Calls Tryz.prog f args w R → CallsIn F k Tryz.prog f args w R) (h7 : F.fn 79) (h21 : F.fn 44) (h22 : F.fn 109) (h23 : F.fn 64) (h51 : F.fn 143) (h52 : F.fn 74) (hro : F.round = none) (hm : 4 ≤ m)
    (B : Bk) (a1 a2 a3 : Option Addr) (c1 c2 c3 : Nat) (ki pr : ByteArray) (w : World) (lo hi : Nat) (hhi : hi ≤ w.heap.size) (hfit : BkFit B) (hon : (B.on : Int) ≤ 1048576) (hpr : (pr.size : Int) ≤ 140737488355328) (hin : BkIn w lo hi B a1 a2 a3) (hv : allTo (chk B) 7 = true) :
    CallsIn F m Tryz.prog 79 #[.agg #[.int .i64 B.now, .int .i64 B.floor, .slice a1 B.on c1, .slice a2 B.hn c2, .slice a3 B.tn c3], .string ki, .string pr] w fun e w' => ∃ ad' cap' g A C hb, e = .returned (.tuple #[.slice ad' (flt (fun i => lkB (B.os i) ki pr) B.on).length cap', .int .i64 B.now]) ∧ ObsAt w' ad' g (flt (fun i => lkB (B.os i) ki pr) B.on).length (pick B.os (flt (fun i => lkB (B.os i) ki pr) B.on)) A C hb ∧ (∀ q, blkH g (flt (fun i => lkB (B.os i) ki pr) B.on).length (fun i => (pick B.os (flt (fun i => lkB (B.os i) ki pr) B.on) i).hn) hb q → w.heap.size ≤ q) ∧ Below w.heap.size w w' := by
  have h1 : 1 ≤ m := by omega
  obtain ⟨i0, hi0, hz0, hz1, hz2⟩ := info_parts Tryz.info73
  refine callsIn_of_wp_marks Tryz.func79 rfl h7 ?_ hro
  simp only [Tryz.ntmps79, List.size_toArray, List.length_cons, List.length_nil, Nat.reduceAdd, Nat.reduceSub, Array.replicate_succ, Array.replicate_zero, List.push_toArray, List.append_toArray, List.nil_append, List.cons_append]
  gi_wp2_with (first
    | (gi_at_call 44; go_must (refine (hcv _ _ _ _ _ (implValid_any B a1 a2 a3 c1 c2 c3 _ lo hi (by simp; omega) hfit (hin.below (below_alloc _ _) hhi))).mono ?_; rw [hv]; rintro e w1 ⟨rfl, hb1⟩; have H1 := (holds_new w (bkCells B a1 a2 a3 c1 c2 c3) 32).below hb1 (by simp); have H2 := H1.below (below_alloc w1 (.cells #[.slice none 0 0] 28)) (by have := hb1.size; simp at this; omega); obtain ⟨p0, p1, p2, p3, p4⟩ := holds_bk H2))
    | (gi_at_call 109; go_must (refine (walk_in F (m - 1) h22 hro _ _ _ _ _ _).mono ?_; rintro e w2 ⟨rfl, rfl⟩)))
  have hb1' : Below w.heap.size w w1 := (below_alloc _ _).trans (hb1.mono (by simp))
  have zw1 : w.heap.size < w1.heap.size := by have := hb1.size; simp at this; omega
  obtain ⟨A, C, hsrc0⟩ := hin.o.choose
  obtain ⟨W0, hW0⟩ : ∃ W0, (((w1.alloc (.cells #[.slice none 0 0] 28)).alloc (.cells #[.slice a1 B.on c1] 28)).alloc (.cells #[.string ki] 9)).alloc (.cells #[.string pr] 9) = W0 := ⟨_, rfl⟩
  have hsz0 : W0.heap.size = w1.heap.size + 4 := by rw [← hW0]; simp
  have hB10 : Below w1.heap.size w1 W0 := by rw [← hW0]; exact (((below_alloc _ _).alloc (by simp) _).alloc (by simp; omega) _).alloc (by simp; omega) _
  have bL : Boxed W0 w1.heap.size 28 (.slice none 0 0) := by rw [← hW0]; exact (((Boxed.new w1 28 (.slice none 0 0)).alloc _).alloc _).alloc _
  have bO : Boxed W0 (w1.heap.size + 1) 28 (.slice a1 B.on c1) := by
    have h := ((Boxed.new (w1.alloc (.cells #[.slice none 0 0] 28)) 28 (.slice a1 B.on c1)).alloc (.cells #[.string ki] 9)).alloc (.cells #[.string pr] 9)
    rw [hW0] at h; simpa using h
  have bK : Boxed W0 (w1.heap.size + 2) 9 (.string ki) := by
    have h := (Boxed.new ((w1.alloc (.cells #[.slice none 0 0] 28)).alloc (.cells #[.slice a1 B.on c1] 28)) 9 (.string ki)).alloc (.cells #[.string pr] 9)
    rw [hW0] at h; simpa using h
  have bP : Boxed W0 (w1.heap.size + 3) 9 (.string pr) := by
    have h := Boxed.new (((w1.alloc (.cells #[.slice none 0 0] 28)).alloc (.cells #[.slice a1 B.on c1] 28)).alloc (.cells #[.string ki] 9)) 9 (.string pr)
    rw [hW0] at h; simpa using h
  have hB0 : Below w.heap.size w W0 := hb1'.trans (hB10.mono (by omega))
  have hsrc : ObSrc W0 hi a1 B.on B.os A C := hsrc0.frP (FrP.of_below (P := fun _ => False) hB0) (fun _ _ h => h) hhi
  have H0 : Holds W0 w.heap.size (bkCells B a1 a2 a3 c1 c2 c3) := H1.below hB10 zw1
  rw [hW0]
  clear hW0 p0 p1 p2 p3 p4 H1 H2 hb1 hB10
  obtain ⟨Pk, hPk⟩ : ∃ Pk : Nat → Prop, Pk = fun q => q = w1.heap.size ∨ w1.heap.size + 4 ≤ q := ⟨_, rfl⟩
  have hPkB : ∀ {X Y : World}, Below (w1.heap.size + 4) X Y → FrP Pk X Y := fun {X Y} h => ⟨h.os, h.tape, h.output, h.size, fun q _ hq => h.block q (by
    rw [hPk] at hq
    rcases Nat.lt_or_ge q (w1.heap.size + 4) with h1 | h1
    · exact h1
    · exact absurd (Or.inr h1) hq)⟩
  have hPkN : ∀ q, ¬ Pk q ↔ ¬ (q = w1.heap.size ∨ w1.heap.size + 4 ≤ q) := fun q => by rw [hPk]
  have hfits : ∀ i, i < B.on → (((B.os i).name.size : Int) ≤ 140737488355328 ∧ ((B.os i).hn : Int) ≤ 8796093022208) := fun i hi' => ⟨(hfit.os i hi').n, (hfit.os i hi').h⟩
  refine wpIn_rangeFunc_ownH (α := Ix B.on) hro h1 (gf := 143) (lb := #[.pointer (some ⟨w1.heap.size + 1, 0, none⟩), .pointer (some ⟨w1.heap.size + 1 + 1, 0, none⟩), .pointer (some ⟨w1.heap.size + 1 + 1 + 1, 0, none⟩)]) (encs := fun k => #[obV (B.os k.1) (A k.1) (C k.1)]) (Kp := FrP Pk) (S := fun ys => ixs ys = flt (fun i => lkB (B.os i) ki pr) B.on) (Sp := fun _ => True) (N := B.on) (w0 := W0) rfl h51 (enters_of Tryz.func143 (by kernel_rfl) rfl)
    ?seq (fun h1 h2 => h1.trans h2) (fun X l o o' hl ho1 ho2 ho3 => hPkB (belowK_b (w := W0) (n₀ := w1.heap.size + 4) (by omega) X l o o' hl ho1 ho2 ho3)) (Below.refl _ _) (fun _ => rfl)
    (fun pre W => (∃ v A' C' hb, Boxed W w1.heap.size 28 v ∧ BdOb W (w1.heap.size + 4) v (ixs pre).length (pick B.os (ixs pre)) A' C' hb) ∧ FrP Pk W0 W)
    (fun _ _ _ => False) ?own (fun _ _ _ _ _ hs _ _ => hs) ?start
    (fun k a' W => ∃ Bx, w1.heap.size + 4 ≤ Bx ∧ W.heap[Bx]? = some (.cells (obCells (B.os k.1) (A k.1) (C k.1)) 73 (0, 0)) ∧ a' = { tmps := #[.agg #[.int .i64 B.now, .int .i64 B.floor, .slice a1 B.on c1, .slice a2 B.hn c2, .slice a3 B.tn c3], .string ki, .string pr, .pointer (some ⟨w.heap.size, 0, none⟩), undef, undef, .slice none 0 0, .int .i64 0, .pointer (some ⟨w1.heap.size, 0, none⟩), .pointer (some ⟨Bx, 0, none⟩), .agg #[.int .i64 B.now, .int .i64 B.floor, .slice a1 B.on c1, .slice a2 B.hn c2, .slice a3 B.tn c3], .bool true, .bool false, .pointer (some ⟨w.heap.size, 2, none⟩), .slice a1 B.on c1, .string ki, .string pr, .func (.func 143) #[] #[.pointer (some ⟨w1.heap.size + 1, 0, none⟩), .pointer (some ⟨w1.heap.size + 1 + 1, 0, none⟩), .pointer (some ⟨w1.heap.size + 1 + 1 + 1, 0, none⟩)], obV (B.os k.1) (A k.1) (C k.1), undef, undef, undef, undef, undef, undef, undef, undef], defers := [] })
    (fun k a' _ X Y row hs hg hr => by
      obtain ⟨Bx, e1, e2, e3⟩ := hs
      refine ⟨Bx, e1, (hg.block Bx (Array.getElem?_eq_some_iff.1 e2).1 (fun e => ?_)).trans e2, e3⟩
      obtain ⟨_, o, ho, hc⟩ := hr Bx e.symm
      rw [e2] at ho
      cases ho
      cases hc)
    ?assign ?body ?done ?stop
  case seq =>
    exact fun l J Jx W hW hJ _ hY h0 => walk1_in F (m - 1) h51 h52 hro (by omega) l _ _ _ hi Pk B.on B.os a1 c1 A C ki pr hon J Jx (fun i w' hi' => hcv _ _ _ _ _ (isOf_any (B.os i) (A i) (C i) ki pr w' (hfits i hi').1 hpr)) W hJ hY
      ((hW.cell (p := ⟨w1.heap.size + 1, 0, none⟩) (by show w1.heap.size + 1 < _; omega)).trans bO.cell) ((hW.cell (p := ⟨w1.heap.size + 2, 0, none⟩) (by show w1.heap.size + 2 < _; omega)).trans bK.cell) ((hW.cell (p := ⟨w1.heap.size + 3, 0, none⟩) (by show w1.heap.size + 3 < _; omega)).trans bP.cell)
      ⟨by have := hW.size; omega, (hPkN _).2 (by omega)⟩ ⟨by have := hW.size; omega, (hPkN _).2 (by omega)⟩ (by have := hW.size; omega) (fun q hq => (hPkN q).2 (by omega)) (hsrc.frP (FrP.of_below (P := fun _ => False) hW) (fun _ _ h => h) (by omega)) h0
  case own =>
    intro pre X Y row hs hg hr
    obtain ⟨⟨v, A', C', hb, e1, e2⟩, e3⟩ := hs
    exact ⟨⟨v, A', C', hb, e1.kept hg (fun e => by have := (hr _ e.symm).1; omega), e2.turn hg (fun r e => (hr r e).2)⟩, e3.trans ((FrP.of_grown hg).mono (fun q hq => by
      rw [hPk]
      have := (hr _ hq).1
      exact Or.inr (by omega)))⟩
  case start =>
    exact ⟨⟨_, fun _ => none, fun _ => 0, fun _ => 0, bL, ⟨⟨fun _ => .int .i64 0, World.ownsRow_nil _ _ _ _, fun i hi' => absurd hi' (Nat.not_lt_zero _)⟩, fun i hi' => absurd hi' (Nat.not_lt_zero _), fun i hi' => absurd hi' (Nat.not_lt_zero _), fun i hi' => absurd hi' (Nat.not_lt_zero _), fun i j hi' => absurd hi' (Nat.not_lt_zero _)⟩⟩, FrP.refl _ _⟩
  case assign =>
    rintro l pre k W K ⟨⟨v, A', C', hb, e1, e2⟩, e3⟩ hK
    simp only [obV]
    gi_wp2
    have z := e3.size
    exact hK _ _ ((KeepsOthers.alloc _ _).from _) (FrP.of_below (below_alloc _ _)) ⟨⟨v, A', C', hb, e1.alloc _, e2.grow (below_alloc _ _)⟩, e3.trans (FrP.of_below (below_alloc _ _))⟩ ⟨W.heap.size, by omega, World.alloc_heap_new W _, rfl⟩
  case body =>
    rintro l0 pre k a' W hl ⟨r, hr⟩ ⟨⟨v, A', C', hb, bV, bd⟩, hf⟩ ⟨Bx, hBx, bX, rfl⟩ hlt
    have zW := hf.size
    have hX : Holds W Bx (obCells (B.os k.1) (A k.1) (C k.1)) := fun i => by simp [World.cell?, bX]
    have hfk := (hfits k.1 k.2).2
    have hsW : StrsIn W 0 hi (A k.1) (B.os k.1).hn (B.os k.1).hs := (hsrc.frP hf (fun q hq => (hPkN q).2 (by omega)) (by omega)).holds k.1 k.2
    have hhW : hi ≤ W.heap.size := by omega
    obtain ⟨x0, x1, x2, x3, x4, x5, x6⟩ := holds_ob hX
    have h1' : 1 ≤ m - 1 - 1 := by omega
    gi_wp2
    refine wpIn_region_inv (by kernel_rfl) (RInv (fun t19 t20 t21 t22 t23 => #[.agg #[.int .i64 B.now, .int .i64 B.floor, .slice a1 B.on c1, .slice a2 B.hn c2, .slice a3 B.tn c3], .string ki, .string pr, .pointer (some ⟨w.heap.size, 0, none⟩), undef, undef, .slice none 0 0, .int .i64 0, .pointer (some ⟨w1.heap.size, 0, none⟩), .pointer (some ⟨Bx, 0, none⟩), .agg #[.int .i64 B.now, .int .i64 B.floor, .slice a1 B.on c1, .slice a2 B.hn c2, .slice a3 B.tn c3], .bool true, .bool false, .pointer (some ⟨w.heap.size, 2, none⟩), .slice a1 B.on c1, .string ki, .string pr, .func (.func 143) #[] #[.pointer (some ⟨w1.heap.size + 1, 0, none⟩), .pointer (some ⟨w1.heap.size + 1 + 1, 0, none⟩), .pointer (some ⟨w1.heap.size + 1 + 1 + 1, 0, none⟩)], obV (B.os k.1) (A k.1) (C k.1), t19, t20, t21, t22, t23, undef, undef, undef]) (w1.heap.size + 4) w1.heap.size Pk W B.os (ixs pre) k.1 v (A k.1) (C k.1)) ?_ ?_ ?_ ?_
    · refine ⟨_, _, _, _, _, W, W, none, 0, 0, v, fun _ => none, fun _ => 0, fun _ => 0, rfl, by simp, ?_⟩
      simp
    · intro l a w' hI
      obtain ⟨t19, t20, t21, t22, t23, w3, w4, ad2, cap2, b2, v2, A2, C2, h2, rfl, hls, _⟩ := hI
      exact hls
    · intro l a w' hI hr'
      obtain ⟨t19, t20, t21, t22, t23, w3, w4, ad2, cap2, b2, v2, A2, C2, h2, rfl, hls, n21, n32, n43, n40, n54, f0, f1, g0, f2, g1, f3, g2, f4, g4, g5⟩ := hI
      have AL := all_listed (by kernel_rfl) (by rw [hls]; rfl) hr'
      obtain rfl := g5 (AL 5 (by decide))
      obtain ⟨rfl, j1, j2, j3, j4⟩ := f4 (AL 4 (by decide))
      clear n21 n32 n43 n40 n54 f0 f1 g0 f2 g1 f3 g2 f4 g4 g5 AL hr' hls
      gi_wp2
      have hPl : Pk w1.heap.size := by rw [hPk]; exact Or.inl rfl
      exact ⟨(j3.trans (KeepsOthers.setCell _ _ _)).from _, j4.trans ((FrP.refl _ _).setCell hPl _), ⟨⟨t23, A2, C2, h2, j2.set _, by rw [ixs_snoc]; exact j1.fr (P := fun q => q = w1.heap.size) (FrP.setCell (P := fun q => q = w1.heap.size) (FrP.refl _ _) (p := ⟨w1.heap.size, 0, none⟩) (by rfl) _) (fun q hq _ e => by omega)⟩, hf.trans (j4.trans ((FrP.refl _ _).setCell hPl _))⟩⟩
    · intro l a w' i hI hr'
      obtain ⟨t19, t20, t21, t22, t23, w3, w4, ad2, cap2, b2, v2, A2, C2, h2, rfl, hls, n21, n32, n43, n40, n54, f0, f1, g0, f2, g1, f3, g2, f4, g4, g5⟩ := hI
      obtain ⟨hu, o', ho, hdep⟩ := mem_ready.1 hr'
      have hi16 : i < 6 := by
        rcases Nat.lt_or_ge i 6 with h | h
        · exact h
        · rw [Array.getElem?_eq_none (by simpa using h)] at ho
          cases ho
      have kp : ∀ j, ¬ j = i → (l.setIfInBounds i true).getD j false = l.getD j false := fun j hj => by rw [getD_set (by omega), if_neg hj]
      have ki' : (l.setIfInBounds i true).getD i false = true := by rw [getD_set (by omega), if_pos rfl]
      have hsz' : (l.setIfInBounds i true).size = 6 := by simp [hls]
      have hui : l.getD i false = false := by simpa [Array.getD, hls, hi16] using hu
      clear hr' hu
      rcases (show i = 0 ∨ i = 1 ∨ i = 2 ∨ i = 3 ∨ i = 4 ∨ i = 5 by omega) with rfl | rfl | rfl | rfl | rfl | rfl
      · simp only [List.getElem?_toArray, List.getElem?_cons_zero, Option.some.injEq] at ho
        subst ho
        clear hdep
        have l4 := listed_no n40 hui
        have hcl : w'.cell? ⟨w1.heap.size, 0, none⟩ = some v := by
          cases e3 : l.getD 3 false with
          | true =>
            rw [g2 e3 l4]
            exact ((Boxed.of_below bV (f2 (n32 e3)).2.1).alloc _).cell
          | false =>
            cases e2 : l.getD 2 false with
            | true => rw [g1 e2 e3]; exact (Boxed.of_below bV (f2 e2).2.1).cell
            | false => rw [g0 e2]; exact bV.cell
        refine wpOpIn_of rfl rfl ?_
        generalize hK : RInv (fun t19 t20 t21 t22 t23 => #[.agg #[.int .i64 B.now, .int .i64 B.floor, .slice a1 B.on c1, .slice a2 B.hn c2, .slice a3 B.tn c3], .string ki, .string pr, .pointer (some ⟨w.heap.size, 0, none⟩), undef, undef, .slice none 0 0, .int .i64 0, .pointer (some ⟨w1.heap.size, 0, none⟩), .pointer (some ⟨Bx, 0, none⟩), .agg #[.int .i64 B.now, .int .i64 B.floor, .slice a1 B.on c1, .slice a2 B.hn c2, .slice a3 B.tn c3], .bool true, .bool false, .pointer (some ⟨w.heap.size, 2, none⟩), .slice a1 B.on c1, .string ki, .string pr, .func (.func 143) #[] #[.pointer (some ⟨w1.heap.size + 1, 0, none⟩), .pointer (some ⟨w1.heap.size + 1 + 1, 0, none⟩), .pointer (some ⟨w1.heap.size + 1 + 1 + 1, 0, none⟩)], obV (B.os k.1) (A k.1) (C k.1), t19, t20, t21, t22, t23, undef, undef, undef]) (w1.heap.size + 4) w1.heap.size Pk W B.os (ixs pre) k.1 v (A k.1) (C k.1) (l.setIfInBounds 0 true) = K
        go_simp
        rw [← hK]
        exact ⟨_, t20, t21, t22, t23, w3, w4, ad2, cap2, b2, v2, A2, C2, h2, rfl, hsz', (by rw [kp 2 (by decide), kp 1 (by decide)]; exact n21), (by rw [kp 3 (by decide), kp 2 (by decide)]; exact n32), (by rw [kp 4 (by decide), kp 3 (by decide)]; exact n43), (fun _ => ki'), (by rw [kp 5 (by decide), kp 4 (by decide)]; exact n54), (fun _ => rfl), (by rw [kp 1 (by decide)]; exact f1), (by rw [kp 2 (by decide)]; exact g0), (by rw [kp 2 (by decide)]; exact f2), (by rw [kp 2 (by decide), kp 3 (by decide)]; exact g1), (by rw [kp 3 (by decide)]; exact f3), (by rw [kp 3 (by decide), kp 4 (by decide)]; exact g2), (by rw [kp 4 (by decide)]; exact f4), (by rw [kp 4 (by decide), kp 5 (by decide)]; exact g4), (by rw [kp 5 (by decide)]; exact g5)⟩
      · simp only [List.getElem?_toArray, List.getElem?_cons_succ, List.getElem?_cons_zero, Option.some.injEq] at ho
        subst ho
        clear hdep
        have l2 := listed_no n21 hui
        obtain rfl := g0 l2
        refine wpOpIn_of rfl rfl ?_
        generalize hK : RInv (fun t19 t20 t21 t22 t23 => #[.agg #[.int .i64 B.now, .int .i64 B.floor, .slice a1 B.on c1, .slice a2 B.hn c2, .slice a3 B.tn c3], .string ki, .string pr, .pointer (some ⟨w.heap.size, 0, none⟩), undef, undef, .slice none 0 0, .int .i64 0, .pointer (some ⟨w1.heap.size, 0, none⟩), .pointer (some ⟨Bx, 0, none⟩), .agg #[.int .i64 B.now, .int .i64 B.floor, .slice a1 B.on c1, .slice a2 B.hn c2, .slice a3 B.tn c3], .bool true, .bool false, .pointer (some ⟨w.heap.size, 2, none⟩), .slice a1 B.on c1, .string ki, .string pr, .func (.func 143) #[] #[.pointer (some ⟨w1.heap.size + 1, 0, none⟩), .pointer (some ⟨w1.heap.size + 1 + 1, 0, none⟩), .pointer (some ⟨w1.heap.size + 1 + 1 + 1, 0, none⟩)], obV (B.os k.1) (A k.1) (C k.1), t19, t20, t21, t22, t23, undef, undef, undef]) (w1.heap.size + 4) w1.heap.size Pk W B.os (ixs pre) k.1 v (A k.1) (C k.1) (l.setIfInBounds 1 true) = K
        go_simp
        rw [← hK]
        exact ⟨t19, _, t21, t22, t23, w3, w4, ad2, cap2, b2, v2, A2, C2, h2, rfl, hsz', (fun _ => ki'), (by rw [kp 3 (by decide), kp 2 (by decide)]; exact n32), (by rw [kp 4 (by decide), kp 3 (by decide)]; exact n43), (by rw [kp 4 (by decide), kp 0 (by decide)]; exact n40), (by rw [kp 5 (by decide), kp 4 (by decide)]; exact n54), (by rw [kp 0 (by decide)]; exact f0), (fun _ => rfl), (by rw [kp 2 (by decide)]; exact g0), (by rw [kp 2 (by decide)]; exact f2), (by rw [kp 2 (by decide), kp 3 (by decide)]; exact g1), (by rw [kp 3 (by decide)]; exact f3), (by rw [kp 3 (by decide), kp 4 (by decide)]; exact g2), (by rw [kp 4 (by decide)]; exact f4), (by rw [kp 4 (by decide), kp 5 (by decide)]; exact g4), (by rw [kp 5 (by decide)]; exact g5)⟩
      · simp only [List.getElem?_toArray, List.getElem?_cons_succ, List.getElem?_cons_zero, Option.some.injEq] at ho
        subst ho
        have q1 : l.getD 1 false = true := hdep ⟨1, .data⟩ (by simp) rfl
        clear hdep
        obtain rfl := f1 q1
        obtain rfl := g0 hui
        have l3 := listed_no n32 hui
        have l4 := listed_no n43 l3
        have l5 := listed_no n54 l4
        refine wpOpIn_of rfl rfl ?_
        generalize hK : RInv (fun t19 t20 t21 t22 t23 => #[.agg #[.int .i64 B.now, .int .i64 B.floor, .slice a1 B.on c1, .slice a2 B.hn c2, .slice a3 B.tn c3], .string ki, .string pr, .pointer (some ⟨w.heap.size, 0, none⟩), undef, undef, .slice none 0 0, .int .i64 0, .pointer (some ⟨w1.heap.size, 0, none⟩), .pointer (some ⟨Bx, 0, none⟩), .agg #[.int .i64 B.now, .int .i64 B.floor, .slice a1 B.on c1, .slice a2 B.hn c2, .slice a3 B.tn c3], .bool true, .bool false, .pointer (some ⟨w.heap.size, 2, none⟩), .slice a1 B.on c1, .string ki, .string pr, .func (.func 143) #[] #[.pointer (some ⟨w1.heap.size + 1, 0, none⟩), .pointer (some ⟨w1.heap.size + 1 + 1, 0, none⟩), .pointer (some ⟨w1.heap.size + 1 + 1 + 1, 0, none⟩)], obV (B.os k.1) (A k.1) (C k.1), t19, t20, t21, t22, t23, undef, undef, undef]) (w1.heap.size + 4) w1.heap.size Pk W B.os (ixs pre) k.1 v (A k.1) (C k.1) (l.setIfInBounds 2 true) = K
        unfold obV
        go_simp
        refine (CallsIn.inRound l0 (hcv _ _ _ _ _ (copyOb_own (B.os k.1) (A k.1) (C k.1) _ 0 hi (by exact hhW) (by exact hfk) (by exact hsW)))).mono ?_
        rintro e w5 ⟨ad5, cap5, b5, rfl, k1, k2, k3, k4⟩
        rw [← hK]
        exact ⟨t19, _, _, t22, t23, w5, w5, ad5, cap5, b5, v2, A2, C2, h2, rfl, hsz', (fun _ => by rw [kp 1 (by decide)]; exact q1), (fun _ => ki'), (by rw [kp 4 (by decide), kp 3 (by decide)]; exact n43), (by rw [kp 4 (by decide), kp 0 (by decide)]; exact n40), (by rw [kp 5 (by decide), kp 4 (by decide)]; exact n54), (by rw [kp 0 (by decide)]; exact f0), (by rw [kp 1 (by decide)]; exact f1), (fun h => absurd (ki'.symm.trans h) (by decide)), (fun _ => ⟨rfl, ((Below.refl _ _).drew).trans k4, k1, k2, k3⟩), (fun _ _ => rfl), (fun h => by rw [kp 3 (by decide), l3] at h; cases h), (fun h => by rw [kp 3 (by decide), l3] at h; cases h), (fun h => by rw [kp 4 (by decide), l4] at h; cases h), (fun h => by rw [kp 4 (by decide), l4] at h; cases h), (fun h => by rw [kp 5 (by decide), l5] at h; cases h)⟩
      · simp only [List.getElem?_toArray, List.getElem?_cons_succ, List.getElem?_cons_zero, Option.some.injEq] at ho
        subst ho
        have q2 : l.getD 2 false = true := hdep ⟨2, .data⟩ (by simp) rfl
        clear hdep
        obtain ⟨rfl, j1, j2, j3, j4⟩ := f2 q2
        obtain rfl : w3 = w' := (g1 q2 hui).symm
        obtain rfl := f1 (n21 q2)
        have l5 := listed_no n54 (listed_no n43 hui)
        have l4 := listed_no n43 hui
        refine wpOpIn_of rfl rfl ?_
        generalize hK : RInv (fun t19 t20 t21 t22 t23 => #[.agg #[.int .i64 B.now, .int .i64 B.floor, .slice a1 B.on c1, .slice a2 B.hn c2, .slice a3 B.tn c3], .string ki, .string pr, .pointer (some ⟨w.heap.size, 0, none⟩), undef, undef, .slice none 0 0, .int .i64 0, .pointer (some ⟨w1.heap.size, 0, none⟩), .pointer (some ⟨Bx, 0, none⟩), .agg #[.int .i64 B.now, .int .i64 B.floor, .slice a1 B.on c1, .slice a2 B.hn c2, .slice a3 B.tn c3], .bool true, .bool false, .pointer (some ⟨w.heap.size, 2, none⟩), .slice a1 B.on c1, .string ki, .string pr, .func (.func 143) #[] #[.pointer (some ⟨w1.heap.size + 1, 0, none⟩), .pointer (some ⟨w1.heap.size + 1 + 1, 0, none⟩), .pointer (some ⟨w1.heap.size + 1 + 1 + 1, 0, none⟩)], obV (B.os k.1) (A k.1) (C k.1), t19, t20, t21, t22, t23, undef, undef, undef]) (w1.heap.size + 4) w1.heap.size Pk W B.os (ixs pre) k.1 v (A k.1) (C k.1) (l.setIfInBounds 3 true) = K
        unfold obV
        go_simp
        rw [← hK]
        exact ⟨t19, _, _, _, t23, w3, w4, ad2, cap2, b2, v2, A2, C2, h2, rfl, hsz', (by rw [kp 2 (by decide), kp 1 (by decide)]; exact n21), (fun _ => by rw [kp 2 (by decide)]; exact q2), (fun _ => ki'), (by rw [kp 4 (by decide), kp 0 (by decide)]; exact n40), (by rw [kp 5 (by decide), kp 4 (by decide)]; exact n54), (by rw [kp 0 (by decide)]; exact f0), (by rw [kp 1 (by decide)]; exact f1), (fun h => by rw [kp 2 (by decide), q2] at h; cases h), (by rw [kp 2 (by decide)]; exact fun _ => ⟨rfl, j1, j2, j3, j4⟩), (fun _ h => absurd (ki'.symm.trans h) (by decide)), (fun _ => rfl), (fun _ _ => rfl), (by rw [kp 4 (by decide)]; exact f4), (fun h => by rw [kp 4 (by decide), l4] at h; cases h), (fun h => by rw [kp 5 (by decide), l5] at h; cases h)⟩
      · simp only [List.getElem?_toArray, List.getElem?_cons_succ, List.getElem?_cons_zero, Option.some.injEq] at ho
        subst ho
        have q0 : l.getD 0 false = true := hdep ⟨0, .data⟩ (by simp) rfl
        have q3 : l.getD 3 false = true := hdep ⟨3, .data⟩ (by simp) rfl
        clear hdep
        obtain rfl : v = t19 := (f0 q0).symm
        obtain rfl := f3 q3
        obtain rfl := g2 q3 hui
        obtain ⟨rfl, j1, j2, j3, j4⟩ := f2 (n32 q3)
        have l5 := listed_no n54 hui
        have z3 := j1.size
        have BD1 := (bd.grow j1).grow (below_alloc w3 (.cells #[.string (B.os k.1).kind, .string (B.os k.1).name, .int .i64 (B.os k.1).ver, .int .i64 (B.os k.1).born, .string (B.os k.1).text, .bool (B.os k.1).ending, .slice ad2 (B.os k.1).hn cap2] 73))
        obtain ⟨c, hown, hat⟩ := BD1.row
        have hln : (ixs pre).length < 1048576 := by rw [ixs_len]; omega
        refine wpOpIn_of rfl rfl ?_
        generalize hK : RInv (fun t19 t20 t21 t22 t23 => #[.agg #[.int .i64 B.now, .int .i64 B.floor, .slice a1 B.on c1, .slice a2 B.hn c2, .slice a3 B.tn c3], .string ki, .string pr, .pointer (some ⟨w.heap.size, 0, none⟩), undef, undef, .slice none 0 0, .int .i64 0, .pointer (some ⟨w1.heap.size, 0, none⟩), .pointer (some ⟨Bx, 0, none⟩), .agg #[.int .i64 B.now, .int .i64 B.floor, .slice a1 B.on c1, .slice a2 B.hn c2, .slice a3 B.tn c3], .bool true, .bool false, .pointer (some ⟨w.heap.size, 2, none⟩), .slice a1 B.on c1, .string ki, .string pr, .func (.func 143) #[] #[.pointer (some ⟨w1.heap.size + 1, 0, none⟩), .pointer (some ⟨w1.heap.size + 1 + 1, 0, none⟩), .pointer (some ⟨w1.heap.size + 1 + 1 + 1, 0, none⟩)], obV (B.os k.1) (A k.1) (C k.1), t19, t20, t21, t22, t23, undef, undef, undef]) (w1.heap.size + 4) w1.heap.size Pk W B.os (ixs pre) k.1 v (A k.1) (C k.1) (l.setIfInBounds 4 true) = K
        refine operIn_append_own _ _ 28 rfl (w1.heap.size + 4) 73 i0 _ 7 96 Tryz.underlying28 hi0 hz0 hz1 hz2 rfl (by decide) _ (ixs pre).length (rowCells ((ixs pre).length * 7) c) rfl hown ⟨w3.heap.size, 0, none⟩ 1 1 [.string (B.os k.1).kind, .string (B.os k.1).name, .int .i64 (B.os k.1).ver, .int .i64 (B.os k.1).born, .string (B.os k.1).text, .bool (B.os k.1).ending, .slice ad2 (B.os k.1).hn cap2] rfl rfl (alloc_news w3 _ 73) (by simp [Value.oneCell']) (by unfold maxLen; omega) (by omega) (by simp; omega) ?_
        intro v' w4' hown2 hgrow2 hat2
        have BD2 := BD1.push (cap' := cap2) hat hown2 hgrow2 hat2 (j4.frP (FrP.of_below (P := fun _ => False) (below_alloc w3 _)) (fun h0 => ⟨fun h => h, j3 h0⟩)) (fun h0 => ⟨by omega, by have := j3 h0; simp; omega⟩)
          (fun h0 e => by
            obtain ⟨c0, r0, _⟩ := bd.row
            have h1 := (r0.lt _ e).2
            omega)
          (fun i hi' h0 h1 e => by
            have h2 := (bd.hlt i hi' h0).2
            omega)
        have hrow : ∀ g, v.ownBlock = some g → w1.heap.size + 4 ≤ g := fun g hg => by obtain ⟨c0, r0, _⟩ := bd.row; exact (r0.lt _ hg).1
        have bx2 : Boxed w4' w1.heap.size 28 v := (Boxed.of_below bV j1).alloc _ |>.kept hgrow2 (fun e => by have := hrow _ e.symm; omega)
        have kw2 : KeepsOthers W w4' := ((keepsO_of_below j1).trans (KeepsOthers.alloc _ _)).trans (KeepsOthers.of_grownBy hgrow2 (fun j o e hj => by
          rcases hown.2 with ⟨h1, _⟩ | ⟨g', cap, cur, h1, h2', h3, h4⟩
          · rw [h1] at e; cases e
          · rw [h1] at e
            cases e
            rw [h3] at hj
            cases hj
            rfl))
        have fr2 : FrP Pk W w4' := ((FrP.of_below j1).trans (FrP.of_below (below_alloc w3 _))).trans ((FrP.of_grown hgrow2).mono (fun q hq => by rw [hPk]; exact Or.inr (hrow q hq)))
        rw [← hK]
        exact ⟨_, t20, _, _, _, w3, w4', ad2, cap2, b2, v', _, _, _, rfl, hsz', (by rw [kp 2 (by decide), kp 1 (by decide)]; exact n21), (by rw [kp 3 (by decide), kp 2 (by decide)]; exact n32), (fun _ => by rw [kp 3 (by decide)]; exact q3), (fun _ => by rw [kp 0 (by decide)]; exact q0), (fun _ => ki'), (fun _ => rfl), (by rw [kp 1 (by decide)]; exact f1), (fun h => by rw [kp 2 (by decide), n32 q3] at h; cases h), (by rw [kp 2 (by decide)]; exact fun _ => ⟨rfl, j1, j2, j3, j4⟩), (fun _ h => by rw [kp 3 (by decide), q3] at h; cases h), (fun _ => rfl), (fun _ h => absurd (ki'.symm.trans h) (by decide)), (fun _ => ⟨rfl, BD2, bx2, kw2, fr2⟩), (fun _ _ => rfl), (fun h => by rw [kp 5 (by decide), l5] at h; cases h)⟩
      · simp only [List.getElem?_toArray, List.getElem?_cons_succ, List.getElem?_cons_zero, Option.some.injEq] at ho
        subst ho
        have q4 : l.getD 4 false = true := hdep ⟨4, .data⟩ (by simp) rfl
        clear hdep
        obtain ⟨rfl, j1, j2, j3, j4⟩ := f4 q4
        obtain rfl : w4 = w' := (g4 q4 hui).symm
        have cb := j2.cell
        have fb := j2.frozen
        obtain ⟨adx, capx, gx, ex, _, _⟩ := j1.done
        obtain ⟨Ln, hLn⟩ : ∃ Ln, (ixs pre ++ [k.1]).length = Ln := ⟨_, rfl⟩
        rw [hLn] at ex
        subst ex
        have y3 := n43 q4
        have y2 := n32 y3
        obtain rfl : v = t19 := (f0 (n40 q4)).symm
        obtain rfl := f1 (n21 y2)
        obtain rfl := (f2 y2).1
        obtain rfl := f3 y3
        refine wpOpIn_of rfl rfl ?_
        generalize hK : RInv (fun t19 t20 t21 t22 t23 => #[.agg #[.int .i64 B.now, .int .i64 B.floor, .slice a1 B.on c1, .slice a2 B.hn c2, .slice a3 B.tn c3], .string ki, .string pr, .pointer (some ⟨w.heap.size, 0, none⟩), undef, undef, .slice none 0 0, .int .i64 0, .pointer (some ⟨w1.heap.size, 0, none⟩), .pointer (some ⟨Bx, 0, none⟩), .agg #[.int .i64 B.now, .int .i64 B.floor, .slice a1 B.on c1, .slice a2 B.hn c2, .slice a3 B.tn c3], .bool true, .bool false, .pointer (some ⟨w.heap.size, 2, none⟩), .slice a1 B.on c1, .string ki, .string pr, .func (.func 143) #[] #[.pointer (some ⟨w1.heap.size + 1, 0, none⟩), .pointer (some ⟨w1.heap.size + 1 + 1, 0, none⟩), .pointer (some ⟨w1.heap.size + 1 + 1 + 1, 0, none⟩)], obV (B.os k.1) (A k.1) (C k.1), t19, t20, t21, t22, t23, undef, undef, undef]) (w1.heap.size + 4) w1.heap.size Pk W B.os (ixs pre) k.1 v (A k.1) (C k.1) (l.setIfInBounds 5 true) = K
        go_simp
        rw [← hK]
        exact ⟨_, _, _, _, _, w3, w4, ad2, cap2, b2, _, A2, C2, h2, rfl, hsz', (by rw [kp 2 (by decide), kp 1 (by decide)]; exact n21), (by rw [kp 3 (by decide), kp 2 (by decide)]; exact n32), (by rw [kp 4 (by decide), kp 3 (by decide)]; exact n43), (by rw [kp 4 (by decide), kp 0 (by decide)]; exact n40), (fun _ => by rw [kp 4 (by decide)]; exact q4), (by rw [kp 0 (by decide)]; exact f0), (by rw [kp 1 (by decide)]; exact f1), (fun h => by rw [kp 2 (by decide), y2] at h; cases h), (by rw [kp 2 (by decide)]; exact f2), (fun _ h => by rw [kp 3 (by decide), y3] at h; cases h), (by rw [kp 3 (by decide)]; exact f3), (fun _ h => by rw [kp 4 (by decide), q4] at h; cases h), (by rw [kp 4 (by decide)]; exact fun _ => ⟨rfl, j1, j2, j3, j4⟩), (fun _ h => absurd (ki'.symm.trans h) (by decide)), (fun _ => rfl)⟩
  case done =>
    rintro D ys W hD hS ⟨⟨v, A', C', hb, bV, bd⟩, hf⟩ hK
    have bdf : BdOb (W.drew.putObj D (.deferred none)) (w1.heap.size + 4) v (ixs ys).length (pick B.os (ixs ys)) A' C' hb := (bd.grow ((Below.refl _ _).drew)).turn (grownBy_putObj' W.drew D (.deferred none)) (fun r e => by cases e; exact ⟨_, hK, rfl⟩)
    obtain ⟨ad', cap', g, e, at', hq⟩ := bdf.done
    rw [hS] at at' hq
    have AT := hid at'
    have HQ := hid hq
    have zW := hf.size
    have cV := bV.cell
    have H3 : Holds W w.heap.size (bkCells B a1 a2 a3 c1 c2 c3) := fun i => (hf.cell (p := ⟨w.heap.size, i, none⟩) (by show w.heap.size < _; omega) ((hPkN _).2 (by show ¬ (w.heap.size = _ ∨ _ ≤ w.heap.size); omega))).trans (H0 i)
    obtain ⟨p0, p1, p2, p3, p4⟩ := holds_bk H3
    have hBW : Below w.heap.size w W := hB0.trans (hf.below (fun q hq => (hPkN q).2 (by omega)) (by omega))
    have hBf : Below w.heap.size w (W.drew.putObj D (.deferred none)) := (hBW.trans ((Below.refl _ _).drew)).trans (belowK_b (w := W0) (n₀ := w.heap.size) (by omega) W.drew D _ _ hD hK rfl rfl)
    rw [hS] at e
    subst e
    clear at' hq bd bdf bV hS
    gi_wp2
    gi_region
    all_goals gi_wp2
    all_goals refine ⟨by simp, .inl ⟨_, _, rfl, run_takeDeferred hK, ?_⟩⟩
    all_goals exact ⟨.tuple #[.slice ad' (flt (fun i => lkB (B.os i) ki pr) B.on).length cap', .int .i64 B.now], by simp [results, Tryz.results79, go_sem], ad', cap', g, A', C', hb, rfl, AT.out, fun q hq => Nat.le_trans (by omega) (HQ.out q hq), hBf⟩
  case stop =>
    rintro D c pre W _ _ h _
    exact h.elim
/-- which objects a list has, and which version it is of -/
def resL (B : Bk) (ki pr : ByteArray) : List Nat := if allTo (chk B) 7 then flt (fun i => lkB (B.os i) ki pr) B.on else []
def resN (B : Bk) : Int := if allTo (chk B) 7 then B.now else 0
theorem obsAt_nil (w : World) (ad : Option Addr) (g : Nat) (x : Nat → Ob) (A : Nat → Option Addr) (C hb : Nat → Nat) : ObsAt w ad g 0 x A C hb :=
  ⟨fun h0 => absurd h0 (Nat.lt_irrefl _), fun h0 => absurd h0 (Nat.lt_irrefl _), fun _i hi => absurd hi (Nat.not_lt_zero _), fun _i hi => absurd hi (Nat.not_lt_zero _), ⟨fun _i hi => absurd hi (Nat.not_lt_zero _), fun _i _j hi => absurd hi (Nat.not_lt_zero _)⟩⟩
theorem blk_nil {g : Nat} {hn hb : Nat → Nat} {q : Nat} (h : blkH g 0 hn hb q) : False := by
  rcases h with ⟨h0, _⟩ | ⟨i, hi, _⟩
  · exact absurd h0 (Nat.lt_irrefl _)
  · exact absurd hi (Nat.not_lt_zero _)
theorem implList_any (B : Bk) (a1 a2 a3 : Option Addr) (c1 c2 c3 : Nat) (ki pr : ByteArray) (w : World) (lo hi : Nat) (hhi : hi ≤ w.heap.size) (hfit : BkFit B) (hon : (B.on : Int) ≤ 1048576) (hpr : (pr.size : Int) ≤ 140737488355328) (hin : BkIn w lo hi B a1 a2 a3) :
    Calls Tryz.prog 79 #[.agg #[.int .i64 B.now, .int .i64 B.floor, .slice a1 B.on c1, .slice a2 B.hn c2, .slice a3 B.tn c3], .string ki, .string pr] w fun e w' => ∃ ad' cap' g A C hb, e = .returned (.tuple #[.slice ad' (resL B ki pr).length cap', .int .i64 (resN B)]) ∧ ObsAt w' ad' g (resL B ki pr).length (pick B.os (resL B ki pr)) A C hb ∧ (∀ q, blkH g (resL B ki pr).length (fun i => (pick B.os (resL B ki pr) i).hn) hb q → w.heap.size ≤ q) ∧ Below w.heap.size w w' := by
  cases hv : allTo (chk B) 7 with
  | false =>
    have e1 : resL B ki pr = [] := by simp [resL, hv]
    have e2 : resN B = 0 := by simp [resN, hv]
    rw [e1, e2]
    refine (implListNo_any B a1 a2 a3 c1 c2 c3 ki pr w lo hi hhi hfit hin hv).mono ?_
    rintro e w' ⟨rfl, hb⟩
    exact ⟨none, 0, 0, fun _ => none, fun _ => 0, fun _ => 0, rfl, obsAt_nil _ _ _ _ _ _ _, fun q hq => (blk_nil hq).elim, hb⟩
  | true =>
    have e1 : resL B ki pr = flt (fun i => lkB (B.os i) ki pr) B.on := by simp [resL, hv]
    have e2 : resN B = B.now := by simp [resN, hv]
    rw [e1, e2]
    exact callsIn_wide.1 (implListYes_in Fence.wide 9 (fun _ _ _ _ _ h => callsIn_wide.2 h) trivial trivial trivial trivial trivial trivial rfl (by decide) B a1 a2 a3 c1 c2 c3 ki pr w lo hi hhi hfit hon hpr hin hv)
end Go.Proofs.YtkecnaaacbckoaaGreat
namespace Go.Proofs.YtkecnaaacbckoaaGreat
open Go.RowKit
set_option maxRecDepth 100000 in
set_option maxHeartbeats 1000000 in
theorem specBookList_any (B : Bk) (a1 a2 a3 : Option Addr) (c1 c2 c3 : Nat) (ki pr : ByteArray) (w : World) (lo hi : Nat) (hhi : hi ≤ w.heap.size) (hfit : BkFit B) (hon : (B.on : Int) ≤ 1048576) (hpr : (pr.size : Int) ≤ 140737488355328) (hin : BkIn w lo hi B a1 a2 a3) :
    Calls Tryz.prog 78 #[.agg #[.int .i64 B.now, .int .i64 B.floor, .slice a1 B.on c1, .slice a2 B.hn c2, .slice a3 B.tn c3], .string ki, .string pr] w fun e w' => ∃ ad' cap' g A C hb, e = .returned (.tuple #[.slice ad' (resL B ki pr).length cap', .int .i64 (resN B)]) ∧ ObsAt w' ad' g (resL B ki pr).length (pick B.os (resL B ki pr)) A C hb ∧ (∀ q, blkH g (resL B ki pr).length (fun i => (pick B.os (resL B ki pr) i).hn) hb q → w.heap.size ≤ q) ∧ Below w.heap.size w w' := by
  cases hv : allTo (chk B) 7 with
  | false =>
    have HE1 := hid (show resL B ki pr = [] by simp [resL, hv])
    have HE2 := hid (show resN B = 0 by simp [resN, hv])
    go_enter Tryz.func78, Tryz.ntmps78
    go_wp2_with (go_at_call 39; go_must (refine (specValid_any B a1 a2 a3 c1 c2 c3 _ lo hi (by simp; omega) hfit (hin.below (below_alloc _ _) hhi)).mono ?_; rw [hv]; rintro e w1 ⟨rfl, hb1⟩))
    refine bodyPost_ret (v := .tuple #[.slice (some ⟨w1.heap.size, 0, none⟩) 0 0, .int .i64 0]) (by simp [results, Tryz.results78, go_sem]) rfl ?_
    rw [HE1.out, HE2.out]
    exact ⟨_, _, 0, fun _ => none, fun _ => 0, fun _ => 0, rfl, obsAt_nil _ _ _ _ _ _ _, fun q hq => (blk_nil hq).elim, ((below_alloc _ _).trans (hb1.mono (by simp))).alloc (by have := hb1.size; simp at this; omega) _⟩
  | true =>
    have HE1 := hid (show resL B ki pr = flt (fun i => lkB (B.os i) ki pr) B.on by simp [resL, hv])
    have HE2 := hid (show resN B = B.now by simp [resN, hv])
    go_enter Tryz.func78, Tryz.ntmps78
    go_wp2_with (go_at_call 39; go_must (refine (specValid_any B a1 a2 a3 c1 c2 c3 _ lo hi (by simp; omega) hfit (hin.below (below_alloc _ _) hhi)).mono ?_; rw [hv]; rintro e w1 ⟨rfl, hb1⟩))
    have H1 := (holds_new w (bkCells B a1 a2 a3 c1 c2 c3) 32).below hb1 (by simp)
    obtain ⟨p0, p1, p2, p3, p4⟩ := holds_bk H1
    have hb1' : Below w.heap.size w w1 := (below_alloc _ _).trans (hb1.mono (by simp))
    have zw1 : w.heap.size < w1.heap.size := by have := hb1.size; simp at this; omega
    clear hb1
    go_region_with (go_at_call 119; go_must (refine (specList_any B.on B.os a1 c1 ki pr _ lo hi (by have := hb1'.size; simp; omega) hon hpr hfit.os (hin.o.below (hb1'.trans ((Below.refl _ _).drew)) hhi)).mono ?_; rintro e w2 ⟨ad', cap', g, A, C, hb, rfl, at', hq, hb2⟩; have q0 := (hb2.cell (p := ⟨w.heap.size, 0, none⟩) (by exact zw1)).trans p0; have HA := hid at'; have HQ := hid hq; clear at' hq))
    all_goals go_wp2
    all_goals refine bodyPost_ret (v := .tuple #[.slice ad' (flt (fun i => lkB (B.os i) ki pr) B.on).length cap', .int .i64 B.now]) (by simp [results, Tryz.results78, go_sem]) rfl ?_
    all_goals rw [HE1.out, HE2.out]
    all_goals exact ⟨ad', cap', g, A, C, hb, rfl, HA.out, fun q hq => Nat.le_trans hb1'.size (HQ.out q hq), (hb1'.trans ((Below.refl _ _).drew)).trans (hb2.mono hb1'.size)⟩
end Go.Proofs.YtkecnaaacbckoaaGreat
namespace Go.Proofs.YtkecnaaacbckoaaGreat
open Go.RowKit Go.Maps
theorem fit_of_sz {x : Bk} (h : szBk x ≤ 1048576) : (x.on : Int) ≤ 1048576 ∧ (∀ i, i < x.on → ((x.os i).hn : Int) ≤ 1048576) := by
  unfold szBk at h
  have h1 : szObs x.on x.os ≤ 1048576 := by omega
  unfold szObs at h1
  refine ⟨by omega, fun i hi => ?_⟩
  have h2 := sumTo_mono (fun i => szOb (x.os i)) (show i + 1 ≤ x.on by omega)
  simp only [sumTo, szOb, szStrs] at h2 h1
  omega
theorem mkObs_pick (x : Nat → Ob) (p : Nat → Bool) : ∀ n, mkObs 1 (pick x (flt p n)) (flt p n).length ≤ mkObs 1 x n
  | 0 => Nat.le_refl _
  | n + 1 => by
    have ih := mkObs_pick x p n
    cases hp : p n with
    | false => rw [flt_no hp]; exact Nat.le_trans ih (mkObs_mono 1 x (Nat.le_succ n))
    | true =>
      rw [flt_yes hp]
      have e : (flt p n ++ [n]).length = (flt p n).length + 1 := by simp
      rw [e]
      unfold mkObs
      rw [pick_new, mkObs_congr 1 (y := pick x (flt p n)) (fun i hi => pick_old hi)]
      omega
theorem res_len (x : Bk) (ki pr : ByteArray) : (resL x ki pr).length ≤ x.on := by
  unfold resL
  split
  · exact flt_len _ _
  · exact Nat.zero_le _
theorem res_hn {x : Bk} {ki pr : ByteArray} {i : Nat} (h : i < (resL x ki pr).length) : ∃ k, k < x.on ∧ pick x.os (resL x ki pr) i = x.os k := by
  unfold resL at h ⊢
  split
  · next hv => rw [if_pos hv] at h; exact pick_mem h
  · next hv => rw [if_neg hv] at h; exact absurd h (Nat.not_lt_zero _)
theorem res_mk (x : Bk) (ki pr : ByteArray) : mkObs 1 (pick x.os (resL x ki pr)) (resL x ki pr).length ≤ mkObs 1 x.os x.on := by
  unfold resL
  split
  · exact mkObs_pick _ _ _
  · exact mkObs_mono 1 x.os (Nat.zero_le _)
/-- where the law stands, from its first comparison on -/
structure LS (W : World) (s0 : Nat) (x : Bk) (a1 a2 a3 : Option Addr) (c1 c2 c3 : Nat) (n : Nat) (y : Nat → Ob) (z3 z4 : Nat) (adw : Option Addr) (gw : Nat) (Aw : Nat → Option Addr) (Cw hw : Nat → Nat) (p : Pl) (d1 d2 d3 : Nat) (adg : Option Addr) (gg : Nat) (Ag : Nat → Option Addr) (Cg hg : Nat → Nat) (xm : Bk) (yg : Nat → Ob) : Prop where
  bx : Holds W s0 (bkCells x a1 a2 a3 c1 c2 c3)
  arg : BkIn W 0 s0 x a1 a2 a3
  vw : ObsAt W adw gw n y Aw Cw hw
  bw : ∀ q, blkH gw n (fun i => (y i).hn) hw q → s0 < q ∧ q < z3
  vx : Holds W z4 (bkCells x p.a1 p.a2 p.a3 d1 d2 d3)
  xx : BkAt W xm p
  xb : ∀ q, blkB p xm q → z3 ≤ q ∧ q < z4
  vg : ObsAt W adg gg n yg Ag Cg hg
  bg : ∀ q, blkH gg n (fun i => (yg i).hn) hg q → z4 < q
  o1 : s0 < z3
  o2 : z3 ≤ z4
  o3 : z4 < W.heap.size
section
variable {W W' : World} {s0 : Nat} {x : Bk} {a1 a2 a3 : Option Addr} {c1 c2 c3 : Nat} {n : Nat} {y : Nat → Ob} {z3 z4 : Nat} {adw : Option Addr} {gw : Nat} {Aw : Nat → Option Addr} {Cw hw : Nat → Nat} {p : Pl} {d1 d2 d3 : Nat} {adg : Option Addr} {gg : Nat} {Ag : Nat → Option Addr} {Cg hg : Nat → Nat} {xm : Bk} {yg : Nat → Ob}
theorem LS.below (h : LS W s0 x a1 a2 a3 c1 c2 c3 n y z3 z4 adw gw Aw Cw hw p d1 d2 d3 adg gg Ag Cg hg xm yg) (hb : Below W.heap.size W W') : LS W' s0 x a1 a2 a3 c1 c2 c3 n y z3 z4 adw gw Aw Cw hw p d1 d2 d3 adg gg Ag Cg hg xm yg := by
  have h1 := h.o1
  have h2 := h.o2
  have h3 := h.o3
  exact ⟨h.bx.below hb (by omega), h.arg.below hb (by omega), h.vw.grow hb, h.bw, h.vx.below hb h3, h.xx.grow hb, h.xb, h.vg.grow hb, h.bg, h1, h2, Nat.lt_of_lt_of_le h3 hb.size⟩
theorem Holds.frP {W W' : World} {B : Nat} {c : Array Value} {P : Nat → Prop} (h : Holds W B c) (hf : FrP P W W') (hB : B < W.heap.size) (hp : ¬ P B) : Holds W' B c := fun i => (hf.cell (p := ⟨B, i, none⟩) hB hp).trans (h i)
theorem LS.markX (h : LS W s0 x a1 a2 a3 c1 c2 c3 n y z3 z4 adw gw Aw Cw hw p d1 d2 d3 adg gg Ag Cg hg xm yg) (k0 : Nat) (hx : BkAt W' (ykBk k0 xm) p) (hf : FrP (blkB p xm) W W') : LS W' s0 x a1 a2 a3 c1 c2 c3 n y z3 z4 adw gw Aw Cw hw p d1 d2 d3 adg gg Ag Cg hg (ykBk k0 xm) yg := by
  have h1 := h.o1
  have h2 := h.o2
  have h3 := h.o3
  refine ⟨h.bx.frP hf (by omega) (fun e => by have := h.xb _ e; omega), h.arg.below (hf.below (B := s0) (fun k hk e => by have := h.xb _ e; omega) (by omega)) (Nat.le_refl _), h.vw.fr hf (fun k hk e => by have a := h.bw k hk; have b := h.xb _ e; omega), h.bw, h.vx.frP hf h3 (fun e => by have := h.xb _ e; omega), hx, by rw [blkB_yk]; exact h.xb, h.vg.fr hf (fun k hk e => by have a := h.bg k hk; have b := h.xb _ e; omega), h.bg, h1, h2, Nat.lt_of_lt_of_le h3 hf.size⟩
theorem LS.markG (h : LS W s0 x a1 a2 a3 c1 c2 c3 n y z3 z4 adw gw Aw Cw hw p d1 d2 d3 adg gg Ag Cg hg xm yg) (k0 : Nat) (hg' : ObsAt W' adg gg n (ykOb k0 yg n) Ag Cg hg) (hf : FrP (blkH gg n (fun i => (yg i).hn) hg) W W') : LS W' s0 x a1 a2 a3 c1 c2 c3 n y z3 z4 adw gw Aw Cw hw p d1 d2 d3 adg gg Ag Cg hg xm (ykOb k0 yg n) := by
  have h1 := h.o1
  have h2 := h.o2
  have h3 := h.o3
  refine ⟨h.bx.frP hf (by omega) (fun e => by have := h.bg _ e; omega), h.arg.below (hf.below (B := s0) (fun k hk e => by have := h.bg _ e; omega) (by omega)) (Nat.le_refl _), h.vw.fr hf (fun k hk e => by have a := h.bw k hk; have b := h.bg _ e; omega), h.bw, h.vx.frP hf h3 (fun e => by have := h.bg _ e; omega), h.xx.fr hf (fun k hk e => by have a := h.xb k hk; have b := h.bg _ e; omega), h.xb, hg', by simp only [ykOb_hn]; exact h.bg, h1, h2, Nat.lt_of_lt_of_le h3 hf.size⟩
theorem LS.low (h : LS W s0 x a1 a2 a3 c1 c2 c3 n y z3 z4 adw gw Aw Cw hw p d1 d2 d3 adg gg Ag Cg hg xm yg) (hf : FrP (blkB p xm) W W') : Below s0 W W' := by
  have h1 := h.o1
  have h2 := h.o2
  have h3 := h.o3
  exact hf.below (B := s0) (fun k hk e => by have := h.xb _ e; omega) (by omega)
theorem LS.lowG (h : LS W s0 x a1 a2 a3 c1 c2 c3 n y z3 z4 adw gw Aw Cw hw p d1 d2 d3 adg gg Ag Cg hg xm yg) (hf : FrP (blkH gg n (fun i => (yg i).hn) hg) W W') : Below s0 W W' := by
  have h1 := h.o1
  have h2 := h.o2
  have h3 := h.o3
  exact hf.below (B := s0) (fun k hk e => by have := h.bg _ e; omega) (by omega)
end
theorem implList_y (B : Bk) (a1 a2 a3 : Option Addr) (c1 c2 c3 : Nat) (ki pr : ByteArray) (n : Nat) (y : Nat → Ob) (nw : Int) (hn : (resL B ki pr).length = n) (hy : pick B.os (resL B ki pr) = y) (hN : resN B = nw) (w : World) (lo hi : Nat) (hhi : hi ≤ w.heap.size) (hfit : BkFit B) (hon : (B.on : Int) ≤ 1048576) (hpr : (pr.size : Int) ≤ 140737488355328) (hin : BkIn w lo hi B a1 a2 a3) :
    Calls Tryz.prog 79 #[.agg #[.int .i64 B.now, .int .i64 B.floor, .slice a1 B.on c1, .slice a2 B.hn c2, .slice a3 B.tn c3], .string ki, .string pr] w fun e w' => ∃ ad' cap' g A C hb, e = .returned (.tuple #[.slice ad' n cap', .int .i64 nw]) ∧ ObsAt w' ad' g n y A C hb ∧ (∀ q, blkH g n (fun i => (y i).hn) hb q → w.heap.size ≤ q) ∧ Below w.heap.size w w' := by
  subst hn; subst hy; subst hN
  exact implList_any B a1 a2 a3 c1 c2 c3 ki pr w lo hi hhi hfit hon hpr hin
theorem specList_y (B : Bk) (a1 a2 a3 : Option Addr) (c1 c2 c3 : Nat) (ki pr : ByteArray) (n : Nat) (y : Nat → Ob) (nw : Int) (hn : (resL B ki pr).length = n) (hy : pick B.os (resL B ki pr) = y) (hN : resN B = nw) (w : World) (lo hi : Nat) (hhi : hi ≤ w.heap.size) (hfit : BkFit B) (hon : (B.on : Int) ≤ 1048576) (hpr : (pr.size : Int) ≤ 140737488355328) (hin : BkIn w lo hi B a1 a2 a3) :
    Calls Tryz.prog 78 #[.agg #[.int .i64 B.now, .int .i64 B.floor, .slice a1 B.on c1, .slice a2 B.hn c2, .slice a3 B.tn c3], .string ki, .string pr] w fun e w' => ∃ ad' cap' g A C hb, e = .returned (.tuple #[.slice ad' n cap', .int .i64 nw]) ∧ ObsAt w' ad' g n y A C hb ∧ (∀ q, blkH g n (fun i => (y i).hn) hb q → w.heap.size ≤ q) ∧ Below w.heap.size w w' := by
  subst hn; subst hy; subst hN
  exact specBookList_any B a1 a2 a3 c1 c2 c3 ki pr w lo hi hhi hfit hon hpr hin
end Go.Proofs.YtkecnaaacbckoaaGreat
