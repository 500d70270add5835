import Derived.Test.YtkecnaaacbckoaaGreatHc
import Derived.Test.YtkecnaaacbckoaaGreatZj
import Derived.Test.YtkecnaaacbckoaaGreatGw
import Derived.Test.YtkecnaaacbckoaaGreatHj
namespace Go.Proofs.YtkecnaaacbckoaaGreat
open Go.RowKit Go.Shelf
attribute [local go_sem] Oper.semAt_some
set_option maxRecDepth 100000 in
set_option maxHeartbeats 1000000 in
theorem walk_in (F : Fence) (m : Nat) (h22 : F.fn 109) (hro : F.round = none) (ad : Option Addr) (n cap : Nat) (ki pr : ByteArray) (w : World) :
    CallsIn F m Tryz.prog 109 #[.slice ad n cap, .string ki, .string pr] w fun e w' => e = .returned (.func (.func 143) #[] #[.pointer (some ⟨w.heap.size, 0, none⟩), .pointer (some ⟨w.heap.size + 1, 0, none⟩), .pointer (some ⟨w.heap.size + 1 + 1, 0, none⟩)]) ∧ w' = ((w.alloc (.cells #[.slice ad n cap] 28)).alloc (.cells #[.string ki] 9)).alloc (.cells #[.string pr] 9) := by
  refine callsIn_of_wp Tryz.func109 rfl h22 ?_ hro
  simp only [Tryz.ntmps109, List.size_toArray, List.length_cons, List.length_nil, Nat.reduceAdd, Nat.reduceSub, Array.replicate_succ, Array.replicate_zero, List.push_toArray, List.append_toArray, List.nil_append, List.cons_append]
  gi_wp2
  go_ret
  exact ⟨rfl, rfl⟩
def RInv (mk : Value → Value → Value → Value → Value → Array Value) (N0 Bl : Nat) (Pk : Nat → Prop) (W : World) (x : Nat → Ob) (L : List Nat) (k : Nat) (v : Value) (ah : Option Addr) (ch : Nat) (l : Array Bool) (a : Act) (w' : World) : Prop :=
  ∃ (t19 t20 t21 t22 t23 : Value) (w1 w2 : World) (ad' : Option Addr) (cap' b' : Nat) (v' : Value) (A2 : Nat → Option Addr) (C2 h2 : Nat → Nat), a = ⟨mk t19 t20 t21 t22 t23, []⟩ ∧ l.size = 6 ∧
    (l.getD 2 false = true → l.getD 1 false = true) ∧ (l.getD 3 false = true → l.getD 2 false = true) ∧ (l.getD 4 false = true → l.getD 3 false = true) ∧ (l.getD 4 false = true → l.getD 0 false = true) ∧ (l.getD 5 false = true → l.getD 4 false = true) ∧
    (l.getD 0 false = true → t19 = v) ∧ (l.getD 1 false = true → t20 = obV (x k) ah ch) ∧ (l.getD 2 false = false → w' = W.drew) ∧
    (l.getD 2 false = true → t21 = obV (x k) ad' cap' ∧ Below W.heap.size W w1 ∧ W.heap.size ≤ b' ∧ ((x k).hn ≠ 0 → b' < w1.heap.size) ∧ StrsOwn w1 b' (b' + 1) ad' (x k).hn (x k).hs) ∧
    (l.getD 2 false = true → l.getD 3 false = false → w' = w1) ∧
    (l.getD 3 false = true → t22 = .slice (some ⟨w1.heap.size, 0, none⟩) 1 1) ∧
    (l.getD 3 false = true → l.getD 4 false = false → w' = w1.alloc (.cells #[.string (x k).kind, .string (x k).name, .int .i64 (x k).ver, .int .i64 (x k).born, .string (x k).text, .bool (x k).ending, .slice ad' (x k).hn cap'] 73)) ∧
    (l.getD 4 false = true → t23 = v' ∧ BdOb w2 N0 v' (L ++ [k]).length (pick x (L ++ [k])) A2 C2 h2 ∧ Boxed w2 Bl 28 v ∧ KeepsOthers W w2 ∧ FrP Pk W w2) ∧
    (l.getD 4 false = true → l.getD 5 false = false → w' = w2) ∧
    (l.getD 5 false = true → w' = w2.setCell ⟨Bl, 0, none⟩ v')
/-- those that no change tells of -/
def unt (B : Bk) (l : List Nat) : List Nat := l.filter (fun i => decide ((B.os i).ver ≤ B.floor))
theorem unt_yes {B : Bk} {l : List Nat} {k : Nat} (h : (B.os k).ver ≤ B.floor) : unt B (l ++ [k]) = unt B l ++ [k] := by simp [unt, h]
theorem unt_no {B : Bk} {l : List Nat} {k : Nat} (h : ¬ (B.os k).ver ≤ B.floor) : unt B (l ++ [k]) = unt B l := by
  unfold unt
  rw [List.filter_append]
  simp; omega
theorem unt_len (B : Bk) (l : List Nat) : (unt B l).length ≤ l.length := List.length_filter_le _ _
set_option maxRecDepth 100000 in
set_option maxHeartbeats 4000000 in
theorem untold_in (F : Fence) (m : Nat) (hcv : ∀ (k f : Nat) (args : Array Value) (w : World) (R : Ending → World → Prop), Calls Tryz.prog f args w R → CallsIn F k Tryz.prog f args w R) (h30 : F.fn 62) (h64 : F.fn 109) (h23 : F.fn 64) (h51 : F.fn 143) (h52 : F.fn 74) (hro : F.round = none) (hm : 4 ≤ m)
    (B : Bk) (a1 a2 a3 : Option Addr) (c1 c2 c3 : Nat) (w : World) (lo hi : Nat) (hhi : hi ≤ w.heap.size) (hfit : BkFit B) (hon : (B.on : Int) ≤ 1048575) (hin : BkIn w lo hi B a1 a2 a3) :
    CallsIn F m Tryz.prog 62 #[.agg #[.int .i64 B.now, .int .i64 B.floor, .slice a1 B.on c1, .slice a2 B.hn c2, .slice a3 B.tn c3]] w fun e w' => ∃ v A C hb, e = .returned v ∧ BdOb w' (w.heap.size + 5) v (unt B (flt (fun i => lkB (B.os i) ⟨#[]⟩ ⟨#[]⟩) B.on)).length (pick B.os (unt B (flt (fun i => lkB (B.os i) ⟨#[]⟩ ⟨#[]⟩) B.on))) A C hb ∧ Below w.heap.size w w' := by
  have h1 : 1 ≤ m := by omega
  have hpr : ((ByteArray.mk #[]).size : Int) ≤ 140737488355328 := by decide
  obtain ⟨i0, hi0, hz0, hz1, hz2⟩ := info_parts Tryz.info73
  refine callsIn_of_wp_marks Tryz.func62 rfl h30 ?_ hro
  simp only [Tryz.ntmps62, List.size_toArray, List.length_cons, List.length_nil, Nat.reduceAdd, Nat.reduceSub, Array.replicate_succ, Array.replicate_zero, List.push_toArray, List.append_toArray, List.nil_append, List.cons_append]
  have H2 := (holds_new w (bkCells B a1 a2 a3 c1 c2 c3) 32).below (below_alloc (w.alloc (.cells (bkCells B a1 a2 a3 c1 c2 c3) 32)) (.cells #[.slice none 0 0] 28)) (by simp)
  obtain ⟨p0, p1, p2, p3, p4⟩ := holds_bk H2
  gi_wp2_with (gi_at_call 109; go_must (refine (walk_in F (m - 1) h64 hro _ _ _ _ _ _).mono ?_; rintro e w2 ⟨rfl, rfl⟩))
  obtain ⟨A, C, hsrc0⟩ := hin.o.choose
  obtain ⟨W0, hW0⟩ : ∃ W0, ((((w.alloc (.cells #[.int .i64 B.now, .int .i64 B.floor, .slice a1 B.on c1, .slice a2 B.hn c2, .slice a3 B.tn c3] 32)).alloc (.cells #[.slice none 0 0] 28)).alloc (.cells #[.slice a1 B.on c1] 28)).alloc (.cells #[.string { data := #[] }] 9)).alloc (.cells #[.string { data := #[] }] 9) = W0 := ⟨_, rfl⟩
  have hsz0 : W0.heap.size = w.heap.size + 5 := by rw [← hW0]; simp
  have hB0 : Below w.heap.size w W0 := by rw [← hW0]; exact ((((below_alloc _ _).alloc (by simp) _).alloc (by simp; omega) _).alloc (by simp; omega) _).alloc (by simp; omega) _
  have bL : Boxed W0 (w.heap.size + 1) 28 (.slice none 0 0) := by
    have h := (((Boxed.new (w.alloc (.cells #[.int .i64 B.now, .int .i64 B.floor, .slice a1 B.on c1, .slice a2 B.hn c2, .slice a3 B.tn c3] 32)) 28 (.slice none 0 0)).alloc (.cells #[.slice a1 B.on c1] 28)).alloc (.cells #[.string { data := #[] }] 9)).alloc (.cells #[.string { data := #[] }] 9)
    rw [hW0] at h; simpa using h
  have bO : Boxed W0 (w.heap.size + 2) 28 (.slice a1 B.on c1) := by
    have h := ((Boxed.new ((w.alloc (.cells #[.int .i64 B.now, .int .i64 B.floor, .slice a1 B.on c1, .slice a2 B.hn c2, .slice a3 B.tn c3] 32)).alloc (.cells #[.slice none 0 0] 28)) 28 (.slice a1 B.on c1)).alloc (.cells #[.string { data := #[] }] 9)).alloc (.cells #[.string { data := #[] }] 9)
    rw [hW0] at h; simpa using h
  have bK : Boxed W0 (w.heap.size + 3) 9 (.string { data := #[] }) := by
    have h := (Boxed.new (((w.alloc (.cells #[.int .i64 B.now, .int .i64 B.floor, .slice a1 B.on c1, .slice a2 B.hn c2, .slice a3 B.tn c3] 32)).alloc (.cells #[.slice none 0 0] 28)).alloc (.cells #[.slice a1 B.on c1] 28)) 9 (.string { data := #[] })).alloc (.cells #[.string { data := #[] }] 9)
    rw [hW0] at h; simpa using h
  have bP : Boxed W0 (w.heap.size + 4) 9 (.string { data := #[] }) := by
    have h := Boxed.new ((((w.alloc (.cells #[.int .i64 B.now, .int .i64 B.floor, .slice a1 B.on c1, .slice a2 B.hn c2, .slice a3 B.tn c3] 32)).alloc (.cells #[.slice none 0 0] 28)).alloc (.cells #[.slice a1 B.on c1] 28)).alloc (.cells #[.string { data := #[] }] 9)) 9 (.string { data := #[] })
    rw [hW0] at h; simpa using h
  have hsrc : ObSrc W0 hi a1 B.on B.os A C := hsrc0.frP (FrP.of_below (P := fun _ => False) hB0) (fun _ _ h => h) hhi
  have H0 : Holds W0 w.heap.size (bkCells B a1 a2 a3 c1 c2 c3) := by
    rw [← hW0]
    exact (holds_new w (bkCells B a1 a2 a3 c1 c2 c3) 32).below (n := w.heap.size + 1) ((((Below.refl _ _).alloc (by simp) _).alloc (by simp) _ |>.alloc (by simp) _).alloc (by simp) _) (by omega)
  rw [hW0]
  clear hW0 p0 p1 p2 p3 p4 H2
  obtain ⟨Pk, hPk⟩ : ∃ Pk : Nat → Prop, Pk = fun q => q = w.heap.size + 1 ∨ w.heap.size + 5 ≤ q := ⟨_, rfl⟩
  have hPkB : ∀ {X Y : World}, Below (w.heap.size + 5) X Y → FrP Pk X Y := fun {X Y} h => ⟨h.os, h.tape, h.output, h.size, fun q _ hq => h.block q (by
    rw [hPk] at hq
    rcases Nat.lt_or_ge q (w.heap.size + 5) with h1 | h1
    · exact h1
    · exact absurd (Or.inr h1) hq)⟩
  have hPkN : ∀ q, ¬ Pk q ↔ ¬ (q = w.heap.size + 1 ∨ w.heap.size + 5 ≤ q) := fun q => by rw [hPk]
  have hfits : ∀ i, i < B.on → (((B.os i).name.size : Int) ≤ 140737488355328 ∧ ((B.os i).hn : Int) ≤ 8796093022208) := fun i hi' => ⟨(hfit.os i hi').n, (hfit.os i hi').h⟩
  refine wpIn_rangeFunc_ownH (α := Ix B.on) hro h1 (gf := 143) (lb := #[.pointer (some ⟨w.heap.size + 1 + 1, 0, none⟩), .pointer (some ⟨w.heap.size + 1 + 1 + 1, 0, none⟩), .pointer (some ⟨w.heap.size + 1 + 1 + 1 + 1, 0, none⟩)]) (encs := fun k => #[obV (B.os k.1) (A k.1) (C k.1)]) (Kp := FrP Pk) (S := fun ys => ixs ys = flt (fun i => lkB (B.os i) ⟨#[]⟩ ⟨#[]⟩) B.on) (Sp := fun _ => True) (N := B.on) (w0 := W0) rfl h51 (enters_of Tryz.func143 (by kernel_rfl) rfl)
    ?seq (fun h1 h2 => h1.trans h2) (fun X l o o' hl ho1 ho2 ho3 => hPkB (belowK_b (w := W0) (n₀ := w.heap.size + 5) (by omega) X l o o' hl ho1 ho2 ho3)) (Below.refl _ _) (fun _ => rfl)
    (fun pre W => (∃ v A' C' hb, Boxed W (w.heap.size + 1) 28 v ∧ BdOb W (w.heap.size + 5) v (unt B (ixs pre)).length (pick B.os (unt B (ixs pre))) A' C' hb) ∧ FrP Pk W0 W)
    (fun _ _ _ => False) ?own (fun _ _ _ _ _ hs _ _ => hs) ?start
    (fun k a' W => ∃ Bx, w.heap.size + 5 ≤ Bx ∧ W.heap[Bx]? = some (.cells (obCells (B.os k.1) (A k.1) (C k.1)) 73 (0, 0)) ∧ a' = { tmps := #[.agg #[.int .i64 B.now, .int .i64 B.floor, .slice a1 B.on c1, .slice a2 B.hn c2, .slice a3 B.tn c3], .pointer (some ⟨w.heap.size, 0, none⟩), .slice none 0 0, .pointer (some ⟨w.heap.size + 1, 0, none⟩), .pointer (some ⟨Bx, 0, none⟩), .pointer (some ⟨w.heap.size, 2, none⟩), .slice a1 B.on c1, .func (.func 143) #[] #[.pointer (some ⟨w.heap.size + 1 + 1, 0, none⟩), .pointer (some ⟨w.heap.size + 1 + 1 + 1, 0, none⟩), .pointer (some ⟨w.heap.size + 1 + 1 + 1 + 1, 0, none⟩)], obV (B.os k.1) (A k.1) (C k.1), undef, undef, undef, undef, undef, undef, undef, undef, undef, undef, undef], defers := [] })
    (fun k a' _ X Y row hs hg hr => by
      obtain ⟨Bx, e1, e2, e3⟩ := hs
      refine ⟨Bx, e1, (hg.block Bx (Array.getElem?_eq_some_iff.1 e2).1 (fun e => ?_)).trans e2, e3⟩
      obtain ⟨_, o, ho, hc⟩ := hr Bx e.symm
      rw [e2] at ho
      cases ho
      cases hc)
    ?assign ?body ?done ?stop
  case seq =>
    exact fun l J Jx W hW hJ _ hY h0 => walk1_in F (m - 1) h51 h52 hro (by omega) l _ _ _ hi Pk B.on B.os a1 c1 A C _ _ (by omega) J Jx (fun i w' hi' => hcv _ _ _ _ _ (isOf_any (B.os i) (A i) (C i) _ _ w' (hfits i hi').1 hpr)) W hJ hY
      ((hW.cell (p := ⟨w.heap.size + 2, 0, none⟩) (by show w.heap.size + 2 < _; omega)).trans bO.cell) ((hW.cell (p := ⟨w.heap.size + 3, 0, none⟩) (by show w.heap.size + 3 < _; omega)).trans bK.cell) ((hW.cell (p := ⟨w.heap.size + 4, 0, none⟩) (by show w.heap.size + 4 < _; omega)).trans bP.cell)
      ⟨by have := hW.size; omega, (hPkN _).2 (by omega)⟩ ⟨by have := hW.size; omega, (hPkN _).2 (by omega)⟩ (by have := hW.size; omega) (fun q hq => (hPkN q).2 (by omega)) (hsrc.frP (FrP.of_below (P := fun _ => False) hW) (fun _ _ h => h) (by omega)) h0
  case own =>
    intro pre X Y row hs hg hr
    obtain ⟨⟨v, A', C', hb, e1, e2⟩, e3⟩ := hs
    exact ⟨⟨v, A', C', hb, e1.kept hg (fun e => by have := (hr _ e.symm).1; omega), e2.turn hg (fun r e => (hr r e).2)⟩, e3.trans ((FrP.of_grown hg).mono (fun q hq => by
      rw [hPk]
      have := (hr _ hq).1
      exact Or.inr (by omega)))⟩
  case start =>
    exact ⟨⟨_, fun _ => none, fun _ => 0, fun _ => 0, bL, ⟨⟨fun _ => .int .i64 0, World.ownsRow_nil _ _ _ _, fun i hi' => absurd hi' (Nat.not_lt_zero _)⟩, fun i hi' => absurd hi' (Nat.not_lt_zero _), fun i hi' => absurd hi' (Nat.not_lt_zero _), fun i hi' => absurd hi' (Nat.not_lt_zero _), fun i j hi' => absurd hi' (Nat.not_lt_zero _)⟩⟩, FrP.refl _ _⟩
  case assign =>
    rintro l pre k W K ⟨⟨v, A', C', hb, e1, e2⟩, e3⟩ hK
    simp only [obV]
    gi_wp2
    have z := e3.size
    exact hK _ _ ((KeepsOthers.alloc _ _).from _) (FrP.of_below (below_alloc _ _)) ⟨⟨v, A', C', hb, e1.alloc _, e2.grow (below_alloc _ _)⟩, e3.trans (FrP.of_below (below_alloc _ _))⟩ ⟨W.heap.size, by omega, World.alloc_heap_new W _, rfl⟩
  case body =>
    rintro l0 pre k a' W hl ⟨r, hr⟩ ⟨⟨v, A', C', hb, bV, bd⟩, hf⟩ ⟨Bx, hBx, bX, rfl⟩ hlt
    have zW := hf.size
    have hX : Holds W Bx (obCells (B.os k.1) (A k.1) (C k.1)) := fun i => by simp [World.cell?, bX]
    have H3 : Holds W w.heap.size (bkCells B a1 a2 a3 c1 c2 c3) := fun i => (hf.cell (p := ⟨w.heap.size, i, none⟩) (by show w.heap.size < _; omega) ((hPkN _).2 (by show ¬ (w.heap.size = _ ∨ _ ≤ w.heap.size); omega))).trans (H0 i)
    obtain ⟨p0, p1, p2, p3, p4⟩ := holds_bk H3
    have hfk := (hfits k.1 k.2).2
    have hsW : StrsIn W 0 hi (A k.1) (B.os k.1).hn (B.os k.1).hs := (hsrc.frP hf (fun q hq => (hPkN q).2 (by omega)) (by omega)).holds k.1 k.2
    have hhW : hi ≤ W.heap.size := by omega
    obtain ⟨x0, x1, x2, x3, x4, x5, x6⟩ := holds_ob hX
    have h1' : 1 ≤ m - 1 - 1 := by omega
    have hLp : (unt B (ixs pre)).length < 1048576 := by have := unt_len B (ixs pre); rw [ixs_len] at this; omega
    have hyes := unt_yes (B := B) (l := ixs pre) (k := k.1)
    have hno := unt_no (B := B) (l := ixs pre) (k := k.1)
    have EX : ixs (pre ++ [k]) = ixs pre ++ [k.1] := ixs_snoc _ _
    rw [← EX] at hyes hno
    generalize unt B (ixs pre) = Lp at bd hLp hyes hno
    generalize hLq : unt B (ixs (pre ++ [k])) = Lq at hyes hno
    by_cases hle : (B.os k.1).ver ≤ B.floor
    · have HE := hid (hyes hle)
      clear hyes hno
      unfold obV
      gi_wp2
      refine wpIn_region_inv (by kernel_rfl) (RInv (fun t19 t20 t21 t22 t23 => #[.agg #[.int .i64 B.now, .int .i64 B.floor, .slice a1 B.on c1, .slice a2 B.hn c2, .slice a3 B.tn c3], .pointer (some ⟨w.heap.size, 0, none⟩), .slice none 0 0, .pointer (some ⟨w.heap.size + 1, 0, none⟩), .pointer (some ⟨Bx, 0, none⟩), .pointer (some ⟨w.heap.size, 2, none⟩), .slice a1 B.on c1, .func (.func 143) #[] #[.pointer (some ⟨w.heap.size + 1 + 1, 0, none⟩), .pointer (some ⟨w.heap.size + 1 + 1 + 1, 0, none⟩), .pointer (some ⟨w.heap.size + 1 + 1 + 1 + 1, 0, none⟩)], obV (B.os k.1) (A k.1) (C k.1), .pointer (some ⟨Bx, 2, none⟩), .int .i64 (B.os k.1).ver, .pointer (some ⟨w.heap.size, 1, none⟩), .int .i64 B.floor, .bool true, t19, t20, t21, t22, t23, undef]) (w.heap.size + 5) (w.heap.size + 1) Pk W B.os Lp k.1 v (A k.1) (C k.1)) ?_ ?_ ?_ ?_
      · refine ⟨_, _, _, _, _, W, W, none, 0, 0, v, fun _ => none, fun _ => 0, fun _ => 0, rfl, by simp, ?_⟩
        simp
      · intro l a w' hI
        obtain ⟨t19, t20, t21, t22, t23, w3, w4, ad2, cap2, b2, v2, A2, C2, h2, rfl, hls, _⟩ := hI
        exact hls
      · intro l a w' hI hr'
        obtain ⟨t19, t20, t21, t22, t23, w3, w4, ad2, cap2, b2, v2, A2, C2, h2, rfl, hls, n21, n32, n43, n40, n54, f0, f1, g0, f2, g1, f3, g2, f4, g4, g5⟩ := hI
        have AL := all_listed (by kernel_rfl) (by rw [hls]; rfl) hr'
        obtain rfl := g5 (AL 5 (by decide))
        obtain ⟨rfl, j1, j2, j3, j4⟩ := f4 (AL 4 (by decide))
        clear n21 n32 n43 n40 n54 f0 f1 g0 f2 g1 f3 g2 f4 g4 g5 AL hr' hls
        gi_wp2
        have hPl : Pk (w.heap.size + 1) := by rw [hPk]; exact Or.inl rfl
        refine ⟨(j3.trans (KeepsOthers.setCell _ _ _)).from _, j4.trans ((FrP.refl _ _).setCell hPl _), ⟨⟨t23, A2, C2, h2, j2.set _, ?_⟩, hf.trans (j4.trans ((FrP.refl _ _).setCell hPl _))⟩⟩
        rw [hLq, HE.out]
        exact j1.fr (P := fun q => q = w.heap.size + 1) (FrP.setCell (P := fun q => q = w.heap.size + 1) (FrP.refl _ _) (p := ⟨w.heap.size + 1, 0, none⟩) (by rfl) _) (fun q hq _ e => by omega)
      · intro l a w' i hI hr'
        obtain ⟨t19, t20, t21, t22, t23, w3, w4, ad2, cap2, b2, v2, A2, C2, h2, rfl, hls, n21, n32, n43, n40, n54, f0, f1, g0, f2, g1, f3, g2, f4, g4, g5⟩ := hI
        obtain ⟨hu, o', ho, hdep⟩ := mem_ready.1 hr'
        have hi16 : i < 6 := by
          rcases Nat.lt_or_ge i 6 with h | h
          · exact h
          · rw [Array.getElem?_eq_none (by simpa using h)] at ho
            cases ho
        have kp : ∀ j, ¬ j = i → (l.setIfInBounds i true).getD j false = l.getD j false := fun j hj => by rw [getD_set (by omega), if_neg hj]
        have ki' : (l.setIfInBounds i true).getD i false = true := by rw [getD_set (by omega), if_pos rfl]
        have hsz' : (l.setIfInBounds i true).size = 6 := by simp [hls]
        have hui : l.getD i false = false := by simpa [Array.getD, hls, hi16] using hu
        clear hr' hu
        rcases (show i = 0 ∨ i = 1 ∨ i = 2 ∨ i = 3 ∨ i = 4 ∨ i = 5 by omega) with rfl | rfl | rfl | rfl | rfl | rfl
        · simp only [List.getElem?_toArray, List.getElem?_cons_zero, Option.some.injEq] at ho
          subst ho
          clear hdep
          have l4 := listed_no n40 hui
          have hcl : w'.cell? ⟨(w.heap.size + 1), 0, none⟩ = some v := by
            cases e3 : l.getD 3 false with
            | true =>
              rw [g2 e3 l4]
              exact ((Boxed.of_below bV (f2 (n32 e3)).2.1).alloc _).cell
            | false =>
              cases e2 : l.getD 2 false with
              | true => rw [g1 e2 e3]; exact (Boxed.of_below bV (f2 e2).2.1).cell
              | false => rw [g0 e2]; exact bV.cell
          refine wpOpIn_of rfl rfl ?_
          generalize hK : RInv (fun t19 t20 t21 t22 t23 => #[.agg #[.int .i64 B.now, .int .i64 B.floor, .slice a1 B.on c1, .slice a2 B.hn c2, .slice a3 B.tn c3], .pointer (some ⟨w.heap.size, 0, none⟩), .slice none 0 0, .pointer (some ⟨w.heap.size + 1, 0, none⟩), .pointer (some ⟨Bx, 0, none⟩), .pointer (some ⟨w.heap.size, 2, none⟩), .slice a1 B.on c1, .func (.func 143) #[] #[.pointer (some ⟨w.heap.size + 1 + 1, 0, none⟩), .pointer (some ⟨w.heap.size + 1 + 1 + 1, 0, none⟩), .pointer (some ⟨w.heap.size + 1 + 1 + 1 + 1, 0, none⟩)], obV (B.os k.1) (A k.1) (C k.1), .pointer (some ⟨Bx, 2, none⟩), .int .i64 (B.os k.1).ver, .pointer (some ⟨w.heap.size, 1, none⟩), .int .i64 B.floor, .bool true, t19, t20, t21, t22, t23, undef]) (w.heap.size + 5) (w.heap.size + 1) Pk W B.os Lp k.1 v (A k.1) (C k.1) (l.setIfInBounds 0 true) = K
          go_simp
          rw [← hK]
          exact ⟨_, t20, t21, t22, t23, w3, w4, ad2, cap2, b2, v2, A2, C2, h2, rfl, hsz', (by rw [kp 2 (by decide), kp 1 (by decide)]; exact n21), (by rw [kp 3 (by decide), kp 2 (by decide)]; exact n32), (by rw [kp 4 (by decide), kp 3 (by decide)]; exact n43), (fun _ => ki'), (by rw [kp 5 (by decide), kp 4 (by decide)]; exact n54), (fun _ => rfl), (by rw [kp 1 (by decide)]; exact f1), (by rw [kp 2 (by decide)]; exact g0), (by rw [kp 2 (by decide)]; exact f2), (by rw [kp 2 (by decide), kp 3 (by decide)]; exact g1), (by rw [kp 3 (by decide)]; exact f3), (by rw [kp 3 (by decide), kp 4 (by decide)]; exact g2), (by rw [kp 4 (by decide)]; exact f4), (by rw [kp 4 (by decide), kp 5 (by decide)]; exact g4), (by rw [kp 5 (by decide)]; exact g5)⟩
        · simp only [List.getElem?_toArray, List.getElem?_cons_succ, List.getElem?_cons_zero, Option.some.injEq] at ho
          subst ho
          clear hdep
          have l2 := listed_no n21 hui
          obtain rfl := g0 l2
          refine wpOpIn_of rfl rfl ?_
          generalize hK : RInv (fun t19 t20 t21 t22 t23 => #[.agg #[.int .i64 B.now, .int .i64 B.floor, .slice a1 B.on c1, .slice a2 B.hn c2, .slice a3 B.tn c3], .pointer (some ⟨w.heap.size, 0, none⟩), .slice none 0 0, .pointer (some ⟨w.heap.size + 1, 0, none⟩), .pointer (some ⟨Bx, 0, none⟩), .pointer (some ⟨w.heap.size, 2, none⟩), .slice a1 B.on c1, .func (.func 143) #[] #[.pointer (some ⟨w.heap.size + 1 + 1, 0, none⟩), .pointer (some ⟨w.heap.size + 1 + 1 + 1, 0, none⟩), .pointer (some ⟨w.heap.size + 1 + 1 + 1 + 1, 0, none⟩)], obV (B.os k.1) (A k.1) (C k.1), .pointer (some ⟨Bx, 2, none⟩), .int .i64 (B.os k.1).ver, .pointer (some ⟨w.heap.size, 1, none⟩), .int .i64 B.floor, .bool true, t19, t20, t21, t22, t23, undef]) (w.heap.size + 5) (w.heap.size + 1) Pk W B.os Lp k.1 v (A k.1) (C k.1) (l.setIfInBounds 1 true) = K
          go_simp
          rw [← hK]
          exact ⟨t19, _, t21, t22, t23, w3, w4, ad2, cap2, b2, v2, A2, C2, h2, rfl, hsz', (fun _ => ki'), (by rw [kp 3 (by decide), kp 2 (by decide)]; exact n32), (by rw [kp 4 (by decide), kp 3 (by decide)]; exact n43), (by rw [kp 4 (by decide), kp 0 (by decide)]; exact n40), (by rw [kp 5 (by decide), kp 4 (by decide)]; exact n54), (by rw [kp 0 (by decide)]; exact f0), (fun _ => rfl), (by rw [kp 2 (by decide)]; exact g0), (by rw [kp 2 (by decide)]; exact f2), (by rw [kp 2 (by decide), kp 3 (by decide)]; exact g1), (by rw [kp 3 (by decide)]; exact f3), (by rw [kp 3 (by decide), kp 4 (by decide)]; exact g2), (by rw [kp 4 (by decide)]; exact f4), (by rw [kp 4 (by decide), kp 5 (by decide)]; exact g4), (by rw [kp 5 (by decide)]; exact g5)⟩
        · simp only [List.getElem?_toArray, List.getElem?_cons_succ, List.getElem?_cons_zero, Option.some.injEq] at ho
          subst ho
          have q1 : l.getD 1 false = true := hdep ⟨1, .data⟩ (by simp) rfl
          clear hdep
          obtain rfl := f1 q1
          obtain rfl := g0 hui
          have l3 := listed_no n32 hui
          have l4 := listed_no n43 l3
          have l5 := listed_no n54 l4
          refine wpOpIn_of rfl rfl ?_
          generalize hK : RInv (fun t19 t20 t21 t22 t23 => #[.agg #[.int .i64 B.now, .int .i64 B.floor, .slice a1 B.on c1, .slice a2 B.hn c2, .slice a3 B.tn c3], .pointer (some ⟨w.heap.size, 0, none⟩), .slice none 0 0, .pointer (some ⟨w.heap.size + 1, 0, none⟩), .pointer (some ⟨Bx, 0, none⟩), .pointer (some ⟨w.heap.size, 2, none⟩), .slice a1 B.on c1, .func (.func 143) #[] #[.pointer (some ⟨w.heap.size + 1 + 1, 0, none⟩), .pointer (some ⟨w.heap.size + 1 + 1 + 1, 0, none⟩), .pointer (some ⟨w.heap.size + 1 + 1 + 1 + 1, 0, none⟩)], obV (B.os k.1) (A k.1) (C k.1), .pointer (some ⟨Bx, 2, none⟩), .int .i64 (B.os k.1).ver, .pointer (some ⟨w.heap.size, 1, none⟩), .int .i64 B.floor, .bool true, t19, t20, t21, t22, t23, undef]) (w.heap.size + 5) (w.heap.size + 1) Pk W B.os Lp k.1 v (A k.1) (C k.1) (l.setIfInBounds 2 true) = K
          unfold obV
          go_simp
          refine (CallsIn.inRound l0 (hcv _ _ _ _ _ (copyOb_own (B.os k.1) (A k.1) (C k.1) _ 0 hi (by exact hhW) (by exact hfk) (by exact hsW)))).mono ?_
          rintro e w5 ⟨ad5, cap5, b5, rfl, k1, k2, k3, k4⟩
          rw [← hK]
          exact ⟨t19, _, _, t22, t23, w5, w5, ad5, cap5, b5, v2, A2, C2, h2, rfl, hsz', (fun _ => by rw [kp 1 (by decide)]; exact q1), (fun _ => ki'), (by rw [kp 4 (by decide), kp 3 (by decide)]; exact n43), (by rw [kp 4 (by decide), kp 0 (by decide)]; exact n40), (by rw [kp 5 (by decide), kp 4 (by decide)]; exact n54), (by rw [kp 0 (by decide)]; exact f0), (by rw [kp 1 (by decide)]; exact f1), (fun h => absurd (ki'.symm.trans h) (by decide)), (fun _ => ⟨rfl, ((Below.refl _ _).drew).trans k4, k1, k2, k3⟩), (fun _ _ => rfl), (fun h => by rw [kp 3 (by decide), l3] at h; cases h), (fun h => by rw [kp 3 (by decide), l3] at h; cases h), (fun h => by rw [kp 4 (by decide), l4] at h; cases h), (fun h => by rw [kp 4 (by decide), l4] at h; cases h), (fun h => by rw [kp 5 (by decide), l5] at h; cases h)⟩
        · simp only [List.getElem?_toArray, List.getElem?_cons_succ, List.getElem?_cons_zero, Option.some.injEq] at ho
          subst ho
          have q2 : l.getD 2 false = true := hdep ⟨2, .data⟩ (by simp) rfl
          clear hdep
          obtain ⟨rfl, j1, j2, j3, j4⟩ := f2 q2
          obtain rfl : w3 = w' := (g1 q2 hui).symm
          obtain rfl := f1 (n21 q2)
          have l5 := listed_no n54 (listed_no n43 hui)
          have l4 := listed_no n43 hui
          refine wpOpIn_of rfl rfl ?_
          generalize hK : RInv (fun t19 t20 t21 t22 t23 => #[.agg #[.int .i64 B.now, .int .i64 B.floor, .slice a1 B.on c1, .slice a2 B.hn c2, .slice a3 B.tn c3], .pointer (some ⟨w.heap.size, 0, none⟩), .slice none 0 0, .pointer (some ⟨w.heap.size + 1, 0, none⟩), .pointer (some ⟨Bx, 0, none⟩), .pointer (some ⟨w.heap.size, 2, none⟩), .slice a1 B.on c1, .func (.func 143) #[] #[.pointer (some ⟨w.heap.size + 1 + 1, 0, none⟩), .pointer (some ⟨w.heap.size + 1 + 1 + 1, 0, none⟩), .pointer (some ⟨w.heap.size + 1 + 1 + 1 + 1, 0, none⟩)], obV (B.os k.1) (A k.1) (C k.1), .pointer (some ⟨Bx, 2, none⟩), .int .i64 (B.os k.1).ver, .pointer (some ⟨w.heap.size, 1, none⟩), .int .i64 B.floor, .bool true, t19, t20, t21, t22, t23, undef]) (w.heap.size + 5) (w.heap.size + 1) Pk W B.os Lp k.1 v (A k.1) (C k.1) (l.setIfInBounds 3 true) = K
          unfold obV
          go_simp
          rw [← hK]
          exact ⟨t19, _, _, _, t23, w3, w4, ad2, cap2, b2, v2, A2, C2, h2, rfl, hsz', (by rw [kp 2 (by decide), kp 1 (by decide)]; exact n21), (fun _ => by rw [kp 2 (by decide)]; exact q2), (fun _ => ki'), (by rw [kp 4 (by decide), kp 0 (by decide)]; exact n40), (by rw [kp 5 (by decide), kp 4 (by decide)]; exact n54), (by rw [kp 0 (by decide)]; exact f0), (by rw [kp 1 (by decide)]; exact f1), (fun h => by rw [kp 2 (by decide), q2] at h; cases h), (by rw [kp 2 (by decide)]; exact fun _ => ⟨rfl, j1, j2, j3, j4⟩), (fun _ h => absurd (ki'.symm.trans h) (by decide)), (fun _ => rfl), (fun _ _ => rfl), (by rw [kp 4 (by decide)]; exact f4), (fun h => by rw [kp 4 (by decide), l4] at h; cases h), (fun h => by rw [kp 5 (by decide), l5] at h; cases h)⟩
        · simp only [List.getElem?_toArray, List.getElem?_cons_succ, List.getElem?_cons_zero, Option.some.injEq] at ho
          subst ho
          have q0 : l.getD 0 false = true := hdep ⟨0, .data⟩ (by simp) rfl
          have q3 : l.getD 3 false = true := hdep ⟨3, .data⟩ (by simp) rfl
          clear hdep
          obtain rfl : v = t19 := (f0 q0).symm
          obtain rfl := f3 q3
          obtain rfl := g2 q3 hui
          obtain ⟨rfl, j1, j2, j3, j4⟩ := f2 (n32 q3)
          have l5 := listed_no n54 hui
          have z3 := j1.size
          have BD1 := (bd.grow j1).grow (below_alloc w3 (.cells #[.string (B.os k.1).kind, .string (B.os k.1).name, .int .i64 (B.os k.1).ver, .int .i64 (B.os k.1).born, .string (B.os k.1).text, .bool (B.os k.1).ending, .slice ad2 (B.os k.1).hn cap2] 73))
          obtain ⟨c, hown, hat⟩ := BD1.row
          have hln : Lp.length < 1048576 := by omega
          refine wpOpIn_of rfl rfl ?_
          generalize hK : RInv (fun t19 t20 t21 t22 t23 => #[.agg #[.int .i64 B.now, .int .i64 B.floor, .slice a1 B.on c1, .slice a2 B.hn c2, .slice a3 B.tn c3], .pointer (some ⟨w.heap.size, 0, none⟩), .slice none 0 0, .pointer (some ⟨w.heap.size + 1, 0, none⟩), .pointer (some ⟨Bx, 0, none⟩), .pointer (some ⟨w.heap.size, 2, none⟩), .slice a1 B.on c1, .func (.func 143) #[] #[.pointer (some ⟨w.heap.size + 1 + 1, 0, none⟩), .pointer (some ⟨w.heap.size + 1 + 1 + 1, 0, none⟩), .pointer (some ⟨w.heap.size + 1 + 1 + 1 + 1, 0, none⟩)], obV (B.os k.1) (A k.1) (C k.1), .pointer (some ⟨Bx, 2, none⟩), .int .i64 (B.os k.1).ver, .pointer (some ⟨w.heap.size, 1, none⟩), .int .i64 B.floor, .bool true, t19, t20, t21, t22, t23, undef]) (w.heap.size + 5) (w.heap.size + 1) Pk W B.os Lp k.1 v (A k.1) (C k.1) (l.setIfInBounds 4 true) = K
          refine operIn_append_own _ _ 28 rfl (w.heap.size + 5) 73 i0 _ 7 96 Tryz.underlying28 hi0 hz0 hz1 hz2 rfl (by decide) _ Lp.length (rowCells (Lp.length * 7) c) rfl hown ⟨w3.heap.size, 0, none⟩ 1 1 [.string (B.os k.1).kind, .string (B.os k.1).name, .int .i64 (B.os k.1).ver, .int .i64 (B.os k.1).born, .string (B.os k.1).text, .bool (B.os k.1).ending, .slice ad2 (B.os k.1).hn cap2] rfl rfl (alloc_news w3 _ 73) (by simp [Value.oneCell']) (by unfold maxLen; omega) (by omega) (by simp; omega) ?_
          intro v' w4' hown2 hgrow2 hat2
          have BD2 := BD1.push (cap' := cap2) hat hown2 hgrow2 hat2 (j4.frP (FrP.of_below (P := fun _ => False) (below_alloc w3 _)) (fun h0 => ⟨fun h => h, j3 h0⟩)) (fun h0 => ⟨by omega, by have := j3 h0; simp; omega⟩)
            (fun h0 e => by
              obtain ⟨c0, r0, _⟩ := bd.row
              have h1 := (r0.lt _ e).2
              omega)
            (fun i hi' h0 h1 e => by
              have h2 := (bd.hlt i hi' h0).2
              omega)
          have hrow : ∀ g, v.ownBlock = some g → w.heap.size + 5 ≤ g := fun g hg => by obtain ⟨c0, r0, _⟩ := bd.row; exact (r0.lt _ hg).1
          have bx2 : Boxed w4' (w.heap.size + 1) 28 v := (Boxed.of_below bV j1).alloc _ |>.kept hgrow2 (fun e => by have := hrow _ e.symm; omega)
          have kw2 : KeepsOthers W w4' := ((keepsO_of_below j1).trans (KeepsOthers.alloc _ _)).trans (KeepsOthers.of_grownBy hgrow2 (fun j o e hj => by
            rcases hown.2 with ⟨h1, _⟩ | ⟨g', cap, cur, h1, h2', h3, h4⟩
            · rw [h1] at e; cases e
            · rw [h1] at e
              cases e
              rw [h3] at hj
              cases hj
              rfl))
          have fr2 : FrP Pk W w4' := ((FrP.of_below j1).trans (FrP.of_below (below_alloc w3 _))).trans ((FrP.of_grown hgrow2).mono (fun q hq => by rw [hPk]; exact Or.inr (hrow q hq)))
          rw [← hK]
          exact ⟨_, t20, _, _, _, w3, w4', ad2, cap2, b2, v', _, _, _, rfl, hsz', (by rw [kp 2 (by decide), kp 1 (by decide)]; exact n21), (by rw [kp 3 (by decide), kp 2 (by decide)]; exact n32), (fun _ => by rw [kp 3 (by decide)]; exact q3), (fun _ => by rw [kp 0 (by decide)]; exact q0), (fun _ => ki'), (fun _ => rfl), (by rw [kp 1 (by decide)]; exact f1), (fun h => by rw [kp 2 (by decide), n32 q3] at h; cases h), (by rw [kp 2 (by decide)]; exact fun _ => ⟨rfl, j1, j2, j3, j4⟩), (fun _ h => by rw [kp 3 (by decide), q3] at h; cases h), (fun _ => rfl), (fun _ h => absurd (ki'.symm.trans h) (by decide)), (fun _ => ⟨rfl, BD2, bx2, kw2, fr2⟩), (fun _ _ => rfl), (fun h => by rw [kp 5 (by decide), l5] at h; cases h)⟩
        · simp only [List.getElem?_toArray, List.getElem?_cons_succ, List.getElem?_cons_zero, Option.some.injEq] at ho
          subst ho
          have q4 : l.getD 4 false = true := hdep ⟨4, .data⟩ (by simp) rfl
          clear hdep
          obtain ⟨rfl, j1, j2, j3, j4⟩ := f4 q4
          obtain rfl : w4 = w' := (g4 q4 hui).symm
          have cb := j2.cell
          have fb := j2.frozen
          obtain ⟨adx, capx, gx, ex, _, _⟩ := j1.done
          obtain ⟨Ln, hLn⟩ : ∃ Ln, (Lp ++ [k.1]).length = Ln := ⟨_, rfl⟩
          rw [hLn] at ex
          subst ex
          have y3 := n43 q4
          have y2 := n32 y3
          obtain rfl : v = t19 := (f0 (n40 q4)).symm
          obtain rfl := f1 (n21 y2)
          obtain rfl := (f2 y2).1
          obtain rfl := f3 y3
          refine wpOpIn_of rfl rfl ?_
          generalize hK : RInv (fun t19 t20 t21 t22 t23 => #[.agg #[.int .i64 B.now, .int .i64 B.floor, .slice a1 B.on c1, .slice a2 B.hn c2, .slice a3 B.tn c3], .pointer (some ⟨w.heap.size, 0, none⟩), .slice none 0 0, .pointer (some ⟨w.heap.size + 1, 0, none⟩), .pointer (some ⟨Bx, 0, none⟩), .pointer (some ⟨w.heap.size, 2, none⟩), .slice a1 B.on c1, .func (.func 143) #[] #[.pointer (some ⟨w.heap.size + 1 + 1, 0, none⟩), .pointer (some ⟨w.heap.size + 1 + 1 + 1, 0, none⟩), .pointer (some ⟨w.heap.size + 1 + 1 + 1 + 1, 0, none⟩)], obV (B.os k.1) (A k.1) (C k.1), .pointer (some ⟨Bx, 2, none⟩), .int .i64 (B.os k.1).ver, .pointer (some ⟨w.heap.size, 1, none⟩), .int .i64 B.floor, .bool true, t19, t20, t21, t22, t23, undef]) (w.heap.size + 5) (w.heap.size + 1) Pk W B.os Lp k.1 v (A k.1) (C k.1) (l.setIfInBounds 5 true) = K
          go_simp
          rw [← hK]
          exact ⟨_, _, _, _, _, w3, w4, ad2, cap2, b2, _, A2, C2, h2, rfl, hsz', (by rw [kp 2 (by decide), kp 1 (by decide)]; exact n21), (by rw [kp 3 (by decide), kp 2 (by decide)]; exact n32), (by rw [kp 4 (by decide), kp 3 (by decide)]; exact n43), (by rw [kp 4 (by decide), kp 0 (by decide)]; exact n40), (fun _ => by rw [kp 4 (by decide)]; exact q4), (by rw [kp 0 (by decide)]; exact f0), (by rw [kp 1 (by decide)]; exact f1), (fun h => by rw [kp 2 (by decide), y2] at h; cases h), (by rw [kp 2 (by decide)]; exact f2), (fun _ h => by rw [kp 3 (by decide), y3] at h; cases h), (by rw [kp 3 (by decide)]; exact f3), (fun _ h => by rw [kp 4 (by decide), q4] at h; cases h), (by rw [kp 4 (by decide)]; exact fun _ => ⟨rfl, j1, j2, j3, j4⟩), (fun _ h => absurd (ki'.symm.trans h) (by decide)), (fun _ => rfl)⟩
    · have HE := hid (hno hle)
      clear hyes hno
      unfold obV
      gi_wp2
      refine ⟨(KeepsOthers.refl _).from _, FrP.refl _ _, ⟨⟨v, bV, A', C', hb, ?_⟩, by rw [hPk] at hf; exact hf⟩⟩
      rw [hLq, HE.out]
      exact bd
  case done =>
    rintro D ys W hD hS ⟨⟨v, A', C', hb, bV, bd⟩, hf⟩ hK
    have bdf : BdOb (W.putObj D (.deferred none)) (w.heap.size + 5) v (unt B (ixs ys)).length (pick B.os (unt B (ixs ys))) A' C' hb := bd.turn (grownBy_putObj' W D (.deferred none)) (fun r e => by cases e; exact ⟨_, hK, rfl⟩)
    rw [hS] at bdf
    have AT := hid bdf
    have zW := hf.size
    have cV := bV.cell
    have hBW : Below w.heap.size w W := hB0.trans (hf.below (fun q hq => (hPkN q).2 (by omega)) (by omega))
    have hBf : Below w.heap.size w (W.putObj D (.deferred none)) := hBW.trans (belowK_b (w := W0) (n₀ := w.heap.size) (by omega) W D _ _ hD hK rfl rfl)
    clear bd bdf bV hS
    gi_wp2
    refine ⟨by simp, .inl ⟨_, _, rfl, run_takeDeferred hK, ?_⟩⟩
    exact ⟨_, results_tmp rfl _ _ _, v, A', C', hb, rfl, AT.out, hBf⟩
  case stop =>
    rintro D c pre W _ _ h _
    exact h.elim
end Go.Proofs.YtkecnaaacbckoaaGreat
namespace Go.Proofs.YtkecnaaacbckoaaGreat
open Go.RowKit
theorem sameK_iff (x z : Ob) : sameK x z ↔ (x.kind = z.kind ∧ x.name = z.name) := by
  have h0 := keyI_zero x z
  constructor
  · intro h
    have h1 : keyI x z = 0 := (keyI_nil x z).2 (befB_tot h.1 h.2)
    rw [h1] at h0
    simpa using h0.symm
  · intro h
    have h1 : keyI x z = 0 := by simpa [h] using h0
    exact bef_of_key h1
theorem lst_none {h : Nat → Ch} {a b : ByteArray} : ∀ {n : Nat}, lst h a b n = none → ∀ j, j < n → ¬ ((h j).ob.kind = a ∧ (h j).ob.name = b)
  | 0, _, j, hj => absurd hj (Nat.not_lt_zero _)
  | n + 1, e, j, hj => by
    by_cases h2 : (h n).ob.kind = a ∧ (h n).ob.name = b
    · rw [lst_hit h2] at e; cases e
    · rw [lst_miss h2] at e
      by_cases e2 : j = n
      · subst e2; exact h2
      · exact lst_none e j (by omega)
theorem lst_is {h : Nat → Ch} {a b : ByteArray} {i : Nat} : ∀ {n : Nat}, lst h a b n = some i ↔ (i < n ∧ ((h i).ob.kind = a ∧ (h i).ob.name = b) ∧ ∀ j, i < j → j < n → ¬ ((h j).ob.kind = a ∧ (h j).ob.name = b))
  | 0 => by
    constructor
    · intro e; cases e
    · rintro ⟨h1, _⟩; exact absurd h1 (Nat.not_lt_zero _)
  | n + 1 => by
    have ih := lst_is (h := h) (a := a) (b := b) (i := i) (n := n)
    by_cases h2 : (h n).ob.kind = a ∧ (h n).ob.name = b
    · rw [lst_hit h2]
      constructor
      · intro e; cases e; exact ⟨by omega, h2, fun j h3 h4 => by omega⟩
      · rintro ⟨h3, _, h5⟩
        by_cases e : i = n
        · rw [e]
        · exact absurd h2 (h5 n (by omega) (by omega))
    · rw [lst_miss h2, ih]
      constructor
      · rintro ⟨h3, h4, h5⟩
        refine ⟨by omega, h4, fun j h6 h7 => ?_⟩
        by_cases e : j = n
        · subst e; exact h2
        · exact h5 j h6 (by omega)
      · rintro ⟨h3, h4, h5⟩
        by_cases e : i = n
        · subst e; exact absurd h4 h2
        · exact ⟨by omega, h4, fun j h6 h7 => h5 j h6 (by omega)⟩
theorem valid_hist {B : Bk} (hv : allTo (chk B) 7 = true) : 0 ≤ B.floor ∧ B.floor ≤ B.now ∧ B.now ≤ 1000000 ∧ B.hn ≤ 200 ∧ (B.hn : Int) = B.now - B.floor ∧ ∀ i, i < B.hn → (B.hs i).ver = B.floor + 1 + i ∧ (B.hs i).ob.ver = (B.hs i).ver := by
  have h0 := numB_yes (allTo_iff.1 hv 0 (by omega))
  have h3 : histB B.now B.floor B.hn B.hs = true := allTo_iff.1 hv 3 (by omega)
  unfold histB at h3
  simp only [Bool.and_eq_true, decide_eq_true_eq] at h3
  refine ⟨h0.1, h0.2.1, h0.2.2, h3.1, h3.2.1, fun i hi => ?_⟩
  have := allTo_iff.1 h3.2.2 i hi
  simp only [Bool.and_eq_true, decide_eq_true_eq] at this
  refine ⟨this.1, ?_⟩
  have h4 := this.2
  unfold chgB at h4
  simp only [Bool.and_eq_true, beq_iff_eq] at h4
  exact h4.1
/-- of an object whose version is not above the floor no change tells -/
theorem untold_free {B : Bk} (hv : allTo (chk B) 7 = true) {i : Nat} (hi : i < B.on) (hf : (B.os i).ver ≤ B.floor) {j : Nat} (hj : j < B.hn) : ¬ sameK (B.os i) (B.hs j).ob := by
  obtain ⟨_, _, _, _, _, hh⟩ := valid_hist hv
  have h5 : agB B.floor B.on B.os B.hn B.hs = true := allTo_iff.1 hv 5 (by omega)
  unfold agB at h5
  simp only [Bool.and_eq_true] at h5
  have h6 := allTo_iff.1 h5.1 i hi
  unfold agO at h6
  rw [sameK_iff]
  cases e : lst B.hs (B.os i).kind (B.os i).name B.hn with
  | none =>
    intro h
    exact lst_none e j hj ⟨h.1.symm, h.2.symm⟩
  | some k =>
    rw [e] at h6
    unfold sameB at h6
    simp only [Bool.and_eq_true, decide_eq_true_eq] at h6
    have h7 := (lst_lt e).1
    have h8 := hh k h7
    have h9 := h6.2.2.2.1
    omega
/-- impl's list, ahead of the sort -/
def impRow (B : Bk) (k : Nat) : List Ob := (unt B (List.range B.on)).map B.os ++ ((List.range k).filter (fun j => !(B.hs j).gone && lst B.hs (B.hs j).ob.kind (B.hs j).ob.name k == some j)).map (fun j => (B.hs j).ob)
theorem impRow_mem {B : Bk} {k : Nat} {y : Ob} : y ∈ impRow B k ↔ (∃ i, i < B.on ∧ (B.os i).ver ≤ B.floor ∧ y = B.os i) ∨ (∃ j, j < k ∧ (B.hs j).gone = false ∧ y = (B.hs j).ob ∧ ∀ i, j < i → i < k → ¬ sameK y (B.hs i).ob) := by
  unfold impRow unt
  rw [List.mem_append, List.mem_map, List.mem_map]
  constructor
  · rintro (⟨i, hi, rfl⟩ | ⟨j, hj, rfl⟩)
    · have h1 := List.mem_filter.1 hi
      exact Or.inl ⟨i, List.mem_range.1 h1.1, by simpa using h1.2, rfl⟩
    · have h1 := List.mem_filter.1 hj
      have h2 := h1.2
      simp only [Bool.and_eq_true, Bool.not_eq_true', beq_iff_eq] at h2
      have h3 := lst_is.1 h2.2
      exact Or.inr ⟨j, List.mem_range.1 h1.1, h2.1, rfl, fun i h4 h5 h6 => by
        rw [sameK_iff] at h6
        exact h3.2.2 i h4 h5 ⟨h6.1.symm, h6.2.symm⟩⟩
  · rintro (⟨i, hi, h1, rfl⟩ | ⟨j, hj, h1, rfl, h2⟩)
    · exact Or.inl ⟨i, List.mem_filter.2 ⟨List.mem_range.2 hi, by simpa using h1⟩, rfl⟩
    · refine Or.inr ⟨j, List.mem_filter.2 ⟨List.mem_range.2 hj, ?_⟩, rfl⟩
      simp only [Bool.and_eq_true, Bool.not_eq_true', beq_iff_eq]
      refine ⟨h1, lst_is.2 ⟨hj, ⟨rfl, rfl⟩, fun i h4 h5 h6 => h2 i h4 h5 ?_⟩⟩
      rw [sameK_iff]
      exact ⟨h6.1.symm, h6.2.symm⟩
/-- both sides have the same objects -/
theorem impRow_his {B : Bk} {k : Nat} {ver : Int} {y : Ob} (hv : allTo (chk B) 7 = true) (hk : k ≤ B.hn) (hver : ver = B.floor + k) (ha : Asc B.on B.os) :
    y ∈ toL (hisL (objL B.os B.floor B.on) B.hs ver B.hn).1 (hisL (objL B.os B.floor B.on) B.hs ver B.hn).2 ↔ y ∈ impRow B k := by
  obtain ⟨_, _, _, _, _, hh⟩ := valid_hist hv
  have hlt : ∀ j, j < B.hn → ((B.hs j).ver ≤ ver ↔ j < k) := fun j hj => by
    have := (hh j hj).1
    omega
  rw [hisL_mem (objL_list B.on).1 B.hn, objL_mem B.on ha, impRow_mem]
  constructor
  · rintro (⟨h1, _⟩ | ⟨j, hj, h1, h2, h3, h4⟩)
    · exact Or.inl h1
    · exact Or.inr ⟨j, (hlt j hj).1 h1, h2, h3, fun i h5 h6 => h4 i h5 (by omega) ((hlt i (by omega)).2 h6)⟩
  · rintro (⟨i, hi, h1, rfl⟩ | ⟨j, hj, h2, h3, h4⟩)
    · exact Or.inl ⟨⟨i, hi, h1, rfl⟩, fun j hj _ => untold_free hv hi h1 hj⟩
    · exact Or.inr ⟨j, by omega, (hlt j (by omega)).2 hj, h2, h3, fun i h5 h6 h7 => h4 i h5 ((hlt i h6).1 h7)⟩
theorem asc_of_adj {n : Nat} {x : Nat → Ob} (h : objAsc n x = true) : Asc n x := by
  have h1 : ∀ j, j + 1 < n → befB (x j) (x (j + 1)) = true := fun j hj => by
    have h2 := allTo_iff.1 h (j + 1) hj
    simpa using h2
  intro i j hij
  induction j with
  | zero => omega
  | succ j ih =>
    intro hj
    by_cases e : i = j
    · subst e; exact h1 i hj
    · exact befB_trans (ih (by omega) (by omega)) (h1 j hj)
theorem valid_asc {B : Bk} (hv : allTo (chk B) 7 = true) : B.on ≤ 100 ∧ Asc B.on B.os := by
  have h1 : objs1B B.on B.os B.now = true := allTo_iff.1 hv 1 (by omega)
  unfold objs1B at h1
  simp only [Bool.and_eq_true, decide_eq_true_eq] at h1
  exact ⟨h1.1, asc_of_adj h1.2.1⟩
theorem sameK_symm {a b : Ob} (h : sameK a b) : sameK b a := ⟨h.2, h.1⟩
/-- impl's list has no two objects of the same kind and name -/
theorem impRow_diff {B : Bk} {k : Nat} (hv : allTo (chk B) 7 = true) (hk : k ≤ B.hn) : (impRow B k).Pairwise (fun a b => ¬ sameK a b) := by
  have ha := (valid_asc hv).2
  unfold impRow
  rw [List.pairwise_append]
  refine ⟨?_, ?_, fun a ha' b hb => ?_⟩
  · rw [List.pairwise_map]
    refine List.Pairwise.imp_of_mem (R := (· < ·)) (fun {i j} hi hj hij hs => ?_) (List.Pairwise.filter _ List.pairwise_lt_range)
    have h1 := List.mem_range.1 (List.mem_filter.1 hj).1
    have h2 := ha i j hij h1
    rw [hs.1] at h2
    cases h2
  · rw [List.pairwise_map]
    refine List.Pairwise.imp_of_mem (R := (· < ·)) (fun {i j} hi hj hij hs => ?_) (List.Pairwise.filter _ List.pairwise_lt_range)
    have h1 := (List.mem_filter.1 hi).2
    simp only [Bool.and_eq_true, Bool.not_eq_true', beq_iff_eq] at h1
    have h3 := lst_is.1 h1.2
    rw [sameK_iff] at hs
    exact h3.2.2 j hij (List.mem_range.1 (List.mem_filter.1 hj).1) ⟨hs.1.symm, hs.2.symm⟩
  · obtain ⟨i, hi, rfl⟩ := List.mem_map.1 ha'
    obtain ⟨j, hj, rfl⟩ := List.mem_map.1 hb
    have h1 := List.mem_filter.1 hi
    have h2 := List.mem_range.1 (List.mem_filter.1 hj).1
    exact untold_free hv (List.mem_range.1 h1.1) (by simpa using h1.2) (by omega)
/-- impl's list, sorted, is spec's -/
theorem impRow_sorted {B : Bk} {k : Nat} {ver : Int} {d : List Ob} (hv : allTo (chk B) 7 = true) (hk : k ≤ B.hn) (hver : ver = B.floor + k) (hp : d.Perm (impRow B k)) (hs : d.Pairwise (fun a b => befB b a = false)) :
    toL (hisL (objL B.os B.floor B.on) B.hs ver B.hn).1 (hisL (objL B.os B.floor B.on) B.hs ver B.hn).2 = d := by
  have hd : d.Pairwise (fun a b => ¬ sameK a b) := (hp.pairwise_iff (fun h h2 => h (sameK_symm h2))).2 (impRow_diff hv hk)
  have ha : d.Pairwise (fun a b => befB a b = true) := by
    refine (hs.and hd).imp ?_
    rintro a b ⟨h1, h2⟩
    cases h : befB a b with
    | true => rfl
    | false => exact absurd ⟨h, h1⟩ h2
  refine asc_eq (lt := fun a b => befB a b = true) (fun a h => by rw [befB_irr] at h; cases h) (fun _ _ _ => befB_trans) (hisL_list (objL_list B.on).1 B.hn).1 ha (fun y => ?_)
  rw [impRow_his hv hk hver (valid_asc hv).2, hp.mem_iff]
end Go.Proofs.YtkecnaaacbckoaaGreat
