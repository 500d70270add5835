import Derived.Test.YtkecnaaacbckoaaGreatVb
import Derived.Test.YtkecnaaacbckoaaGreatZj
import Derived.Test.YtkecnaaacbckoaaGreatGw
namespace Go.Proofs.YtkecnaaacbckoaaGreat
open Go.RowKit Go.Shelf
attribute [local go_sem] Oper.semAt_some
set_option maxRecDepth 100000 in
set_option maxHeartbeats 1000000 in
theorem walk_in (F : Fence) (m : Nat) (h22 : F.fn 109) (hro : F.round = none) (ad : Option Addr) (n cap : Nat) (ki pr : ByteArray) (w : World) :
    CallsIn F m Tryz.prog 109 #[.slice ad n cap, .string ki, .string pr] w fun e w' => e = .returned (.func (.func 143) #[] #[.pointer (some ⟨w.heap.size, 0, none⟩), .pointer (some ⟨w.heap.size + 1, 0, none⟩), .pointer (some ⟨w.heap.size + 1 + 1, 0, none⟩)]) ∧ w' = ((w.alloc (.cells #[.slice ad n cap] 28)).alloc (.cells #[.string ki] 9)).alloc (.cells #[.string pr] 9) := by
  refine callsIn_of_wp Tryz.func109 rfl h22 ?_ hro
  simp only [Tryz.ntmps109, List.size_toArray, List.length_cons, List.length_nil, Nat.reduceAdd, Nat.reduceSub, Array.replicate_succ, Array.replicate_zero, List.push_toArray, List.append_toArray, List.nil_append, List.cons_append]
  gi_wp2
  go_ret
  exact ⟨rfl, rfl⟩
def RInv (mk : Value → Value → Value → Value → Value → Array Value) (N0 Bl : Nat) (Pk : Nat → Prop) (W : World) (x : Nat → Ob) (L : List Nat) (k : Nat) (v : Value) (ah : Option Addr) (ch : Nat) (l : Array Bool) (a : Act) (w' : World) : Prop :=
  ∃ (t19 t20 t21 t22 t23 : Value) (w1 w2 : World) (ad' : Option Addr) (cap' b' : Nat) (v' : Value) (A2 : Nat → Option Addr) (C2 h2 : Nat → Nat), a = ⟨mk t19 t20 t21 t22 t23, []⟩ ∧ l.size = 6 ∧
    (l.getD 2 false = true → l.getD 1 false = true) ∧ (l.getD 3 false = true → l.getD 2 false = true) ∧ (l.getD 4 false = true → l.getD 3 false = true) ∧ (l.getD 4 false = true → l.getD 0 false = true) ∧ (l.getD 5 false = true → l.getD 4 false = true) ∧
    (l.getD 0 false = true → t19 = v) ∧ (l.getD 1 false = true → t20 = obV (x k) ah ch) ∧ (l.getD 2 false = false → w' = W.drew) ∧
    (l.getD 2 false = true → t21 = obV (x k) ad' cap' ∧ Below W.heap.size W w1 ∧ W.heap.size ≤ b' ∧ ((x k).hn ≠ 0 → b' < w1.heap.size) ∧ StrsOwn w1 b' (b' + 1) ad' (x k).hn (x k).hs) ∧
    (l.getD 2 false = true → l.getD 3 false = false → w' = w1) ∧
    (l.getD 3 false = true → t22 = .slice (some ⟨w1.heap.size, 0, none⟩) 1 1) ∧
    (l.getD 3 false = true → l.getD 4 false = false → w' = w1.alloc (.cells #[.string (x k).kind, .string (x k).name, .int .i64 (x k).ver, .int .i64 (x k).born, .string (x k).text, .bool (x k).ending, .slice ad' (x k).hn cap'] 73)) ∧
    (l.getD 4 false = true → t23 = v' ∧ BdOb w2 N0 v' (L ++ [k]).length (pick x (L ++ [k])) A2 C2 h2 ∧ Boxed w2 Bl 28 v ∧ KeepsOthers W w2 ∧ FrP Pk W w2) ∧
    (l.getD 4 false = true → l.getD 5 false = false → w' = w2) ∧
    (l.getD 5 false = true → w' = w2.setCell ⟨Bl, 0, none⟩ v')
/-- those that no change tells of -/
def unt (B : Bk) (l : List Nat) : List Nat := l.filter (fun i => decide ((B.os i).ver ≤ B.floor))
theorem unt_yes {B : Bk} {l : List Nat} {k : Nat} (h : (B.os k).ver ≤ B.floor) : unt B (l ++ [k]) = unt B l ++ [k] := by simp [unt, h]
theorem unt_no {B : Bk} {l : List Nat} {k : Nat} (h : ¬ (B.os k).ver ≤ B.floor) : unt B (l ++ [k]) = unt B l := by
  unfold unt
  rw [List.filter_append]
  simp; omega
theorem unt_len (B : Bk) (l : List Nat) : (unt B l).length ≤ l.length := List.length_filter_le _ _
set_option maxRecDepth 100000 in
set_option maxHeartbeats 4000000 in
theorem untold_in (F : Fence) (m : Nat) (hcv : ∀ (k f : Nat) (args : Array Value) (w : World) (R : Ending → World → Prop), Calls Tryz.prog f args w R → CallsIn F k Tryz.prog f args w R) (h30 : F.fn 62) (h64 : F.fn 109) (h23 : F.fn 64) (h51 : F.fn 143) (h52 : F.fn 74) (hro : F.round = none) (hm : 4 ≤ m)
    (B : Bk) (a1 a2 a3 : Option Addr) (c1 c2 c3 : Nat) (w : World) (lo hi : Nat) (hhi : hi ≤ w.heap.size) (hfit : BkFit B) (hon : (B.on : Int) ≤ 1048575) (hin : BkIn w lo hi B a1 a2 a3) :
    CallsIn F m Tryz.prog 62 #[.agg #[.int .i64 B.now, .int .i64 B.floor, .slice a1 B.on c1, .slice a2 B.hn c2, .slice a3 B.tn c3]] w fun e w' => ∃ v A C hb, e = .returned v ∧ BdOb w' (w.heap.size + 5) v (unt B (flt (fun i => lkB (B.os i) ⟨#[]⟩ ⟨#[]⟩) B.on)).length (pick B.os (unt B (flt (fun i => lkB (B.os i) ⟨#[]⟩ ⟨#[]⟩) B.on))) A C hb ∧ Below w.heap.size w w' := by
  have h1 : 1 ≤ m := by omega
  have hpr : ((ByteArray.mk #[]).size : Int) ≤ 140737488355328 := by decide
  obtain ⟨i0, hi0, hz0, hz1, hz2⟩ := info_parts Tryz.info73
  refine callsIn_of_wp_marks Tryz.func62 rfl h30 ?_ hro
  simp only [Tryz.ntmps62, List.size_toArray, List.length_cons, List.length_nil, Nat.reduceAdd, Nat.reduceSub, Array.replicate_succ, Array.replicate_zero, List.push_toArray, List.append_toArray, List.nil_append, List.cons_append]
  have H2 := (holds_new w (bkCells B a1 a2 a3 c1 c2 c3) 32).below (below_alloc (w.alloc (.cells (bkCells B a1 a2 a3 c1 c2 c3) 32)) (.cells #[.slice none 0 0] 28)) (by simp)
  obtain ⟨p0, p1, p2, p3, p4⟩ := holds_bk H2
  gi_wp2_with (gi_at_call 109; go_must (refine (walk_in F (m - 1) h64 hro _ _ _ _ _ _).mono ?_; rintro e w2 ⟨rfl, rfl⟩))
  obtain ⟨A, C, hsrc0⟩ := hin.o.choose
  obtain ⟨W0, hW0⟩ : ∃ W0, ((((w.alloc (.cells #[.int .i64 B.now, .int .i64 B.floor, .slice a1 B.on c1, .slice a2 B.hn c2, .slice a3 B.tn c3] 32)).alloc (.cells #[.slice none 0 0] 28)).alloc (.cells #[.slice a1 B.on c1] 28)).alloc (.cells #[.string { data := #[] }] 9)).alloc (.cells #[.string { data := #[] }] 9) = W0 := ⟨_, rfl⟩
  have hsz0 : W0.heap.size = w.heap.size + 5 := by rw [← hW0]; simp
  have hB0 : Below w.heap.size w W0 := by rw [← hW0]; exact ((((below_alloc _ _).alloc (by simp) _).alloc (by simp; omega) _).alloc (by simp; omega) _).alloc (by simp; omega) _
  have bL : Boxed W0 (w.heap.size + 1) 28 (.slice none 0 0) := by
    have h := (((Boxed.new (w.alloc (.cells #[.int .i64 B.now, .int .i64 B.floor, .slice a1 B.on c1, .slice a2 B.hn c2, .slice a3 B.tn c3] 32)) 28 (.slice none 0 0)).alloc (.cells #[.slice a1 B.on c1] 28)).alloc (.cells #[.string { data := #[] }] 9)).alloc (.cells #[.string { data := #[] }] 9)
    rw [hW0] at h; simpa using h
  have bO : Boxed W0 (w.heap.size + 2) 28 (.slice a1 B.on c1) := by
    have h := ((Boxed.new ((w.alloc (.cells #[.int .i64 B.now, .int .i64 B.floor, .slice a1 B.on c1, .slice a2 B.hn c2, .slice a3 B.tn c3] 32)).alloc (.cells #[.slice none 0 0] 28)) 28 (.slice a1 B.on c1)).alloc (.cells #[.string { data := #[] }] 9)).alloc (.cells #[.string { data := #[] }] 9)
    rw [hW0] at h; simpa using h
  have bK : Boxed W0 (w.heap.size + 3) 9 (.string { data := #[] }) := by
    have h := (Boxed.new (((w.alloc (.cells #[.int .i64 B.now, .int .i64 B.floor, .slice a1 B.on c1, .slice a2 B.hn c2, .slice a3 B.tn c3] 32)).alloc (.cells #[.slice none 0 0] 28)).alloc (.cells #[.slice a1 B.on c1] 28)) 9 (.string { data := #[] })).alloc (.cells #[.string { data := #[] }] 9)
    rw [hW0] at h; simpa using h
  have bP : Boxed W0 (w.heap.size + 4) 9 (.string { data := #[] }) := by
    have h := Boxed.new ((((w.alloc (.cells #[.int .i64 B.now, .int .i64 B.floor, .slice a1 B.on c1, .slice a2 B.hn c2, .slice a3 B.tn c3] 32)).alloc (.cells #[.slice none 0 0] 28)).alloc (.cells #[.slice a1 B.on c1] 28)).alloc (.cells #[.string { data := #[] }] 9)) 9 (.string { data := #[] })
    rw [hW0] at h; simpa using h
  have hsrc : ObSrc W0 hi a1 B.on B.os A C := hsrc0.frP (FrP.of_below (P := fun _ => False) hB0) (fun _ _ h => h) hhi
  have H0 : Holds W0 w.heap.size (bkCells B a1 a2 a3 c1 c2 c3) := by
    rw [← hW0]
    exact (holds_new w (bkCells B a1 a2 a3 c1 c2 c3) 32).below (n := w.heap.size + 1) ((((Below.refl _ _).alloc (by simp) _).alloc (by simp) _ |>.alloc (by simp) _).alloc (by simp) _) (by omega)
  rw [hW0]
  clear hW0 p0 p1 p2 p3 p4 H2
  obtain ⟨Pk, hPk⟩ : ∃ Pk : Nat → Prop, Pk = fun q => q = w.heap.size + 1 ∨ w.heap.size + 5 ≤ q := ⟨_, rfl⟩
  have hPkB : ∀ {X Y : World}, Below (w.heap.size + 5) X Y → FrP Pk X Y := fun {X Y} h => ⟨h.os, h.tape, h.output, h.size, fun q _ hq => h.block q (by
    rw [hPk] at hq
    rcases Nat.lt_or_ge q (w.heap.size + 5) with h1 | h1
    · exact h1
    · exact absurd (Or.inr h1) hq)⟩
  have hPkN : ∀ q, ¬ Pk q ↔ ¬ (q = w.heap.size + 1 ∨ w.heap.size + 5 ≤ q) := fun q => by rw [hPk]
  have hfits : ∀ i, i < B.on → (((B.os i).name.size : Int) ≤ 140737488355328 ∧ ((B.os i).hn : Int) ≤ 8796093022208) := fun i hi' => ⟨(hfit.os i hi').n, (hfit.os i hi').h⟩
  refine wpIn_rangeFunc_ownH (α := Ix B.on) hro h1 (gf := 143) (lb := #[.pointer (some ⟨w.heap.size + 1 + 1, 0, none⟩), .pointer (some ⟨w.heap.size + 1 + 1 + 1, 0, none⟩), .pointer (some ⟨w.heap.size + 1 + 1 + 1 + 1, 0, none⟩)]) (encs := fun k => #[obV (B.os k.1) (A k.1) (C k.1)]) (Kp := FrP Pk) (S := fun ys => ixs ys = flt (fun i => lkB (B.os i) ⟨#[]⟩ ⟨#[]⟩) B.on) (Sp := fun _ => True) (N := B.on) (w0 := W0) rfl h51 (enters_of Tryz.func143 (by kernel_rfl) rfl)
    ?seq (fun h1 h2 => h1.trans h2) (fun X l o o' hl ho1 ho2 ho3 => hPkB (belowK_b (w := W0) (n₀ := w.heap.size + 5) (by omega) X l o o' hl ho1 ho2 ho3)) (Below.refl _ _) (fun _ => rfl)
    (fun pre W => (∃ v A' C' hb, Boxed W (w.heap.size + 1) 28 v ∧ BdOb W (w.heap.size + 5) v (unt B (ixs pre)).length (pick B.os (unt B (ixs pre))) A' C' hb) ∧ FrP Pk W0 W)
    (fun _ _ _ => False) ?own (fun _ _ _ _ _ hs _ _ => hs) ?start
    (fun k a' W => ∃ Bx, w.heap.size + 5 ≤ Bx ∧ W.heap[Bx]? = some (.cells (obCells (B.os k.1) (A k.1) (C k.1)) 73 (0, 0)) ∧ a' = { tmps := #[.agg #[.int .i64 B.now, .int .i64 B.floor, .slice a1 B.on c1, .slice a2 B.hn c2, .slice a3 B.tn c3], .pointer (some ⟨w.heap.size, 0, none⟩), .slice none 0 0, .pointer (some ⟨w.heap.size + 1, 0, none⟩), .pointer (some ⟨Bx, 0, none⟩), .pointer (some ⟨w.heap.size, 2, none⟩), .slice a1 B.on c1, .func (.func 143) #[] #[.pointer (some ⟨w.heap.size + 1 + 1, 0, none⟩), .pointer (some ⟨w.heap.size + 1 + 1 + 1, 0, none⟩), .pointer (some ⟨w.heap.size + 1 + 1 + 1 + 1, 0, none⟩)], obV (B.os k.1) (A k.1) (C k.1), undef, undef, undef, undef, undef, undef, undef, undef, undef, undef, undef], defers := [] })
    (fun k a' _ X Y row hs hg hr => by
      obtain ⟨Bx, e1, e2, e3⟩ := hs
      refine ⟨Bx, e1, (hg.block Bx (Array.getElem?_eq_some_iff.1 e2).1 (fun e => ?_)).trans e2, e3⟩
      obtain ⟨_, o, ho, hc⟩ := hr Bx e.symm
      rw [e2] at ho
      cases ho
      cases hc)
    ?assign ?body ?done ?stop
  case seq =>
    exact fun l J Jx W hW hJ _ hY h0 => walk1_in F (m - 1) h51 h52 hro (by omega) l _ _ _ hi Pk B.on B.os a1 c1 A C _ _ (by omega) J Jx (fun i w' hi' => hcv _ _ _ _ _ (isOf_any (B.os i) (A i) (C i) _ _ w' (hfits i hi').1 hpr)) W hJ hY
      ((hW.cell (p := ⟨w.heap.size + 2, 0, none⟩) (by show w.heap.size + 2 < _; omega)).trans bO.cell) ((hW.cell (p := ⟨w.heap.size + 3, 0, none⟩) (by show w.heap.size + 3 < _; omega)).trans bK.cell) ((hW.cell (p := ⟨w.heap.size + 4, 0, none⟩) (by show w.heap.size + 4 < _; omega)).trans bP.cell)
      ⟨by have := hW.size; omega, (hPkN _).2 (by omega)⟩ ⟨by have := hW.size; omega, (hPkN _).2 (by omega)⟩ (by have := hW.size; omega) (fun q hq => (hPkN q).2 (by omega)) (hsrc.frP (FrP.of_below (P := fun _ => False) hW) (fun _ _ h => h) (by omega)) h0
  case own =>
    intro pre X Y row hs hg hr
    obtain ⟨⟨v, A', C', hb, e1, e2⟩, e3⟩ := hs
    exact ⟨⟨v, A', C', hb, e1.kept hg (fun e => by have := (hr _ e.symm).1; omega), e2.turn hg (fun r e => (hr r e).2)⟩, e3.trans ((FrP.of_grown hg).mono (fun q hq => by
      rw [hPk]
      have := (hr _ hq).1
      exact Or.inr (by omega)))⟩
  case start =>
    exact ⟨⟨_, fun _ => none, fun _ => 0, fun _ => 0, bL, ⟨⟨fun _ => .int .i64 0, World.ownsRow_nil _ _ _ _, fun i hi' => absurd hi' (Nat.not_lt_zero _)⟩, fun i hi' => absurd hi' (Nat.not_lt_zero _), fun i hi' => absurd hi' (Nat.not_lt_zero _), fun i hi' => absurd hi' (Nat.not_lt_zero _), fun i j hi' => absurd hi' (Nat.not_lt_zero _)⟩⟩, FrP.refl _ _⟩
  case assign =>
    rintro l pre k W K ⟨⟨v, A', C', hb, e1, e2⟩, e3⟩ hK
    simp only [obV]
    gi_wp2
    have z := e3.size
    exact hK _ _ ((KeepsOthers.alloc _ _).from _) (FrP.of_below (below_alloc _ _)) ⟨⟨v, A', C', hb, e1.alloc _, e2.grow (below_alloc _ _)⟩, e3.trans (FrP.of_below (below_alloc _ _))⟩ ⟨W.heap.size, by omega, World.alloc_heap_new W _, rfl⟩
  case body =>
    rintro l0 pre k a' W hl ⟨r, hr⟩ ⟨⟨v, A', C', hb, bV, bd⟩, hf⟩ ⟨Bx, hBx, bX, rfl⟩ hlt
    have zW := hf.size
    have hX : Holds W Bx (obCells (B.os k.1) (A k.1) (C k.1)) := fun i => by simp [World.cell?, bX]
    have H3 : Holds W w.heap.size (bkCells B a1 a2 a3 c1 c2 c3) := fun i => (hf.cell (p := ⟨w.heap.size, i, none⟩) (by show w.heap.size < _; omega) ((hPkN _).2 (by show ¬ (w.heap.size = _ ∨ _ ≤ w.heap.size); omega))).trans (H0 i)
    obtain ⟨p0, p1, p2, p3, p4⟩ := holds_bk H3
    have hfk := (hfits k.1 k.2).2
    have hsW : StrsIn W 0 hi (A k.1) (B.os k.1).hn (B.os k.1).hs := (hsrc.frP hf (fun q hq => (hPkN q).2 (by omega)) (by omega)).holds k.1 k.2
    have hhW : hi ≤ W.heap.size := by omega
    obtain ⟨x0, x1, x2, x3, x4, x5, x6⟩ := holds_ob hX
    have h1' : 1 ≤ m - 1 - 1 := by omega
    have hLp : (unt B (ixs pre)).length < 1048576 := by have := unt_len B (ixs pre); rw [ixs_len] at this; omega
    have hyes := unt_yes (B := B) (l := ixs pre) (k := k.1)
    have hno := unt_no (B := B) (l := ixs pre) (k := k.1)
    have EX : ixs (pre ++ [k]) = ixs pre ++ [k.1] := ixs_snoc _ _
    rw [← EX] at hyes hno
    generalize unt B (ixs pre) = Lp at bd hLp hyes hno
    generalize hLq : unt B (ixs (pre ++ [k])) = Lq at hyes hno
    by_cases hle : (B.os k.1).ver ≤ B.floor
    · have HE := hid (hyes hle)
      clear hyes hno
      unfold obV
      gi_wp2
      refine wpIn_region_inv (by kernel_rfl) (RInv (fun t19 t20 t21 t22 t23 => #[.agg #[.int .i64 B.now, .int .i64 B.floor, .slice a1 B.on c1, .slice a2 B.hn c2, .slice a3 B.tn c3], .pointer (some ⟨w.heap.size, 0, none⟩), .slice none 0 0, .pointer (some ⟨w.heap.size + 1, 0, none⟩), .pointer (some ⟨Bx, 0, none⟩), .pointer (some ⟨w.heap.size, 2, none⟩), .slice a1 B.on c1, .func (.func 143) #[] #[.pointer (some ⟨w.heap.size + 1 + 1, 0, none⟩), .pointer (some ⟨w.heap.size + 1 + 1 + 1, 0, none⟩), .pointer (some ⟨w.heap.size + 1 + 1 + 1 + 1, 0, none⟩)], obV (B.os k.1) (A k.1) (C k.1), .pointer (some ⟨Bx, 2, none⟩), .int .i64 (B.os k.1).ver, .pointer (some ⟨w.heap.size, 1, none⟩), .int .i64 B.floor, .bool true, t19, t20, t21, t22, t23, undef]) (w.heap.size + 5) (w.heap.size + 1) Pk W B.os Lp k.1 v (A k.1) (C k.1)) ?_ ?_ ?_ ?_
      · refine ⟨_, _, _, _, _, W, W, none, 0, 0, v, fun _ => none, fun _ => 0, fun _ => 0, rfl, by simp, ?_⟩
        simp
      · intro l a w' hI
        obtain ⟨t19, t20, t21, t22, t23, w3, w4, ad2, cap2, b2, v2, A2, C2, h2, rfl, hls, _⟩ := hI
        exact hls
      · intro l a w' hI hr'
        obtain ⟨t19, t20, t21, t22, t23, w3, w4, ad2, cap2, b2, v2, A2, C2, h2, rfl, hls, n21, n32, n43, n40, n54, f0, f1, g0, f2, g1, f3, g2, f4, g4, g5⟩ := hI
        have AL := all_listed (by kernel_rfl) (by rw [hls]; rfl) hr'
        obtain rfl := g5 (AL 5 (by decide))
        obtain ⟨rfl, j1, j2, j3, j4⟩ := f4 (AL 4 (by decide))
        clear n21 n32 n43 n40 n54 f0 f1 g0 f2 g1 f3 g2 f4 g4 g5 AL hr' hls
        gi_wp2
        have hPl : Pk (w.heap.size + 1) := by rw [hPk]; exact Or.inl rfl
        refine ⟨(j3.trans (KeepsOthers.setCell _ _ _)).from _, j4.trans ((FrP.refl _ _).setCell hPl _), ⟨⟨t23, A2, C2, h2, j2.set _, ?_⟩, hf.trans (j4.trans ((FrP.refl _ _).setCell hPl _))⟩⟩
        rw [hLq, HE.out]
        exact j1.fr (P := fun q => q = w.heap.size + 1) (FrP.setCell (P := fun q => q = w.heap.size + 1) (FrP.refl _ _) (p := ⟨w.heap.size + 1, 0, none⟩) (by rfl) _) (fun q hq _ e => by omega)
      · intro l a w' i hI hr'
        obtain ⟨t19, t20, t21, t22, t23, w3, w4, ad2, cap2, b2, v2, A2, C2, h2, rfl, hls, n21, n32, n43, n40, n54, f0, f1, g0, f2, g1, f3, g2, f4, g4, g5⟩ := hI
        obtain ⟨hu, o', ho, hdep⟩ := mem_ready.1 hr'
        have hi16 : i < 6 := by
          rcases Nat.lt_or_ge i 6 with h | h
          · exact h
          · rw [Array.getElem?_eq_none (by simpa using h)] at ho
            cases ho
        have kp : ∀ j, ¬ j = i → (l.setIfInBounds i true).getD j false = l.getD j false := fun j hj => by rw [getD_set (by omega), if_neg hj]
        have ki' : (l.setIfInBounds i true).getD i false = true := by rw [getD_set (by omega), if_pos rfl]
        have hsz' : (l.setIfInBounds i true).size = 6 := by simp [hls]
        have hui : l.getD i false = false := by simpa [Array.getD, hls, hi16] using hu
        clear hr' hu
        rcases (show i = 0 ∨ i = 1 ∨ i = 2 ∨ i = 3 ∨ i = 4 ∨ i = 5 by omega) with rfl | rfl | rfl | rfl | rfl | rfl
        · simp only [List.getElem?_toArray, List.getElem?_cons_zero, Option.some.injEq] at ho
          subst ho
          clear hdep
          have l4 := listed_no n40 hui
          have hcl : w'.cell? ⟨(w.heap.size + 1), 0, none⟩ = some v := by
            cases e3 : l.getD 3 false with
            | true =>
              rw [g2 e3 l4]
              exact ((Boxed.of_below bV (f2 (n32 e3)).2.1).alloc _).cell
            | false =>
              cases e2 : l.getD 2 false with
              | true => rw [g1 e2 e3]; exact (Boxed.of_below bV (f2 e2).2.1).cell
              | false => rw [g0 e2]; exact bV.cell
          refine wpOpIn_of rfl rfl ?_
          generalize hK : RInv (fun t19 t20 t21 t22 t23 => #[.agg #[.int .i64 B.now, .int .i64 B.floor, .slice a1 B.on c1, .slice a2 B.hn c2, .slice a3 B.tn c3], .pointer (some ⟨w.heap.size, 0, none⟩), .slice none 0 0, .pointer (some ⟨w.heap.size + 1, 0, none⟩), .pointer (some ⟨Bx, 0, none⟩), .pointer (some ⟨w.heap.size, 2, none⟩), .slice a1 B.on c1, .func (.func 143) #[] #[.pointer (some ⟨w.heap.size + 1 + 1, 0, none⟩), .pointer (some ⟨w.heap.size + 1 + 1 + 1, 0, none⟩), .pointer (some ⟨w.heap.size + 1 + 1 + 1 + 1, 0, none⟩)], obV (B.os k.1) (A k.1) (C k.1), .pointer (some ⟨Bx, 2, none⟩), .int .i64 (B.os k.1).ver, .pointer (some ⟨w.heap.size, 1, none⟩), .int .i64 B.floor, .bool true, t19, t20, t21, t22, t23, undef]) (w.heap.size + 5) (w.heap.size + 1) Pk W B.os Lp k.1 v (A k.1) (C k.1) (l.setIfInBounds 0 true) = K
          go_simp
          rw [← hK]
          exact ⟨_, t20, t21, t22, t23, w3, w4, ad2, cap2, b2, v2, A2, C2, h2, rfl, hsz', (by rw [kp 2 (by decide), kp 1 (by decide)]; exact n21), (by rw [kp 3 (by decide), kp 2 (by decide)]; exact n32), (by rw [kp 4 (by decide), kp 3 (by decide)]; exact n43), (fun _ => ki'), (by rw [kp 5 (by decide), kp 4 (by decide)]; exact n54), (fun _ => rfl), (by rw [kp 1 (by decide)]; exact f1), (by rw [kp 2 (by decide)]; exact g0), (by rw [kp 2 (by decide)]; exact f2), (by rw [kp 2 (by decide), kp 3 (by decide)]; exact g1), (by rw [kp 3 (by decide)]; exact f3), (by rw [kp 3 (by decide), kp 4 (by decide)]; exact g2), (by rw [kp 4 (by decide)]; exact f4), (by rw [kp 4 (by decide), kp 5 (by decide)]; exact g4), (by rw [kp 5 (by decide)]; exact g5)⟩
        · simp only [List.getElem?_toArray, List.getElem?_cons_succ, List.getElem?_cons_zero, Option.some.injEq] at ho
          subst ho
          clear hdep
          have l2 := listed_no n21 hui
          obtain rfl := g0 l2
          refine wpOpIn_of rfl rfl ?_
          generalize hK : RInv (fun t19 t20 t21 t22 t23 => #[.agg #[.int .i64 B.now, .int .i64 B.floor, .slice a1 B.on c1, .slice a2 B.hn c2, .slice a3 B.tn c3], .pointer (some ⟨w.heap.size, 0, none⟩), .slice none 0 0, .pointer (some ⟨w.heap.size + 1, 0, none⟩), .pointer (some ⟨Bx, 0, none⟩), .pointer (some ⟨w.heap.size, 2, none⟩), .slice a1 B.on c1, .func (.func 143) #[] #[.pointer (some ⟨w.heap.size + 1 + 1, 0, none⟩), .pointer (some ⟨w.heap.size + 1 + 1 + 1, 0, none⟩), .pointer (some ⟨w.heap.size + 1 + 1 + 1 + 1, 0, none⟩)], obV (B.os k.1) (A k.1) (C k.1), .pointer (some ⟨Bx, 2, none⟩), .int .i64 (B.os k.1).ver, .pointer (some ⟨w.heap.size, 1, none⟩), .int .i64 B.floor, .bool true, t19, t20, t21, t22, t23, undef]) (w.heap.size + 5) (w.heap.size + 1) Pk W B.os Lp k.1 v (A k.1) (C k.1) (l.setIfInBounds 1 true) = K
          go_simp
          rw [← hK]
          exact ⟨t19, _, t21, t22, t23, w3, w4, ad2, cap2, b2, v2, A2, C2, h2, rfl, hsz', (fun _ => ki'), (by rw [kp 3 (by decide), kp 2 (by decide)]; exact n32), (by rw [kp 4 (by decide), kp 3 (by decide)]; exact n43), (by rw [kp 4 (by decide), kp 0 (by decide)]; exact n40), (by rw [kp 5 (by decide), kp 4 (by decide)]; exact n54), (by rw [kp 0 (by decide)]; exact f0), (fun _ => rfl), (by rw [kp 2 (by decide)]; exact g0), (by rw [kp 2 (by decide)]; exact f2), (by rw [kp 2 (by decide), kp 3 (by decide)]; exact g1), (by rw [kp 3 (by decide)]; exact f3), (by rw [kp 3 (by decide), kp 4 (by decide)]; exact g2), (by rw [kp 4 (by decide)]; exact f4), (by rw [kp 4 (by decide), kp 5 (by decide)]; exact g4), (by rw [kp 5 (by decide)]; exact g5)⟩
        · simp only [List.getElem?_toArray, List.getElem?_cons_succ, List.getElem?_cons_zero, Option.some.injEq] at ho
          subst ho
          have q1 : l.getD 1 false = true := hdep ⟨1, .data⟩ (by simp) rfl
          clear hdep
          obtain rfl := f1 q1
          obtain rfl := g0 hui
          have l3 := listed_no n32 hui
          have l4 := listed_no n43 l3
          have l5 := listed_no n54 l4
          refine wpOpIn_of rfl rfl ?_
          generalize hK : RInv (fun t19 t20 t21 t22 t23 => #[.agg #[.int .i64 B.now, .int .i64 B.floor, .slice a1 B.on c1, .slice a2 B.hn c2, .slice a3 B.tn c3], .pointer (some ⟨w.heap.size, 0, none⟩), .slice none 0 0, .pointer (some ⟨w.heap.size + 1, 0, none⟩), .pointer (some ⟨Bx, 0, none⟩), .pointer (some ⟨w.heap.size, 2, none⟩), .slice a1 B.on c1, .func (.func 143) #[] #[.pointer (some ⟨w.heap.size + 1 + 1, 0, none⟩), .pointer (some ⟨w.heap.size + 1 + 1 + 1, 0, none⟩), .pointer (some ⟨w.heap.size + 1 + 1 + 1 + 1, 0, none⟩)], obV (B.os k.1) (A k.1) (C k.1), .pointer (some ⟨Bx, 2, none⟩), .int .i64 (B.os k.1).ver, .pointer (some ⟨w.heap.size, 1, none⟩), .int .i64 B.floor, .bool true, t19, t20, t21, t22, t23, undef]) (w.heap.size + 5) (w.heap.size + 1) Pk W B.os Lp k.1 v (A k.1) (C k.1) (l.setIfInBounds 2 true) = K
          unfold obV
          go_simp
          refine (CallsIn.inRound l0 (hcv _ _ _ _ _ (copyOb_own (B.os k.1) (A k.1) (C k.1) _ 0 hi (by exact hhW) (by exact hfk) (by exact hsW)))).mono ?_
          rintro e w5 ⟨ad5, cap5, b5, rfl, k1, k2, k3, k4⟩
          rw [← hK]
          exact ⟨t19, _, _, t22, t23, w5, w5, ad5, cap5, b5, v2, A2, C2, h2, rfl, hsz', (fun _ => by rw [kp 1 (by decide)]; exact q1), (fun _ => ki'), (by rw [kp 4 (by decide), kp 3 (by decide)]; exact n43), (by rw [kp 4 (by decide), kp 0 (by decide)]; exact n40), (by rw [kp 5 (by decide), kp 4 (by decide)]; exact n54), (by rw [kp 0 (by decide)]; exact f0), (by rw [kp 1 (by decide)]; exact f1), (fun h => absurd (ki'.symm.trans h) (by decide)), (fun _ => ⟨rfl, ((Below.refl _ _).drew).trans k4, k1, k2, k3⟩), (fun _ _ => rfl), (fun h => by rw [kp 3 (by decide), l3] at h; cases h), (fun h => by rw [kp 3 (by decide), l3] at h; cases h), (fun h => by rw [kp 4 (by decide), l4] at h; cases h), (fun h => by rw [kp 4 (by decide), l4] at h; cases h), (fun h => by rw [kp 5 (by decide), l5] at h; cases h)⟩
        · simp only [List.getElem?_toArray, List.getElem?_cons_succ, List.getElem?_cons_zero, Option.some.injEq] at ho
          subst ho
          have q2 : l.getD 2 false = true := hdep ⟨2, .data⟩ (by simp) rfl
          clear hdep
          obtain ⟨rfl, j1, j2, j3, j4⟩ := f2 q2
          obtain rfl : w3 = w' := (g1 q2 hui).symm
          obtain rfl := f1 (n21 q2)
          have l5 := listed_no n54 (listed_no n43 hui)
          have l4 := listed_no n43 hui
          refine wpOpIn_of rfl rfl ?_
          generalize hK : RInv (fun t19 t20 t21 t22 t23 => #[.agg #[.int .i64 B.now, .int .i64 B.floor, .slice a1 B.on c1, .slice a2 B.hn c2, .slice a3 B.tn c3], .pointer (some ⟨w.heap.size, 0, none⟩), .slice none 0 0, .pointer (some ⟨w.heap.size + 1, 0, none⟩), .pointer (some ⟨Bx, 0, none⟩), .pointer (some ⟨w.heap.size, 2, none⟩), .slice a1 B.on c1, .func (.func 143) #[] #[.pointer (some ⟨w.heap.size + 1 + 1, 0, none⟩), .pointer (some ⟨w.heap.size + 1 + 1 + 1, 0, none⟩), .pointer (some ⟨w.heap.size + 1 + 1 + 1 + 1, 0, none⟩)], obV (B.os k.1) (A k.1) (C k.1), .pointer (some ⟨Bx, 2, none⟩), .int .i64 (B.os k.1).ver, .pointer (some ⟨w.heap.size, 1, none⟩), .int .i64 B.floor, .bool true, t19, t20, t21, t22, t23, undef]) (w.heap.size + 5) (w.heap.size + 1) Pk W B.os Lp k.1 v (A k.1) (C k.1) (l.setIfInBounds 3 true) = K
          unfold obV
          go_simp
          rw [← hK]
          exact ⟨t19, _, _, _, t23, w3, w4, ad2, cap2, b2, v2, A2, C2, h2, rfl, hsz', (by rw [kp 2 (by decide), kp 1 (by decide)]; exact n21), (fun _ => by rw [kp 2 (by decide)]; exact q2), (fun _ => ki'), (by rw [kp 4 (by decide), kp 0 (by decide)]; exact n40), (by rw [kp 5 (by decide), kp 4 (by decide)]; exact n54), (by rw [kp 0 (by decide)]; exact f0), (by rw [kp 1 (by decide)]; exact f1), (fun h => by rw [kp 2 (by decide), q2] at h; cases h), (by rw [kp 2 (by decide)]; exact fun _ => ⟨rfl, j1, j2, j3, j4⟩), (fun _ h => absurd (ki'.symm.trans h) (by decide)), (fun _ => rfl), (fun _ _ => rfl), (by rw [kp 4 (by decide)]; exact f4), (fun h => by rw [kp 4 (by decide), l4] at h; cases h), (fun h => by rw [kp 5 (by decide), l5] at h; cases h)⟩
        · simp only [List.getElem?_toArray, List.getElem?_cons_succ, List.getElem?_cons_zero, Option.some.injEq] at ho
          subst ho
          have q0 : l.getD 0 false = true := hdep ⟨0, .data⟩ (by simp) rfl
          have q3 : l.getD 3 false = true := hdep ⟨3, .data⟩ (by simp) rfl
          clear hdep
          obtain rfl : v = t19 := (f0 q0).symm
          obtain rfl := f3 q3
          obtain rfl := g2 q3 hui
          obtain ⟨rfl, j1, j2, j3, j4⟩ := f2 (n32 q3)
          have l5 := listed_no n54 hui
          have z3 := j1.size
          have BD1 := (bd.grow j1).grow (below_alloc w3 (.cells #[.string (B.os k.1).kind, .string (B.os k.1).name, .int .i64 (B.os k.1).ver, .int .i64 (B.os k.1).born, .string (B.os k.1).text, .bool (B.os k.1).ending, .slice ad2 (B.os k.1).hn cap2] 73))
          obtain ⟨c, hown, hat⟩ := BD1.row
          have hln : Lp.length < 1048576 := by omega
          refine wpOpIn_of rfl rfl ?_
          generalize hK : RInv (fun t19 t20 t21 t22 t23 => #[.agg #[.int .i64 B.now, .int .i64 B.floor, .slice a1 B.on c1, .slice a2 B.hn c2, .slice a3 B.tn c3], .pointer (some ⟨w.heap.size, 0, none⟩), .slice none 0 0, .pointer (some ⟨w.heap.size + 1, 0, none⟩), .pointer (some ⟨Bx, 0, none⟩), .pointer (some ⟨w.heap.size, 2, none⟩), .slice a1 B.on c1, .func (.func 143) #[] #[.pointer (some ⟨w.heap.size + 1 + 1, 0, none⟩), .pointer (some ⟨w.heap.size + 1 + 1 + 1, 0, none⟩), .pointer (some ⟨w.heap.size + 1 + 1 + 1 + 1, 0, none⟩)], obV (B.os k.1) (A k.1) (C k.1), .pointer (some ⟨Bx, 2, none⟩), .int .i64 (B.os k.1).ver, .pointer (some ⟨w.heap.size, 1, none⟩), .int .i64 B.floor, .bool true, t19, t20, t21, t22, t23, undef]) (w.heap.size + 5) (w.heap.size + 1) Pk W B.os Lp k.1 v (A k.1) (C k.1) (l.setIfInBounds 4 true) = K
          refine operIn_append_own _ _ 28 rfl (w.heap.size + 5) 73 i0 _ 7 96 Tryz.underlying28 hi0 hz0 hz1 hz2 rfl (by decide) _ Lp.length (rowCells (Lp.length * 7) c) rfl hown ⟨w3.heap.size, 0, none⟩ 1 1 [.string (B.os k.1).kind, .string (B.os k.1).name, .int .i64 (B.os k.1).ver, .int .i64 (B.os k.1).born, .string (B.os k.1).text, .bool (B.os k.1).ending, .slice ad2 (B.os k.1).hn cap2] rfl rfl (alloc_news w3 _ 73) (by simp [Value.oneCell']) (by unfold maxLen; omega) (by omega) (by simp; omega) ?_
          intro v' w4' hown2 hgrow2 hat2
          have BD2 := BD1.push (cap' := cap2) hat hown2 hgrow2 hat2 (j4.frP (FrP.of_below (P := fun _ => False) (below_alloc w3 _)) (fun h0 => ⟨fun h => h, j3 h0⟩)) (fun h0 => ⟨by omega, by have := j3 h0; simp; omega⟩)
            (fun h0 e => by
              obtain ⟨c0, r0, _⟩ := bd.row
              have h1 := (r0.lt _ e).2
              omega)
            (fun i hi' h0 h1 e => by
              have h2 := (bd.hlt i hi' h0).2
              omega)
          have hrow : ∀ g, v.ownBlock = some g → w.heap.size + 5 ≤ g := fun g hg => by obtain ⟨c0, r0, _⟩ := bd.row; exact (r0.lt _ hg).1
          have bx2 : Boxed w4' (w.heap.size + 1) 28 v := (Boxed.of_below bV j1).alloc _ |>.kept hgrow2 (fun e => by have := hrow _ e.symm; omega)
          have kw2 : KeepsOthers W w4' := ((keepsO_of_below j1).trans (KeepsOthers.alloc _ _)).trans (KeepsOthers.of_grownBy hgrow2 (fun j o e hj => by
            rcases hown.2 with ⟨h1, _⟩ | ⟨g', cap, cur, h1, h2', h3, h4⟩
            · rw [h1] at e; cases e
            · rw [h1] at e
              cases e
              rw [h3] at hj
              cases hj
              rfl))
          have fr2 : FrP Pk W w4' := ((FrP.of_below j1).trans (FrP.of_below (below_alloc w3 _))).trans ((FrP.of_grown hgrow2).mono (fun q hq => by rw [hPk]; exact Or.inr (hrow q hq)))
          rw [← hK]
          exact ⟨_, t20, _, _, _, w3, w4', ad2, cap2, b2, v', _, _, _, rfl, hsz', (by rw [kp 2 (by decide), kp 1 (by decide)]; exact n21), (by rw [kp 3 (by decide), kp 2 (by decide)]; exact n32), (fun _ => by rw [kp 3 (by decide)]; exact q3), (fun _ => by rw [kp 0 (by decide)]; exact q0), (fun _ => ki'), (fun _ => rfl), (by rw [kp 1 (by decide)]; exact f1), (fun h => by rw [kp 2 (by decide), n32 q3] at h; cases h), (by rw [kp 2 (by decide)]; exact fun _ => ⟨rfl, j1, j2, j3, j4⟩), (fun _ h => by rw [kp 3 (by decide), q3] at h; cases h), (fun _ => rfl), (fun _ h => absurd (ki'.symm.trans h) (by decide)), (fun _ => ⟨rfl, BD2, bx2, kw2, fr2⟩), (fun _ _ => rfl), (fun h => by rw [kp 5 (by decide), l5] at h; cases h)⟩
        · simp only [List.getElem?_toArray, List.getElem?_cons_succ, List.getElem?_cons_zero, Option.some.injEq] at ho
          subst ho
          have q4 : l.getD 4 false = true := hdep ⟨4, .data⟩ (by simp) rfl
          clear hdep
          obtain ⟨rfl, j1, j2, j3, j4⟩ := f4 q4
          obtain rfl : w4 = w' := (g4 q4 hui).symm
          have cb := j2.cell
          have fb := j2.frozen
          obtain ⟨adx, capx, gx, ex, _, _⟩ := j1.done
          obtain ⟨Ln, hLn⟩ : ∃ Ln, (Lp ++ [k.1]).length = Ln := ⟨_, rfl⟩
          rw [hLn] at ex
          subst ex
          have y3 := n43 q4
          have y2 := n32 y3
          obtain rfl : v = t19 := (f0 (n40 q4)).symm
          obtain rfl := f1 (n21 y2)
          obtain rfl := (f2 y2).1
          obtain rfl := f3 y3
          refine wpOpIn_of rfl rfl ?_
          generalize hK : RInv (fun t19 t20 t21 t22 t23 => #[.agg #[.int .i64 B.now, .int .i64 B.floor, .slice a1 B.on c1, .slice a2 B.hn c2, .slice a3 B.tn c3], .pointer (some ⟨w.heap.size, 0, none⟩), .slice none 0 0, .pointer (some ⟨w.heap.size + 1, 0, none⟩), .pointer (some ⟨Bx, 0, none⟩), .pointer (some ⟨w.heap.size, 2, none⟩), .slice a1 B.on c1, .func (.func 143) #[] #[.pointer (some ⟨w.heap.size + 1 + 1, 0, none⟩), .pointer (some ⟨w.heap.size + 1 + 1 + 1, 0, none⟩), .pointer (some ⟨w.heap.size + 1 + 1 + 1 + 1, 0, none⟩)], obV (B.os k.1) (A k.1) (C k.1), .pointer (some ⟨Bx, 2, none⟩), .int .i64 (B.os k.1).ver, .pointer (some ⟨w.heap.size, 1, none⟩), .int .i64 B.floor, .bool true, t19, t20, t21, t22, t23, undef]) (w.heap.size + 5) (w.heap.size + 1) Pk W B.os Lp k.1 v (A k.1) (C k.1) (l.setIfInBounds 5 true) = K
          go_simp
          rw [← hK]
          exact ⟨_, _, _, _, _, w3, w4, ad2, cap2, b2, _, A2, C2, h2, rfl, hsz', (by rw [kp 2 (by decide), kp 1 (by decide)]; exact n21), (by rw [kp 3 (by decide), kp 2 (by decide)]; exact n32), (by rw [kp 4 (by decide), kp 3 (by decide)]; exact n43), (by rw [kp 4 (by decide), kp 0 (by decide)]; exact n40), (fun _ => by rw [kp 4 (by decide)]; exact q4), (by rw [kp 0 (by decide)]; exact f0), (by rw [kp 1 (by decide)]; exact f1), (fun h => by rw [kp 2 (by decide), y2] at h; cases h), (by rw [kp 2 (by decide)]; exact f2), (fun _ h => by rw [kp 3 (by decide), y3] at h; cases h), (by rw [kp 3 (by decide)]; exact f3), (fun _ h => by rw [kp 4 (by decide), q4] at h; cases h), (by rw [kp 4 (by decide)]; exact fun _ => ⟨rfl, j1, j2, j3, j4⟩), (fun _ h => absurd (ki'.symm.trans h) (by decide)), (fun _ => rfl)⟩
    · have HE := hid (hno hle)
      clear hyes hno
      unfold obV
      gi_wp2
      refine ⟨(KeepsOthers.refl _).from _, FrP.refl _ _, ⟨⟨v, bV, A', C', hb, ?_⟩, by rw [hPk] at hf; exact hf⟩⟩
      rw [hLq, HE.out]
      exact bd
  case done =>
    rintro D ys W hD hS ⟨⟨v, A', C', hb, bV, bd⟩, hf⟩ hK
    have bdf : BdOb (W.putObj D (.deferred none)) (w.heap.size + 5) v (unt B (ixs ys)).length (pick B.os (unt B (ixs ys))) A' C' hb := bd.turn (grownBy_putObj' W D (.deferred none)) (fun r e => by cases e; exact ⟨_, hK, rfl⟩)
    rw [hS] at bdf
    have AT := hid bdf
    have zW := hf.size
    have cV := bV.cell
    have hBW : Below w.heap.size w W := hB0.trans (hf.below (fun q hq => (hPkN q).2 (by omega)) (by omega))
    have hBf : Below w.heap.size w (W.putObj D (.deferred none)) := hBW.trans (belowK_b (w := W0) (n₀ := w.heap.size) (by omega) W D _ _ hD hK rfl rfl)
    clear bd bdf bV hS
    gi_wp2
    refine ⟨by simp, .inl ⟨_, _, rfl, run_takeDeferred hK, ?_⟩⟩
    exact ⟨_, results_tmp rfl _ _ _, v, A', C', hb, rfl, AT.out, hBf⟩
  case stop =>
    rintro D c pre W _ _ h _
    exact h.elim
end Go.Proofs.YtkecnaaacbckoaaGreat
namespace Go.Proofs.YtkecnaaacbckoaaGreat
open Go.RowKit Go.Shelf Go.Maps
attribute [local go_sem] Oper.semAt_some
theorem wpOpIn_yes {F : Fence} {n : Nat} {P : Program} {ops : Array Oper} {Q : Exit → Act → World → Prop} {i : Nat} {K : Act → World → Prop} {a : Act} {w : World} {o : Oper} (ho : ops[i]? = some o) (hg : Region.wanted o (yielded ops a.tmps) = true) (h : o.wpIn F n P a w K Q) : wpOpIn F n P ops Q i K a w := by
  unfold wpOpIn
  rw [ho]
  dsimp only
  rw [if_pos hg]
  exact h
theorem wpOpIn_no {F : Fence} {n : Nat} {P : Program} {ops : Array Oper} {Q : Exit → Act → World → Prop} {i : Nat} {K : Act → World → Prop} {a : Act} {w : World} {o : Oper} (ho : ops[i]? = some o) (hg : Region.wanted o (yielded ops a.tmps) = false) (ha : ∀ f, o.about P w a.eval = some f → F.fn f) (h : K (a.put o.dst undef) w) : wpOpIn F n P ops Q i K a w := by
  unfold wpOpIn
  rw [ho]
  dsimp only
  rw [if_neg (by rw [hg]; decide)]
  exact ⟨ha, h⟩
theorem operIn_lookup_own_int {F : Fence} {nF : Nat} {P : Program} {o : Oper} {a : Act} {w : World} {K : Act → World → Prop} {Q : Exit → Act → World → Prop} {H : Type}
    (m x : Operand) (t : TypeId) (hop : o.op = Op.lookup t m x false)
    (k e : TypeId) (q : IntKind) (K' : Keyed P k) (ht : P.underlying t = some (.map k e)) (he : P.underlying e = some (.int q)) (hz : (zeroValue e).run P w = .ok (.int q 0) w) (b n : Nat) (D : DataW H)
    (hm : a.eval m = .map (some b)) (hown : w.ownsMap P k (plainElem P e) b n D) (key : Value) (kl : Lit) (hx : a.eval x = key) (hkey : keyOf P k key = some kl) (c : Int) (hc : D.atKey kl (.lit (.int q 0)) = .lit (.int q c))
    (hK : K (a.put o.dst (.int q c)) w) : o.wpIn F nF P a w K Q := by
  obtain ⟨c', hrun, hat, hwc⟩ := hown.lookup_int K' ht he hz hkey
  rw [hc] at hat
  obtain rfl : c = c' := by simpa using hat
  unfold Oper.wpIn
  refine ⟨by simp [Oper.about, hop], ?_⟩
  rw [Oper.semAt_plain F _ _ (by rw [hop]; intro c hc'; cases hc')]
  simp [execOp, hop, hm, hx, hrun, Result.andThen]
  exact hK
def upd (t : Nat → Value) (i : Nat) (v : Value) : Nat → Value := fun j => bif j == i then v else t j
def KInv (mk : (Nat → Value) → Array Value) (n : Nat) (W : World) (vs : Nat → Value) (l : Array Bool) (a : Act) (w' : World) : Prop :=
  ∃ t : Nat → Value, a = ⟨mk t, []⟩ ∧ l.size = n ∧ (∀ i, i < n → l.getD i false = true → t i = vs i) ∧ Below W.heap.size W w'
theorem KInv.step {mk : (Nat → Value) → Array Value} {n : Nat} {W : World} {vs : Nat → Value} {l : Array Bool} {a : Act} {w' : World} {t : Nat → Value} (hls : l.size = n) (ht : ∀ i, i < n → l.getD i false = true → t i = vs i) (hb : Below W.heap.size W w') (i : Nat) (hi : i < n) (ha : a = ⟨mk (upd t i (vs i)), []⟩) : KInv mk n W vs (l.setIfInBounds i true) a w' :=
  ⟨upd t i (vs i), ha, by simp [hls], fun j hj hl => by
    by_cases e : j = i
    · subst e; simp [upd]
    · rw [getD_set (by omega), if_neg e] at hl
      rw [← ht j hj hl]
      have e2 : (j == i) = false := by simpa using e
      simp [upd, e2], hb⟩
set_option maxRecDepth 100000 in
set_option maxHeartbeats 4000000 in
theorem look8_in (F : Fence) (l0 n : Nat) (h31 : F.fn 63) (h1 : 1 ≤ n) (p0 p1 p2 p3 p4 p5 p6 p8 p10 p11 p12 p13 p14 p15 p16 p17 p18 p19 p20 p21 p22 p23 p24 p25 p26 p27 p28 p29 p30 p31 p32 p33 p34 p35 p36 p37 p38 : Value) (Bm Bx M N : Nat) (D : DataW Unit) (c0 : Int) (x : Ch) (A : Option Addr) (C : Nat) (W : World)
    (hkc : ∀ w : World, CallsIn (F.inRound l0) (n - 1) Tryz.prog 63 #[.agg #[.string x.ob.kind, .string x.ob.name, .int .i64 x.ob.ver, .int .i64 x.ob.born, .string x.ob.text, .bool x.ob.ending, .slice A x.ob.hn C]] w fun e w' => e = .returned (.agg #[.string x.ob.kind, .string x.ob.name]) ∧ Below w.heap.size w w')
    (hX : Holds W Bx #[.int .i64 x.ver, .bool x.gone, .string x.ob.kind, .string x.ob.name, .int .i64 x.ob.ver, .int .i64 x.ob.born, .string x.ob.text, .bool x.ob.ending, .slice A x.ob.hn C]) (zBx : Bx < W.heap.size) (bV : Boxed W Bm 94 (.map (some M))) (hown : W.ownsMap Tryz.prog 98 (plainElem Tryz.prog 3) M N D)
    (hky : keyOf Tryz.prog 98 (.agg #[.string x.ob.kind, .string x.ob.name]) = some (kl x.ob.kind x.ob.name)) (hc0 : D.atKey (kl x.ob.kind x.ob.name) (.lit (.int .i64 0)) = .lit (.int .i64 c0)) (Q : Exit → Act → World → Prop)
    (hQ : ∀ t0 t1 t2 t3 t4 t5 t6 t7 t8 t9 t10 t11 w', Below W.heap.size W w' → Q .normal ⟨#[p0, p1, p2, p3, p4, p5, p6, .pointer (some ⟨Bm, 0, none⟩), p8, .pointer (some ⟨Bx, 0, none⟩), p10, p11, p12, p13, p14, p15, p16, p17, p18, p19, p20, p21, p22, p23, p24, p25, p26, p27, p28, p29, p30, p31, p32, p33, p34, p35, p36, p37, p38, t0, t1, t2, t3, t4, t5, t6, t7, t8, t9, t10, t11, .bool (!x.gone && c0 == x.ver), undef, undef, undef, undef, undef, undef, undef, undef, undef, undef, undef, undef, undef, undef, undef, undef], []⟩ w') :
    Code.wpIn (F.inRound l0) n Tryz.prog (Code.region 8 #[{ dst := some 39, op := Op.fieldAddr 75 (Operand.tmp 9) 1, type := 0, pos := "l5_book_history.go:35", after := #[], guard := none }, { dst := some 40, op := Op.load 4 (Operand.tmp 39), type := 4, pos := "l5_book_history.go:35", after := #[{ on := 0, ground := Ground.data }], guard := none }, { dst := some 41, op := Op.unOp UnOp.not 4 (Operand.tmp 40), type := 4, pos := "l5_book_history.go:35", after := #[{ on := 1, ground := Ground.data }], guard := none }, { dst := some 42, op := Op.move (Operand.tmp 41), type := 4, pos := "l5_book_history.go:35", after := #[{ on := 2, ground := Ground.data }], guard := none }, { dst := some 43, op := Op.load 94 (Operand.tmp 7), type := 94, pos := "l5_book_history.go:35", after := #[{ on := 3, ground := Ground.guard }], guard := some (3, true) }, { dst := some 44, op := Op.fieldAddr 75 (Operand.tmp 9) 2, type := 0, pos := "l5_book_history.go:35", after := #[{ on := 3, ground := Ground.guard }], guard := some (3, true) }, { dst := some 45, op := Op.load 73 (Operand.tmp 44), type := 73, pos := "l5_book_history.go:35", after := #[{ on := 5, ground := Ground.data }, { on := 3, ground := Ground.guard }], guard := some (3, true) }, { dst := some 46, op := Op.call { callee := Callee.value (Operand.func 63), args := #[Operand.tmp 45], argTypes := #[73] }, type := 98, pos := "l5_book_history.go:35", after := #[{ on := 6, ground := Ground.data }, { on := 3, ground := Ground.chain }, { on := 3, ground := Ground.guard }], guard := some (3, true) }, { dst := some 47, op := Op.lookup 94 (Operand.tmp 43) (Operand.tmp 46) false, type := 3, pos := "l5_book_history.go:35", after := #[{ on := 4, ground := Ground.data }, { on := 7, ground := Ground.data }, { on := 3, ground := Ground.guard }], guard := some (3, true) }, { dst := some 48, op := Op.fieldAddr 75 (Operand.tmp 9) 0, type := 0, pos := "l5_book_history.go:35", after := #[{ on := 3, ground := Ground.guard }], guard := some (3, true) }, { dst := some 49, op := Op.load 3 (Operand.tmp 48), type := 3, pos := "l5_book_history.go:35", after := #[{ on := 9, ground := Ground.data }, { on := 3, ground := Ground.guard }], guard := some (3, true) }, { dst := some 50, op := Op.binOp BinOp.eql 3 (Operand.tmp 47) (Operand.tmp 49) 3, type := 4, pos := "l5_book_history.go:35", after := #[{ on := 8, ground := Ground.data }, { on := 10, ground := Ground.data }, { on := 3, ground := Ground.guard }], guard := some (3, true) }, { dst := some 51, op := Op.pick (Operand.tmp 42) (Operand.tmp 50) (Operand.const (Value.bool false)), type := 4, pos := "l5_book_history.go:35", after := #[{ on := 3, ground := Ground.data }, { on := 11, ground := Ground.data }], guard := none }] true) Q ⟨#[p0, p1, p2, p3, p4, p5, p6, .pointer (some ⟨Bm, 0, none⟩), p8, .pointer (some ⟨Bx, 0, none⟩), p10, p11, p12, p13, p14, p15, p16, p17, p18, p19, p20, p21, p22, p23, p24, p25, p26, p27, p28, p29, p30, p31, p32, p33, p34, p35, p36, p37, p38, undef, undef, undef, undef, undef, undef, undef, undef, undef, undef, undef, undef, undef, undef, undef, undef, undef, undef, undef, undef, undef, undef, undef, undef, undef, undef, undef, undef, undef], []⟩ W := by
  cases hgo : x.gone with
  | true =>
    refine wpIn_region_inv (by kernel_rfl) (KInv (fun t : Nat → Value => #[p0, p1, p2, p3, p4, p5, p6, .pointer (some ⟨Bm, 0, none⟩), p8, .pointer (some ⟨Bx, 0, none⟩), p10, p11, p12, p13, p14, p15, p16, p17, p18, p19, p20, p21, p22, p23, p24, p25, p26, p27, p28, p29, p30, p31, p32, p33, p34, p35, p36, p37, p38, t 0, t 1, t 2, t 3, t 4, t 5, t 6, t 7, t 8, t 9, t 10, t 11, t 12, undef, undef, undef, undef, undef, undef, undef, undef, undef, undef, undef, undef, undef, undef, undef, undef]) 13 W (fun i => [.pointer (some ⟨Bx, 1, none⟩), .bool true, .bool false, .bool false, undef, undef, undef, undef, undef, undef, undef, undef, .bool false].getD i undef)) ?_ ?_ ?_ ?_
    · exact ⟨fun _ => undef, rfl, by simp, fun i hi h => by simp [Array.getD, hi] at h, (Below.refl _ W).drew⟩
    · intro l a w' hI
      obtain ⟨t, rfl, hls, _⟩ := hI
      exact hls
    · intro l a w' hI hr'
      obtain ⟨t, rfl, hls, ht, hb⟩ := hI
      have AL := all_listed (by kernel_rfl) (by rw [hls]; rfl) hr'
      have e12 : t 12 = .bool false := ht 12 (by decide) (AL 12 (by decide))
      have h := hQ (t 0) (t 1) (t 2) (t 3) (t 4) (t 5) (t 6) (t 7) (t 8) (t 9) (t 10) (t 11) w' hb
      have e13 : Value.bool (!x.gone && c0 == x.ver) = t 12 := by rw [hgo, e12]; simp
      rw [e13] at h
      exact h
    · intro l a w' i' hI hr'
      obtain ⟨t, rfl, hls, ht, bB⟩ := hI
      obtain ⟨hu', o', ho, hdep⟩ := mem_ready.1 hr'
      have hi16 : i' < 13 := by
        rcases Nat.lt_or_ge i' 13 with h | h
        · exact h
        · rw [Array.getElem?_eq_none (by simpa using h)] at ho
          cases ho
      clear hr' hu'
      rcases (show i' = 0 ∨ i' = 1 ∨ i' = 2 ∨ i' = 3 ∨ i' = 4 ∨ i' = 5 ∨ i' = 6 ∨ i' = 7 ∨ i' = 8 ∨ i' = 9 ∨ i' = 10 ∨ i' = 11 ∨ i' = 12 by omega) with rfl | rfl | rfl | rfl | rfl | rfl | rfl | rfl | rfl | rfl | rfl | rfl | rfl
      · simp only [List.getElem?_toArray, List.getElem?_cons_zero, Option.some.injEq] at ho
        subst ho
        clear hdep
        refine wpOpIn_of rfl rfl ?_
        generalize hK : KInv (fun t : Nat → Value => #[p0, p1, p2, p3, p4, p5, p6, .pointer (some ⟨Bm, 0, none⟩), p8, .pointer (some ⟨Bx, 0, none⟩), p10, p11, p12, p13, p14, p15, p16, p17, p18, p19, p20, p21, p22, p23, p24, p25, p26, p27, p28, p29, p30, p31, p32, p33, p34, p35, p36, p37, p38, t 0, t 1, t 2, t 3, t 4, t 5, t 6, t 7, t 8, t 9, t 10, t 11, t 12, undef, undef, undef, undef, undef, undef, undef, undef, undef, undef, undef, undef, undef, undef, undef, undef]) 13 W (fun i => [.pointer (some ⟨Bx, 1, none⟩), .bool true, .bool false, .bool false, undef, undef, undef, undef, undef, undef, undef, undef, .bool false].getD i undef) (l.setIfInBounds 0 true) = K
        go_simp
        rw [← hK]
        refine KInv.step (t := t) hls ht bB 0 (by decide) ?_
        simp [upd]
      · simp only [List.getElem?_toArray, List.getElem?_cons_succ, List.getElem?_cons_zero, Option.some.injEq] at ho
        subst ho
        have e0 : t 0 = .pointer (some ⟨Bx, 1, none⟩) := ht 0 (by decide) (hdep ⟨0, .data⟩ (by simp) rfl)
        clear hdep
        have hX2 := hX.below bB (by exact zBx)
        have x0 := hX2 0; have x1 := hX2 1; have x2 := hX2 2; have x3 := hX2 3; have x4 := hX2 4; have x5 := hX2 5; have x6 := hX2 6; have x7 := hX2 7; have x8 := hX2 8
        simp only [List.getElem?_toArray, List.getElem?_cons_succ, List.getElem?_cons_zero] at x0 x1 x2 x3 x4 x5 x6 x7 x8
        rw [hgo] at x1
        refine wpOpIn_of rfl rfl ?_
        generalize hK : KInv (fun t : Nat → Value => #[p0, p1, p2, p3, p4, p5, p6, .pointer (some ⟨Bm, 0, none⟩), p8, .pointer (some ⟨Bx, 0, none⟩), p10, p11, p12, p13, p14, p15, p16, p17, p18, p19, p20, p21, p22, p23, p24, p25, p26, p27, p28, p29, p30, p31, p32, p33, p34, p35, p36, p37, p38, t 0, t 1, t 2, t 3, t 4, t 5, t 6, t 7, t 8, t 9, t 10, t 11, t 12, undef, undef, undef, undef, undef, undef, undef, undef, undef, undef, undef, undef, undef, undef, undef, undef]) 13 W (fun i => [.pointer (some ⟨Bx, 1, none⟩), .bool true, .bool false, .bool false, undef, undef, undef, undef, undef, undef, undef, undef, .bool false].getD i undef) (l.setIfInBounds 1 true) = K
        go_simp
        rw [← hK]
        refine KInv.step (t := t) hls ht bB 1 (by decide) ?_
        simp [upd, e0]
      · simp only [List.getElem?_toArray, List.getElem?_cons_succ, List.getElem?_cons_zero, Option.some.injEq] at ho
        subst ho
        have e1 : t 1 = .bool true := ht 1 (by decide) (hdep ⟨1, .data⟩ (by simp) rfl)
        clear hdep
        refine wpOpIn_of rfl rfl ?_
        generalize hK : KInv (fun t : Nat → Value => #[p0, p1, p2, p3, p4, p5, p6, .pointer (some ⟨Bm, 0, none⟩), p8, .pointer (some ⟨Bx, 0, none⟩), p10, p11, p12, p13, p14, p15, p16, p17, p18, p19, p20, p21, p22, p23, p24, p25, p26, p27, p28, p29, p30, p31, p32, p33, p34, p35, p36, p37, p38, t 0, t 1, t 2, t 3, t 4, t 5, t 6, t 7, t 8, t 9, t 10, t 11, t 12, undef, undef, undef, undef, undef, undef, undef, undef, undef, undef, undef, undef, undef, undef, undef, undef]) 13 W (fun i => [.pointer (some ⟨Bx, 1, none⟩), .bool true, .bool false, .bool false, undef, undef, undef, undef, undef, undef, undef, undef, .bool false].getD i undef) (l.setIfInBounds 2 true) = K
        go_simp
        rw [← hK]
        refine KInv.step (t := t) hls ht bB 2 (by decide) ?_
        simp [upd, e1]
      · simp only [List.getElem?_toArray, List.getElem?_cons_succ, List.getElem?_cons_zero, Option.some.injEq] at ho
        subst ho
        have e2 : t 2 = .bool false := ht 2 (by decide) (hdep ⟨2, .data⟩ (by simp) rfl)
        clear hdep
        refine wpOpIn_of rfl rfl ?_
        generalize hK : KInv (fun t : Nat → Value => #[p0, p1, p2, p3, p4, p5, p6, .pointer (some ⟨Bm, 0, none⟩), p8, .pointer (some ⟨Bx, 0, none⟩), p10, p11, p12, p13, p14, p15, p16, p17, p18, p19, p20, p21, p22, p23, p24, p25, p26, p27, p28, p29, p30, p31, p32, p33, p34, p35, p36, p37, p38, t 0, t 1, t 2, t 3, t 4, t 5, t 6, t 7, t 8, t 9, t 10, t 11, t 12, undef, undef, undef, undef, undef, undef, undef, undef, undef, undef, undef, undef, undef, undef, undef, undef]) 13 W (fun i => [.pointer (some ⟨Bx, 1, none⟩), .bool true, .bool false, .bool false, undef, undef, undef, undef, undef, undef, undef, undef, .bool false].getD i undef) (l.setIfInBounds 3 true) = K
        go_simp
        rw [← hK]
        refine KInv.step (t := t) hls ht bB 3 (by decide) ?_
        simp [upd, e2]
      · simp only [List.getElem?_toArray, List.getElem?_cons_succ, List.getElem?_cons_zero, Option.some.injEq] at ho
        subst ho
        have e3 : t 3 = .bool false := ht 3 (by decide) (hdep ⟨3, .guard⟩ (by simp) rfl)
        clear hdep
        refine wpOpIn_no rfl (by simp [Region.wanted, yielded, e3]) (by intro f hf; first | (simp [Oper.about] at hf; done) | (simp [Oper.about, resolve, Target.leads, Sem.run_pure, Act.eval, Deferred.ofValue, go_sem] at hf; subst hf; exact h31)) ?_
        refine KInv.step (t := t) hls ht bB 4 (by decide) ?_
        simp [upd, Act.put]
      · simp only [List.getElem?_toArray, List.getElem?_cons_succ, List.getElem?_cons_zero, Option.some.injEq] at ho
        subst ho
        have e3 : t 3 = .bool false := ht 3 (by decide) (hdep ⟨3, .guard⟩ (by simp) rfl)
        clear hdep
        refine wpOpIn_no rfl (by simp [Region.wanted, yielded, e3]) (by intro f hf; first | (simp [Oper.about] at hf; done) | (simp [Oper.about, resolve, Target.leads, Sem.run_pure, Act.eval, Deferred.ofValue, go_sem] at hf; subst hf; exact h31)) ?_
        refine KInv.step (t := t) hls ht bB 5 (by decide) ?_
        simp [upd, Act.put]
      · simp only [List.getElem?_toArray, List.getElem?_cons_succ, List.getElem?_cons_zero, Option.some.injEq] at ho
        subst ho
        have e5 : t 5 = undef := ht 5 (by decide) (hdep ⟨5, .data⟩ (by simp) rfl)
        have e3 : t 3 = .bool false := ht 3 (by decide) (hdep ⟨3, .guard⟩ (by simp) rfl)
        clear hdep
        refine wpOpIn_no rfl (by simp [Region.wanted, yielded, e3]) (by intro f hf; first | (simp [Oper.about] at hf; done) | (simp [Oper.about, resolve, Target.leads, Sem.run_pure, Act.eval, Deferred.ofValue, go_sem] at hf; subst hf; exact h31)) ?_
        refine KInv.step (t := t) hls ht bB 6 (by decide) ?_
        simp [upd, Act.put]
      · simp only [List.getElem?_toArray, List.getElem?_cons_succ, List.getElem?_cons_zero, Option.some.injEq] at ho
        subst ho
        have e6 : t 6 = undef := ht 6 (by decide) (hdep ⟨6, .data⟩ (by simp) rfl)
        have e3 : t 3 = .bool false := ht 3 (by decide) (hdep ⟨3, .guard⟩ (by simp) rfl)
        clear hdep
        refine wpOpIn_no rfl (by simp [Region.wanted, yielded, e3]) (by intro f hf; first | (simp [Oper.about, resolve, Target.leads] at hf; done) | (simp [Oper.about, resolve, Target.leads, Sem.run_pure, Act.eval, Deferred.ofValue, go_sem] at hf; subst hf; exact h31)) ?_
        refine KInv.step (t := t) hls ht bB 7 (by decide) ?_
        simp [upd, Act.put]
      · simp only [List.getElem?_toArray, List.getElem?_cons_succ, List.getElem?_cons_zero, Option.some.injEq] at ho
        subst ho
        have e4 : t 4 = undef := ht 4 (by decide) (hdep ⟨4, .data⟩ (by simp) rfl)
        have e7 : t 7 = undef := ht 7 (by decide) (hdep ⟨7, .data⟩ (by simp) rfl)
        have e3 : t 3 = .bool false := ht 3 (by decide) (hdep ⟨3, .guard⟩ (by simp) rfl)
        clear hdep
        refine wpOpIn_no rfl (by simp [Region.wanted, yielded, e3]) (by intro f hf; first | (simp [Oper.about] at hf; done) | (simp [Oper.about, resolve, Target.leads, Sem.run_pure, Act.eval, Deferred.ofValue, go_sem] at hf; subst hf; exact h31)) ?_
        refine KInv.step (t := t) hls ht bB 8 (by decide) ?_
        simp [upd, Act.put]
      · simp only [List.getElem?_toArray, List.getElem?_cons_succ, List.getElem?_cons_zero, Option.some.injEq] at ho
        subst ho
        have e3 : t 3 = .bool false := ht 3 (by decide) (hdep ⟨3, .guard⟩ (by simp) rfl)
        clear hdep
        refine wpOpIn_no rfl (by simp [Region.wanted, yielded, e3]) (by intro f hf; first | (simp [Oper.about] at hf; done) | (simp [Oper.about, resolve, Target.leads, Sem.run_pure, Act.eval, Deferred.ofValue, go_sem] at hf; subst hf; exact h31)) ?_
        refine KInv.step (t := t) hls ht bB 9 (by decide) ?_
        simp [upd, Act.put]
      · simp only [List.getElem?_toArray, List.getElem?_cons_succ, List.getElem?_cons_zero, Option.some.injEq] at ho
        subst ho
        have e9 : t 9 = undef := ht 9 (by decide) (hdep ⟨9, .data⟩ (by simp) rfl)
        have e3 : t 3 = .bool false := ht 3 (by decide) (hdep ⟨3, .guard⟩ (by simp) rfl)
        clear hdep
        refine wpOpIn_no rfl (by simp [Region.wanted, yielded, e3]) (by intro f hf; first | (simp [Oper.about] at hf; done) | (simp [Oper.about, resolve, Target.leads, Sem.run_pure, Act.eval, Deferred.ofValue, go_sem] at hf; subst hf; exact h31)) ?_
        refine KInv.step (t := t) hls ht bB 10 (by decide) ?_
        simp [upd, Act.put]
      · simp only [List.getElem?_toArray, List.getElem?_cons_succ, List.getElem?_cons_zero, Option.some.injEq] at ho
        subst ho
        have e8 : t 8 = undef := ht 8 (by decide) (hdep ⟨8, .data⟩ (by simp) rfl)
        have e10 : t 10 = undef := ht 10 (by decide) (hdep ⟨10, .data⟩ (by simp) rfl)
        have e3 : t 3 = .bool false := ht 3 (by decide) (hdep ⟨3, .guard⟩ (by simp) rfl)
        clear hdep
        refine wpOpIn_no rfl (by simp [Region.wanted, yielded, e3]) (by intro f hf; first | (simp [Oper.about] at hf; done) | (simp [Oper.about, resolve, Target.leads, Sem.run_pure, Act.eval, Deferred.ofValue, go_sem] at hf; subst hf; exact h31)) ?_
        refine KInv.step (t := t) hls ht bB 11 (by decide) ?_
        simp [upd, Act.put]
      · simp only [List.getElem?_toArray, List.getElem?_cons_succ, List.getElem?_cons_zero, Option.some.injEq] at ho
        subst ho
        have e3 : t 3 = .bool false := ht 3 (by decide) (hdep ⟨3, .data⟩ (by simp) rfl)
        have e11 : t 11 = undef := ht 11 (by decide) (hdep ⟨11, .data⟩ (by simp) rfl)
        clear hdep
        refine wpOpIn_of rfl rfl ?_
        generalize hK : KInv (fun t : Nat → Value => #[p0, p1, p2, p3, p4, p5, p6, .pointer (some ⟨Bm, 0, none⟩), p8, .pointer (some ⟨Bx, 0, none⟩), p10, p11, p12, p13, p14, p15, p16, p17, p18, p19, p20, p21, p22, p23, p24, p25, p26, p27, p28, p29, p30, p31, p32, p33, p34, p35, p36, p37, p38, t 0, t 1, t 2, t 3, t 4, t 5, t 6, t 7, t 8, t 9, t 10, t 11, t 12, undef, undef, undef, undef, undef, undef, undef, undef, undef, undef, undef, undef, undef, undef, undef, undef]) 13 W (fun i => [.pointer (some ⟨Bx, 1, none⟩), .bool true, .bool false, .bool false, undef, undef, undef, undef, undef, undef, undef, undef, .bool false].getD i undef) (l.setIfInBounds 12 true) = K
        go_simp
        rw [← hK]
        refine KInv.step (t := t) hls ht bB 12 (by decide) ?_
        simp [upd, e3, e11]
  | false =>
    refine wpIn_region_inv (by kernel_rfl) (KInv (fun t : Nat → Value => #[p0, p1, p2, p3, p4, p5, p6, .pointer (some ⟨Bm, 0, none⟩), p8, .pointer (some ⟨Bx, 0, none⟩), p10, p11, p12, p13, p14, p15, p16, p17, p18, p19, p20, p21, p22, p23, p24, p25, p26, p27, p28, p29, p30, p31, p32, p33, p34, p35, p36, p37, p38, t 0, t 1, t 2, t 3, t 4, t 5, t 6, t 7, t 8, t 9, t 10, t 11, t 12, undef, undef, undef, undef, undef, undef, undef, undef, undef, undef, undef, undef, undef, undef, undef, undef]) 13 W (fun i => [.pointer (some ⟨Bx, 1, none⟩), .bool false, .bool true, .bool true, .map (some M), .pointer (some ⟨Bx, 2, none⟩), .agg #[.string x.ob.kind, .string x.ob.name, .int .i64 x.ob.ver, .int .i64 x.ob.born, .string x.ob.text, .bool x.ob.ending, .slice A x.ob.hn C], .agg #[.string x.ob.kind, .string x.ob.name], .int .i64 c0, .pointer (some ⟨Bx, 0, none⟩), .int .i64 x.ver, .bool (c0 == x.ver), .bool (c0 == x.ver)].getD i undef)) ?_ ?_ ?_ ?_
    · exact ⟨fun _ => undef, rfl, by simp, fun i hi h => by simp [Array.getD, hi] at h, (Below.refl _ W).drew⟩
    · intro l a w' hI
      obtain ⟨t, rfl, hls, _⟩ := hI
      exact hls
    · intro l a w' hI hr'
      obtain ⟨t, rfl, hls, ht, hb⟩ := hI
      have AL := all_listed (by kernel_rfl) (by rw [hls]; rfl) hr'
      have e12 : t 12 = .bool (c0 == x.ver) := ht 12 (by decide) (AL 12 (by decide))
      have h := hQ (t 0) (t 1) (t 2) (t 3) (t 4) (t 5) (t 6) (t 7) (t 8) (t 9) (t 10) (t 11) w' hb
      have e13 : Value.bool (!x.gone && c0 == x.ver) = t 12 := by rw [hgo, e12]; simp
      rw [e13] at h
      exact h
    · intro l a w' i' hI hr'
      obtain ⟨t, rfl, hls, ht, bB⟩ := hI
      obtain ⟨hu', o', ho, hdep⟩ := mem_ready.1 hr'
      have hi16 : i' < 13 := by
        rcases Nat.lt_or_ge i' 13 with h | h
        · exact h
        · rw [Array.getElem?_eq_none (by simpa using h)] at ho
          cases ho
      clear hr' hu'
      rcases (show i' = 0 ∨ i' = 1 ∨ i' = 2 ∨ i' = 3 ∨ i' = 4 ∨ i' = 5 ∨ i' = 6 ∨ i' = 7 ∨ i' = 8 ∨ i' = 9 ∨ i' = 10 ∨ i' = 11 ∨ i' = 12 by omega) with rfl | rfl | rfl | rfl | rfl | rfl | rfl | rfl | rfl | rfl | rfl | rfl | rfl
      · simp only [List.getElem?_toArray, List.getElem?_cons_zero, Option.some.injEq] at ho
        subst ho
        clear hdep
        refine wpOpIn_of rfl rfl ?_
        generalize hK : KInv (fun t : Nat → Value => #[p0, p1, p2, p3, p4, p5, p6, .pointer (some ⟨Bm, 0, none⟩), p8, .pointer (some ⟨Bx, 0, none⟩), p10, p11, p12, p13, p14, p15, p16, p17, p18, p19, p20, p21, p22, p23, p24, p25, p26, p27, p28, p29, p30, p31, p32, p33, p34, p35, p36, p37, p38, t 0, t 1, t 2, t 3, t 4, t 5, t 6, t 7, t 8, t 9, t 10, t 11, t 12, undef, undef, undef, undef, undef, undef, undef, undef, undef, undef, undef, undef, undef, undef, undef, undef]) 13 W (fun i => [.pointer (some ⟨Bx, 1, none⟩), .bool false, .bool true, .bool true, .map (some M), .pointer (some ⟨Bx, 2, none⟩), .agg #[.string x.ob.kind, .string x.ob.name, .int .i64 x.ob.ver, .int .i64 x.ob.born, .string x.ob.text, .bool x.ob.ending, .slice A x.ob.hn C], .agg #[.string x.ob.kind, .string x.ob.name], .int .i64 c0, .pointer (some ⟨Bx, 0, none⟩), .int .i64 x.ver, .bool (c0 == x.ver), .bool (c0 == x.ver)].getD i undef) (l.setIfInBounds 0 true) = K
        go_simp
        rw [← hK]
        refine KInv.step (t := t) hls ht bB 0 (by decide) ?_
        simp [upd]
      · simp only [List.getElem?_toArray, List.getElem?_cons_succ, List.getElem?_cons_zero, Option.some.injEq] at ho
        subst ho
        have e0 : t 0 = .pointer (some ⟨Bx, 1, none⟩) := ht 0 (by decide) (hdep ⟨0, .data⟩ (by simp) rfl)
        clear hdep
        have hX2 := hX.below bB (by exact zBx)
        have x0 := hX2 0; have x1 := hX2 1; have x2 := hX2 2; have x3 := hX2 3; have x4 := hX2 4; have x5 := hX2 5; have x6 := hX2 6; have x7 := hX2 7; have x8 := hX2 8
        simp only [List.getElem?_toArray, List.getElem?_cons_succ, List.getElem?_cons_zero] at x0 x1 x2 x3 x4 x5 x6 x7 x8
        rw [hgo] at x1
        refine wpOpIn_of rfl rfl ?_
        generalize hK : KInv (fun t : Nat → Value => #[p0, p1, p2, p3, p4, p5, p6, .pointer (some ⟨Bm, 0, none⟩), p8, .pointer (some ⟨Bx, 0, none⟩), p10, p11, p12, p13, p14, p15, p16, p17, p18, p19, p20, p21, p22, p23, p24, p25, p26, p27, p28, p29, p30, p31, p32, p33, p34, p35, p36, p37, p38, t 0, t 1, t 2, t 3, t 4, t 5, t 6, t 7, t 8, t 9, t 10, t 11, t 12, undef, undef, undef, undef, undef, undef, undef, undef, undef, undef, undef, undef, undef, undef, undef, undef]) 13 W (fun i => [.pointer (some ⟨Bx, 1, none⟩), .bool false, .bool true, .bool true, .map (some M), .pointer (some ⟨Bx, 2, none⟩), .agg #[.string x.ob.kind, .string x.ob.name, .int .i64 x.ob.ver, .int .i64 x.ob.born, .string x.ob.text, .bool x.ob.ending, .slice A x.ob.hn C], .agg #[.string x.ob.kind, .string x.ob.name], .int .i64 c0, .pointer (some ⟨Bx, 0, none⟩), .int .i64 x.ver, .bool (c0 == x.ver), .bool (c0 == x.ver)].getD i undef) (l.setIfInBounds 1 true) = K
        go_simp
        rw [← hK]
        refine KInv.step (t := t) hls ht bB 1 (by decide) ?_
        simp [upd, e0]
      · simp only [List.getElem?_toArray, List.getElem?_cons_succ, List.getElem?_cons_zero, Option.some.injEq] at ho
        subst ho
        have e1 : t 1 = .bool false := ht 1 (by decide) (hdep ⟨1, .data⟩ (by simp) rfl)
        clear hdep
        refine wpOpIn_of rfl rfl ?_
        generalize hK : KInv (fun t : Nat → Value => #[p0, p1, p2, p3, p4, p5, p6, .pointer (some ⟨Bm, 0, none⟩), p8, .pointer (some ⟨Bx, 0, none⟩), p10, p11, p12, p13, p14, p15, p16, p17, p18, p19, p20, p21, p22, p23, p24, p25, p26, p27, p28, p29, p30, p31, p32, p33, p34, p35, p36, p37, p38, t 0, t 1, t 2, t 3, t 4, t 5, t 6, t 7, t 8, t 9, t 10, t 11, t 12, undef, undef, undef, undef, undef, undef, undef, undef, undef, undef, undef, undef, undef, undef, undef, undef]) 13 W (fun i => [.pointer (some ⟨Bx, 1, none⟩), .bool false, .bool true, .bool true, .map (some M), .pointer (some ⟨Bx, 2, none⟩), .agg #[.string x.ob.kind, .string x.ob.name, .int .i64 x.ob.ver, .int .i64 x.ob.born, .string x.ob.text, .bool x.ob.ending, .slice A x.ob.hn C], .agg #[.string x.ob.kind, .string x.ob.name], .int .i64 c0, .pointer (some ⟨Bx, 0, none⟩), .int .i64 x.ver, .bool (c0 == x.ver), .bool (c0 == x.ver)].getD i undef) (l.setIfInBounds 2 true) = K
        go_simp
        rw [← hK]
        refine KInv.step (t := t) hls ht bB 2 (by decide) ?_
        simp [upd, e1]
      · simp only [List.getElem?_toArray, List.getElem?_cons_succ, List.getElem?_cons_zero, Option.some.injEq] at ho
        subst ho
        have e2 : t 2 = .bool true := ht 2 (by decide) (hdep ⟨2, .data⟩ (by simp) rfl)
        clear hdep
        refine wpOpIn_of rfl rfl ?_
        generalize hK : KInv (fun t : Nat → Value => #[p0, p1, p2, p3, p4, p5, p6, .pointer (some ⟨Bm, 0, none⟩), p8, .pointer (some ⟨Bx, 0, none⟩), p10, p11, p12, p13, p14, p15, p16, p17, p18, p19, p20, p21, p22, p23, p24, p25, p26, p27, p28, p29, p30, p31, p32, p33, p34, p35, p36, p37, p38, t 0, t 1, t 2, t 3, t 4, t 5, t 6, t 7, t 8, t 9, t 10, t 11, t 12, undef, undef, undef, undef, undef, undef, undef, undef, undef, undef, undef, undef, undef, undef, undef, undef]) 13 W (fun i => [.pointer (some ⟨Bx, 1, none⟩), .bool false, .bool true, .bool true, .map (some M), .pointer (some ⟨Bx, 2, none⟩), .agg #[.string x.ob.kind, .string x.ob.name, .int .i64 x.ob.ver, .int .i64 x.ob.born, .string x.ob.text, .bool x.ob.ending, .slice A x.ob.hn C], .agg #[.string x.ob.kind, .string x.ob.name], .int .i64 c0, .pointer (some ⟨Bx, 0, none⟩), .int .i64 x.ver, .bool (c0 == x.ver), .bool (c0 == x.ver)].getD i undef) (l.setIfInBounds 3 true) = K
        go_simp
        rw [← hK]
        refine KInv.step (t := t) hls ht bB 3 (by decide) ?_
        simp [upd, e2]
      · simp only [List.getElem?_toArray, List.getElem?_cons_succ, List.getElem?_cons_zero, Option.some.injEq] at ho
        subst ho
        have e3 : t 3 = .bool true := ht 3 (by decide) (hdep ⟨3, .guard⟩ (by simp) rfl)
        clear hdep
        have hc0 := (Boxed.of_below bV bB).cell
        refine wpOpIn_yes rfl (by simp [Region.wanted, yielded, e3]) ?_
        generalize hK : KInv (fun t : Nat → Value => #[p0, p1, p2, p3, p4, p5, p6, .pointer (some ⟨Bm, 0, none⟩), p8, .pointer (some ⟨Bx, 0, none⟩), p10, p11, p12, p13, p14, p15, p16, p17, p18, p19, p20, p21, p22, p23, p24, p25, p26, p27, p28, p29, p30, p31, p32, p33, p34, p35, p36, p37, p38, t 0, t 1, t 2, t 3, t 4, t 5, t 6, t 7, t 8, t 9, t 10, t 11, t 12, undef, undef, undef, undef, undef, undef, undef, undef, undef, undef, undef, undef, undef, undef, undef, undef]) 13 W (fun i => [.pointer (some ⟨Bx, 1, none⟩), .bool false, .bool true, .bool true, .map (some M), .pointer (some ⟨Bx, 2, none⟩), .agg #[.string x.ob.kind, .string x.ob.name, .int .i64 x.ob.ver, .int .i64 x.ob.born, .string x.ob.text, .bool x.ob.ending, .slice A x.ob.hn C], .agg #[.string x.ob.kind, .string x.ob.name], .int .i64 c0, .pointer (some ⟨Bx, 0, none⟩), .int .i64 x.ver, .bool (c0 == x.ver), .bool (c0 == x.ver)].getD i undef) (l.setIfInBounds 4 true) = K
        go_simp
        rw [← hK]
        refine KInv.step (t := t) hls ht bB 4 (by decide) ?_
        simp [upd, e3]
      · simp only [List.getElem?_toArray, List.getElem?_cons_succ, List.getElem?_cons_zero, Option.some.injEq] at ho
        subst ho
        have e3 : t 3 = .bool true := ht 3 (by decide) (hdep ⟨3, .guard⟩ (by simp) rfl)
        clear hdep
        refine wpOpIn_yes rfl (by simp [Region.wanted, yielded, e3]) ?_
        generalize hK : KInv (fun t : Nat → Value => #[p0, p1, p2, p3, p4, p5, p6, .pointer (some ⟨Bm, 0, none⟩), p8, .pointer (some ⟨Bx, 0, none⟩), p10, p11, p12, p13, p14, p15, p16, p17, p18, p19, p20, p21, p22, p23, p24, p25, p26, p27, p28, p29, p30, p31, p32, p33, p34, p35, p36, p37, p38, t 0, t 1, t 2, t 3, t 4, t 5, t 6, t 7, t 8, t 9, t 10, t 11, t 12, undef, undef, undef, undef, undef, undef, undef, undef, undef, undef, undef, undef, undef, undef, undef, undef]) 13 W (fun i => [.pointer (some ⟨Bx, 1, none⟩), .bool false, .bool true, .bool true, .map (some M), .pointer (some ⟨Bx, 2, none⟩), .agg #[.string x.ob.kind, .string x.ob.name, .int .i64 x.ob.ver, .int .i64 x.ob.born, .string x.ob.text, .bool x.ob.ending, .slice A x.ob.hn C], .agg #[.string x.ob.kind, .string x.ob.name], .int .i64 c0, .pointer (some ⟨Bx, 0, none⟩), .int .i64 x.ver, .bool (c0 == x.ver), .bool (c0 == x.ver)].getD i undef) (l.setIfInBounds 5 true) = K
        go_simp
        rw [← hK]
        refine KInv.step (t := t) hls ht bB 5 (by decide) ?_
        simp [upd, e3]
      · simp only [List.getElem?_toArray, List.getElem?_cons_succ, List.getElem?_cons_zero, Option.some.injEq] at ho
        subst ho
        have e5 : t 5 = .pointer (some ⟨Bx, 2, none⟩) := ht 5 (by decide) (hdep ⟨5, .data⟩ (by simp) rfl)
        have e3 : t 3 = .bool true := ht 3 (by decide) (hdep ⟨3, .guard⟩ (by simp) rfl)
        clear hdep
        have hX2 := hX.below bB (by exact zBx)
        have x0 := hX2 0; have x1 := hX2 1; have x2 := hX2 2; have x3 := hX2 3; have x4 := hX2 4; have x5 := hX2 5; have x6 := hX2 6; have x7 := hX2 7; have x8 := hX2 8
        simp only [List.getElem?_toArray, List.getElem?_cons_succ, List.getElem?_cons_zero] at x0 x1 x2 x3 x4 x5 x6 x7 x8
        refine wpOpIn_yes rfl (by simp [Region.wanted, yielded, e3]) ?_
        generalize hK : KInv (fun t : Nat → Value => #[p0, p1, p2, p3, p4, p5, p6, .pointer (some ⟨Bm, 0, none⟩), p8, .pointer (some ⟨Bx, 0, none⟩), p10, p11, p12, p13, p14, p15, p16, p17, p18, p19, p20, p21, p22, p23, p24, p25, p26, p27, p28, p29, p30, p31, p32, p33, p34, p35, p36, p37, p38, t 0, t 1, t 2, t 3, t 4, t 5, t 6, t 7, t 8, t 9, t 10, t 11, t 12, undef, undef, undef, undef, undef, undef, undef, undef, undef, undef, undef, undef, undef, undef, undef, undef]) 13 W (fun i => [.pointer (some ⟨Bx, 1, none⟩), .bool false, .bool true, .bool true, .map (some M), .pointer (some ⟨Bx, 2, none⟩), .agg #[.string x.ob.kind, .string x.ob.name, .int .i64 x.ob.ver, .int .i64 x.ob.born, .string x.ob.text, .bool x.ob.ending, .slice A x.ob.hn C], .agg #[.string x.ob.kind, .string x.ob.name], .int .i64 c0, .pointer (some ⟨Bx, 0, none⟩), .int .i64 x.ver, .bool (c0 == x.ver), .bool (c0 == x.ver)].getD i undef) (l.setIfInBounds 6 true) = K
        go_simp
        rw [← hK]
        refine KInv.step (t := t) hls ht bB 6 (by decide) ?_
        simp [upd, e5, e3]
      · simp only [List.getElem?_toArray, List.getElem?_cons_succ, List.getElem?_cons_zero, Option.some.injEq] at ho
        subst ho
        have e6 : t 6 = .agg #[.string x.ob.kind, .string x.ob.name, .int .i64 x.ob.ver, .int .i64 x.ob.born, .string x.ob.text, .bool x.ob.ending, .slice A x.ob.hn C] := ht 6 (by decide) (hdep ⟨6, .data⟩ (by simp) rfl)
        have e3 : t 3 = .bool true := ht 3 (by decide) (hdep ⟨3, .guard⟩ (by simp) rfl)
        clear hdep
        refine wpOpIn_yes rfl (by simp [Region.wanted, yielded, e3]) ?_
        generalize hK : KInv (fun t : Nat → Value => #[p0, p1, p2, p3, p4, p5, p6, .pointer (some ⟨Bm, 0, none⟩), p8, .pointer (some ⟨Bx, 0, none⟩), p10, p11, p12, p13, p14, p15, p16, p17, p18, p19, p20, p21, p22, p23, p24, p25, p26, p27, p28, p29, p30, p31, p32, p33, p34, p35, p36, p37, p38, t 0, t 1, t 2, t 3, t 4, t 5, t 6, t 7, t 8, t 9, t 10, t 11, t 12, undef, undef, undef, undef, undef, undef, undef, undef, undef, undef, undef, undef, undef, undef, undef, undef]) 13 W (fun i => [.pointer (some ⟨Bx, 1, none⟩), .bool false, .bool true, .bool true, .map (some M), .pointer (some ⟨Bx, 2, none⟩), .agg #[.string x.ob.kind, .string x.ob.name, .int .i64 x.ob.ver, .int .i64 x.ob.born, .string x.ob.text, .bool x.ob.ending, .slice A x.ob.hn C], .agg #[.string x.ob.kind, .string x.ob.name], .int .i64 c0, .pointer (some ⟨Bx, 0, none⟩), .int .i64 x.ver, .bool (c0 == x.ver), .bool (c0 == x.ver)].getD i undef) (l.setIfInBounds 7 true) = K
        go_simp
        refine (hkc _).mono ?_
        rintro e w5 ⟨rfl, k4⟩
        have bB5 : Below W.heap.size W w5 := bB.trans (k4.mono bB.size)
        rw [← hK]
        refine KInv.step (t := t) hls ht bB5 7 (by decide) ?_
        simp [upd, e6, e3]
      · simp only [List.getElem?_toArray, List.getElem?_cons_succ, List.getElem?_cons_zero, Option.some.injEq] at ho
        subst ho
        have e4 : t 4 = .map (some M) := ht 4 (by decide) (hdep ⟨4, .data⟩ (by simp) rfl)
        have e7 : t 7 = .agg #[.string x.ob.kind, .string x.ob.name] := ht 7 (by decide) (hdep ⟨7, .data⟩ (by simp) rfl)
        have e3 : t 3 = .bool true := ht 3 (by decide) (hdep ⟨3, .guard⟩ (by simp) rfl)
        clear hdep
        refine wpOpIn_yes rfl (by simp [Region.wanted, yielded, e3]) ?_
        generalize hK : KInv (fun t : Nat → Value => #[p0, p1, p2, p3, p4, p5, p6, .pointer (some ⟨Bm, 0, none⟩), p8, .pointer (some ⟨Bx, 0, none⟩), p10, p11, p12, p13, p14, p15, p16, p17, p18, p19, p20, p21, p22, p23, p24, p25, p26, p27, p28, p29, p30, p31, p32, p33, p34, p35, p36, p37, p38, t 0, t 1, t 2, t 3, t 4, t 5, t 6, t 7, t 8, t 9, t 10, t 11, t 12, undef, undef, undef, undef, undef, undef, undef, undef, undef, undef, undef, undef, undef, undef, undef, undef]) 13 W (fun i => [.pointer (some ⟨Bx, 1, none⟩), .bool false, .bool true, .bool true, .map (some M), .pointer (some ⟨Bx, 2, none⟩), .agg #[.string x.ob.kind, .string x.ob.name, .int .i64 x.ob.ver, .int .i64 x.ob.born, .string x.ob.text, .bool x.ob.ending, .slice A x.ob.hn C], .agg #[.string x.ob.kind, .string x.ob.name], .int .i64 c0, .pointer (some ⟨Bx, 0, none⟩), .int .i64 x.ver, .bool (c0 == x.ver), .bool (c0 == x.ver)].getD i undef) (l.setIfInBounds 8 true) = K
        refine operIn_lookup_own_int _ _ 94 rfl 98 3 .i64 Tryz.law98 Tryz.underlying94 Tryz.underlying3 (zero3 _) M N D (by simp [Act.eval, e4]) (ownsMap_below hown bB hown.lt) _ _ (by simp only [Act.eval]; exact e7) hky c0 hc0 ?_
        rw [← hK]
        refine KInv.step (t := t) hls ht bB 8 (by decide) ?_
        simp [upd, Act.put]
      · simp only [List.getElem?_toArray, List.getElem?_cons_succ, List.getElem?_cons_zero, Option.some.injEq] at ho
        subst ho
        have e3 : t 3 = .bool true := ht 3 (by decide) (hdep ⟨3, .guard⟩ (by simp) rfl)
        clear hdep
        refine wpOpIn_yes rfl (by simp [Region.wanted, yielded, e3]) ?_
        generalize hK : KInv (fun t : Nat → Value => #[p0, p1, p2, p3, p4, p5, p6, .pointer (some ⟨Bm, 0, none⟩), p8, .pointer (some ⟨Bx, 0, none⟩), p10, p11, p12, p13, p14, p15, p16, p17, p18, p19, p20, p21, p22, p23, p24, p25, p26, p27, p28, p29, p30, p31, p32, p33, p34, p35, p36, p37, p38, t 0, t 1, t 2, t 3, t 4, t 5, t 6, t 7, t 8, t 9, t 10, t 11, t 12, undef, undef, undef, undef, undef, undef, undef, undef, undef, undef, undef, undef, undef, undef, undef, undef]) 13 W (fun i => [.pointer (some ⟨Bx, 1, none⟩), .bool false, .bool true, .bool true, .map (some M), .pointer (some ⟨Bx, 2, none⟩), .agg #[.string x.ob.kind, .string x.ob.name, .int .i64 x.ob.ver, .int .i64 x.ob.born, .string x.ob.text, .bool x.ob.ending, .slice A x.ob.hn C], .agg #[.string x.ob.kind, .string x.ob.name], .int .i64 c0, .pointer (some ⟨Bx, 0, none⟩), .int .i64 x.ver, .bool (c0 == x.ver), .bool (c0 == x.ver)].getD i undef) (l.setIfInBounds 9 true) = K
        go_simp
        rw [← hK]
        refine KInv.step (t := t) hls ht bB 9 (by decide) ?_
        simp [upd, e3]
      · simp only [List.getElem?_toArray, List.getElem?_cons_succ, List.getElem?_cons_zero, Option.some.injEq] at ho
        subst ho
        have e9 : t 9 = .pointer (some ⟨Bx, 0, none⟩) := ht 9 (by decide) (hdep ⟨9, .data⟩ (by simp) rfl)
        have e3 : t 3 = .bool true := ht 3 (by decide) (hdep ⟨3, .guard⟩ (by simp) rfl)
        clear hdep
        have hX2 := hX.below bB (by exact zBx)
        have x0 := hX2 0; have x1 := hX2 1; have x2 := hX2 2; have x3 := hX2 3; have x4 := hX2 4; have x5 := hX2 5; have x6 := hX2 6; have x7 := hX2 7; have x8 := hX2 8
        simp only [List.getElem?_toArray, List.getElem?_cons_succ, List.getElem?_cons_zero] at x0 x1 x2 x3 x4 x5 x6 x7 x8
        refine wpOpIn_yes rfl (by simp [Region.wanted, yielded, e3]) ?_
        generalize hK : KInv (fun t : Nat → Value => #[p0, p1, p2, p3, p4, p5, p6, .pointer (some ⟨Bm, 0, none⟩), p8, .pointer (some ⟨Bx, 0, none⟩), p10, p11, p12, p13, p14, p15, p16, p17, p18, p19, p20, p21, p22, p23, p24, p25, p26, p27, p28, p29, p30, p31, p32, p33, p34, p35, p36, p37, p38, t 0, t 1, t 2, t 3, t 4, t 5, t 6, t 7, t 8, t 9, t 10, t 11, t 12, undef, undef, undef, undef, undef, undef, undef, undef, undef, undef, undef, undef, undef, undef, undef, undef]) 13 W (fun i => [.pointer (some ⟨Bx, 1, none⟩), .bool false, .bool true, .bool true, .map (some M), .pointer (some ⟨Bx, 2, none⟩), .agg #[.string x.ob.kind, .string x.ob.name, .int .i64 x.ob.ver, .int .i64 x.ob.born, .string x.ob.text, .bool x.ob.ending, .slice A x.ob.hn C], .agg #[.string x.ob.kind, .string x.ob.name], .int .i64 c0, .pointer (some ⟨Bx, 0, none⟩), .int .i64 x.ver, .bool (c0 == x.ver), .bool (c0 == x.ver)].getD i undef) (l.setIfInBounds 10 true) = K
        go_simp
        rw [← hK]
        refine KInv.step (t := t) hls ht bB 10 (by decide) ?_
        simp [upd, e9, e3]
      · simp only [List.getElem?_toArray, List.getElem?_cons_succ, List.getElem?_cons_zero, Option.some.injEq] at ho
        subst ho
        have e8 : t 8 = .int .i64 c0 := ht 8 (by decide) (hdep ⟨8, .data⟩ (by simp) rfl)
        have e10 : t 10 = .int .i64 x.ver := ht 10 (by decide) (hdep ⟨10, .data⟩ (by simp) rfl)
        have e3 : t 3 = .bool true := ht 3 (by decide) (hdep ⟨3, .guard⟩ (by simp) rfl)
        clear hdep
        refine wpOpIn_yes rfl (by simp [Region.wanted, yielded, e3]) ?_
        generalize hK : KInv (fun t : Nat → Value => #[p0, p1, p2, p3, p4, p5, p6, .pointer (some ⟨Bm, 0, none⟩), p8, .pointer (some ⟨Bx, 0, none⟩), p10, p11, p12, p13, p14, p15, p16, p17, p18, p19, p20, p21, p22, p23, p24, p25, p26, p27, p28, p29, p30, p31, p32, p33, p34, p35, p36, p37, p38, t 0, t 1, t 2, t 3, t 4, t 5, t 6, t 7, t 8, t 9, t 10, t 11, t 12, undef, undef, undef, undef, undef, undef, undef, undef, undef, undef, undef, undef, undef, undef, undef, undef]) 13 W (fun i => [.pointer (some ⟨Bx, 1, none⟩), .bool false, .bool true, .bool true, .map (some M), .pointer (some ⟨Bx, 2, none⟩), .agg #[.string x.ob.kind, .string x.ob.name, .int .i64 x.ob.ver, .int .i64 x.ob.born, .string x.ob.text, .bool x.ob.ending, .slice A x.ob.hn C], .agg #[.string x.ob.kind, .string x.ob.name], .int .i64 c0, .pointer (some ⟨Bx, 0, none⟩), .int .i64 x.ver, .bool (c0 == x.ver), .bool (c0 == x.ver)].getD i undef) (l.setIfInBounds 11 true) = K
        go_simp
        rw [← hK]
        refine KInv.step (t := t) hls ht bB 11 (by decide) ?_
        simp [upd, e8, e10, e3]
      · simp only [List.getElem?_toArray, List.getElem?_cons_succ, List.getElem?_cons_zero, Option.some.injEq] at ho
        subst ho
        have e3 : t 3 = .bool true := ht 3 (by decide) (hdep ⟨3, .data⟩ (by simp) rfl)
        have e11 : t 11 = .bool (c0 == x.ver) := ht 11 (by decide) (hdep ⟨11, .data⟩ (by simp) rfl)
        clear hdep
        refine wpOpIn_of rfl rfl ?_
        generalize hK : KInv (fun t : Nat → Value => #[p0, p1, p2, p3, p4, p5, p6, .pointer (some ⟨Bm, 0, none⟩), p8, .pointer (some ⟨Bx, 0, none⟩), p10, p11, p12, p13, p14, p15, p16, p17, p18, p19, p20, p21, p22, p23, p24, p25, p26, p27, p28, p29, p30, p31, p32, p33, p34, p35, p36, p37, p38, t 0, t 1, t 2, t 3, t 4, t 5, t 6, t 7, t 8, t 9, t 10, t 11, t 12, undef, undef, undef, undef, undef, undef, undef, undef, undef, undef, undef, undef, undef, undef, undef, undef]) 13 W (fun i => [.pointer (some ⟨Bx, 1, none⟩), .bool false, .bool true, .bool true, .map (some M), .pointer (some ⟨Bx, 2, none⟩), .agg #[.string x.ob.kind, .string x.ob.name, .int .i64 x.ob.ver, .int .i64 x.ob.born, .string x.ob.text, .bool x.ob.ending, .slice A x.ob.hn C], .agg #[.string x.ob.kind, .string x.ob.name], .int .i64 c0, .pointer (some ⟨Bx, 0, none⟩), .int .i64 x.ver, .bool (c0 == x.ver), .bool (c0 == x.ver)].getD i undef) (l.setIfInBounds 12 true) = K
        go_simp
        rw [← hK]
        refine KInv.step (t := t) hls ht bB 12 (by decide) ?_
        simp [upd, e3, e11]
end Go.Proofs.YtkecnaaacbckoaaGreat
namespace Go.Proofs.YtkecnaaacbckoaaGreat
open Go.RowKit Go.Shelf
attribute [local go_sem] Oper.semAt_some
theorem BdOb.frB {w : World} {base : Nat} {v : Value} {k : Nat} {x : Nat → Ob} {A : Nat → Option Addr} {C hb : Nat → Nat} {w' : World} {P : Nat → Prop} (h : BdOb w base v k x A C hb) (hf : FrP P w w') (hr : ∀ g, v.ownBlock = some g → ¬ P g) (hh : ∀ i, i < k → (x i).hn ≠ 0 → ¬ P (hb i)) : BdOb w' base v k x A C hb :=
  ⟨by obtain ⟨c, r, e⟩ := h.row; exact ⟨c, ownsRow_fr r hf hr, e⟩, fun i hi => (h.hold i hi).frP hf (fun h0 => ⟨hh i hi h0, (h.hlt i hi h0).2⟩), fun i hi h0 => ⟨(h.hlt i hi h0).1, Nat.lt_of_lt_of_le (h.hlt i hi h0).2 hf.size⟩, h.ne, h.inj⟩
/-- a list that is built, and where its blocks lie -/
structure BdP (P : Nat → Prop) (w : World) (base : Nat) (v : Value) (k : Nat) (x : Nat → Ob) (A : Nat → Option Addr) (C hb : Nat → Nat) : Prop where
  bd : BdOb w base v k x A C hb
  pr : ∀ q, v.ownBlock = some q → P q
  ph : ∀ i, i < k → (x i).hn ≠ 0 → P (hb i)
theorem BdP.fr {P Q : Nat → Prop} {w : World} {base : Nat} {v : Value} {k : Nat} {x : Nat → Ob} {A : Nat → Option Addr} {C hb : Nat → Nat} {w' : World} (h : BdP P w base v k x A C hb) (hf : FrP Q w w') (hp : ∀ q, P q → ¬ Q q) : BdP P w' base v k x A C hb :=
  ⟨h.bd.frB hf (fun q hq => hp q (h.pr q hq)) (fun i hi h0 => hp _ (h.ph i hi h0)), h.pr, h.ph⟩
theorem BdP.grow {P : Nat → Prop} {w : World} {base : Nat} {v : Value} {k : Nat} {x : Nat → Ob} {A : Nat → Option Addr} {C hb : Nat → Nat} {w' : World} (h : BdP P w base v k x A C hb) (hf : Below w.heap.size w w') : BdP P w' base v k x A C hb := ⟨h.bd.grow hf, h.pr, h.ph⟩
theorem BdP.turn {P : Nat → Prop} {w : World} {base : Nat} {v : Value} {k : Nat} {x : Nat → Ob} {A : Nat → Option Addr} {C hb : Nat → Nat} {w' : World} {row : Option Nat} (h : BdP P w base v k x A C hb) (hg : w.grownBy w' row) (hr : ∀ r, row = some r → ∃ o : Obj, w.heap[r]? = some o ∧ o.isCells = false) : BdP P w' base v k x A C hb := ⟨h.bd.turn hg hr, h.pr, h.ph⟩
def SInv (mk : Value → Value → Value → Value → Value → Value → Array Value) (Bx Bl : Nat) (Mid : World → Value → Prop) (W : World) (x : Nat → Ob) (k : Nat) (v : Value) (ah : Option Addr) (ch : Nat) (l : Array Bool) (a : Act) (w' : World) : Prop :=
  ∃ (t0 t1 t2 t3 t4 t5 : Value) (w1 w2 : World) (ad' : Option Addr) (cap' b' : Nat) (v' : Value), a = ⟨mk t0 t1 t2 t3 t4 t5, []⟩ ∧ l.size = 7 ∧
    (l.getD 2 false = true → l.getD 1 false = true) ∧ (l.getD 3 false = true → l.getD 2 false = true) ∧ (l.getD 4 false = true → l.getD 3 false = true) ∧ (l.getD 5 false = true → l.getD 4 false = true) ∧ (l.getD 5 false = true → l.getD 0 false = true) ∧ (l.getD 6 false = true → l.getD 5 false = true) ∧
    (l.getD 0 false = true → t0 = v) ∧ (l.getD 1 false = true → t1 = .pointer (some ⟨Bx, 2, none⟩)) ∧ (l.getD 2 false = true → t2 = obV (x k) ah ch) ∧ (l.getD 3 false = false → w' = W.drew) ∧
    (l.getD 3 false = true → t3 = obV (x k) ad' cap' ∧ Below W.heap.size W w1 ∧ W.heap.size ≤ b' ∧ ((x k).hn ≠ 0 → b' < w1.heap.size) ∧ StrsOwn w1 b' (b' + 1) ad' (x k).hn (x k).hs) ∧
    (l.getD 3 false = true → l.getD 4 false = false → w' = w1) ∧
    (l.getD 4 false = true → t4 = .slice (some ⟨w1.heap.size, 0, none⟩) 1 1) ∧
    (l.getD 4 false = true → l.getD 5 false = false → w' = w1.alloc (.cells #[.string (x k).kind, .string (x k).name, .int .i64 (x k).ver, .int .i64 (x k).born, .string (x k).text, .bool (x k).ending, .slice ad' (x k).hn cap'] 73)) ∧
    (l.getD 5 false = true → t5 = v' ∧ Mid w2 v' ∧ Boxed w2 Bl 28 v) ∧
    (l.getD 5 false = true → l.getD 6 false = false → w' = w2) ∧
    (l.getD 6 false = true → w' = w2.setCell ⟨Bl, 0, none⟩ v')
set_option maxRecDepth 100000 in
set_option maxHeartbeats 4000000 in
theorem app9_in (F : Fence) (l0 n : Nat) (h32 : F.fn 64) (h1 : 1 ≤ n) (p0 p1 p2 p3 p4 p5 p6 p7 p10 p11 p12 p13 p14 p15 p16 p17 p18 p19 p20 p21 p22 p23 p24 p25 p26 p27 p28 p29 p30 p31 p32 p33 p34 p35 p36 p37 p38 p39 p40 p41 p42 p43 p44 p45 p46 p47 p48 p49 p50 p51 : Value) (Bx Bl base : Nat) (P Pk : Nat → Prop) (L : List Nat) (k : Nat) (x : Nat → Ob) (v : Value) (ah : Option Addr) (ch : Nat) (A : Nat → Option Addr) (C hb : Nat → Nat) (W : World) (hln : L.length < 1048576) (hbW : base ≤ W.heap.size)
    (hcp : ∀ w : World, Below W.heap.size W w → CallsIn (F.inRound l0) (n - 1) Tryz.prog 64 #[.agg #[.string (x k).kind, .string (x k).name, .int .i64 (x k).ver, .int .i64 (x k).born, .string (x k).text, .bool (x k).ending, .slice ah (x k).hn ch]] w fun e w' => ∃ ad' cap' b, e = .returned (.agg #[.string (x k).kind, .string (x k).name, .int .i64 (x k).ver, .int .i64 (x k).born, .string (x k).text, .bool (x k).ending, .slice ad' (x k).hn cap']) ∧ w.heap.size ≤ b ∧ ((x k).hn ≠ 0 → b < w'.heap.size) ∧ StrsOwn w' b (b + 1) ad' (x k).hn (x k).hs ∧ Below w.heap.size w w')
    (hX : W.cell? ⟨Bx, 2, none⟩ = some (.string (x k).kind) ∧ W.cell? ⟨Bx, 3, none⟩ = some (.string (x k).name) ∧ W.cell? ⟨Bx, 4, none⟩ = some (.int .i64 (x k).ver) ∧ W.cell? ⟨Bx, 5, none⟩ = some (.int .i64 (x k).born) ∧ W.cell? ⟨Bx, 6, none⟩ = some (.string (x k).text) ∧ W.cell? ⟨Bx, 7, none⟩ = some (.bool (x k).ending) ∧ W.cell? ⟨Bx, 8, none⟩ = some (.slice ah (x k).hn ch))
    (bV : Boxed W Bl 28 v) (bd : BdP P W base v L.length (pick x L) A C hb) (hPl : ¬ P Bl) (hPn : ∀ q, W.heap.size ≤ q → P q) (hPk : ∀ q, v.ownBlock = some q → Pk q) (hPb : Pk Bl) (Q : Exit → Act → World → Prop)
    (hQ : ∀ t0 t1 t2 t3 t4 v' A2 C2 h2 w', BdP P w' base v' (L ++ [k]).length (pick x (L ++ [k])) A2 C2 h2 → Boxed w' Bl 28 v' → KeepsOthers W w' → FrP Pk W w' → Q .normal ⟨#[p0, p1, p2, p3, p4, p5, p6, p7, .pointer (some ⟨Bl, 0, none⟩), .pointer (some ⟨Bx, 0, none⟩), p10, p11, p12, p13, p14, p15, p16, p17, p18, p19, p20, p21, p22, p23, p24, p25, p26, p27, p28, p29, p30, p31, p32, p33, p34, p35, p36, p37, p38, p39, p40, p41, p42, p43, p44, p45, p46, p47, p48, p49, p50, p51, t0, t1, t2, t3, t4, v', undef, undef, undef, undef, undef, undef, undef, undef, undef, undef], []⟩ w') :
    Code.wpIn (F.inRound l0) n Tryz.prog (Code.region 9 #[{ dst := some 52, op := Op.load 28 (Operand.tmp 8), type := 28, pos := "l5_book_history.go:36", after := #[], guard := none }, { dst := some 53, op := Op.fieldAddr 75 (Operand.tmp 9) 2, type := 0, pos := "l5_book_history.go:36", after := #[], guard := none }, { dst := some 54, op := Op.load 73 (Operand.tmp 53), type := 73, pos := "l5_book_history.go:36", after := #[{ on := 1, ground := Ground.data }], guard := none }, { dst := some 55, op := Op.call { callee := Callee.value (Operand.func 64), args := #[Operand.tmp 54], argTypes := #[73] }, type := 73, pos := "l5_book_history.go:36", after := #[{ on := 2, ground := Ground.data }], guard := none }, { dst := some 56, op := Op.buildSlice 28 1 #[(0, Operand.tmp 55)], type := 28, pos := "l5_book_history.go:36", after := #[{ on := 3, ground := Ground.data }], guard := none }, { dst := some 57, op := Op.call { callee := Callee.builtin Builtin.append, args := #[Operand.tmp 52, Operand.tmp 56], argTypes := #[28, 28] }, type := 28, pos := "l5_book_history.go:36", after := #[{ on := 0, ground := Ground.data }, { on := 4, ground := Ground.data }, { on := 3, ground := Ground.chain }], guard := none }, { dst := none, op := Op.store 28 (Operand.tmp 8) (Operand.tmp 57), type := 0, pos := "l5_book_history.go:36", after := #[{ on := 5, ground := Ground.data }, { on := 5, ground := Ground.chain }, { on := 0, ground := Ground.phase }, { on := 1, ground := Ground.phase }, { on := 2, ground := Ground.phase }, { on := 3, ground := Ground.phase }, { on := 4, ground := Ground.phase }, { on := 5, ground := Ground.phase }], guard := none }] true) Q ⟨#[p0, p1, p2, p3, p4, p5, p6, p7, .pointer (some ⟨Bl, 0, none⟩), .pointer (some ⟨Bx, 0, none⟩), p10, p11, p12, p13, p14, p15, p16, p17, p18, p19, p20, p21, p22, p23, p24, p25, p26, p27, p28, p29, p30, p31, p32, p33, p34, p35, p36, p37, p38, p39, p40, p41, p42, p43, p44, p45, p46, p47, p48, p49, p50, p51, undef, undef, undef, undef, undef, undef, undef, undef, undef, undef, undef, undef, undef, undef, undef, undef], []⟩ W := by
  obtain ⟨i0, hi0, hz0, hz1, hz2⟩ := info_parts Tryz.info73
  obtain ⟨x2, x3, x4, x5, x6, x7, x8⟩ := hX
  obtain ⟨Mid, hMid⟩ : ∃ Mid : World → Value → Prop, Mid = fun w4 v' => ∃ A2 C2 h2, BdP P w4 base v' (L ++ [k]).length (pick x (L ++ [k])) A2 C2 h2 ∧ KeepsOthers W w4 ∧ FrP Pk W w4 := ⟨_, rfl⟩
  refine wpIn_region_inv (by kernel_rfl) (SInv (fun t0 t1 t2 t3 t4 t5 => #[p0, p1, p2, p3, p4, p5, p6, p7, .pointer (some ⟨Bl, 0, none⟩), .pointer (some ⟨Bx, 0, none⟩), p10, p11, p12, p13, p14, p15, p16, p17, p18, p19, p20, p21, p22, p23, p24, p25, p26, p27, p28, p29, p30, p31, p32, p33, p34, p35, p36, p37, p38, p39, p40, p41, p42, p43, p44, p45, p46, p47, p48, p49, p50, p51, t0, t1, t2, t3, t4, t5, undef, undef, undef, undef, undef, undef, undef, undef, undef, undef]) Bx Bl Mid W x k v ah ch) ?_ ?_ ?_ ?_
  · refine ⟨_, _, _, _, _, _, W, W, none, 0, 0, v, rfl, by simp, ?_⟩
    simp
  · intro l a w' hI
    obtain ⟨t0, t1, t2, t3, t4, t5, w3, w4, ad2, cap2, b2, v2, rfl, hls, _⟩ := hI
    exact hls
  · intro l a w' hI hr'
    obtain ⟨t0, t1, t2, t3, t4, t5, w3, w4, ad2, cap2, b2, v2, rfl, hls, n21, n32, n43, n54, n50, n65, f0, f1, f2, g0, f3, g1, f4, g2, f5, g4, g5⟩ := hI
    have AL := all_listed (by kernel_rfl) (by rw [hls]; rfl) hr'
    obtain rfl := g5 (AL 6 (by decide))
    obtain ⟨rfl, j1, j2⟩ := f5 (AL 5 (by decide))
    rw [hMid] at j1
    obtain ⟨A2, C2, h2, j3, j4, j5⟩ := j1
    exact hQ t0 t1 t2 t3 t4 t5 A2 C2 h2 _ (j3.fr (Q := fun q => q = Bl) (FrP.setCell (P := fun q => q = Bl) (FrP.refl _ _) (p := ⟨Bl, 0, none⟩) (by rfl) _) (fun q hq e => hPl (e ▸ hq))) (j2.set _) (j4.trans (KeepsOthers.setCell _ _ _)) (j5.trans ((FrP.refl _ _).setCell (p := ⟨Bl, 0, none⟩) hPb _))
  · intro l a w' i' hI hr'
    obtain ⟨t0, t1, t2, t3, t4, t5, w3, w4, ad2, cap2, b2, v2, rfl, hls, n21, n32, n43, n54, n50, n65, f0, f1, f2, g0, f3, g1, f4, g2, f5, g4, g5⟩ := hI
    obtain ⟨hu', o', ho, hdep⟩ := mem_ready.1 hr'
    have hi16 : i' < 7 := by
      rcases Nat.lt_or_ge i' 7 with h | h
      · exact h
      · rw [Array.getElem?_eq_none (by simpa using h)] at ho
        cases ho
    have kp : ∀ j, ¬ j = i' → (l.setIfInBounds i' true).getD j false = l.getD j false := fun j hj => by rw [getD_set (by omega), if_neg hj]
    have ki' : (l.setIfInBounds i' true).getD i' false = true := by rw [getD_set (by omega), if_pos rfl]
    have hsz' : (l.setIfInBounds i' true).size = 7 := by simp [hls]
    have hui : l.getD i' false = false := by simpa [Array.getD, hls, hi16] using hu'
    clear hr' hu'
    rcases (show i' = 0 ∨ i' = 1 ∨ i' = 2 ∨ i' = 3 ∨ i' = 4 ∨ i' = 5 ∨ i' = 6 by omega) with rfl | rfl | rfl | rfl | rfl | rfl | rfl
    · simp only [List.getElem?_toArray, List.getElem?_cons_zero, Option.some.injEq] at ho
      subst ho
      clear hdep
      have l5 := listed_no n50 hui
      have hcl : w'.cell? ⟨Bl, 0, none⟩ = some v := by
        cases e4 : l.getD 4 false with
        | true =>
          rw [g2 e4 l5]
          exact ((Boxed.of_below bV (f3 (n43 e4)).2.1).alloc _).cell
        | false =>
          cases e3 : l.getD 3 false with
          | true => rw [g1 e3 e4]; exact (Boxed.of_below bV (f3 e3).2.1).cell
          | false => rw [g0 e3]; exact bV.cell
      refine wpOpIn_of rfl rfl ?_
      generalize hK : SInv (fun t0 t1 t2 t3 t4 t5 => #[p0, p1, p2, p3, p4, p5, p6, p7, .pointer (some ⟨Bl, 0, none⟩), .pointer (some ⟨Bx, 0, none⟩), p10, p11, p12, p13, p14, p15, p16, p17, p18, p19, p20, p21, p22, p23, p24, p25, p26, p27, p28, p29, p30, p31, p32, p33, p34, p35, p36, p37, p38, p39, p40, p41, p42, p43, p44, p45, p46, p47, p48, p49, p50, p51, t0, t1, t2, t3, t4, t5, undef, undef, undef, undef, undef, undef, undef, undef, undef, undef]) Bx Bl Mid W x k v ah ch (l.setIfInBounds 0 true) = K
      go_simp
      rw [← hK]
      exact ⟨_, t1, t2, t3, t4, t5, w3, w4, ad2, cap2, b2, v2, rfl, hsz', (by rw [kp 2 (by decide), kp 1 (by decide)]; exact n21), (by rw [kp 3 (by decide), kp 2 (by decide)]; exact n32), (by rw [kp 4 (by decide), kp 3 (by decide)]; exact n43), (by rw [kp 5 (by decide), kp 4 (by decide)]; exact n54), (fun _ => ki'), (by rw [kp 6 (by decide), kp 5 (by decide)]; exact n65), (fun _ => rfl), (by rw [kp 1 (by decide)]; exact f1), (by rw [kp 2 (by decide)]; exact f2), (by rw [kp 3 (by decide)]; exact g0), (by rw [kp 3 (by decide)]; exact f3), (by rw [kp 3 (by decide), kp 4 (by decide)]; exact g1), (by rw [kp 4 (by decide)]; exact f4), (by rw [kp 4 (by decide), kp 5 (by decide)]; exact g2), (by rw [kp 5 (by decide)]; exact f5), (by rw [kp 5 (by decide), kp 6 (by decide)]; exact g4), (by rw [kp 6 (by decide)]; exact g5)⟩
    · simp only [List.getElem?_toArray, List.getElem?_cons_succ, List.getElem?_cons_zero, Option.some.injEq] at ho
      subst ho
      clear hdep
      have l3 := listed_no n32 (listed_no n21 hui)
      obtain rfl := g0 l3
      refine wpOpIn_of rfl rfl ?_
      generalize hK : SInv (fun t0 t1 t2 t3 t4 t5 => #[p0, p1, p2, p3, p4, p5, p6, p7, .pointer (some ⟨Bl, 0, none⟩), .pointer (some ⟨Bx, 0, none⟩), p10, p11, p12, p13, p14, p15, p16, p17, p18, p19, p20, p21, p22, p23, p24, p25, p26, p27, p28, p29, p30, p31, p32, p33, p34, p35, p36, p37, p38, p39, p40, p41, p42, p43, p44, p45, p46, p47, p48, p49, p50, p51, t0, t1, t2, t3, t4, t5, undef, undef, undef, undef, undef, undef, undef, undef, undef, undef]) Bx Bl Mid W x k v ah ch (l.setIfInBounds 1 true) = K
      go_simp
      rw [← hK]
      exact ⟨t0, _, t2, t3, t4, t5, w3, w4, ad2, cap2, b2, v2, rfl, hsz', (fun _ => ki'), (by rw [kp 3 (by decide), kp 2 (by decide)]; exact n32), (by rw [kp 4 (by decide), kp 3 (by decide)]; exact n43), (by rw [kp 5 (by decide), kp 4 (by decide)]; exact n54), (by rw [kp 5 (by decide), kp 0 (by decide)]; exact n50), (by rw [kp 6 (by decide), kp 5 (by decide)]; exact n65), (by rw [kp 0 (by decide)]; exact f0), (fun _ => rfl), (by rw [kp 2 (by decide)]; exact f2), (by rw [kp 3 (by decide)]; exact g0), (by rw [kp 3 (by decide)]; exact f3), (by rw [kp 3 (by decide), kp 4 (by decide)]; exact g1), (by rw [kp 4 (by decide)]; exact f4), (by rw [kp 4 (by decide), kp 5 (by decide)]; exact g2), (by rw [kp 5 (by decide)]; exact f5), (by rw [kp 5 (by decide), kp 6 (by decide)]; exact g4), (by rw [kp 6 (by decide)]; exact g5)⟩
    · simp only [List.getElem?_toArray, List.getElem?_cons_succ, List.getElem?_cons_zero, Option.some.injEq] at ho
      subst ho
      have q1 : l.getD 1 false = true := hdep ⟨1, .data⟩ (by simp) rfl
      clear hdep
      have l3 := listed_no n32 hui
      obtain rfl := g0 l3
      obtain rfl := f1 q1
      refine wpOpIn_of rfl rfl ?_
      generalize hK : SInv (fun t0 t1 t2 t3 t4 t5 => #[p0, p1, p2, p3, p4, p5, p6, p7, .pointer (some ⟨Bl, 0, none⟩), .pointer (some ⟨Bx, 0, none⟩), p10, p11, p12, p13, p14, p15, p16, p17, p18, p19, p20, p21, p22, p23, p24, p25, p26, p27, p28, p29, p30, p31, p32, p33, p34, p35, p36, p37, p38, p39, p40, p41, p42, p43, p44, p45, p46, p47, p48, p49, p50, p51, t0, t1, t2, t3, t4, t5, undef, undef, undef, undef, undef, undef, undef, undef, undef, undef]) Bx Bl Mid W x k v ah ch (l.setIfInBounds 2 true) = K
      go_simp
      rw [← hK]
      exact ⟨t0, _, _, t3, t4, t5, w3, w4, ad2, cap2, b2, v2, rfl, hsz', (fun _ => by rw [kp 1 (by decide)]; exact q1), (fun _ => ki'), (by rw [kp 4 (by decide), kp 3 (by decide)]; exact n43), (by rw [kp 5 (by decide), kp 4 (by decide)]; exact n54), (by rw [kp 5 (by decide), kp 0 (by decide)]; exact n50), (by rw [kp 6 (by decide), kp 5 (by decide)]; exact n65), (by rw [kp 0 (by decide)]; exact f0), (by rw [kp 1 (by decide)]; exact f1), (fun _ => rfl), (by rw [kp 3 (by decide)]; exact g0), (by rw [kp 3 (by decide)]; exact f3), (by rw [kp 3 (by decide), kp 4 (by decide)]; exact g1), (by rw [kp 4 (by decide)]; exact f4), (by rw [kp 4 (by decide), kp 5 (by decide)]; exact g2), (by rw [kp 5 (by decide)]; exact f5), (by rw [kp 5 (by decide), kp 6 (by decide)]; exact g4), (by rw [kp 6 (by decide)]; exact g5)⟩
    · simp only [List.getElem?_toArray, List.getElem?_cons_succ, List.getElem?_cons_zero, Option.some.injEq] at ho
      subst ho
      have q2 : l.getD 2 false = true := hdep ⟨2, .data⟩ (by simp) rfl
      clear hdep
      obtain rfl := f2 q2
      obtain rfl := f1 (n21 q2)
      obtain rfl := g0 hui
      have l4 := listed_no n43 hui
      have l5 := listed_no n54 l4
      have l6 := listed_no n65 l5
      refine wpOpIn_of rfl rfl ?_
      generalize hK : SInv (fun t0 t1 t2 t3 t4 t5 => #[p0, p1, p2, p3, p4, p5, p6, p7, .pointer (some ⟨Bl, 0, none⟩), .pointer (some ⟨Bx, 0, none⟩), p10, p11, p12, p13, p14, p15, p16, p17, p18, p19, p20, p21, p22, p23, p24, p25, p26, p27, p28, p29, p30, p31, p32, p33, p34, p35, p36, p37, p38, p39, p40, p41, p42, p43, p44, p45, p46, p47, p48, p49, p50, p51, t0, t1, t2, t3, t4, t5, undef, undef, undef, undef, undef, undef, undef, undef, undef, undef]) Bx Bl Mid W x k v ah ch (l.setIfInBounds 3 true) = K
      unfold obV
      go_simp
      refine (hcp _ ((Below.refl _ W).drew)).mono ?_
      rintro e w5 ⟨ad5, cap5, b5, rfl, k1, k2, k3, k4⟩
      rw [← hK]
      exact ⟨t0, _, _, _, t4, t5, w5, w5, ad5, cap5, b5, v2, rfl, hsz', (by rw [kp 2 (by decide), kp 1 (by decide)]; exact n21), (fun _ => by rw [kp 2 (by decide)]; exact q2), (fun _ => ki'), (by rw [kp 5 (by decide), kp 4 (by decide)]; exact n54), (by rw [kp 5 (by decide), kp 0 (by decide)]; exact n50), (by rw [kp 6 (by decide), kp 5 (by decide)]; exact n65), (by rw [kp 0 (by decide)]; exact f0), (by rw [kp 1 (by decide)]; exact f1), (by rw [kp 2 (by decide)]; exact f2), (fun h => absurd (ki'.symm.trans h) (by decide)), (fun _ => ⟨rfl, ((Below.refl _ W).drew).trans k4, k1, k2, k3⟩), (fun _ _ => rfl), (fun h => by rw [kp 4 (by decide), l4] at h; cases h), (fun h => by rw [kp 4 (by decide), l4] at h; cases h), (fun h => by rw [kp 5 (by decide), l5] at h; cases h), (fun h => by rw [kp 5 (by decide), l5] at h; cases h), (fun h => by rw [kp 6 (by decide), l6] at h; cases h)⟩
    · simp only [List.getElem?_toArray, List.getElem?_cons_succ, List.getElem?_cons_zero, Option.some.injEq] at ho
      subst ho
      have q3 : l.getD 3 false = true := hdep ⟨3, .data⟩ (by simp) rfl
      clear hdep
      obtain ⟨rfl, j1, j2, j3, j4⟩ := f3 q3
      obtain rfl : w3 = w' := (g1 q3 hui).symm
      obtain rfl := f2 (n32 q3)
      obtain rfl := f1 (n21 (n32 q3))
      have l5 := listed_no n54 hui
      have l6 := listed_no n65 l5
      refine wpOpIn_of rfl rfl ?_
      generalize hK : SInv (fun t0 t1 t2 t3 t4 t5 => #[p0, p1, p2, p3, p4, p5, p6, p7, .pointer (some ⟨Bl, 0, none⟩), .pointer (some ⟨Bx, 0, none⟩), p10, p11, p12, p13, p14, p15, p16, p17, p18, p19, p20, p21, p22, p23, p24, p25, p26, p27, p28, p29, p30, p31, p32, p33, p34, p35, p36, p37, p38, p39, p40, p41, p42, p43, p44, p45, p46, p47, p48, p49, p50, p51, t0, t1, t2, t3, t4, t5, undef, undef, undef, undef, undef, undef, undef, undef, undef, undef]) Bx Bl Mid W x k v ah ch (l.setIfInBounds 4 true) = K
      unfold obV
      go_simp
      rw [← hK]
      exact ⟨t0, _, _, _, _, t5, w3, w4, ad2, cap2, b2, v2, rfl, hsz', (by rw [kp 2 (by decide), kp 1 (by decide)]; exact n21), (by rw [kp 3 (by decide), kp 2 (by decide)]; exact n32), (fun _ => by rw [kp 3 (by decide)]; exact q3), (fun _ => ki'), (by rw [kp 5 (by decide), kp 0 (by decide)]; exact n50), (by rw [kp 6 (by decide), kp 5 (by decide)]; exact n65), (by rw [kp 0 (by decide)]; exact f0), (by rw [kp 1 (by decide)]; exact f1), (by rw [kp 2 (by decide)]; exact f2), (fun h => by rw [kp 3 (by decide), q3] at h; cases h), (by rw [kp 3 (by decide)]; exact fun _ => ⟨rfl, j1, j2, j3, j4⟩), (fun _ h => absurd (ki'.symm.trans h) (by decide)), (fun _ => rfl), (fun _ _ => rfl), (fun h => by rw [kp 5 (by decide), l5] at h; cases h), (fun h => by rw [kp 5 (by decide), l5] at h; cases h), (fun h => by rw [kp 6 (by decide), l6] at h; cases h)⟩
    · simp only [List.getElem?_toArray, List.getElem?_cons_succ, List.getElem?_cons_zero, Option.some.injEq] at ho
      subst ho
      have q0 : l.getD 0 false = true := hdep ⟨0, .data⟩ (by simp) rfl
      have q4 : l.getD 4 false = true := hdep ⟨4, .data⟩ (by simp) rfl
      clear hdep
      obtain rfl : v = t0 := (f0 q0).symm
      obtain rfl := f4 q4
      obtain rfl := g2 q4 hui
      obtain ⟨rfl, j1, j2, j3, j4⟩ := f3 (n43 q4)
      have q3 := n43 q4
      have l6 := listed_no n65 hui
      have z3 := j1.size
      have BD1 := (bd.bd.grow j1).grow (below_alloc w3 (.cells #[.string (x k).kind, .string (x k).name, .int .i64 (x k).ver, .int .i64 (x k).born, .string (x k).text, .bool (x k).ending, .slice ad2 (x k).hn cap2] 73))
      obtain ⟨c, hown, hat⟩ := BD1.row
      refine wpOpIn_of rfl rfl ?_
      generalize hK : SInv (fun t0 t1 t2 t3 t4 t5 => #[p0, p1, p2, p3, p4, p5, p6, p7, .pointer (some ⟨Bl, 0, none⟩), .pointer (some ⟨Bx, 0, none⟩), p10, p11, p12, p13, p14, p15, p16, p17, p18, p19, p20, p21, p22, p23, p24, p25, p26, p27, p28, p29, p30, p31, p32, p33, p34, p35, p36, p37, p38, p39, p40, p41, p42, p43, p44, p45, p46, p47, p48, p49, p50, p51, t0, t1, t2, t3, t4, t5, undef, undef, undef, undef, undef, undef, undef, undef, undef, undef]) Bx Bl Mid W x k v ah ch (l.setIfInBounds 5 true) = K
      refine operIn_append_own _ _ 28 rfl base 73 i0 _ 7 96 Tryz.underlying28 hi0 hz0 hz1 hz2 rfl (by decide) _ L.length (rowCells (L.length * 7) c) rfl hown ⟨w3.heap.size, 0, none⟩ 1 1 [.string (x k).kind, .string (x k).name, .int .i64 (x k).ver, .int .i64 (x k).born, .string (x k).text, .bool (x k).ending, .slice ad2 (x k).hn cap2] rfl rfl (alloc_news w3 _ 73) (by simp [Value.oneCell']) (by unfold maxLen; omega) (by omega) (by simp; omega) ?_
      intro v' w4' hown2 hgrow2 hat2
      have BD2 := BD1.push (cap' := cap2) hat hown2 hgrow2 hat2 (j4.frP (FrP.of_below (P := fun _ => False) (below_alloc w3 _)) (fun h0 => ⟨fun h => h, j3 h0⟩)) (fun h0 => ⟨by omega, by have := j3 h0; simp; omega⟩)
        (fun h0 e => by
          obtain ⟨c0, r0, _⟩ := bd.bd.row
          have h1 := (r0.lt _ e).2
          omega)
        (fun i hi' h0 h1 e => by
          have h2 := (bd.bd.hlt i hi' h0).2
          omega)
      have bx2 : Boxed w4' Bl 28 v := (Boxed.of_below bV j1).alloc _ |>.kept hgrow2 (fun e => hPl (bd.pr _ e.symm))
      have kw2 : KeepsOthers W w4' := ((keepsO_of_below j1).trans (KeepsOthers.alloc _ _)).trans (KeepsOthers.of_grownBy hgrow2 (fun j o e hj => by
        rcases hown.2 with ⟨h1, _⟩ | ⟨g', cap, cur, h1, h2', h3, h4⟩
        · rw [h1] at e; cases e
        · rw [h1] at e
          cases e
          rw [h3] at hj
          cases hj
          rfl))
      have fr2 : FrP Pk W w4' := ((FrP.of_below j1).trans (FrP.of_below (below_alloc w3 _))).trans ((FrP.of_grown hgrow2).mono (fun q hq => hPk q hq))
      have hmid : Mid w4' v' := by
        rw [hMid]
        refine ⟨_, _, _, ⟨BD2, fun q hq => ?_, fun i hi' h0 => ?_⟩, kw2, fr2⟩
        · rcases hat2 with e | e
          · rw [e] at hq; exact bd.pr q hq
          · rw [e] at hq; cases hq; exact hPn _ (by simp; omega)
        · by_cases e : i = L.length
          · subst e; rw [updF_same]; exact hPn _ j2
          · have hi2 : i < L.length := by simp at hi'; omega
            rw [pick_old hi2] at h0
            rw [updF_ne _ _ e]
            exact bd.ph i hi2 h0
      rw [← hK]
      exact ⟨_, t1, t2, _, _, _, w3, w4', ad2, cap2, b2, v', rfl, hsz', (by rw [kp 2 (by decide), kp 1 (by decide)]; exact n21), (by rw [kp 3 (by decide), kp 2 (by decide)]; exact n32), (by rw [kp 4 (by decide), kp 3 (by decide)]; exact n43), (fun _ => by rw [kp 4 (by decide)]; exact q4), (fun _ => by rw [kp 0 (by decide)]; exact q0), (fun _ => ki'), (fun _ => rfl), (by rw [kp 1 (by decide)]; exact f1), (by rw [kp 2 (by decide)]; exact f2), (fun h => by rw [kp 3 (by decide), q3] at h; cases h), (by rw [kp 3 (by decide)]; exact fun _ => ⟨rfl, j1, j2, j3, j4⟩), (fun _ h => by rw [kp 4 (by decide), q4] at h; cases h), (fun _ => rfl), (fun _ h => absurd (ki'.symm.trans h) (by decide)), (fun _ => ⟨rfl, hmid, bx2⟩), (fun _ _ => rfl), (fun h => by rw [kp 6 (by decide), l6] at h; cases h)⟩
    · simp only [List.getElem?_toArray, List.getElem?_cons_succ, List.getElem?_cons_zero, Option.some.injEq] at ho
      subst ho
      have q5 : l.getD 5 false = true := hdep ⟨5, .data⟩ (by simp) rfl
      clear hdep
      obtain ⟨rfl, j1, j2⟩ := f5 q5
      obtain rfl : w4 = w' := (g4 q5 hui).symm
      have cb := j2.cell
      have fb := j2.frozen
      have hsh : ∃ adx Ln capx, t5 = Value.slice adx Ln capx := by
        rw [hMid] at j1
        obtain ⟨A2, C2, h2, j3, _⟩ := j1
        obtain ⟨adx, capx, gx, ex, _, _⟩ := j3.bd.done
        exact ⟨_, _, _, ex⟩
      obtain ⟨adx, Ln, capx, rfl⟩ := hsh
      have y4 := n54 q5
      have y3 := n43 y4
      have y2 := n32 y3
      obtain rfl : v = t0 := (f0 (n50 q5)).symm
      obtain rfl := f2 y2
      obtain rfl := f1 (n21 y2)
      obtain rfl := (f3 y3).1
      obtain rfl := f4 y4
      refine wpOpIn_of rfl rfl ?_
      generalize hK : SInv (fun t0 t1 t2 t3 t4 t5 => #[p0, p1, p2, p3, p4, p5, p6, p7, .pointer (some ⟨Bl, 0, none⟩), .pointer (some ⟨Bx, 0, none⟩), p10, p11, p12, p13, p14, p15, p16, p17, p18, p19, p20, p21, p22, p23, p24, p25, p26, p27, p28, p29, p30, p31, p32, p33, p34, p35, p36, p37, p38, p39, p40, p41, p42, p43, p44, p45, p46, p47, p48, p49, p50, p51, t0, t1, t2, t3, t4, t5, undef, undef, undef, undef, undef, undef, undef, undef, undef, undef]) Bx Bl Mid W x k v ah ch (l.setIfInBounds 6 true) = K
      go_simp
      rw [← hK]
      exact ⟨_, _, _, _, _, _, w3, w4, ad2, cap2, b2, _, rfl, hsz', (by rw [kp 2 (by decide), kp 1 (by decide)]; exact n21), (by rw [kp 3 (by decide), kp 2 (by decide)]; exact n32), (by rw [kp 4 (by decide), kp 3 (by decide)]; exact n43), (by rw [kp 5 (by decide), kp 4 (by decide)]; exact n54), (by rw [kp 5 (by decide), kp 0 (by decide)]; exact n50), (fun _ => by rw [kp 5 (by decide)]; exact q5), (by rw [kp 0 (by decide)]; exact f0), (by rw [kp 1 (by decide)]; exact f1), (by rw [kp 2 (by decide)]; exact f2), (fun h => by rw [kp 3 (by decide), y3] at h; cases h), (by rw [kp 3 (by decide)]; exact f3), (fun _ h => by rw [kp 4 (by decide), y4] at h; cases h), (by rw [kp 4 (by decide)]; exact f4), (fun _ h => by rw [kp 5 (by decide), q5] at h; cases h), (by rw [kp 5 (by decide)]; exact fun _ => ⟨rfl, j1, j2⟩), (fun _ h => absurd (ki'.symm.trans h) (by decide)), (fun _ => rfl)⟩
end Go.Proofs.YtkecnaaacbckoaaGreat
namespace Go.Proofs.YtkecnaaacbckoaaGreat
open Go.RowKit Go.Shelf Go.Maps
attribute [local go_sem] Oper.semAt_some
/-- the changes that a loop picks, as places behind the objects -/
def selL (sel : Nat → Bool) (o : Nat) (L0 l : List Nat) : List Nat := L0 ++ (l.filter sel).map (o + ·)
theorem selL_yes {sel : Nat → Bool} {o : Nat} {L0 l : List Nat} {j : Nat} (h : sel j = true) : selL sel o L0 (l ++ [j]) = selL sel o L0 l ++ [o + j] := by simp [selL, h]
theorem selL_no {sel : Nat → Bool} {o : Nat} {L0 l : List Nat} {j : Nat} (h : sel j = false) : selL sel o L0 (l ++ [j]) = selL sel o L0 l := by simp [selL, h]
theorem selL_len (sel : Nat → Bool) (o : Nat) (L0 l : List Nat) : (selL sel o L0 l).length ≤ L0.length + l.length := by
  unfold selL
  have := List.length_filter_le sel l
  simp; omega
set_option maxRecDepth 100000 in
set_option maxHeartbeats 4000000 in
theorem loopAt_in (F : Fence) (m : Nat) (hcv : ∀ (k f : Nat) (args : Array Value) (w : World) (R : Ending → World → Prop), Calls Tryz.prog f args w R → CallsIn F k Tryz.prog f args w R) (hall : ∀ f, F.fn f) (hro : F.round = none) (hm : 4 ≤ m)
    (hPl : ∀ (q : Nat) (R : Nat) (v : Int) (w : World), 0 ≤ v → v ≤ 1000000 → CallsIn F q Tryz.prog 102 #[.pointer (some ⟨R, 0, none⟩), .int .i64 v] w fun e w' => e = .returned (.pointer (some ⟨R, (v % 200).toNat * 9, none⟩)) ∧ w' = w)
    (p0 p1 p2 p3 p4 p5 p6 p10 p11 p12 p13 p14 p15 p16 p17 p18 p19 p20 p21 p22 p23 p24 p25 p26 p27 p28 p29 p30 p31 p32 p33 p34 p35 p36 : Value) (Ba Bu Br Bm Bl R M N N1 base hi : Nat) (f n o : Nat) (D : DataW Unit) (cV : Nat → Int) (x : Nat → Ch) (z : Nat → Ob) (A : Nat → Option Addr) (C : Nat → Nat) (L0 : List Nat) (v0 : Value) (A0 : Nat → Option Addr) (C0 h0 : Nat → Nat) (hn2 : n ≤ 200) (hfn : f + n ≤ 1000000) (hL0 : L0.length ≤ 1000) (hfit : ∀ i, i < n → ObFit (x i).ob) (W0 : World)
    (hz : ∀ i, i < n → z (o + i) = (x i).ob) (hcV : ∀ i, i < n → D.atKey (kl (x i).ob.kind (x i).ob.name) (.lit (.int .i64 0)) = .lit (.int .i64 (cV i)))
    (hBa : W0.cell? ⟨Ba, 0, none⟩ = some (.int .i64 ((f + 0 : Nat) : Int))) (hBu : W0.cell? ⟨Bu, 0, none⟩ = some (.int .i64 ((f + n : Nat) : Int))) (hBr : W0.cell? ⟨Br, 0, none⟩ = some (.pointer (some ⟨R, 0, none⟩)))
    (ha : N1 ≤ Ba ∧ Ba < W0.heap.size) (hu : N1 ≤ Bu ∧ Bu < W0.heap.size) (hr : N1 ≤ Br ∧ Br < W0.heap.size) (hBm : Bm < base ∨ N1 ≤ Bm) (hBl : N1 ≤ Bl) (hne : Bu ≠ Bl ∧ Br ≠ Bl ∧ Bm ≠ Bl) (hR : R < base) (hM : M < base) (hhi : hi ≤ base) (hb1 : base ≤ N1) (hs : RingAt W0 R n f x A C)
    (hst : ∀ i, i < n → StrsIn W0 0 hi (A i) (x i).ob.hn (x i).ob.hs)
    (bM : Boxed W0 Bm 94 (.map (some M))) (hown : W0.ownsMap Tryz.prog 98 (plainElem Tryz.prog 3) M N D) (bL : Boxed W0 Bl 28 v0) (bd0 : BdP (fun q => (base ≤ q ∧ q < N1) ∨ W0.heap.size ≤ q) W0 base v0 L0.length (pick z L0) A0 C0 h0) (Q : Exit → Act → World → Prop)
    (hQ : ∀ D' v A' C' hb W, W0.heap.size ≤ D' → W.heap[D']? = some (.deferred (some [])) → Boxed W Bl 28 v → BdP (fun q => (base ≤ q ∧ q < N1) ∨ W0.heap.size ≤ q) W base v (selL (fun j => !(x j).gone && cV j == (x j).ver) o L0 (List.range n)).length (pick z (selL (fun j => !(x j).gone && cV j == (x j).ver) o L0 (List.range n))) A' C' hb → FrP (fun q => q = Bl ∨ (base ≤ q ∧ q < N1) ∨ W0.heap.size ≤ q) W0 W →
      Q .normal { tmps := #[p0, p1, p2, p3, p4, p5, p6, .pointer (some ⟨Bm, 0, none⟩), .pointer (some ⟨Bl, 0, none⟩), undef, p10, p11, p12, p13, p14, p15, p16, p17, p18, p19, p20, p21, p22, p23, p24, p25, p26, p27, p28, p29, p30, p31, p32, p33, p34, p35, p36, .func (.func 104) #[] #[.pointer (some ⟨Ba, 0, none⟩), .pointer (some ⟨Bu, 0, none⟩), .pointer (some ⟨Br, 0, none⟩)], undef, undef, undef, undef, undef, undef, undef, undef, undef, undef, undef, undef, undef, undef, undef, undef, undef, undef, undef, undef, undef, undef, undef, undef, undef, undef, undef, undef, undef, undef], defers := [{ target := .collected D', args := #[] }] } W) :
    Code.wpIn F m Tryz.prog (Code.rangeFunc (Operand.tmp 37) #[38] (Code.region 7 #[{ dst := some 9, op := Op.alloc 75, type := 0, pos := "l5_book_history.go:34", after := #[], guard := none }, { dst := none, op := Op.store 75 (Operand.tmp 9) (Operand.tmp 38), type := 0, pos := "l5_book_history.go:34", after := #[{ on := 0, ground := Ground.data }, { on := 0, ground := Ground.phase }], guard := none }] false) (Code.block 1 ((Code.region 8 #[{ dst := some 39, op := Op.fieldAddr 75 (Operand.tmp 9) 1, type := 0, pos := "l5_book_history.go:35", after := #[], guard := none }, { dst := some 40, op := Op.load 4 (Operand.tmp 39), type := 4, pos := "l5_book_history.go:35", after := #[{ on := 0, ground := Ground.data }], guard := none }, { dst := some 41, op := Op.unOp UnOp.not 4 (Operand.tmp 40), type := 4, pos := "l5_book_history.go:35", after := #[{ on := 1, ground := Ground.data }], guard := none }, { dst := some 42, op := Op.move (Operand.tmp 41), type := 4, pos := "l5_book_history.go:35", after := #[{ on := 2, ground := Ground.data }], guard := none }, { dst := some 43, op := Op.load 94 (Operand.tmp 7), type := 94, pos := "l5_book_history.go:35", after := #[{ on := 3, ground := Ground.guard }], guard := some (3, true) }, { dst := some 44, op := Op.fieldAddr 75 (Operand.tmp 9) 2, type := 0, pos := "l5_book_history.go:35", after := #[{ on := 3, ground := Ground.guard }], guard := some (3, true) }, { dst := some 45, op := Op.load 73 (Operand.tmp 44), type := 73, pos := "l5_book_history.go:35", after := #[{ on := 5, ground := Ground.data }, { on := 3, ground := Ground.guard }], guard := some (3, true) }, { dst := some 46, op := Op.call { callee := Callee.value (Operand.func 63), args := #[Operand.tmp 45], argTypes := #[73] }, type := 98, pos := "l5_book_history.go:35", after := #[{ on := 6, ground := Ground.data }, { on := 3, ground := Ground.chain }, { on := 3, ground := Ground.guard }], guard := some (3, true) }, { dst := some 47, op := Op.lookup 94 (Operand.tmp 43) (Operand.tmp 46) false, type := 3, pos := "l5_book_history.go:35", after := #[{ on := 4, ground := Ground.data }, { on := 7, ground := Ground.data }, { on := 3, ground := Ground.guard }], guard := some (3, true) }, { dst := some 48, op := Op.fieldAddr 75 (Operand.tmp 9) 0, type := 0, pos := "l5_book_history.go:35", after := #[{ on := 3, ground := Ground.guard }], guard := some (3, true) }, { dst := some 49, op := Op.load 3 (Operand.tmp 48), type := 3, pos := "l5_book_history.go:35", after := #[{ on := 9, ground := Ground.data }, { on := 3, ground := Ground.guard }], guard := some (3, true) }, { dst := some 50, op := Op.binOp BinOp.eql 3 (Operand.tmp 47) (Operand.tmp 49) 3, type := 4, pos := "l5_book_history.go:35", after := #[{ on := 8, ground := Ground.data }, { on := 10, ground := Ground.data }, { on := 3, ground := Ground.guard }], guard := some (3, true) }, { dst := some 51, op := Op.pick (Operand.tmp 42) (Operand.tmp 50) (Operand.const (Value.bool false)), type := 4, pos := "l5_book_history.go:35", after := #[{ on := 3, ground := Ground.data }, { on := 11, ground := Ground.data }], guard := none }] true).seq (Code.cond (Operand.tmp 51) (Code.region 9 #[{ dst := some 52, op := Op.load 28 (Operand.tmp 8), type := 28, pos := "l5_book_history.go:36", after := #[], guard := none }, { dst := some 53, op := Op.fieldAddr 75 (Operand.tmp 9) 2, type := 0, pos := "l5_book_history.go:36", after := #[], guard := none }, { dst := some 54, op := Op.load 73 (Operand.tmp 53), type := 73, pos := "l5_book_history.go:36", after := #[{ on := 1, ground := Ground.data }], guard := none }, { dst := some 55, op := Op.call { callee := Callee.value (Operand.func 64), args := #[Operand.tmp 54], argTypes := #[73] }, type := 73, pos := "l5_book_history.go:36", after := #[{ on := 2, ground := Ground.data }], guard := none }, { dst := some 56, op := Op.buildSlice 28 1 #[(0, Operand.tmp 55)], type := 28, pos := "l5_book_history.go:36", after := #[{ on := 3, ground := Ground.data }], guard := none }, { dst := some 57, op := Op.call { callee := Callee.builtin Builtin.append, args := #[Operand.tmp 52, Operand.tmp 56], argTypes := #[28, 28] }, type := 28, pos := "l5_book_history.go:36", after := #[{ on := 0, ground := Ground.data }, { on := 4, ground := Ground.data }, { on := 3, ground := Ground.chain }], guard := none }, { dst := none, op := Op.store 28 (Operand.tmp 8) (Operand.tmp 57), type := 0, pos := "l5_book_history.go:36", after := #[{ on := 5, ground := Ground.data }, { on := 5, ground := Ground.chain }, { on := 0, ground := Ground.phase }, { on := 1, ground := Ground.phase }, { on := 2, ground := Ground.phase }, { on := 3, ground := Ground.phase }, { on := 4, ground := Ground.phase }, { on := 5, ground := Ground.phase }], guard := none }] true) Code.skip)))) Q { tmps := #[p0, p1, p2, p3, p4, p5, p6, .pointer (some ⟨Bm, 0, none⟩), .pointer (some ⟨Bl, 0, none⟩), undef, p10, p11, p12, p13, p14, p15, p16, p17, p18, p19, p20, p21, p22, p23, p24, p25, p26, p27, p28, p29, p30, p31, p32, p33, p34, p35, p36, .func (.func 104) #[] #[.pointer (some ⟨Ba, 0, none⟩), .pointer (some ⟨Bu, 0, none⟩), .pointer (some ⟨Br, 0, none⟩)], undef, undef, undef, undef, undef, undef, undef, undef, undef, undef, undef, undef, undef, undef, undef, undef, undef, undef, undef, undef, undef, undef, undef, undef, undef, undef, undef, undef, undef, undef], defers := [] } W0 := by
  have h1 : 1 ≤ m := by omega
  obtain ⟨P, hP⟩ : ∃ P : Nat → Prop, P = fun q => (base ≤ q ∧ q < N1) ∨ W0.heap.size ≤ q := ⟨_, rfl⟩
  obtain ⟨Pk, hPk⟩ : ∃ Pk : Nat → Prop, Pk = fun q => q = Bl ∨ (base ≤ q ∧ q < N1) ∨ W0.heap.size ≤ q := ⟨_, rfl⟩
  obtain ⟨sel, hsel⟩ : ∃ sel : Nat → Bool, sel = fun j => !(x j).gone && cV j == (x j).ver := ⟨_, rfl⟩
  rw [← hP, ← hPk, ← hsel] at hQ
  rw [← hP] at bd0
  have hPkB : ∀ {X Y : World}, Below W0.heap.size X Y → FrP Pk X Y := fun {X Y} h => ⟨h.os, h.tape, h.output, h.size, fun q _ hq => h.block q (by
    rw [hPk] at hq
    rcases Nat.lt_or_ge q W0.heap.size with h1 | h1
    · exact h1
    · exact absurd (Or.inr (Or.inr h1)) hq)⟩
  have hPkN : ∀ q, ¬ Pk q ↔ ¬ (q = Bl ∨ (base ≤ q ∧ q < N1) ∨ W0.heap.size ≤ q) := fun q => by rw [hPk]
  have zL := bL.lt
  have zM := hown.lt
  have zm := bM.lt
  have hPl' : ¬ P Bl := by rw [hP]; omega
  have hPP : ∀ q, P q → Pk q := fun q hq => by rw [hP] at hq; rw [hPk]; exact Or.inr hq
  refine wpIn_rangeFunc_ownH (α := Ix n) hro h1 (gf := 104) (lb := #[.pointer (some ⟨Ba, 0, none⟩), .pointer (some ⟨Bu, 0, none⟩), .pointer (some ⟨Br, 0, none⟩)]) (encs := fun i => #[chV (x i.1) (A i.1) (C i.1)]) (Kp := FrP Pk) (S := fun ys => ixs ys = List.range n) (Sp := fun pre => ∃ j, j ≤ n ∧ ixs pre = List.range j) (N := n) (w0 := W0) rfl (hall 104) (enters_of Tryz.func104 (by kernel_rfl) rfl)
    ?seq (fun h1 h2 => h1.trans h2) (fun X l o o' hl ho1 ho2 ho3 => hPkB (belowK_b (w := W0) (n₀ := W0.heap.size) (Nat.le_refl _) X l o o' hl ho1 ho2 ho3)) (Below.refl _ _) (fun _ => rfl)
    (fun pre W => (∃ v A' C' hb, Boxed W Bl 28 v ∧ BdP P W base v (selL sel o L0 (ixs pre)).length (pick z (selL sel o L0 (ixs pre))) A' C' hb) ∧ FrP Pk W0 W)
    (fun _ _ _ => False) ?own (fun _ _ _ _ _ hs _ _ => hs) ?start
    (fun i a' W => ∃ Bx, W.heap[Bx]? = some (.cells #[.int .i64 (x i.1).ver, .bool (x i.1).gone, .string (x i.1).ob.kind, .string (x i.1).ob.name, .int .i64 (x i.1).ob.ver, .int .i64 (x i.1).ob.born, .string (x i.1).ob.text, .bool (x i.1).ob.ending, .slice (A i.1) (x i.1).ob.hn (C i.1)] 75 (0, 0)) ∧ a' = { tmps := #[p0, p1, p2, p3, p4, p5, p6, .pointer (some ⟨Bm, 0, none⟩), .pointer (some ⟨Bl, 0, none⟩), .pointer (some ⟨Bx, 0, none⟩), p10, p11, p12, p13, p14, p15, p16, p17, p18, p19, p20, p21, p22, p23, p24, p25, p26, p27, p28, p29, p30, p31, p32, p33, p34, p35, p36, .func (.func 104) #[] #[.pointer (some ⟨Ba, 0, none⟩), .pointer (some ⟨Bu, 0, none⟩), .pointer (some ⟨Br, 0, none⟩)], chV (x i.1) (A i.1) (C i.1), undef, undef, undef, undef, undef, undef, undef, undef, undef, undef, undef, undef, undef, undef, undef, undef, undef, undef, undef, undef, undef, undef, undef, undef, undef, undef, undef, undef, undef], defers := [] })
    (fun i a' _ X Y row hs hg hr => by
      obtain ⟨Bx, e2, e3⟩ := hs
      refine ⟨Bx, (hg.block Bx (Array.getElem?_eq_some_iff.1 e2).1 (fun e => ?_)).trans e2, e3⟩
      obtain ⟨_, o, ho, hc⟩ := hr Bx e.symm
      rw [e2] at ho
      cases ho
      cases hc)
    ?assign ?body ?done ?stop
  case seq =>
    intro l J Jx W hW _ _ hY h0'
    have h := between2_in F (m - 1) (hall 104) (hall 102) hro (by omega) l Ba Bu Br R Pk f 0 n x A C (Nat.zero_le _) hfn
    simp only [Nat.sub_zero, Nat.zero_add] at h
    exact h J Jx (hPl _ R) W hY
      ((hW.cell (p := ⟨Ba, 0, none⟩) ha.2).trans hBa) ((hW.cell (p := ⟨Bu, 0, none⟩) hu.2).trans hBu) ((hW.cell (p := ⟨Br, 0, none⟩) hr.2).trans hBr)
      ⟨by have := hW.size; omega, (hPkN _).2 (by omega)⟩ ⟨by have := hW.size; omega, (hPkN _).2 (by omega)⟩ ⟨by have := hW.size; omega, (hPkN _).2 (by omega)⟩ (hs.below hW (by omega) (Nat.le_refl _)) h0'
  case own =>
    intro pre X Y row hs hg hr
    obtain ⟨⟨v, A', C', hb, e1, e2⟩, e3⟩ := hs
    exact ⟨⟨v, A', C', hb, e1.kept hg (fun e => by have := (hr _ e.symm).1; omega), e2.turn hg (fun r e => (hr r e).2)⟩, e3.trans (hPkB ((Below.refl W0.heap.size X).grown hg e3.size (fun r e => (hr r e).1)))⟩
  case start =>
    exact ⟨⟨v0, A0, C0, h0, bL, by simpa [selL, ixs] using bd0⟩, FrP.refl _ _⟩
  case assign =>
    rintro l pre i W K ⟨⟨v, A', C', hb, e1, e2⟩, e3⟩ hK
    simp only [chV]
    gi_wp2
    exact hK _ _ ((KeepsOthers.alloc _ _).from _) (FrP.of_below (below_alloc _ _)) ⟨⟨v, A', C', hb, e1.alloc _, e2.grow (below_alloc _ _)⟩, e3.trans (FrP.of_below (below_alloc _ _))⟩ ⟨W.heap.size, World.alloc_heap_new W _, rfl⟩
  case body =>
    rintro l0 pre i a' W hl ⟨r, hr'⟩ ⟨⟨v, A', C', hb, bV, bd⟩, hf⟩ ⟨Bx, bX, rfl⟩ hlt
    have zW := hf.size
    have hin := i.2
    have hX : Holds W Bx #[.int .i64 (x i.1).ver, .bool (x i.1).gone, .string (x i.1).ob.kind, .string (x i.1).ob.name, .int .i64 (x i.1).ob.ver, .int .i64 (x i.1).ob.born, .string (x i.1).ob.text, .bool (x i.1).ob.ending, .slice (A i.1) (x i.1).ob.hn (C i.1)] := fun i => by simp [World.cell?, bX]
    have zBx : Bx < W.heap.size := (Array.getElem?_eq_some_iff.1 bX).1
    have hft := hfit i.1 hin
    obtain ⟨fk, fn, _, fh, _⟩ := hft
    have hsk : (x i.1).ob.kind.size ≤ maxLen := by unfold maxLen; omega
    have hsn : (x i.1).ob.name.size ≤ maxLen := by unfold maxLen; omega
    have hky := hkey (x i.1).ob.kind (x i.1).ob.name hsk hsn
    have hc := hcV i.1 hin
    have hzi := hz i.1 hin
    have bMW : Boxed W Bm 94 (.map (some M)) := (hf.block Bm zm ((hPkN _).2 (by omega))).trans bM
    have hownW : W.ownsMap Tryz.prog 98 (plainElem Tryz.prog 3) M N D := by
      obtain ⟨es, clock, h1, r⟩ := hown
      exact ⟨es, clock, (hf.block M zM ((hPkN _).2 (by omega))).trans h1, r⟩
    have hstW : StrsIn W 0 hi (A i.1) (x i.1).ob.hn (x i.1).ob.hs := fun j hj => by
      obtain ⟨b, off, e1, e2, e3, e4⟩ := hst i.1 hin j hj
      exact ⟨b, off, e1, e2, e3, (hf.cell (p := ⟨b, _, none⟩) (by show b < _; omega) ((hPkN _).2 (by show ¬ (b = Bl ∨ (base ≤ b ∧ b < N1) ∨ W0.heap.size ≤ b); omega))).trans e4⟩
    have hLl : (selL sel o L0 (ixs pre)).length < 1048576 := by have := selL_len sel o L0 (ixs pre); rw [ixs_len] at this; omega
    have EX : ixs (pre ++ [i]) = ixs pre ++ [i.1] := ixs_snoc _ _
    have hsi : sel i.1 = (!(x i.1).gone && cV i.1 == (x i.1).ver) := by rw [hsel]
    have h1' : 1 ≤ m - 1 - 1 := by omega
    gi_wp2
    refine look8_in F l0 (m - 1 - 1) (hall 63) h1' _ _ _ _ _ _ _ _ _ _ _ _ _ _ _ _ _ _ _ _ _ _ _ _ _ _ _ _ _ _ _ _ _ _ _ _ _ Bm Bx M N D (cV i.1) (x i.1) (A i.1) (C i.1) W (fun w => CallsIn.inRound l0 (hcv _ _ _ _ _ (keyOf_any (x i.1).ob (A i.1) (C i.1) w))) hX zBx bMW hownW hky hc _ ?_
    intro t0 t1 t2 t3 t4 t5 t6 t7 t8 t9 t10 t11 w' hb'
    have zw' := hb'.size
    cases hse : (!(x i.1).gone && cV i.1 == (x i.1).ver) with
    | false =>
      rw [hse] at hsi
      gi_wp2
      exact ⟨(keepsO_of_below hb').from _, FrP.of_below hb', ⟨⟨v, A', C', hb, Boxed.of_below bV hb', by rw [EX, selL_no hsi]; exact bd.grow hb'⟩, hf.trans (FrP.of_below hb')⟩⟩
    | true =>
      rw [hse] at hsi
      have hX2 := hX.below hb' zBx
      have x2 := hX2 2; have x3 := hX2 3; have x4 := hX2 4; have x5 := hX2 5; have x6 := hX2 6; have x7 := hX2 7; have x8 := hX2 8
      simp only [List.getElem?_toArray, List.getElem?_cons_succ, List.getElem?_cons_zero] at x2 x3 x4 x5 x6 x7 x8
      gi_wp2
      refine app9_in F l0 (m - 1 - 1) (hall 64) h1' _ _ _ _ _ _ _ _ _ _ _ _ _ _ _ _ _ _ _ _ _ _ _ _ _ _ _ _ _ _ _ _ _ _ _ _ _ _ _ _ _ _ _ _ _ _ _ _ _ _ Bx Bl base P Pk (selL sel o L0 (ixs pre)) (o + i.1) z v (A i.1) (C i.1) A' C' hb w' hLl (by omega) (fun w5 hb5 => ?_) (by rw [hzi]; exact ⟨x2, x3, x4, x5, x6, x7, x8⟩) (Boxed.of_below bV hb') (bd.grow hb') hPl' (fun q hq => by rw [hP]; exact Or.inr (by omega)) (fun q hq => hPP q (bd.pr q hq)) (by rw [hPk]; exact Or.inl rfl) _ ?_
      · rw [hzi]
        exact CallsIn.inRound l0 (hcv _ _ _ _ _ (copyOb_own (x i.1).ob (A i.1) (C i.1) w5 0 hi (by have := hb5.size; omega) fh ((hstW.below hb' (by omega)).below hb5 (by omega))))
      · intro u0 u1 u2 u3 u4 v' A2 C2 h2 w3 hbd hbx hko hfr
        gi_wp2
        have hfr2 : FrP Pk W w3 := (FrP.of_below hb').trans hfr
        exact ⟨((keepsO_of_below hb').trans hko).from _, hfr2, ⟨⟨v', A2, C2, h2, hbx, by rw [EX, selL_yes hsi]; exact hbd⟩, hf.trans hfr2⟩⟩
  case done =>
    rintro D' ys W hD hS ⟨⟨v, A', C', hb, bV, bd⟩, hf⟩ hK
    rw [hS] at bd
    exact hQ D' v A' C' hb W hD hK bV bd hf
  case stop =>
    rintro D c pre W _ _ h _
    exact h.elim
end Go.Proofs.YtkecnaaacbckoaaGreat
