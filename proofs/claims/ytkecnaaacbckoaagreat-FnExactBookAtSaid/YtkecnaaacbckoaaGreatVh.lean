import Derived.Test.YtkecnaaacbckoaaGreatVg
import Derived.Test.YtkecnaaacbckoaaGreatVb
import Derived.Test.YtkecnaaacbckoaaGreatVf
import Derived.Test.YtkecnaaacbckoaaGreatVa
import Derived.Test.YtkecnaaacbckoaaGreatGa
import Derived.Test.YtkecnaaacbckoaaGreatVc
namespace Go.Proofs.YtkecnaaacbckoaaGreat
open Go.RowKit Go.Shelf Go.Maps
attribute [local go_sem] Oper.semAt_some
def upA (t : Nat → Value) (i : Nat) (v : Value) : Nat → Value := fun j => bif j == i then v else t j
def At11 (mk : (Nat → Value) → Array Value) (ds : List Deferred) (W : World) (s R M : Nat) (ver now : Int) (ad : Option Addr) (nl cap : Nat) (fl : Bool) (l : Array Bool) (a : Act) (X : World) : Prop :=
  ∃ t : Nat → Value, a = ⟨mk t, ds⟩ ∧ l.size = 10 ∧ FrP (fun q => q = M) W X ∧ (l.getD 7 false = false → Below W.heap.size W X) ∧ (l.getD 0 false = true → t 0 = .slice ad nl cap) ∧ (l.getD 1 false = true → t 1 = .map (some M)) ∧ (l.getD 2 false = true → t 2 = .pointer (some ⟨R, 0, none⟩)) ∧ (l.getD 3 false = true → t 3 = .int .i64 ver) ∧ (l.getD 4 false = true → t 4 = .pointer (some ⟨s, 0, none⟩)) ∧ (l.getD 5 false = true → t 5 = .int .i64 now) ∧ (l.getD 6 false = true → l.getD 7 false = false → ∃ b, t 6 = .func (.func 104) #[] #[.pointer (some ⟨b + 1, 0, none⟩), .pointer (some ⟨b + 1 + 1, 0, none⟩), .pointer (some ⟨b, 0, none⟩)] ∧ W.heap.size ≤ b ∧ X.cell? ⟨b, 0, none⟩ = some (.pointer (some ⟨R, 0, none⟩)) ∧ X.cell? ⟨b + 1, 0, none⟩ = some (.int .i64 ver) ∧ X.cell? ⟨b + 1 + 1, 0, none⟩ = some (.int .i64 now) ∧ b + 1 + 1 < X.heap.size) ∧ (l.getD 7 false = true → t 7 = .bool fl) ∧ (l.getD 8 false = true → t 8 = .slice ad nl cap) ∧ (l.getD 9 false = true → t 9 = .bool fl)
set_option maxRecDepth 100000 in
set_option maxHeartbeats 4000000 in
theorem atReg11 (F : Fence) (m : Nat) (hcv : ∀ (k f : Nat) (args : Array Value) (w : World) (R : Ending → World → Prop), Calls Tryz.prog f args w R → CallsIn F k Tryz.prog f args w R) (hall : ∀ f, F.fn f) (hro : F.round = none) (hm : 6 ≤ m)
    (hPl : ∀ (q : Nat) (R : Nat) (v : Int) (w : World), 0 ≤ v → v ≤ 1000000 → CallsIn F q Tryz.prog 102 #[.pointer (some ⟨R, 0, none⟩), .int .i64 v] w fun e w' => e = .returned (.pointer (some ⟨R, (v % 200).toNat * 9, none⟩)) ∧ w' = w)
    (p0 p3 p9 p10 p11 p12 p13 p14 p15 p16 p17 p18 p19 p20 p21 p22 p23 p24 p25 p26 p27 p28 p29 p30 p31 p32 p33 p34 p35 p36 p37 p38 p39 p40 p41 p42 p43 p44 p45 p46 p47 p48 p49 p50 p51 p52 p53 p54 p55 p56 p57 p58 p59 q4 q5 : Value) (ds : List Deferred) (s R M Bm Bl : Nat) (ver now : Int) (ad : Option Addr) (nl cap : Nat) (fl : Bool) (W : World) (f k n N0 : Nat) (L0 : List Nat) (D0 : DataW Unit) (x : Nat → Ch) (A : Nat → Option Addr) (C : Nat → Nat) (hkn : k ≤ n) (hn2 : n ≤ 200) (hN0 : N0 ≤ 200) (hfn : f + n ≤ 1000000) (hfit : ∀ i, i < n → ObFit (x i).ob) (hwfs : ∀ i, i < n → (Lit.int .i64 (x i).ver).wf = true)
    (hver : ver = ((f + k : Nat) : Int)) (hnow : now = ((f + n : Nat) : Int)) (hfl : knw x L0 ((List.range (n - k)).map (k + ·)) = fl)
    (hS : W.cell? ⟨s, 0, none⟩ = some (.int .i64 now)) (hL : W.cell? ⟨Bl, 0, none⟩ = some (.slice ad nl cap)) (hM : W.cell? ⟨Bm, 0, none⟩ = some (.map (some M)))
    (zs : s < W.heap.size ∧ s ≠ M) (zl : Bl < W.heap.size ∧ Bl ≠ M) (zm : Bm < W.heap.size ∧ Bm ≠ M) (zr : R < W.heap.size ∧ R ≠ M) (hring : RingAt W R n f x A C) (hown : W.ownsMap Tryz.prog 98 (plainElem Tryz.prog 3) M N0 D0) (ht0 : HTold x L0 D0) (Q : Exit → Act → World → Prop)
    (hQ : ∀ u0 u1 u2 u3 u4 u5 u6 u7 X, FrP (fun q => q = M) W X → Q .normal ⟨#[p0, .int .i64 ver, .pointer (some ⟨s, 0, none⟩), p3, .slice ad nl cap, .bool fl, .pointer (some ⟨R, 0, none⟩), .pointer (some ⟨Bm, 0, none⟩), .pointer (some ⟨Bl, 0, none⟩), p9, p10, p11, p12, p13, p14, p15, p16, p17, p18, p19, p20, p21, p22, p23, p24, p25, p26, p27, p28, p29, p30, p31, p32, p33, p34, p35, p36, p37, p38, p39, p40, p41, p42, p43, p44, p45, p46, p47, p48, p49, p50, p51, p52, p53, p54, p55, p56, p57, p58, p59, u0, u1, u2, u3, u4, u5, u6, u7], ds⟩ X) :
    Code.wpIn F m Tryz.prog (Code.region 11 #[{ dst := some 60, op := Op.load 28 (Operand.tmp 8), type := 28, pos := "l5_book_history.go:40", after := #[], guard := none }, { dst := some 61, op := Op.load 94 (Operand.tmp 7), type := 94, pos := "l5_book_history.go:40", after := #[], guard := none }, { dst := some 62, op := Op.move (Operand.tmp 6), type := 79, pos := "l5_book_history.go:40", after := #[], guard := none }, { dst := some 63, op := Op.move (Operand.tmp 1), type := 3, pos := "l5_book_history.go:40", after := #[], guard := none }, { dst := some 64, op := Op.fieldAddr 32 (Operand.tmp 2) 0, type := 0, pos := "l5_book_history.go:40", after := #[], guard := none }, { dst := some 65, op := Op.load 3 (Operand.tmp 64), type := 3, pos := "l5_book_history.go:40", after := #[{ on := 4, ground := Ground.data }], guard := none }, { dst := some 66, op := Op.call { callee := Callee.value (Operand.func 48), args := #[Operand.tmp 62, Operand.tmp 63, Operand.tmp 65], argTypes := #[79, 3, 3] }, type := 83, pos := "l5_book_history.go:40", after := #[{ on := 2, ground := Ground.data }, { on := 3, ground := Ground.data }, { on := 5, ground := Ground.data }], guard := none }, { dst := some 67, op := Op.call { callee := Callee.value (Operand.func 67), args := #[Operand.tmp 61, Operand.tmp 66], argTypes := #[94, 83] }, type := 4, pos := "l5_book_history.go:40", after := #[{ on := 1, ground := Ground.data }, { on := 6, ground := Ground.data }, { on := 6, ground := Ground.chain }], guard := none }, { dst := some 4, op := Op.assign (Operand.tmp 60), type := 28, pos := "l5_book_history.go:40", after := #[{ on := 0, ground := Ground.data }, { on := 7, ground := Ground.chain }, { on := 0, ground := Ground.phase }, { on := 1, ground := Ground.textOnly Departure.lateStores }, { on := 2, ground := Ground.textOnly Departure.lateStores }, { on := 3, ground := Ground.textOnly Departure.lateStores }, { on := 4, ground := Ground.textOnly Departure.lateStores }, { on := 5, ground := Ground.textOnly Departure.lateStores }, { on := 6, ground := Ground.textOnly Departure.lateStoresUnsure }, { on := 7, ground := Ground.textOnly Departure.lateStoresUnsure }], guard := none }, { dst := some 5, op := Op.assign (Operand.tmp 67), type := 4, pos := "l5_book_history.go:40", after := #[{ on := 7, ground := Ground.data }, { on := 8, ground := Ground.chain }, { on := 0, ground := Ground.phase }, { on := 1, ground := Ground.phase }, { on := 2, ground := Ground.phase }, { on := 3, ground := Ground.phase }, { on := 4, ground := Ground.phase }, { on := 5, ground := Ground.phase }, { on := 6, ground := Ground.phase }, { on := 7, ground := Ground.phase }, { on := 8, ground := Ground.phase }], guard := none }] true) Q ⟨#[p0, .int .i64 ver, .pointer (some ⟨s, 0, none⟩), p3, q4, q5, .pointer (some ⟨R, 0, none⟩), .pointer (some ⟨Bm, 0, none⟩), .pointer (some ⟨Bl, 0, none⟩), p9, p10, p11, p12, p13, p14, p15, p16, p17, p18, p19, p20, p21, p22, p23, p24, p25, p26, p27, p28, p29, p30, p31, p32, p33, p34, p35, p36, p37, p38, p39, p40, p41, p42, p43, p44, p45, p46, p47, p48, p49, p50, p51, p52, p53, p54, p55, p56, p57, p58, p59, undef, undef, undef, undef, undef, undef, undef, undef], ds⟩ W := by
  have zM := hown.lt
  have HVER := hid hver
  have HNOW := hid hnow
  clear hver hnow
  refine wpIn_region_inv (by kernel_rfl) (At11 (fun t : Nat → Value => #[p0, .int .i64 ver, .pointer (some ⟨s, 0, none⟩), p3, t 8, t 9, .pointer (some ⟨R, 0, none⟩), .pointer (some ⟨Bm, 0, none⟩), .pointer (some ⟨Bl, 0, none⟩), p9, p10, p11, p12, p13, p14, p15, p16, p17, p18, p19, p20, p21, p22, p23, p24, p25, p26, p27, p28, p29, p30, p31, p32, p33, p34, p35, p36, p37, p38, p39, p40, p41, p42, p43, p44, p45, p46, p47, p48, p49, p50, p51, p52, p53, p54, p55, p56, p57, p58, p59, t 0, t 1, t 2, t 3, t 4, t 5, t 6, t 7]) ds W s R M ver now ad nl cap fl) ?_ ?_ ?_ ?_
  · refine ⟨fun i => bif i == 8 then q4 else bif i == 9 then q5 else undef, rfl, by simp, FrP.of_below ((Below.refl _ W).drew), fun _ => (Below.refl _ W).drew, fun h => ?_, fun h => ?_, fun h => ?_, fun h => ?_, fun h => ?_, fun h => ?_, fun h => ?_, fun h => ?_, fun h => ?_, fun h => ?_⟩ <;> simp at h
  · rintro l a X ⟨t, _, hs, _⟩
    exact hs
  · rintro l a X ⟨t, rfl, hs, hF, _, g0, g1, g2, g3, g4, g5, g6, g7, g8, g9⟩ hr
    have AL := all_listed (by kernel_rfl) (by rw [hs]; rfl) hr
    have e8 := g8 (AL 8 (by decide))
    have e9 := g9 (AL 9 (by decide))
    have h := hQ (t 0) (t 1) (t 2) (t 3) (t 4) (t 5) (t 6) (t 7) X hF
    rw [← e8, ← e9] at h
    exact h
  · rintro l a X i ⟨t, rfl, hs, hF, hB, g0, g1, g2, g3, g4, g5, g6, g7, g8, g9⟩ hr
    obtain ⟨hu, o', ho, hdep⟩ := mem_ready.1 hr
    have hi10 : i < 10 := by
      rcases Nat.lt_or_ge i 10 with h | h
      · exact h
      · rw [Array.getElem?_eq_none (by simpa using h)] at ho
        cases ho
    have hui : l.getD i false = false := by
      have : l.getD i true = false := hu
      simpa [Array.getD, hs, hi10] using this
    have kp : ∀ j, ¬ j = i → (l.setIfInBounds i true).getD j false = l.getD j false := fun j hj => by rw [getD_set (by omega), if_neg hj]
    have ki : (l.setIfInBounds i true).getD i false = true := by rw [getD_set (by omega), if_pos rfl]
    have hs' : (l.setIfInBounds i true).size = 10 := by simp [hs]
    have xS := (hF.cell (p := ⟨s, 0, none⟩) zs.1 zs.2).trans hS
    have xL := (hF.cell (p := ⟨Bl, 0, none⟩) zl.1 zl.2).trans hL
    have xM := (hF.cell (p := ⟨Bm, 0, none⟩) zm.1 zm.2).trans hM
    clear hr hu
    rcases (show i = 0 ∨ i = 1 ∨ i = 2 ∨ i = 3 ∨ i = 4 ∨ i = 5 ∨ i = 6 ∨ i = 7 ∨ i = 8 ∨ i = 9 by omega) with rfl | rfl | rfl | rfl | rfl | rfl | rfl | rfl | rfl | rfl
    · simp only [List.getElem?_toArray, List.getElem?_cons_zero, Option.some.injEq] at ho
      subst ho
      clear hdep
      refine wpOpIn_of rfl rfl ?_
      generalize hK : At11 (fun t : Nat → Value => #[p0, .int .i64 ver, .pointer (some ⟨s, 0, none⟩), p3, t 8, t 9, .pointer (some ⟨R, 0, none⟩), .pointer (some ⟨Bm, 0, none⟩), .pointer (some ⟨Bl, 0, none⟩), p9, p10, p11, p12, p13, p14, p15, p16, p17, p18, p19, p20, p21, p22, p23, p24, p25, p26, p27, p28, p29, p30, p31, p32, p33, p34, p35, p36, p37, p38, p39, p40, p41, p42, p43, p44, p45, p46, p47, p48, p49, p50, p51, p52, p53, p54, p55, p56, p57, p58, p59, t 0, t 1, t 2, t 3, t 4, t 5, t 6, t 7]) ds W s R M ver now ad nl cap fl (l.setIfInBounds 0 true) = K
      go_simp
      rw [← hK]
      refine ⟨upA t 0 (.slice ad nl cap), ?_, hs', hF, fun h => by rw [kp 7 (by decide)] at h; exact hB h, fun _ => rfl, fun h => by rw [kp 1 (by decide)] at h; exact g1 h, fun h => by rw [kp 2 (by decide)] at h; exact g2 h, fun h => by rw [kp 3 (by decide)] at h; exact g3 h, fun h => by rw [kp 4 (by decide)] at h; exact g4 h, fun h => by rw [kp 5 (by decide)] at h; exact g5 h, fun h h7 => by rw [kp 6 (by decide)] at h; rw [kp 7 (by decide)] at h7; exact g6 h h7, fun h => by rw [kp 7 (by decide)] at h; exact g7 h, fun h => by rw [kp 8 (by decide)] at h; exact g8 h, fun h => by rw [kp 9 (by decide)] at h; exact g9 h⟩
      simp [upA]
    · simp only [List.getElem?_toArray, List.getElem?_cons_succ, List.getElem?_cons_zero, Option.some.injEq] at ho
      subst ho
      clear hdep
      refine wpOpIn_of rfl rfl ?_
      generalize hK : At11 (fun t : Nat → Value => #[p0, .int .i64 ver, .pointer (some ⟨s, 0, none⟩), p3, t 8, t 9, .pointer (some ⟨R, 0, none⟩), .pointer (some ⟨Bm, 0, none⟩), .pointer (some ⟨Bl, 0, none⟩), p9, p10, p11, p12, p13, p14, p15, p16, p17, p18, p19, p20, p21, p22, p23, p24, p25, p26, p27, p28, p29, p30, p31, p32, p33, p34, p35, p36, p37, p38, p39, p40, p41, p42, p43, p44, p45, p46, p47, p48, p49, p50, p51, p52, p53, p54, p55, p56, p57, p58, p59, t 0, t 1, t 2, t 3, t 4, t 5, t 6, t 7]) ds W s R M ver now ad nl cap fl (l.setIfInBounds 1 true) = K
      go_simp
      rw [← hK]
      refine ⟨upA t 1 (.map (some M)), ?_, hs', hF, fun h => by rw [kp 7 (by decide)] at h; exact hB h, fun h => by rw [kp 0 (by decide)] at h; exact g0 h, fun _ => rfl, fun h => by rw [kp 2 (by decide)] at h; exact g2 h, fun h => by rw [kp 3 (by decide)] at h; exact g3 h, fun h => by rw [kp 4 (by decide)] at h; exact g4 h, fun h => by rw [kp 5 (by decide)] at h; exact g5 h, fun h h7 => by rw [kp 6 (by decide)] at h; rw [kp 7 (by decide)] at h7; exact g6 h h7, fun h => by rw [kp 7 (by decide)] at h; exact g7 h, fun h => by rw [kp 8 (by decide)] at h; exact g8 h, fun h => by rw [kp 9 (by decide)] at h; exact g9 h⟩
      simp [upA]
    · simp only [List.getElem?_toArray, List.getElem?_cons_succ, List.getElem?_cons_zero, Option.some.injEq] at ho
      subst ho
      clear hdep
      refine wpOpIn_of rfl rfl ?_
      generalize hK : At11 (fun t : Nat → Value => #[p0, .int .i64 ver, .pointer (some ⟨s, 0, none⟩), p3, t 8, t 9, .pointer (some ⟨R, 0, none⟩), .pointer (some ⟨Bm, 0, none⟩), .pointer (some ⟨Bl, 0, none⟩), p9, p10, p11, p12, p13, p14, p15, p16, p17, p18, p19, p20, p21, p22, p23, p24, p25, p26, p27, p28, p29, p30, p31, p32, p33, p34, p35, p36, p37, p38, p39, p40, p41, p42, p43, p44, p45, p46, p47, p48, p49, p50, p51, p52, p53, p54, p55, p56, p57, p58, p59, t 0, t 1, t 2, t 3, t 4, t 5, t 6, t 7]) ds W s R M ver now ad nl cap fl (l.setIfInBounds 2 true) = K
      go_simp
      rw [← hK]
      refine ⟨upA t 2 (.pointer (some ⟨R, 0, none⟩)), ?_, hs', hF, fun h => by rw [kp 7 (by decide)] at h; exact hB h, fun h => by rw [kp 0 (by decide)] at h; exact g0 h, fun h => by rw [kp 1 (by decide)] at h; exact g1 h, fun _ => rfl, fun h => by rw [kp 3 (by decide)] at h; exact g3 h, fun h => by rw [kp 4 (by decide)] at h; exact g4 h, fun h => by rw [kp 5 (by decide)] at h; exact g5 h, fun h h7 => by rw [kp 6 (by decide)] at h; rw [kp 7 (by decide)] at h7; exact g6 h h7, fun h => by rw [kp 7 (by decide)] at h; exact g7 h, fun h => by rw [kp 8 (by decide)] at h; exact g8 h, fun h => by rw [kp 9 (by decide)] at h; exact g9 h⟩
      simp [upA]
    · simp only [List.getElem?_toArray, List.getElem?_cons_succ, List.getElem?_cons_zero, Option.some.injEq] at ho
      subst ho
      clear hdep
      refine wpOpIn_of rfl rfl ?_
      generalize hK : At11 (fun t : Nat → Value => #[p0, .int .i64 ver, .pointer (some ⟨s, 0, none⟩), p3, t 8, t 9, .pointer (some ⟨R, 0, none⟩), .pointer (some ⟨Bm, 0, none⟩), .pointer (some ⟨Bl, 0, none⟩), p9, p10, p11, p12, p13, p14, p15, p16, p17, p18, p19, p20, p21, p22, p23, p24, p25, p26, p27, p28, p29, p30, p31, p32, p33, p34, p35, p36, p37, p38, p39, p40, p41, p42, p43, p44, p45, p46, p47, p48, p49, p50, p51, p52, p53, p54, p55, p56, p57, p58, p59, t 0, t 1, t 2, t 3, t 4, t 5, t 6, t 7]) ds W s R M ver now ad nl cap fl (l.setIfInBounds 3 true) = K
      go_simp
      rw [← hK]
      refine ⟨upA t 3 (.int .i64 ver), ?_, hs', hF, fun h => by rw [kp 7 (by decide)] at h; exact hB h, fun h => by rw [kp 0 (by decide)] at h; exact g0 h, fun h => by rw [kp 1 (by decide)] at h; exact g1 h, fun h => by rw [kp 2 (by decide)] at h; exact g2 h, fun _ => rfl, fun h => by rw [kp 4 (by decide)] at h; exact g4 h, fun h => by rw [kp 5 (by decide)] at h; exact g5 h, fun h h7 => by rw [kp 6 (by decide)] at h; rw [kp 7 (by decide)] at h7; exact g6 h h7, fun h => by rw [kp 7 (by decide)] at h; exact g7 h, fun h => by rw [kp 8 (by decide)] at h; exact g8 h, fun h => by rw [kp 9 (by decide)] at h; exact g9 h⟩
      simp [upA]
    · simp only [List.getElem?_toArray, List.getElem?_cons_succ, List.getElem?_cons_zero, Option.some.injEq] at ho
      subst ho
      clear hdep
      refine wpOpIn_of rfl rfl ?_
      generalize hK : At11 (fun t : Nat → Value => #[p0, .int .i64 ver, .pointer (some ⟨s, 0, none⟩), p3, t 8, t 9, .pointer (some ⟨R, 0, none⟩), .pointer (some ⟨Bm, 0, none⟩), .pointer (some ⟨Bl, 0, none⟩), p9, p10, p11, p12, p13, p14, p15, p16, p17, p18, p19, p20, p21, p22, p23, p24, p25, p26, p27, p28, p29, p30, p31, p32, p33, p34, p35, p36, p37, p38, p39, p40, p41, p42, p43, p44, p45, p46, p47, p48, p49, p50, p51, p52, p53, p54, p55, p56, p57, p58, p59, t 0, t 1, t 2, t 3, t 4, t 5, t 6, t 7]) ds W s R M ver now ad nl cap fl (l.setIfInBounds 4 true) = K
      go_simp
      rw [← hK]
      refine ⟨upA t 4 (.pointer (some ⟨s, 0, none⟩)), ?_, hs', hF, fun h => by rw [kp 7 (by decide)] at h; exact hB h, fun h => by rw [kp 0 (by decide)] at h; exact g0 h, fun h => by rw [kp 1 (by decide)] at h; exact g1 h, fun h => by rw [kp 2 (by decide)] at h; exact g2 h, fun h => by rw [kp 3 (by decide)] at h; exact g3 h, fun _ => rfl, fun h => by rw [kp 5 (by decide)] at h; exact g5 h, fun h h7 => by rw [kp 6 (by decide)] at h; rw [kp 7 (by decide)] at h7; exact g6 h h7, fun h => by rw [kp 7 (by decide)] at h; exact g7 h, fun h => by rw [kp 8 (by decide)] at h; exact g8 h, fun h => by rw [kp 9 (by decide)] at h; exact g9 h⟩
      simp [upA]
    · simp only [List.getElem?_toArray, List.getElem?_cons_succ, List.getElem?_cons_zero, Option.some.injEq] at ho
      subst ho
      have e4 := g4 (hdep ⟨4, .data⟩ (by simp) rfl)
      clear hdep
      refine wpOpIn_of rfl rfl ?_
      generalize hK : At11 (fun t : Nat → Value => #[p0, .int .i64 ver, .pointer (some ⟨s, 0, none⟩), p3, t 8, t 9, .pointer (some ⟨R, 0, none⟩), .pointer (some ⟨Bm, 0, none⟩), .pointer (some ⟨Bl, 0, none⟩), p9, p10, p11, p12, p13, p14, p15, p16, p17, p18, p19, p20, p21, p22, p23, p24, p25, p26, p27, p28, p29, p30, p31, p32, p33, p34, p35, p36, p37, p38, p39, p40, p41, p42, p43, p44, p45, p46, p47, p48, p49, p50, p51, p52, p53, p54, p55, p56, p57, p58, p59, t 0, t 1, t 2, t 3, t 4, t 5, t 6, t 7]) ds W s R M ver now ad nl cap fl (l.setIfInBounds 5 true) = K
      go_simp
      rw [← hK]
      refine ⟨upA t 5 (.int .i64 now), ?_, hs', hF, fun h => by rw [kp 7 (by decide)] at h; exact hB h, fun h => by rw [kp 0 (by decide)] at h; exact g0 h, fun h => by rw [kp 1 (by decide)] at h; exact g1 h, fun h => by rw [kp 2 (by decide)] at h; exact g2 h, fun h => by rw [kp 3 (by decide)] at h; exact g3 h, fun h => by rw [kp 4 (by decide)] at h; exact g4 h, fun _ => rfl, fun h h7 => by rw [kp 6 (by decide)] at h; rw [kp 7 (by decide)] at h7; exact g6 h h7, fun h => by rw [kp 7 (by decide)] at h; exact g7 h, fun h => by rw [kp 8 (by decide)] at h; exact g8 h, fun h => by rw [kp 9 (by decide)] at h; exact g9 h⟩
      simp [upA, e4]
    · simp only [List.getElem?_toArray, List.getElem?_cons_succ, List.getElem?_cons_zero, Option.some.injEq] at ho
      subst ho
      have e2 := g2 (hdep ⟨2, .data⟩ (by simp) rfl)
      have e3 := g3 (hdep ⟨3, .data⟩ (by simp) rfl)
      have e5 := g5 (hdep ⟨5, .data⟩ (by simp) rfl)
      clear hdep
      have l7 : l.getD 7 false = false ∨ l.getD 7 false = true := by cases l.getD 7 false <;> simp
      refine wpOpIn_of rfl rfl ?_
      generalize hK : At11 (fun t : Nat → Value => #[p0, .int .i64 ver, .pointer (some ⟨s, 0, none⟩), p3, t 8, t 9, .pointer (some ⟨R, 0, none⟩), .pointer (some ⟨Bm, 0, none⟩), .pointer (some ⟨Bl, 0, none⟩), p9, p10, p11, p12, p13, p14, p15, p16, p17, p18, p19, p20, p21, p22, p23, p24, p25, p26, p27, p28, p29, p30, p31, p32, p33, p34, p35, p36, p37, p38, p39, p40, p41, p42, p43, p44, p45, p46, p47, p48, p49, p50, p51, p52, p53, p54, p55, p56, p57, p58, p59, t 0, t 1, t 2, t 3, t 4, t 5, t 6, t 7]) ds W s R M ver now ad nl cap fl (l.setIfInBounds 6 true) = K
      go_simp
      refine ⟨fun _ => by omega, ?_⟩
      refine (between_in F _ (hall 48) hro _ _ _ _).mono ?_
      rintro e Y ⟨rfl, hw⟩
      have hY : Below X.heap.size X Y := by rw [hw]; exact ((below_alloc _ _).alloc (by simp) _).alloc (by simp; omega) _
      have yz : X.heap.size + 3 ≤ Y.heap.size := by rw [hw]; simp
      have bR : Boxed Y X.heap.size 79 (.pointer (some ⟨R, 0, none⟩)) := by
        rw [hw]; simpa using ((Boxed.new X 79 (.pointer (some ⟨R, 0, none⟩))).alloc _).alloc _
      have bA : Boxed Y (X.heap.size + 1) 3 (.int .i64 ver) := by
        have h := (Boxed.new (X.alloc (.cells #[.pointer (some ⟨R, 0, none⟩)] 79)) 3 (.int .i64 ver)).alloc (.cells #[.int .i64 now] 3)
        rw [World.size_alloc] at h
        rw [hw]; exact h
      have bU : Boxed Y (X.heap.size + 1 + 1) 3 (.int .i64 now) := by
        have h := Boxed.new ((X.alloc (.cells #[.pointer (some ⟨R, 0, none⟩)] 79)).alloc (.cells #[.int .i64 ver] 3)) 3 (.int .i64 now)
        rw [World.size_alloc, World.size_alloc] at h
        rw [hw]; exact h
      rw [← hK]
      refine ⟨upA t 6 (.func (.func 104) #[] #[.pointer (some ⟨X.heap.size + 1, 0, none⟩), .pointer (some ⟨X.heap.size + 1 + 1, 0, none⟩), .pointer (some ⟨X.heap.size, 0, none⟩)]), ?_, hs', hF.trans (FrP.of_below hY), fun h => by rw [kp 7 (by decide)] at h; exact (hB h).trans (hY.mono (hB h).size), fun h => by rw [kp 0 (by decide)] at h; exact g0 h, fun h => by rw [kp 1 (by decide)] at h; exact g1 h, fun h => by rw [kp 2 (by decide)] at h; exact g2 h, fun h => by rw [kp 3 (by decide)] at h; exact g3 h, fun h => by rw [kp 4 (by decide)] at h; exact g4 h, fun h => by rw [kp 5 (by decide)] at h; exact g5 h, fun _ h7 => ⟨X.heap.size, rfl, hF.size, bR.cell, bA.cell, bU.cell, by omega⟩, fun h => by rw [kp 7 (by decide)] at h; exact g7 h, fun h => by rw [kp 8 (by decide)] at h; exact g8 h, fun h => by rw [kp 9 (by decide)] at h; exact g9 h⟩
      simp [upA, e2, e3, e5]
    · simp only [List.getElem?_toArray, List.getElem?_cons_succ, List.getElem?_cons_zero, Option.some.injEq] at ho
      subst ho
      have e1 := g1 (hdep ⟨1, .data⟩ (by simp) rfl)
      have l6 : l.getD 6 false = true := hdep ⟨6, .data⟩ (by simp) rfl
      clear hdep
      obtain ⟨b, e6, zb, xR, xA, xU, zb2⟩ := g6 l6 hui
      have hBX := hB hui
      have HR := hid (hring.below hBX zr.1 (Nat.le_refl _))
      have HOW := hid (ownsMap_below hown hBX zM)
      refine wpOpIn_of rfl rfl ?_
      generalize hK : At11 (fun t : Nat → Value => #[p0, .int .i64 ver, .pointer (some ⟨s, 0, none⟩), p3, t 8, t 9, .pointer (some ⟨R, 0, none⟩), .pointer (some ⟨Bm, 0, none⟩), .pointer (some ⟨Bl, 0, none⟩), p9, p10, p11, p12, p13, p14, p15, p16, p17, p18, p19, p20, p21, p22, p23, p24, p25, p26, p27, p28, p29, p30, p31, p32, p33, p34, p35, p36, p37, p38, p39, p40, p41, p42, p43, p44, p45, p46, p47, p48, p49, p50, p51, p52, p53, p54, p55, p56, p57, p58, p59, t 0, t 1, t 2, t 3, t 4, t 5, t 6, t 7]) ds W s R M ver now ad nl cap fl (l.setIfInBounds 7 true) = K
      go_simp
      refine ⟨fun _ => by omega, ?_⟩
      refine (allKnown_in F (m - 1) hcv (hall 67) (hall 63) (hall 114) (hall 104) (hall 102) hro (by omega) hPl _ _ _ R M f k n N0 L0 D0 x A C hkn hn2 hN0 hfn hfit hwfs X (by rw [xA, HVER.out]) (by rw [xU, HNOW.out]) xR (by omega) (by omega) (by omega) (by have := hBX.size; omega) (by omega) (by omega) zr.2 HR.out HOW.out ht0).mono ?_
      rw [hfl]
      rintro e Y ⟨rfl, hY⟩
      rw [← hK]
      refine ⟨upA t 7 (.bool fl), ?_, hs', hF.trans hY, fun h => (by rw [ki] at h; cases h), fun h => by rw [kp 0 (by decide)] at h; exact g0 h, fun h => by rw [kp 1 (by decide)] at h; exact g1 h, fun h => by rw [kp 2 (by decide)] at h; exact g2 h, fun h => by rw [kp 3 (by decide)] at h; exact g3 h, fun h => by rw [kp 4 (by decide)] at h; exact g4 h, fun h => by rw [kp 5 (by decide)] at h; exact g5 h, fun _ h7 => (by rw [ki] at h7; cases h7), fun _ => rfl, fun h => by rw [kp 8 (by decide)] at h; exact g8 h, fun h => by rw [kp 9 (by decide)] at h; exact g9 h⟩
      simp [upA, e1, e6]
    · simp only [List.getElem?_toArray, List.getElem?_cons_succ, List.getElem?_cons_zero, Option.some.injEq] at ho
      subst ho
      have e0 := g0 (hdep ⟨0, .data⟩ (by simp) rfl)
      clear hdep
      refine wpOpIn_of rfl rfl ?_
      generalize hK : At11 (fun t : Nat → Value => #[p0, .int .i64 ver, .pointer (some ⟨s, 0, none⟩), p3, t 8, t 9, .pointer (some ⟨R, 0, none⟩), .pointer (some ⟨Bm, 0, none⟩), .pointer (some ⟨Bl, 0, none⟩), p9, p10, p11, p12, p13, p14, p15, p16, p17, p18, p19, p20, p21, p22, p23, p24, p25, p26, p27, p28, p29, p30, p31, p32, p33, p34, p35, p36, p37, p38, p39, p40, p41, p42, p43, p44, p45, p46, p47, p48, p49, p50, p51, p52, p53, p54, p55, p56, p57, p58, p59, t 0, t 1, t 2, t 3, t 4, t 5, t 6, t 7]) ds W s R M ver now ad nl cap fl (l.setIfInBounds 8 true) = K
      go_simp
      rw [← hK]
      refine ⟨upA t 8 (.slice ad nl cap), ?_, hs', hF, fun h => by rw [kp 7 (by decide)] at h; exact hB h, fun h => by rw [kp 0 (by decide)] at h; exact g0 h, fun h => by rw [kp 1 (by decide)] at h; exact g1 h, fun h => by rw [kp 2 (by decide)] at h; exact g2 h, fun h => by rw [kp 3 (by decide)] at h; exact g3 h, fun h => by rw [kp 4 (by decide)] at h; exact g4 h, fun h => by rw [kp 5 (by decide)] at h; exact g5 h, fun h h7 => by rw [kp 6 (by decide)] at h; rw [kp 7 (by decide)] at h7; exact g6 h h7, fun h => by rw [kp 7 (by decide)] at h; exact g7 h, fun _ => rfl, fun h => by rw [kp 9 (by decide)] at h; exact g9 h⟩
      simp [upA, e0]
    · simp only [List.getElem?_toArray, List.getElem?_cons_succ, List.getElem?_cons_zero, Option.some.injEq] at ho
      subst ho
      have e7 := g7 (hdep ⟨7, .data⟩ (by simp) rfl)
      clear hdep
      refine wpOpIn_of rfl rfl ?_
      generalize hK : At11 (fun t : Nat → Value => #[p0, .int .i64 ver, .pointer (some ⟨s, 0, none⟩), p3, t 8, t 9, .pointer (some ⟨R, 0, none⟩), .pointer (some ⟨Bm, 0, none⟩), .pointer (some ⟨Bl, 0, none⟩), p9, p10, p11, p12, p13, p14, p15, p16, p17, p18, p19, p20, p21, p22, p23, p24, p25, p26, p27, p28, p29, p30, p31, p32, p33, p34, p35, p36, p37, p38, p39, p40, p41, p42, p43, p44, p45, p46, p47, p48, p49, p50, p51, p52, p53, p54, p55, p56, p57, p58, p59, t 0, t 1, t 2, t 3, t 4, t 5, t 6, t 7]) ds W s R M ver now ad nl cap fl (l.setIfInBounds 9 true) = K
      go_simp
      rw [← hK]
      refine ⟨upA t 9 (.bool fl), ?_, hs', hF, fun h => by rw [kp 7 (by decide)] at h; exact hB h, fun h => by rw [kp 0 (by decide)] at h; exact g0 h, fun h => by rw [kp 1 (by decide)] at h; exact g1 h, fun h => by rw [kp 2 (by decide)] at h; exact g2 h, fun h => by rw [kp 3 (by decide)] at h; exact g3 h, fun h => by rw [kp 4 (by decide)] at h; exact g4 h, fun h => by rw [kp 5 (by decide)] at h; exact g5 h, fun h h7 => by rw [kp 6 (by decide)] at h; rw [kp 7 (by decide)] at h7; exact g6 h h7, fun h => by rw [kp 7 (by decide)] at h; exact g7 h, fun h => by rw [kp 8 (by decide)] at h; exact g8 h, fun _ => rfl⟩
      simp [upA, e7]
end Go.Proofs.YtkecnaaacbckoaaGreat
namespace Go.Proofs.YtkecnaaacbckoaaGreat
open Go.RowKit
set_option maxRecDepth 100000 in
theorem insNil_any (v : Value) (w : World) :
    Calls Tryz.prog 144 #[.slice none 0 0, .int .i64 0, .int .i64 0, v] w fun e w' => e = .returned (.tuple #[]) ∧ Below w.heap.size w w' := by
  go_enter Tryz.func144, Tryz.ntmps144
  go_wp2
  refine wp_loop_rounds 1 ?_
  rw [rounds_succ]
  go_wp2
  go_end0
  exact ⟨rfl, Below.refl _ _⟩
set_option maxRecDepth 100000 in
theorem pdqNil_any (v l : Value) (w : World) :
    Calls Tryz.prog 111 #[.slice none 0 0, .int .i64 0, .int .i64 0, l, v] w fun e w' => e = .returned (.tuple #[]) ∧ Below w.heap.size w w' := by
  go_enter Tryz.func111, Tryz.ntmps111
  go_wp2
  refine wp_loop_rounds 1 ?_
  rw [rounds_succ]
  go_wp2_with (go_at_call 144; go_must (refine (insNil_any v _).mono ?_; rintro e w1 ⟨rfl, hb1⟩))
  refine bodyPost_ret (v := .tuple #[]) (by simp [results, Tryz.results111, go_sem]) rfl ⟨rfl, ?_⟩
  exact hb1
set_option maxRecDepth 100000 in
theorem len64Nil_any (w : World) :
    Calls Tryz.prog 153 #[.int .u64 0] w fun e w' => ∃ k : Int, e = .returned (.int .i64 k) ∧ Below w.heap.size w w' := by
  go_enter Tryz.func153, Tryz.ntmps153
  go_wp2
  go_ret
  exact ⟨_, rfl, Below.refl _ _⟩
set_option maxRecDepth 100000 in
theorem lenNil_any (w : World) :
    Calls Tryz.prog 112 #[.int .u64 0] w fun e w' => ∃ k : Int, e = .returned (.int .i64 k) ∧ Below w.heap.size w w' := by
  go_enter Tryz.func112, Tryz.ntmps112
  go_wp2_with (go_at_call 153; go_must (refine (len64Nil_any _).mono ?_; rintro e w1 ⟨k, rfl, hb1⟩))
  go_ret
  exact ⟨_, rfl, hb1⟩
set_option maxRecDepth 100000 in
/-- slices.SortFunc of a nil slice -/
theorem sortNil_any (v : Value) (w : World) :
    Calls Tryz.prog 65 #[.slice none 0 0, v] w fun e w' => e = .returned (.tuple #[]) ∧ Below w.heap.size w w' := by
  go_enter Tryz.func65, Tryz.ntmps65
  go_wp2_with (first
    | (go_at_call 112; go_must (refine (lenNil_any _).mono ?_; rintro e w1 ⟨k, rfl, hb1⟩))
    | (go_at_call 111; go_must (refine (pdqNil_any v _ _).mono ?_; rintro e w2 ⟨rfl, hb2⟩)))
  go_end0
  exact ⟨rfl, hb1.trans (hb2.mono hb1.size)⟩
end Go.Proofs.YtkecnaaacbckoaaGreat
namespace Go.Proofs.YtkecnaaacbckoaaGreat
open Go.RowKit Go.Shelf Go.Maps
attribute [local go_sem] Oper.semAt_some
theorem wf_small {a : Int} (h0 : 0 ≤ a) (h1 : a ≤ 2000000) : (Lit.int .i64 a).wf = true := by
  have e1 : IntKind.i64.min = -9223372036854775808 := rfl
  have e2 : IntKind.i64.max = 9223372036854775807 := rfl
  simp [Lit.wf]
  omega
theorem RingAt.less {w : World} {R n k f : Nat} {x : Nat → Ch} {A : Nat → Option Addr} {C : Nat → Nat} (h : RingAt w R n f x A C) (hk : k ≤ n) : RingAt w R k f x A C := ⟨h.room, fun i hi => h.at_ i (by omega)⟩
theorem BdOb.weaken {w : World} {base base' : Nat} {v : Value} {k : Nat} {x y : Nat → Ob} {A : Nat → Option Addr} {C hb : Nat → Nat} (h : BdOb w base v k x A C hb) (hb' : base' ≤ base) (e : ∀ i, i < k → x i = y i) : BdOb w base' v k y A C hb := by
  refine ⟨?_, fun i hi => by rw [← e i hi]; exact h.hold i hi, fun i hi h0 => ?_, fun i hi h0 => h.ne i hi (by rw [e i hi]; exact h0), fun i j hi hj h0 h1 q => h.inj i j hi hj (by rw [e i hi]; exact h0) (by rw [e j hj]; exact h1) q⟩
  · obtain ⟨c, r, ha⟩ := h.row
    refine ⟨c, ⟨r.1, ?_⟩, fun i hi => by rw [← e i hi]; exact ha i hi⟩
    rcases r.2 with r2 | ⟨g, cap, cur, e1, e2, e3⟩
    · exact Or.inl r2
    · exact Or.inr ⟨g, cap, cur, e1, Nat.le_trans hb' e2, e3⟩
  · have := h.hlt i hi (by rw [e i hi]; exact h0)
    omega
/-- slices.SortFunc over a list that was built by appends -/
theorem sortBd_any {w : World} {base : Nat} {v : Value} {n : Nat} {x : Nat → Ob} {A : Nat → Option Addr} {C hb : Nat → Nat} (h : BdOb w base v n x A C hb) (hn : n ≤ 1000000) :
    Calls Tryz.prog 65 #[v, .func (.func 66) #[] #[]] w fun e w' => e = .returned (.tuple #[]) ∧ ∃ (y : Nat → Ob) (ad : Option Addr) (cap g : Nat) (A' : Nat → Option Addr) (C' hb' : Nat → Nat), v = .slice ad n cap ∧ ObsAt w' ad g n y A' C' hb' ∧ (∀ q, blkH g n (fun i => (y i).hn) hb' q → base ≤ q ∧ (v.ownBlock = some q ∨ ∃ i, i < n ∧ (x i).hn ≠ 0 ∧ q = hb i)) ∧ (toL n y).Perm (toL n x) ∧ (toL n y).Pairwise (fun a b => befB b a = false) ∧ FrP (fun q => v.ownBlock = some q) w w' := by
  obtain ⟨c, r, hat⟩ := h.row
  rcases r.2 with ⟨rfl, rfl⟩ | ⟨g, cap, cur, rfl, h1, _⟩
  · refine (sortNil_any _ w).mono ?_
    rintro e w' ⟨rfl, hb'⟩
    refine ⟨rfl, x, none, 0, 0, A, C, hb, rfl, ⟨fun h0 => absurd h0 (Nat.lt_irrefl _), fun h0 => absurd h0 (Nat.lt_irrefl _), fun i hi => absurd hi (Nat.not_lt_zero _), fun i hi => absurd hi (Nat.not_lt_zero _), ⟨fun i hi => absurd hi (Nat.not_lt_zero _), fun i j hi => absurd hi (Nat.not_lt_zero _)⟩⟩, fun q hq => ?_, List.Perm.refl _, by simp [toL], FrP.of_below hb'⟩
    rcases hq with ⟨h0, _⟩ | ⟨i, hi, _⟩
    · exact absurd h0 (Nat.lt_irrefl _)
    · exact absurd hi (Nat.not_lt_zero _)
  · have R := row_of_own r
    have hs := sort_any g 0 cap (rowO n x A C) w (rowO_holds R hat) (r.lt g rfl).2 (by rw [rowO_size]; omega)
    rw [rowO_size] at hs
    refine hs.mono ?_
    rintro e w' ⟨rfl, d', m, os, hp, hso, rfl⟩
    obtain ⟨y, A', C', hb', he, hob, hq, hpm⟩ := sort_after (m := m) (os := os) h hp
    refine ⟨rfl, y, some ⟨g, 0, none⟩, cap, g, A', C', hb', rfl, hob, hq, hpm, sort_asc he hso, (frP_sort w g m d' os).mono (fun q e => by rw [e]; rfl)⟩
theorem ObsAt.no {w : World} {ad : Option Addr} {g n : Nat} {x : Nat → Ob} {A : Nat → Option Addr} {C hb : Nat → Nat} (h : ObsAt w ad g n x A C hb) {D : Nat} {ds : Option (List Deferred)} (hD : w.heap[D]? = some (.deferred ds)) : ¬ blkH g n (fun i => (x i).hn) hb D := by
  have hc : ∀ o, w.cell? ⟨D, o, none⟩ = none := fun o => by simp [World.cell?, hD]
  intro hq
  rcases hq with ⟨h0, rfl⟩ | ⟨i, hi, h0, rfl⟩
  · obtain ⟨c, r, _⟩ := h.row h0
    have := r.cell 0 (by omega)
    rw [hc] at this
    cases this
  · obtain ⟨b, off, e1, e2, e3, e4, _⟩ := h.hold i hi 0 (by have h0' : (x i).hn ≠ 0 := h0; omega)
    obtain rfl : b = hb i := by omega
    rw [hc] at e4
    cases e4
theorem unt_lt {B : Bk} {n i : Nat} (h : i < (unt B (List.range n)).length) : ∃ q, q < n ∧ (unt B (List.range n)).getD i 0 = q := by
  refine ⟨_, ?_, rfl⟩
  rw [List.getD_eq_getElem?_getD, List.getElem?_eq_getElem h]
  have hm := List.getElem_mem h
  have := (List.mem_filter.1 (show _ ∈ List.filter _ _ from hm)).1
  simpa using this
set_option maxRecDepth 100000 in
set_option maxHeartbeats 4000000 in
theorem implAtYes_in (F : Fence) (m : Nat) (hcv : ∀ (k f : Nat) (args : Array Value) (w : World) (R : Ending → World → Prop), Calls Tryz.prog f args w R → CallsIn F k Tryz.prog f args w R) (hall : ∀ f, F.fn f) (hro : F.round = none) (hm : 6 ≤ m)
    (hPl : ∀ (q : Nat) (R : Nat) (v : Int) (w : World), 0 ≤ v → v ≤ 1000000 → CallsIn F q Tryz.prog 102 #[.pointer (some ⟨R, 0, none⟩), .int .i64 v] w fun e w' => e = .returned (.pointer (some ⟨R, (v % 200).toNat * 9, none⟩)) ∧ w' = w)
    (B : Bk) (p : Pl) (c1 c2 c3 : Nat) (ver : Int) (k : Nat) (w : World) (hfit : BkFit B) (hat : BkAt w B p) (hv : allTo (chk B) 7 = true) (hk : k ≤ B.hn) (hver : ver = B.floor + k) :
    CallsIn F m Tryz.prog 16 #[.agg #[.int .i64 B.now, .int .i64 B.floor, .slice p.a1 B.on c1, .slice p.a2 B.hn c2, .slice p.a3 B.tn c3], .int .i64 ver] w fun e w' => ∃ (n : Nat) (y : Nat → Ob) (ad' : Option Addr) (cap' g : Nat) (A : Nat → Option Addr) (C hb : Nat → Nat), e = .returned (.tuple #[.slice ad' n cap', .bool (knw B.hs (List.range k) ((List.range (B.hn - k)).map (k + ·)))]) ∧ ObsAt w' ad' g n y A C hb ∧ (∀ q, blkH g n (fun i => (y i).hn) hb q → w.heap.size ≤ q) ∧ Below w.heap.size w w' ∧ (toL n y).Perm (impRow B k) ∧ (toL n y).Pairwise (fun a b => befB b a = false) := by
  have h1 : 1 ≤ m := by omega
  obtain ⟨v0, v1, v2, v3, v4, v5⟩ := valid_hist hv
  obtain ⟨von, vasc⟩ := valid_asc hv
  obtain ⟨f, hfl⟩ : ∃ f : Nat, B.floor = (f : Int) := ⟨B.floor.toNat, by omega⟩
  have hnow : B.now = ((f + B.hn : Nat) : Int) := by omega
  have hfn : f + B.hn ≤ 1000000 := by omega
  have hver2 : ver = ((f + k : Nat) : Int) := by omega
  have hi2 : inB ver B.floor B.now = true := by simp [inB]; omega
  have HX := hid hat
  have HIN := hid (hat.isIn (lo := 0) (fun _ _ => Nat.zero_le _))
  have hgl : 0 < B.hn → p.g2 < w.heap.size := fun h0 => by obtain ⟨c, r, _⟩ := HX.out.h.row h0; exact r.lt
  have hcc : ∀ i, i < B.hn → ChCells w p.g2 (i * 9) (B.hs i) (p.A2 i) (p.C2 i) := fun i hi' => by
    obtain ⟨c, r, e⟩ := HX.out.h.row (by omega)
    obtain ⟨a0, a1, a2, a3, a4, a5, a6, a7, a8⟩ := e i hi'
    exact ⟨(r.cell _ (by omega)).trans (congrArg some a0), (r.cell _ (by omega)).trans (congrArg some a1), (r.cell _ (by omega)).trans (congrArg some a2), (r.cell _ (by omega)).trans (congrArg some a3), (r.cell _ (by omega)).trans (congrArg some a4), (r.cell _ (by omega)).trans (congrArg some a5), (r.cell _ (by omega)).trans (congrArg some a6), (r.cell _ (by omega)).trans (congrArg some a7), (r.cell _ (by omega)).trans (congrArg some a8)⟩
  have HCC := hid hcc
  have HFL := hid hfl
  have HNOW := hid hnow
  have HVER := hid hver2
  have HV5 := hid v5
  clear hat hcc hfl hnow hver2 v5 hver
  refine callsIn_of_wp_marks Tryz.func16 rfl (hall 16) ?_ hro
  simp only [Tryz.ntmps16, List.size_toArray, List.length_cons, List.length_nil, Nat.reduceAdd, Nat.reduceSub, Array.replicate_succ, Array.replicate_zero, List.push_toArray, List.append_toArray, List.nil_append, List.cons_append]
  gi_wp2_with (first
    | (gi_at_call 44; go_must (refine (hcv _ _ _ _ _ (implValid_any B _ _ _ c1 c2 c3 _ 0 w.heap.size (by simp) hfit (HIN.out.below (below_alloc _ _) (Nat.le_refl _)))).mono ?_; rw [hv]; rintro e w1 ⟨rfl, hb1⟩; have H1 := (holds_new w (bkCells B p.a1 p.a2 p.a3 c1 c2 c3) 32).below hb1 (by simp); obtain ⟨p0, p1, p2, p3, p4⟩ := holds_bk H1))
    | (gi_at_call 60; go_must (refine (hcv _ _ _ _ _ (within_any _ _ _ _)).mono ?_; rw [hi2]; rintro e w2 ⟨rfl, rfl⟩)))
  have hB2 : Below w.heap.size w w2 := (below_alloc _ _).trans (hb1.mono (by simp))
  have z2 : w.heap.size < w2.heap.size := by have := hb1.size; simp at this; omega
  have HB2 := hid H1
  clear hb1 H1
  refine (hcv _ _ _ _ _ (ringOf_any B.hn B.hs p.a2 p.g2 c2 p.A2 p.C2 f w2 v3 hfn (fun i hi' => by rw [(HV5.out i hi').1, HFL.out]) HX.out.h.addr (fun h0 => by have := hgl h0; omega) (fun i hi' => (HCC.out i hi').below hB2 (hgl (by omega))))).mono ?_
  rintro e w3 ⟨rfl, hring, hb3⟩
  have z3 : w2.heap.size < w3.heap.size := hring.room.lt
  have HRG := hid hring
  have HB3 := hid (HB2.out.below hb3 z2)
  have hB3 : Below w.heap.size w w3 := hB2.trans (hb3.mono (by omega))
  clear hring p0 p1 p2 p3 p4 HB2 hb3
  obtain ⟨p0, p1, p2, p3, p4⟩ := holds_bk HB3.out
  gi_wp2_with fail
  refine (between_in F _ (hall 48) hro _ _ _ _).mono ?_
  rintro e w4 ⟨rfl, hw4⟩
  have z4 : w3.heap.size + 3 ≤ w4.heap.size ∧ w4.heap.size ≤ w3.heap.size + 3 := by rw [hw4]; simp
  have hb4 : Below w3.heap.size w3 w4 := by rw [hw4]; exact ((below_alloc _ _).alloc (by simp) _).alloc (by simp; omega) _
  have bR : Boxed w4 w3.heap.size 79 (.pointer (some ⟨w2.heap.size, 0, none⟩)) := by
    rw [hw4]; simpa using ((Boxed.new w3 79 (.pointer (some ⟨w2.heap.size, 0, none⟩))).alloc _).alloc _
  have bA : Boxed w4 (w3.heap.size + 1) 3 (.int .i64 B.floor) := by
    have h := (Boxed.new (w3.alloc (.cells #[.pointer (some ⟨w2.heap.size, 0, none⟩)] 79)) 3 (.int .i64 B.floor)).alloc (.cells #[.int .i64 ver] 3)
    rw [World.size_alloc] at h
    rw [hw4]; exact h
  have bU : Boxed w4 (w3.heap.size + 1 + 1) 3 (.int .i64 ver) := by
    have h := Boxed.new ((w3.alloc (.cells #[.pointer (some ⟨w2.heap.size, 0, none⟩)] 79)).alloc (.cells #[.int .i64 B.floor] 3)) 3 (.int .i64 ver)
    rw [World.size_alloc, World.size_alloc] at h
    rw [hw4]; exact h
  have HRG4 := hid (HRG.out.below hb4 z3 (Nat.le_refl _))
  have HB4 := hid (HB3.out.below hb4 (by omega))
  have hB4 : Below w.heap.size w w4 := hB3.trans (hb4.mono (by omega))
  clear p0 p1 p2 p3 p4 HB3 hw4 HRG hb4 hB3
  gi_wp2_with fail
  refine (lastVers_in F (m - 1) hcv (hall 61) (hall 63) (hall 104) (hall 102) hro (by omega) hPl _ _ _ w2.heap.size f 0 k B.hs p.A2 p.C2 (Nat.zero_le _) (by omega) (by omega) (fun i hi => hfit.hs i (by omega)) (fun i hi => wf_small (by rw [(HV5.out i (by omega)).1]; omega) (by rw [(HV5.out i (by omega)).1]; omega)) w4 (by rw [bA.cell, HFL.out]; simp) (by rw [bU.cell, HVER.out]) bR.cell (by omega) (by omega) (by omega) (by omega) (HRG4.out.less hk)).mono ?_
  rintro e w5 ⟨D, rfl, hown, hq, hb5⟩
  rw [Nat.sub_zero] at hown hq
  simp only [Nat.zero_add] at hq
  have HQT := hid hq
  have z5 := hb5.size
  have HRG5 := hid (HRG4.out.below hb5 (by omega) (Nat.le_refl _))
  have HB5 := hid (HB4.out.below hb5 (by omega))
  have hB5 : Below w.heap.size w w5 := hB4.trans (hb5.mono (by omega))
  have HOWN := hid hown
  have zM := hown.lt
  clear HRG4 HB4 hB4 hb5 hown hq bR bA bU
  obtain ⟨p0, p1, p2, p3, p4⟩ := holds_bk HB5.out
  have zx5 : w.heap.size < w5.heap.size := by omega
  gi_wp2_with fail
  refine (untold_in F (m - 1) hcv (hall 62) (hall 109) (hall 64) (hall 143) (hall 74) hro (by omega) B _ _ _ c1 c2 c3 _ 0 w.heap.size (by simp; omega) hfit (by omega) (HIN.out.below (hB5.alloc (by omega) _) (Nat.le_refl _))).mono ?_
  rw [flt_all B.on (fun i _ => lkB_nil (B.os i))]
  rintro e w7 ⟨v, A0, C0, h0, rfl, bd7, hb7⟩
  obtain ⟨ad0, cap0, g0, hv0, _, _⟩ := bd7.done
  obtain ⟨n0, hn0⟩ : ∃ n0, (unt B (List.range B.on)).length = n0 := ⟨_, rfl⟩
  have HN0 := hid hn0
  rw [hn0] at hv0
  subst hv0
  clear hn0
  obtain ⟨w6, hw6⟩ : ∃ w6, w5.alloc (.cells #[.map (some w4.heap.size)] 94) = w6 := ⟨_, rfl⟩
  have z6 : w5.heap.size + 1 ≤ w6.heap.size ∧ w6.heap.size ≤ w5.heap.size + 1 := by rw [← hw6]; simp
  have b56 : Below w5.heap.size w5 w6 := by rw [← hw6]; exact below_alloc _ _
  rw [hw6] at bd7 hb7
  have bM6 : Boxed w6 w5.heap.size 94 (.map (some w4.heap.size)) := by rw [← hw6]; exact Boxed.new _ _ _
  have z7 := hb7.size
  have b57 : Below w5.heap.size w5 w7 := b56.trans (hb7.mono (by omega))
  have HRG7 := hid (HRG5.out.below b57 (by omega) (Nat.le_refl _))
  have HB7 := hid (HB5.out.below b57 (by omega))
  have hB7 : Below w.heap.size w w7 := hB5.trans (b57.mono (by omega))
  have HBM7 := hid (Boxed.of_below bM6 hb7)
  have HOWN7 := hid (ownsMap_below HOWN.out b57 (by omega))
  have BD7 := hid bd7
  clear p0 p1 p2 p3 p4 hw6 HRG5 HB5 bM6 bd7 HOWN hB5
  obtain ⟨p0, p1, p2, p3, p4⟩ := holds_bk HB7.out
  have zx7 : w.heap.size < w7.heap.size := by omega
  gi_wp2_with fail
  refine (between_in F _ (hall 48) hro _ _ _ _).mono ?_
  rintro e w9 ⟨rfl, hw9⟩
  obtain ⟨w8, hw8⟩ : ∃ w8, w7.alloc (.cells #[.slice ad0 n0 cap0] 28) = w8 := ⟨_, rfl⟩
  rw [hw8] at hw9
  have z8 : w7.heap.size + 1 ≤ w8.heap.size ∧ w8.heap.size ≤ w7.heap.size + 1 := by rw [← hw8]; simp
  have b78 : Below w7.heap.size w7 w8 := by rw [← hw8]; exact below_alloc _ _
  have bL8 : Boxed w8 w7.heap.size 28 (.slice ad0 n0 cap0) := by rw [← hw8]; exact Boxed.new _ _ _
  have z9 : w8.heap.size + 3 ≤ w9.heap.size ∧ w9.heap.size ≤ w8.heap.size + 3 := by rw [hw9]; simp
  have b89 : Below w8.heap.size w8 w9 := by rw [hw9]; exact ((below_alloc _ _).alloc (by simp) _).alloc (by simp; omega) _
  have bR : Boxed w9 w8.heap.size 79 (.pointer (some ⟨w2.heap.size, 0, none⟩)) := by
    rw [hw9]; simpa using ((Boxed.new w8 79 (.pointer (some ⟨w2.heap.size, 0, none⟩))).alloc _).alloc _
  have bA : Boxed w9 (w8.heap.size + 1) 3 (.int .i64 B.floor) := by
    have h := (Boxed.new (w8.alloc (.cells #[.pointer (some ⟨w2.heap.size, 0, none⟩)] 79)) 3 (.int .i64 B.floor)).alloc (.cells #[.int .i64 ver] 3)
    rw [World.size_alloc] at h
    rw [hw9]; exact h
  have bU : Boxed w9 (w8.heap.size + 1 + 1) 3 (.int .i64 ver) := by
    have h := Boxed.new ((w8.alloc (.cells #[.pointer (some ⟨w2.heap.size, 0, none⟩)] 79)).alloc (.cells #[.int .i64 B.floor] 3)) 3 (.int .i64 ver)
    rw [World.size_alloc, World.size_alloc] at h
    rw [hw9]; exact h
  have e8 : w8.heap.size = w7.heap.size + 1 := by omega
  rw [e8] at bR bA bU
  have b79 : Below w7.heap.size w7 w9 := b78.trans (b89.mono (by omega))
  have hB9 : Below w.heap.size w w9 := hB7.trans (b79.mono (by omega))
  have HRG9 := hid (HRG7.out.below b79 (by omega) (Nat.le_refl _))
  have HB9 := hid (HB7.out.below b79 (by omega))
  have HBM9 := hid (Boxed.of_below HBM7.out b79)
  have HOWN9 := hid (ownsMap_below HOWN7.out b79 (by omega))
  have BL9 := hid (Boxed.of_below bL8 b89)
  have hL : ∀ i, i < (unt B (List.range B.on)).length → pick B.os (unt B (List.range B.on)) i = pick (zOf B) (unt B (List.range B.on)) i := fun i hi => by
    obtain ⟨q, hq, e⟩ := unt_lt hi
    unfold pick
    rw [e, zOf_os hq]
  have BD9 := hid ((BD7.out.weaken (base' := w6.heap.size) (by omega) hL).grow b79)
  rw [← hw9] at *
  clear p0 p1 p2 p3 p4 HRG7 HB7 bL8 HBM7 HOWN7 hw8
  gi_wp2_with fail
  have hst : ∀ i, i < k → StrsIn w9 0 w.heap.size (p.A2 i) (B.hs i).ob.hn (B.hs i).ob.hs := fun i hi j hj => by
    obtain ⟨b, off, e1, e2, e3, e4, _⟩ := HX.out.h.hold i (by omega) j hj
    have := HX.out.h.hlt i (by omega) (by omega)
    exact ⟨b, off, e1, Nat.zero_le _, by omega, (hB9.cell (p := ⟨b, off + j, none⟩) (by show b < _; omega)).trans e4⟩
  have bdp : BdP (fun q => (w6.heap.size ≤ q ∧ q < w7.heap.size) ∨ w9.heap.size ≤ q) w9 w6.heap.size (.slice ad0 n0 cap0) (unt B (List.range B.on)).length (pick (zOf B) (unt B (List.range B.on))) A0 C0 h0 := by
    refine ⟨BD9.out, fun q hq => Or.inl ?_, fun i hi h0 => Or.inl ?_⟩
    · obtain ⟨c, r, _⟩ := BD7.out.row
      have := r.lt q hq
      omega
    · have := BD7.out.hlt i hi (by rw [hL i hi]; exact h0)
      omega
  refine loopAt_in F m hcv hall hro (by omega) hPl _ _ _ _ _ _ _ _ _ _ _ _ _ _ _ _ _ _ _ _ _ _ _ _ _ _ _ _ _ _ _ _ _ _ (w7.heap.size + 1 + 1) (w7.heap.size + 1 + 1 + 1) (w7.heap.size + 1) w5.heap.size w7.heap.size w2.heap.size w4.heap.size k w7.heap.size w6.heap.size w.heap.size f k B.on D (cVf B.hs k) B.hs (zOf B) p.A2 p.C2 (unt B (List.range B.on)) (.slice ad0 n0 cap0) A0 C0 h0 (by omega) (by omega) (by have h := unt_len B (List.range B.on); rw [List.length_range] at h; omega) (fun i hi => hfit.hs i (by omega)) w9 (fun i _ => zOf_hs B i) (fun i hi => HQT.out.at_ hi (by have := (hfit.hs i (by omega)).k; unfold maxLen; omega) (by have := (hfit.hs i (by omega)).n; unfold maxLen; omega)) (by rw [bA.cell, HFL.out]; simp) (by rw [bU.cell, HVER.out]) bR.cell (by omega) (by omega) (by omega) (by omega) (by omega) (by omega) (by omega) (by omega) (by omega) (by omega) (HRG9.out.less hk) hst HBM9.out HOWN9.out BL9.out bdp _ ?_
  intro D' v1 A1 C1 hb1 W zD hD bV bd hF
  have hlen : (selL (fun j => !(B.hs j).gone && cVf B.hs k j == (B.hs j).ver) B.on (unt B (List.range B.on)) (List.range k)).length ≤ 1000000 := by
    have h1 := selL_len (fun j => !(B.hs j).gone && cVf B.hs k j == (B.hs j).ver) B.on (unt B (List.range B.on)) (List.range k)
    have h2 := unt_len B (List.range B.on)
    rw [List.length_range] at h1 h2
    omega
  have hrow := toL_pick (zOf B) (selL (fun j => !(B.hs j).gone && cVf B.hs k j == (B.hs j).ver) B.on (unt B (List.range B.on)) (List.range k))
  rw [impRow_sel hv hk] at hrow
  obtain ⟨ad1, cap1, g1, hv1, _, _⟩ := bd.bd.done
  generalize (selL (fun j => !(B.hs j).gone && cVf B.hs k j == (B.hs j).ver) B.on (unt B (List.range B.on)) (List.range k)).length = nn at bd hv1 hlen hrow
  generalize pick (zOf B) (selL (fun j => !(B.hs j).gone && cVf B.hs k j == (B.hs j).ver) B.on (unt B (List.range B.on)) (List.range k)) = yy at bd hrow
  subst hv1
  have hPN : ∀ q, q < w6.heap.size → ¬ (q = w7.heap.size ∨ (w6.heap.size ≤ q ∧ q < w7.heap.size) ∨ w9.heap.size ≤ q) := fun q hq => by omega
  have zW := hF.size
  have xS := (hF.cell (p := ⟨w.heap.size, 0, none⟩) (by show w.heap.size < _; omega) (hPN _ (by show w.heap.size < _; omega))).trans (holds_bk HB9.out).1
  have xM := (hF.cell (p := ⟨w5.heap.size, 0, none⟩) (by show w5.heap.size < _; omega) (hPN _ (by show w5.heap.size < _; omega))).trans HBM9.out.cell
  have HRGW := hid (HRG9.out.frP hF (hPN _ (by omega)))
  have HOWW := hid (show W.ownsMap Tryz.prog 98 (plainElem Tryz.prog 3) w4.heap.size k D from by
    obtain ⟨es, clock, h1, r⟩ := HOWN9.out
    exact ⟨es, clock, (hF.block w4.heap.size (by omega) (hPN _ (by omega))).trans h1, r⟩)
  have hBW : Below w.heap.size w W := hB9.trans (hF.below (fun q hq => hPN q (by omega)) (by omega))
  have zL := bV.lt
  have cV := bV.cell
  have hne : ∀ q, (Value.slice ad1 nn cap1).ownBlock = some q → w6.heap.size ≤ q ∧ q ≠ w7.heap.size ∧ q ≠ D' := fun q e => by
    obtain ⟨c, r, _⟩ := bd.bd.row
    have h1 := (r.lt q e).1
    have h2 := bd.pr q e
    refine ⟨h1, by omega, fun e2 => ?_⟩
    subst e2
    rcases r.2 with ⟨h3, _⟩ | ⟨g, cap, cur, h3, _, h4, _⟩
    · rw [h3] at e; cases e
    · rw [h3] at e
      cases e
      rw [hD] at h4
      cases h4
  have BDW := hid bd
  have HDW := hid hD
  have HNE := hid hne
  clear bd hne HB9 HBM9 HRG9 HOWN9 BL9 BD9 BD7 hst bdp hL bR bA bU HX HCC HIN hD
  gi_wp2_with fail
  refine (hcv _ _ _ _ _ (sortBd_any BDW.out.bd hlen)).mono ?_
  rintro e W2 ⟨rfl, y, ad, cap, g, A', C', hb', hv2, hob, hq, hpm, hasc, hF2⟩
  injection hv2 with hv2a _ hv2c
  subst hv2a
  subst hv2c
  have zW2 := hF2.size
  have xS2 := (hF2.cell (p := ⟨w.heap.size, 0, none⟩) (by show w.heap.size < _; omega) (fun e => by have := HNE.out w.heap.size e; omega)).trans xS
  have xM2 := (hF2.cell (p := ⟨w5.heap.size, 0, none⟩) (by show w5.heap.size < _; omega) (fun e => by have := HNE.out w5.heap.size e; omega)).trans xM
  have xL2 := (hF2.cell (p := ⟨w7.heap.size, 0, none⟩) zL (fun e => (HNE.out _ e).2.1 rfl)).trans cV
  have HRG2 := hid (HRGW.out.frP hF2 (fun e => by have := HNE.out _ e; omega))
  have HOW2 := hid (show W2.ownsMap Tryz.prog 98 (plainElem Tryz.prog 3) w4.heap.size k D from by
    obtain ⟨es, clock, h1, r⟩ := HOWW.out
    exact ⟨es, clock, (hF2.block w4.heap.size (by omega) (fun e => by have := HNE.out _ e; omega)).trans h1, r⟩)
  have hBW2 : Below w.heap.size w W2 := hBW.trans (hF2.below (fun q hq e => by have := HNE.out q e; omega) (by omega))
  have hD2 : W2.heap[D']? = some (.deferred (some [])) := (hF2.block D' (by have := (Array.getElem?_eq_some_iff.1 HDW.out).1; omega) (fun e => (HNE.out _ e).2.2 rfl)).trans HDW.out
  have HOB := hid hob
  have HQ := hid hq
  have HPM := hid hpm
  have HAS := hid hasc
  have HD2 := hid hD2
  have zD2 := (Array.getElem?_eq_some_iff.1 hD2).1
  clear hob hq hpm hasc hD2 hF2 HRGW HOWW xS xM cV bV BDW HDW
  gi_wp2_with fail
  refine atReg11 F m hcv hall hro hm hPl _ _ _ _ _ _ _ _ _ _ _ _ _ _ _ _ _ _ _ _ _ _ _ _ _ _ _ _ _ _ _ _ _ _ _ _ _ _ _ _ _ _ _ _ _ _ _ _ _ _ _ _ _ _ _ _ w.heap.size w2.heap.size w4.heap.size w5.heap.size w7.heap.size ver B.now _ nn _ (knw B.hs (List.range k) ((List.range (B.hn - k)).map (k + ·))) W2 f k B.hn k (List.range k) D B.hs p.A2 p.C2 hk v3 (by omega) hfn (fun i hi => hfit.hs i hi) (fun i hi => wf_small (by rw [(HV5.out i hi).1]; omega) (by rw [(HV5.out i hi).1]; omega)) HVER.out HNOW.out rfl xS2 xL2 xM2 (by omega) (by omega) (by omega) (by omega) HRG2.out HOW2.out HQT.out.has _ ?_
  intro u0 u1 u2 u3 u4 u5 u6 u7 X hFX
  have zX := hFX.size
  have hDX : X.heap[D']? = some (.deferred (some [])) := (hFX.block D' zD2 (by omega)).trans HD2.out
  have HDX := hid hDX
  have hBX : Below w.heap.size w X := hBW2.trans (hFX.below (fun q hq e => by omega) (by omega))
  have HOX := hid (HOB.out.fr hFX (fun q hq e => by have := (HQ.out q hq).1; omega))
  clear hDX xS2 xM2 xL2
  gi_wp2
  have hno := HOX.out.no HDX.out
  have FD : FrP (fun q => q = D') X (X.putObj D' (.deferred none)) := FrP.of_grown (grownBy_putObj' X D' (.deferred none)) |>.mono (fun q e => by cases e; rfl)
  refine ⟨by simp, .inl ⟨_, _, rfl, run_takeDeferred HDX.out, ?_⟩⟩
  refine ⟨.tuple #[.slice ad1 nn cap1, .bool (knw B.hs (List.range k) ((List.range (B.hn - k)).map (k + ·)))], by simp [results, Tryz.results16, go_sem], nn, y, ad1, cap1, g, A', C', hb', rfl, HOX.out.fr FD (fun q hq e => hno (e ▸ hq)), fun q hq => by have := (HQ.out q hq).1; omega, hBX.trans (FD.below (fun q hq e => by omega) (by omega)), ?_, HAS.out⟩
  rw [← hrow]
  exact HPM.out
end Go.Proofs.YtkecnaaacbckoaaGreat
