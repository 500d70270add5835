import Derived.Test.YtjepponnhieocaaGe
import Derived.Test.YtjepponnhieocaaHd
import Derived.Test.YtjepponnhieocaaKb
import Derived.Test.YtjepponnhieocaaHf
import Derived.Test.YtjepponnhieocaaGi
import Derived.Test.YtjepponnhieocaaGj
import Derived.ProofKit
import Derived.SizedLaws
namespace Go.Proofs.Ytjepponnhieocaa
open Go.RowKit
set_option maxRecDepth 100000 in
set_option maxHeartbeats 2000000 in
theorem cmpFix_any (f : Sl) (ix : Int) (hr : 1 ≤ f.bal ∧ f.bal ≤ 60) (hi : 0 ≤ ix ∧ ix ≤ 100) (w : World) : Calls Try.prog 101 #[slV f, .int .i64 ix] w fun e w' => e = .returned (.int .i64 (f.bal - ix)) ∧ Below w.heap.size w w' := by
  obtain ⟨h1, h2⟩ := hr
  obtain ⟨h3, h4⟩ := hi
  go_enter Try.func101, Try.ntmps101
  go_wp2
  go_ret
  exact ⟨rfl, below_alloc _ _⟩
set_option maxRecDepth 100000 in
set_option maxHeartbeats 4000000 in
theorem searchFix_any (n : Nat) (x : Nat → Sl) (ad : Option Addr) (cap : Nat) (ix : Int) (w : World) (lo hi : Nat) (hhi : hi ≤ w.heap.size) (hl : (n : Int) ≤ 1099511627776) (hix : 0 ≤ ix ∧ ix ≤ 100) (hr : ∀ i, i < n → 1 ≤ (x i).bal ∧ (x i).bal ≤ 60) (hasc : ∀ i j, i < j → j < n → (x i).bal < (x j).bal) (hc : SlsIn w lo hi ad n x) :
    Calls Try.prog 100 #[.slice ad n cap, .int .i64 ix, .func (.func 101) #[] #[]] w fun e w' => ∃ i : Nat, i ≤ n ∧ (∀ j, j < i → (x j).bal < ix) ∧ (∀ j, i ≤ j → j < n → ix ≤ (x j).bal) ∧ e = .returned (.tuple #[.int .i64 i, .bool (decide (i < n) && decide ((x i).bal = ix))]) ∧ Below w.heap.size w w' := by
  have HR := hid hr
  have HAS := hid hasc
  have HC := hid hc
  have HIX := hid hix
  clear hr hasc hc hix
  go_enter Try.func100, Try.ntmps100
  go_wp2
  go_loopw [9, 10] (fun i j wr => ∃ p q : Nat, p ≤ q ∧ q ≤ n ∧ i = .int .i64 p ∧ j = .int .i64 q ∧ Below w.heap.size w wr ∧ (∀ j, j < p → (x j).bal < ix) ∧ (∀ j, q ≤ j → j < n → ix ≤ (x j).bal)) (fun i j _ => (intOf j - intOf i).toNat)
  case atStart => exact ⟨0, n, Nat.zero_le _, Nat.le_refl _, rfl, rfl, Below.refl _ _, fun j hj => absurd hj (Nat.not_lt_zero _), fun j h1 h2 => absurd h2 (by omega)⟩
  case round =>
    obtain ⟨p, q, hpq, hqn, rfl, rfl, hb, hlo', hhi'⟩ := hrel
    have H1 := hid hlo'
    have H2 := hid hhi'
    clear hlo' hhi'
    by_cases hp : p < q
    · obtain ⟨b, off, e, hlo0, hbh0, hcm⟩ := HC.out ((p + q) / 2) (by omega)
      obtain ⟨d0, d1⟩ := hcm.below hb (by omega)
      rw [e]
      clear hcm e
      have hCP := hid (cmpFix_any (x ((p + q) / 2)) ix (HR.out _ (by omega)) HIX.out)
      by_cases hlt : (x ((p + q) / 2)).bal < ix
      · have HN := hid (show ∀ j, j < (p + q) / 2 + 1 → (x j).bal < ix from fun j hj => by
          rcases Nat.lt_or_ge j ((p + q) / 2) with h3 | h3
          · have := HAS.out j _ h3 (by omega); omega
          · obtain rfl : j = (p + q) / 2 := by omega
            exact hlt)
        have hneg : (x ((p + q) / 2)).bal - ix < 0 := by omega
        go_wp2_with (go_at_call 101; go_must (refine (hCP.out _).mono ?_; rintro e w1 ⟨rfl, hb1⟩))
        go_roundw
        case rel => exact ⟨(p + q) / 2 + 1, q, by omega, hqn, by go_num, by first | rfl | trivial, hb.trans (hb1.mono hb.size), HN.out, H2.out⟩
        case measure => simp [intOf]; omega
      · have HN := hid (show ∀ j, (p + q) / 2 ≤ j → j < n → ix ≤ (x j).bal from fun j h1 h2 => by
          rcases Nat.lt_or_ge ((p + q) / 2) j with h3 | h3
          · have := HAS.out _ j h3 h2; omega
          · obtain rfl : j = (p + q) / 2 := by omega
            omega)
        have hneg : ¬ ((x ((p + q) / 2)).bal - ix < 0) := by omega
        go_wp2_with (go_at_call 101; go_must (refine (hCP.out _).mono ?_; rintro e w1 ⟨rfl, hb1⟩))
        go_roundw
        case rel => exact ⟨p, (p + q) / 2, by omega, by omega, by first | rfl | trivial, by go_num, hb.trans (hb1.mono hb.size), H1.out, HN.out⟩
        case measure => simp [intOf]; omega
    · have hpe : p = q := by omega
      subst hpe
      by_cases hpn : p < n
      · obtain ⟨b, off, e, hlo0, hbh0, hcm⟩ := HC.out p hpn
        obtain ⟨d0, d1⟩ := hcm.below hb (by omega)
        rw [e]
        clear hcm e
        have hCP := hid (cmpFix_any (x p) ix (HR.out _ hpn) HIX.out)
        by_cases he : (x p).bal = ix
        · have HE := hid (show (decide (p < n) && decide ((x p).bal = ix)) = true by simp [hpn, he])
          have hz : (x p).bal - ix = 0 := by omega
          rw [hz] at hCP
          clear he hz
          go_wp2_with (go_at_call 101; go_must (refine (hCP.out _).mono ?_; rintro e w1 ⟨rfl, hb1⟩))
          refine bodyPost_ret (v := .tuple #[.int .i64 p, .bool true]) (by simp [results, Try.results100, go_sem]) rfl ⟨p, by omega, H1.out, H2.out, by rw [HE.out], hb.trans (hb1.mono hb.size)⟩
        · have HE := hid (show (decide (p < n) && decide ((x p).bal = ix)) = false by simp [he])
          have hz : ((x p).bal - ix == 0) = false := by simp; omega
          generalize (x p).bal - ix = dd at *
          clear he
          go_wp2_with (go_at_call 101; go_must (refine (hCP.out _).mono ?_; rintro e w1 ⟨rfl, hb1⟩))
          refine bodyPost_ret (v := .tuple #[.int .i64 p, .bool false]) (by simp [results, Try.results100, go_sem]) rfl ⟨p, by omega, H1.out, H2.out, by rw [HE.out], hb.trans (hb1.mono hb.size)⟩
      · have HE := hid (show (decide (p < n) && decide ((x p).bal = ix)) = false by simp [hpn])
        go_wp2
        refine bodyPost_ret (v := .tuple #[.int .i64 p, .bool false]) (by simp [results, Try.results100, go_sem]) rfl ⟨p, by omega, H1.out, H2.out, by rw [HE.out], hb⟩
end Go.Proofs.Ytjepponnhieocaa
namespace Go.Proofs.Ytjepponnhieocaa
open Go.RowKit
/-- what is fixed for a place -/
def fixF (x : Nat → Sl) (ix : Int) (i : Nat) : Option ByteArray := if (x i).bal = ix then some (x i).text else none
def fixAt (n : Nat) (x : Nat → Sl) (ix : Int) : Option ByteArray := fst (fixF x ix) n
set_option maxRecDepth 100000 in
set_option maxHeartbeats 4000000 in
theorem specFixed_any (v : Rw) (V : RwA) (ix : Int) (w : World) (lo hi : Nat) (hhi : hi ≤ w.heap.size) (hl : (v.gn : Int) ≤ 8796093022208) (hc : RwIn w lo hi v V) :
    Calls Try.prog 56 #[rwV v V, .int .i64 ix] w fun e w' => e = .returned (mjV (fixAt v.gn v.gs ix)) ∧ Below w.heap.size w w' := by
  have HC := hid hc
  clear hc
  have hB0 := below_alloc w (.cells (rwC v V) 26)
  have H0 := holds_new w (rwC v V) 26
  have hz0 : w.heap.size < (w.alloc (.cells (rwC v V) 26)).heap.size := by simp
  have HH := hid H0
  clear H0
  go_enter Try.func56, Try.ntmps56
  go_wp2
  generalize w.alloc (.cells (rwC v V) 26) = W at *
  obtain ⟨p0, p1, p2⟩ := holds3 HH.out
  go_loopw [6] (fun i wr => ∃ k : Nat, k ≤ v.gn ∧ i = .int .i64 k ∧ wr = W ∧ Hid (∀ j, j < k → fixF v.gs ix j = none)) (fun i _ => v.gn - (intOf i).toNat)
  case atStart => exact ⟨0, Nat.zero_le _, rfl, rfl, fun j hj => absurd hj (Nat.not_lt_zero _)⟩
  case round =>
    obtain ⟨k, hk, rfl, hw, HA⟩ := hrel
    rw [← hw] at p0 p1 p2
    have HW := hid hw
    have hBr : Below w.heap.size w wr := by rw [hw]; exact hB0
    clear hw
    by_cases hkn : k < v.gn
    · obtain ⟨b, off, e, hlo, hbh, hcx⟩ := HC.out.gs k hkn
      rw [e] at p2
      obtain ⟨d0, d1⟩ := hcx.below hBr (by omega)
      clear hcx e p0 p1
      by_cases h1 : (v.gs k).bal = ix
      · have HM1 := hid (show fixAt v.gn v.gs ix = some (v.gs k).text from fst_keep HA.out (if_pos h1) hkn)
        have hd : ((v.gs k).bal == ix) = true := by simp [h1]
        have hd2 : decide ((v.gs k).bal = ix) = true := by simp [h1]
        clear h1
        go_wp2
        refine bodyPost_ret (v := .tuple #[.string (v.gs k).text, .bool true]) (by simp [results, Try.results56, go_sem]) rfl ⟨?_, hBr⟩
        rw [HM1.out]
        rfl
      · have HN := hid (show fixF v.gs ix k = none from if_neg h1)
        have hd : ((v.gs k).bal == ix) = false := by simp [h1]
        have hd2 : decide ((v.gs k).bal = ix) = false := by simp [h1]
        go_wp2
        go_roundw
        case rel => exact ⟨k + 1, by omega, by go_num, HW.out, fun j hj => by
          by_cases e : j = k
          · rw [e]; exact HN.out
          · exact HA.out j (by omega)⟩
        case measure => simp [intOf]; omega
    · have HM1 := hid (show fixAt v.gn v.gs ix = none from fst_no (fun j hj => HA.out j (by omega)))
      go_wp2
      refine bodyPost_ret (v := .tuple #[.string ⟨#[]⟩, .bool false]) (by simp [results, Try.results56, go_sem]) rfl ⟨?_, hBr⟩
      rw [HM1.out]
      rfl
end Go.Proofs.Ytjepponnhieocaa
namespace Go.Proofs.Ytjepponnhieocaa
open Go.RowKit Go.Shelf
attribute [local go_sem] Oper.semAt_some
theorem Boxed.of_below {W W' : World} {B : Nat} {t : TypeId} {v : Value} (h : Boxed W B t v) (hb : Below W.heap.size W W') : Boxed W' B t v := (hb.block B h.lt).trans h
theorem toList_ne {a b : ByteArray} (h : a ≠ b) : (a.toList == b.toList) = false := by
  rw [Bool.eq_false_iff]
  intro e
  refine h ?_
  have h4 : a.data.toList = b.data.toList := by simpa [ByteArray.toList_eq] using e
  cases a; cases b
  simp at h4
  exact congrArg ByteArray.mk h4
theorem fixAt_found {n : Nat} {x : Nat → Sl} {ix : Int} {i : Nat} (hi : i < n) (h1 : ∀ j, j < i → (x j).bal < ix) (he : (x i).bal = ix) : fixAt n x ix = some (x i).text :=
  fst_keep (f := fixF x ix) (fun j hj => if_neg (by have := h1 j hj; omega)) (if_pos he) hi
theorem fixAt_lost {n : Nat} {x : Nat → Sl} {ix : Int} {i : Nat} (hasc : ∀ i j, i < j → j < n → (x i).bal < (x j).bal) (h1 : ∀ j, j < i → (x j).bal < ix) (h2 : ∀ j, i ≤ j → j < n → ix ≤ (x j).bal) (he : ¬ (i < n ∧ (x i).bal = ix)) : fixAt n x ix = none :=
  fst_no (f := fixF x ix) (fun j hj => if_neg (fun e => by
    rcases Nat.lt_trichotomy j i with h | h | h
    · have := h1 j h; omega
    · subst h; exact he ⟨hj, e⟩
    · have := hasc i j h hj
      have := h2 i (Nat.le_refl _) (by omega)
      omega))
theorem searchNo_any (n : Nat) (x : Nat → Sl) (ad : Option Addr) (cap : Nat) (ix : Int) (w : World) (lo hi : Nat) (hhi : hi ≤ w.heap.size) (hl : (n : Int) ≤ 1099511627776) (hix : 0 ≤ ix ∧ ix ≤ 100) (hr : ∀ i, i < n → 1 ≤ (x i).bal ∧ (x i).bal ≤ 60) (hasc : ∀ i j, i < j → j < n → (x i).bal < (x j).bal) (hc : SlsIn w lo hi ad n x) (hf : fixAt n x ix = none) :
    Calls Try.prog 100 #[.slice ad n cap, .int .i64 ix, .func (.func 101) #[] #[]] w fun e w' => ∃ i : Nat, i ≤ n ∧ e = .returned (.tuple #[.int .i64 i, .bool false]) ∧ Below w.heap.size w w' := by
  refine (searchFix_any n x ad cap ix w lo hi hhi hl hix hr hasc hc).mono ?_
  rintro e w' ⟨i, hi, h1, h2, rfl, hb⟩
  refine ⟨i, hi, ?_, hb⟩
  by_cases he : i < n ∧ (x i).bal = ix
  · rw [fixAt_found he.1 h1 he.2] at hf; cases hf
  · by_cases hin : i < n
    · have : (x i).bal ≠ ix := fun e => he ⟨hin, e⟩
      simp [this]
    · simp [hin]
theorem searchYes_any (n : Nat) (x : Nat → Sl) (ad : Option Addr) (cap : Nat) (ix : Int) (w : World) (lo hi : Nat) (hhi : hi ≤ w.heap.size) (hl : (n : Int) ≤ 1099511627776) (hix : 0 ≤ ix ∧ ix ≤ 100) (hr : ∀ i, i < n → 1 ≤ (x i).bal ∧ (x i).bal ≤ 60) (hasc : ∀ i j, i < j → j < n → (x i).bal < (x j).bal) (hc : SlsIn w lo hi ad n x) (t : ByteArray) (hf : fixAt n x ix = some t) :
    Calls Try.prog 100 #[.slice ad n cap, .int .i64 ix, .func (.func 101) #[] #[]] w fun e w' => ∃ i : Nat, i < n ∧ Hid ((x i).text = t) ∧ e = .returned (.tuple #[.int .i64 i, .bool true]) ∧ Below w.heap.size w w' := by
  refine (searchFix_any n x ad cap ix w lo hi hhi hl hix hr hasc hc).mono ?_
  rintro e w' ⟨i, hi, h1, h2, rfl, hb⟩
  by_cases he : i < n ∧ (x i).bal = ix
  · rw [fixAt_found he.1 h1 he.2] at hf
    cases hf
    exact ⟨i, he.1, hid rfl, by simp [he.1, he.2], hb⟩
  · rw [fixAt_lost hasc h1 h2 he] at hf; cases hf
set_option maxRecDepth 100000 in
set_option maxHeartbeats 8000000 in
theorem allFixed_in {α : Type} (F : Fence) (m : Nat) (hcv : ∀ (k f : Nat) (args : Array Value) (w : World) (R : Ending → World → Prop), Calls Try.prog f args w R → CallsIn F k Try.prog f args w R) (h57 : F.fn 57) (h100 : F.fn 100) (gf : Nat) (lb : Array Value) (hgf : F.fn gf) (eg : ∀ args w, (callFunc gf args).run Try.prog w = .ok (.enter gf args) w) (hro : F.round = none) (hm : 4 ≤ m)
    (ik : α → Int) (tx : α → ByteArray) (hik : ∀ y, 0 ≤ ik y ∧ ik y ≤ 100) (S Sp : List α → Prop) (N : Nat) (n : Nat) (x : Nat → Sl) (ad : Option Addr) (cap : Nat) (w : World) (lo hi : Nat) (hhi : hi ≤ w.heap.size) (hl : (n : Int) ≤ 1048576) (hr : ∀ i, i < n → 1 ≤ (x i).bal ∧ (x i).bal ≤ 60) (hasc : ∀ i j, i < j → j < n → (x i).bal < (x j).bal) (hc : SlsIn w lo hi ad n x)
    (hseq : ∀ W0, Below w.heap.size w W0 → SeqStopsK F (m - 1) Try.prog gf lb (fun y : α => #[.int .i64 (ik y), .string (tx y)]) (FrP (fun q => w.heap.size ≤ q)) S Sp N W0) :
    CallsIn F m Try.prog 57 #[.slice ad n cap, .func (.func gf) #[] lb] w fun e w' => Below w.heap.size w w' ∧ ((e = .returned (.bool true) ∧ ∃ ys, S ys ∧ ∀ y ∈ ys, fixAt n x (ik y) = some (tx y)) ∨ (e = .returned (.bool false) ∧ ∃ y, fixAt n x (ik y) ≠ some (tx y))) := by
  have h1m : 1 ≤ m := by omega
  have HC := hid hc
  have HR := hid hr
  have HAS := hid hasc
  have HIK := hid hik
  have HSQ := hid hseq
  clear hc hr hasc hik hseq
  refine callsIn_of_wp_marks Try.func57 rfl h57 ?_ hro
  simp only [Try.ntmps57, List.size_toArray, List.length_cons, List.length_nil, Nat.reduceAdd, Nat.reduceSub, Array.replicate_succ, Array.replicate_zero, List.push_toArray, List.append_toArray, List.nil_append, List.cons_append]
  gi_wp2
  obtain ⟨W0, hW0⟩ : ∃ W0, (w.alloc (.cells #[.slice ad n cap] 24)).alloc (.cells #[.bool false] 4) = W0 := ⟨_, rfl⟩
  have hsz0 : W0.heap.size = w.heap.size + 2 := by rw [← hW0]; simp
  have hBW : Below w.heap.size w W0 := by rw [← hW0]; exact (below_alloc _ _).alloc (by simp) _
  have bA : Boxed W0 w.heap.size 24 (.slice ad n cap) := by rw [← hW0]; exact (Boxed.new w 24 _).alloc _
  have bR : Boxed W0 (w.heap.size + 1) 4 (.bool false) := by rw [← hW0]; simpa using Boxed.new (w.alloc (.cells #[.slice ad n cap] 24)) 4 (.bool false)
  rw [hW0]
  clear hW0
  have hPkB : ∀ {X Y : World}, Below w.heap.size X Y → FrP (fun q => w.heap.size ≤ q) X Y := fun {X Y} h => ⟨h.os, h.tape, h.output, h.size, fun q _ hq => h.block q (by omega)⟩
  refine wpIn_rangeFunc_ownH (α := α) hro h1m (gf := gf) (lb := lb) (encs := fun y => #[.int .i64 (ik y), .string (tx y)]) (Kp := FrP (fun q => w.heap.size ≤ q)) (S := S) (Sp := Sp) (N := N) (w0 := W0) rfl hgf eg
    (HSQ.out W0 hBW) (fun h1 h2 => h1.trans h2) (fun X l o o' hl ho1 ho2 ho3 => hPkB (belowK_b (w := W0) (n₀ := w.heap.size) (by omega) X l o o' hl ho1 ho2 ho3)) (Below.refl _ _) (fun _ => rfl)
    (fun pre W => Hid (∀ y ∈ pre, fixAt n x (ik y) = some (tx y)) ∧ Boxed W w.heap.size 24 (.slice ad n cap) ∧ Boxed W (w.heap.size + 1) 4 (.bool false) ∧ FrP (fun q => w.heap.size ≤ q) W0 W)
    (fun c _ W => c = .ret ∧ (∃ y, fixAt n x (ik y) ≠ some (tx y)) ∧ Boxed W (w.heap.size + 1) 4 (.bool false) ∧ FrP (fun q => w.heap.size ≤ q) W0 W) ?own ?ownx ?start
    (fun y a' _ => ∃ p0 p1 p3 p7 p8 p9 p10 p11 p12 p13 p14 p15 p16 p17 p18 p19 p20 p21 p22 p23 p24 p25 p26 p27 p28 : Value, a' = ⟨#[p0, p1, .pointer (some ⟨w.heap.size, 0, none⟩), p3, .pointer (some ⟨w.heap.size + 1, 0, none⟩), .int .i64 (ik y), .string (tx y), p7, p8, p9, p10, p11, p12, p13, p14, p15, p16, p17, p18, p19, p20, p21, p22, p23, p24, p25, p26, p27, p28], []⟩)
    (fun _ _ _ _ _ _ hs _ _ => hs)
    ?assign ?body ?done ?stop
  case own =>
    intro pre X Y row hs hg hr
    obtain ⟨e0, e3, e4, e5⟩ := hs
    exact ⟨e0, e3.kept hg (fun e => by have := (hr _ e.symm).1; omega), e4.kept hg (fun e => by have := (hr _ e.symm).1; omega), e5.trans (hPkB (((Below.refl W0.heap.size X).grown hg e5.size (fun r e => (hr r e).1)).mono (by omega)))⟩
  case ownx =>
    intro c pre X Y row hs hg hr
    obtain ⟨e0, e1, e4, e5⟩ := hs
    exact ⟨e0, e1, e4.kept hg (fun e => by have := (hr _ e.symm).1; omega), e5.trans (hPkB (((Below.refl W0.heap.size X).grown hg e5.size (fun r e => (hr r e).1)).mono (by omega)))⟩
  case start => exact ⟨hid (fun y hy => absurd hy (by simp)), bA, bR, FrP.refl _ _⟩
  case assign =>
    rintro l pre y W K hI hK
    gi_wp2
    exact hK _ _ ((KeepsOthers.refl _).from _) (FrP.refl _ _) hI ⟨_, _, _, _, _, _, _, _, _, _, _, _, _, _, _, _, _, _, _, _, _, _, _, _, _, rfl⟩
  case body =>
    rintro l0 pre y a' W hl ⟨rr, hr⟩ ⟨HA, bV, bF, hf⟩ ⟨p0, p1, p3, p7, p8, p9, p10, p11, p12, p13, p14, p15, p16, p17, p18, p19, p20, p21, p22, p23, p24, p25, p26, p27, p28, rfl⟩ hlt
    have cV := bV.cell
    have zW := hf.size
    have hB : Below w.heap.size w W := hBW.trans (hf.below (fun q hq h => by omega) (by omega))
    have hz0 : w.heap.size < W.heap.size := by omega
    have hz1 : w.heap.size + 1 < W.heap.size := by omega
    have h1' : 1 ≤ m - 1 - 1 := by omega
    have hPr : w.heap.size ≤ w.heap.size + 1 := by omega
    have HF := hid hf
    have BV := hid bV
    have BF := hid bF
    clear bV bF hf
    cases hfx : fixAt n x (ik y) with
    | none =>
      have hS := hid (searchNo_any n x ad cap (ik y) W lo hi (Nat.le_trans hhi hB.size) (by omega) (HIK.out y) HR.out HAS.out (HC.out.below hB hhi) hfx)
      have HX := hid (show ∃ y, fixAt n x (ik y) ≠ some (tx y) from ⟨y, by rw [hfx]; simp⟩)
      clear hfx
      gi_wp2_with (gi_at_call 100; go_must (refine (CallsIn.inRound l0 (hcv _ _ _ _ _ hS.out)).mono ?_; rintro e w1 ⟨i, hi1, rfl, hb1⟩; have bF1 := Boxed.of_below BF.out hb1; have cF1 := bF1.cell; have fF1 := bF1.frozen; have HB1 := hid hb1; have BF1 := hid bF1; clear hb1 bF1))
      have F3 : FrP (fun q => w.heap.size ≤ q) W (w1.setCell ⟨w.heap.size + 1, 0, none⟩ (.bool false)) := (FrP.of_below HB1.out).trans ((FrP.refl _ _).setCell (p := ⟨w.heap.size + 1, 0, none⟩) hPr _)
      exact ⟨((keepsO_of_below HB1.out).trans (KeepsOthers.setCell _ _ _)).from _, rfl, HX.out, BF1.out.set _, HF.out.trans F3⟩
    | some t =>
      obtain ⟨k9, hk9, _⟩ := fst_some hfx
      obtain ⟨b, off, e, _, _, _⟩ := HC.out 0 (by omega)
      subst e
      have hS := hid (searchYes_any n x (some ⟨b, off, none⟩) cap (ik y) W lo hi (Nat.le_trans hhi hB.size) (by omega) (HIK.out y) HR.out HAS.out (HC.out.below hB hhi) t hfx)
      clear hk9
      by_cases ht : t = tx y
      · subst ht
        have HN := hid (show ∀ z ∈ pre ++ [y], fixAt n x (ik z) = some (tx z) from fun z hz => by
          rcases List.mem_append.1 hz with h | h
          · exact HA.out z h
          · rw [List.mem_singleton.1 h]; exact hfx)
        clear hfx
        gi_wp2_with (gi_at_call 100; go_must (refine (CallsIn.inRound l0 (hcv _ _ _ _ _ hS.out)).mono ?_; rintro e w1 ⟨i, hi1, ht1, rfl, hb1⟩; obtain ⟨b', off', e', _, hbh, hcx⟩ := HC.out i hi1; obtain ⟨rfl, rfl⟩ : b = b' ∧ off = off' := (by simpa using e'); have cV1 := (Boxed.of_below BV.out hb1).cell; obtain ⟨d0, d1⟩ := hcx.below (hB.trans (hb1.mono hB.size)) (by omega); rw [ht1.out] at d1; have HB1 := hid hb1; clear hb1 e' hcx))
        exact ⟨(keepsO_of_below HB1.out).from _, FrP.of_below HB1.out, HN, Boxed.of_below BV.out HB1.out, Boxed.of_below BF.out HB1.out, HF.out.trans (FrP.of_below HB1.out)⟩
      · have HX := hid (show ∃ y, fixAt n x (ik y) ≠ some (tx y) from ⟨y, by rw [hfx]; simpa using ht⟩)
        have hne := toList_ne ht
        clear hfx
        gi_wp2_with (gi_at_call 100; go_must (refine (CallsIn.inRound l0 (hcv _ _ _ _ _ hS.out)).mono ?_; rintro e w1 ⟨i, hi1, ht1, rfl, hb1⟩; obtain ⟨b', off', e', _, hbh, hcx⟩ := HC.out i hi1; obtain ⟨rfl, rfl⟩ : b = b' ∧ off = off' := (by simpa using e'); have cV1 := (Boxed.of_below BV.out hb1).cell; obtain ⟨d0, d1⟩ := hcx.below (hB.trans (hb1.mono hB.size)) (by omega); rw [ht1.out] at d1; have bF1 := Boxed.of_below BF.out hb1; have cF1 := bF1.cell; have fF1 := bF1.frozen; have HB1 := hid hb1; have BF1 := hid bF1; clear hb1 e' hcx bF1))
        have F3 : FrP (fun q => w.heap.size ≤ q) W (w1.setCell ⟨w.heap.size + 1, 0, none⟩ (.bool false)) := (FrP.of_below HB1.out).trans ((FrP.refl _ _).setCell (p := ⟨w.heap.size + 1, 0, none⟩) hPr _)
        exact ⟨((keepsO_of_below HB1.out).trans (KeepsOthers.setCell _ _ _)).from _, rfl, HX.out, BF1.out.set _, HF.out.trans F3⟩
  case done =>
    rintro D' ys W hD hS ⟨HA, bV, bF, hf⟩ hK
    have zf := hf.size
    have cF := bF.cell
    have fF := bF.frozen
    obtain ⟨X, hX⟩ : ∃ X, W.setCell ⟨w.heap.size + 1, 0, none⟩ (.bool true) = X := ⟨_, rfl⟩
    have hPr : w.heap.size ≤ w.heap.size + 1 := by omega
    have fX : FrP (fun q => w.heap.size ≤ q) W X := by rw [← hX]; exact (FrP.refl _ _).setCell (p := ⟨w.heap.size + 1, 0, none⟩) hPr _
    have bX : Boxed X (w.heap.size + 1) 4 (.bool true) := by rw [← hX]; exact bF.set _
    have kX : X.heap[D']? = some (.deferred (some [])) := by rw [← hX]; exact (KeepsOthers.setCell _ _ _).same D' _ hK rfl
    have zX := fX.size
    have g1 := grownBy_putObj' X D' (.deferred none)
    have b1 : Below w.heap.size X (X.putObj D' (.deferred none)) := (Below.refl _ _).grown g1 (by omega) (fun r e => by cases e; omega)
    have cR := (bX.kept g1 (fun e => by cases e; omega)).cell
    have FR : Below w.heap.size w (X.putObj D' (.deferred none)) := (hBW.trans ((hf.trans fX).below (fun q hq h => by omega) (by omega))).trans b1
    have HS := hid hS
    clear hS bX bV
    gi_wp2
    refine ⟨by simp, .inl ⟨_, _, rfl, run_takeDeferred kX, ?_⟩⟩
    exact ⟨.bool true, by simp [results, Try.results57, go_sem, cR], FR, .inl ⟨rfl, ys, HS.out, HA.out⟩⟩
  case stop =>
    rintro D' c pre W hD _ ⟨rfl, hx, bF, hf⟩ hK
    have zf := hf.size
    have g1 := grownBy_putObj' W D' (.deferred none)
    have b1 : Below w.heap.size W (W.putObj D' (.deferred none)) := (Below.refl _ _).grown g1 (by omega) (fun r e => by cases e; omega)
    have cR := (bF.kept g1 (fun e => by cases e; omega)).cell
    have FR : Below w.heap.size w (W.putObj D' (.deferred none)) := (hBW.trans (hf.below (fun q hq h => by omega) (by omega))).trans b1
    have HX := hid hx
    clear hx
    gi_wp2
    refine ⟨by simp, .inl ⟨_, _, rfl, run_takeDeferred hK, ?_⟩⟩
    exact ⟨.bool false, by simp [results, Try.results57, go_sem, cR], FR, .inr ⟨rfl, HX.out⟩⟩
end Go.Proofs.Ytjepponnhieocaa
namespace Go.Proofs.Ytjepponnhieocaa
open Go.RowKit Go.Shelf
attribute [local go_sem] Oper.semAt_some
/-- a place for which most have one slot -/
abbrev Mx (n : Nat) (x : Nat → Rc) := { k : Nat // k < 60 ∧ (majI n x ((k : Int) + 1)).isSome = true }
def mxT {n : Nat} {x : Nat → Rc} (y : Mx n x) : ByteArray := (majI n x ((y.1 : Int) + 1)).getD ⟨#[]⟩
set_option maxRecDepth 100000 in
set_option maxHeartbeats 2000000 in
theorem majors_any (ad : Option Addr) (n cap : Nat) (w : World) :
    Calls Try.prog 59 #[.slice ad n cap] w fun e w' => e = .returned (.func (.func 104) #[] #[.pointer (some ⟨w.heap.size, 0, none⟩)]) ∧ w' = w.alloc (.cells #[.slice ad n cap] 22) := by
  go_enter Try.func59, Try.ntmps59
  go_wp2
  go_ret
  exact ⟨rfl, rfl⟩
set_option maxRecDepth 100000 in
set_option maxHeartbeats 4000000 in
theorem majWalk_in (F : Fence) (m : Nat) (hcv : ∀ (k f : Nat) (args : Array Value) (w : World) (R : Ending → World → Prop), Calls Try.prog f args w R → CallsIn F k Try.prog f args w R) (hcl : F.fn 104) (hma : F.fn 55) (hro : F.round = none) (hm : 1 ≤ m) (l Bd lo hi : Nat) (Pk : Nat → Prop) (n : Nat) (x : Nat → Rc) (A : Nat → RcA) (ad : Option Addr) (cap : Nat) (hl : n ≤ 5) (hsz : ∀ i, i < n → ((x i).sf.n : Int) ≤ 8796093022208) (hfk : ∀ (ix : Int) i s, i < n → stA x ix i = some s → SlKey s) (J Jx : List (Mx n x) → World → Prop)
    (W : World) (hJ : AbidesFrom W.heap.size J)
    (hY : ∀ pre x' W1, J pre W1 → pre.length < 60 → YieldAt F (m - 1) Try.prog l #[.int .i64 ((x'.1 : Int) + 1), .string (mxT x')] W1 fun e W' =>
      (e = .returned (.bool true) ∧ J (pre ++ [x']) W' ∧ FrP Pk W1 W') ∨ (e = .returned (.bool false) ∧ Jx (pre ++ [x']) W'))
    (hBd : Bd < hi) (b0 : W.cell? ⟨Bd, 0, none⟩ = some (.slice ad n cap))
    (hhi : hi ≤ W.heap.size) (hPk : ∀ q, q < hi → ¬ Pk q) (hc : RcsIn W lo hi ad n x A) (h0 : J [] W) :
    CallsIn F m Try.prog 104 #[.func (.yield l) #[] #[], .pointer (some ⟨Bd, 0, none⟩)] W fun e W' => (∃ v, e = .returned v) ∧
      ((∃ ys, (∀ y : Mx n x, y ∈ ys) ∧ J ys W') ∨ (∃ pre, True ∧ Jx pre W')) := by
  refine callsIn_of_wp Try.func104 rfl hcl ?_ hro
  simp only [Try.ntmps104, List.size_toArray, List.length_cons, List.length_nil, Nat.reduceAdd, Nat.reduceSub, Array.replicate_succ, Array.replicate_zero, List.push_toArray, List.append_toArray, List.nil_append, List.cons_append]
  have HC := hid hc
  have HY := hid hY
  have HSZ := hid hsz
  have HFK := hid hfk
  have B0 := hid b0
  clear hc hY hsz hfk b0
  gi_wp2
  gi_loopw [3] (fun i wr => ∃ (k : Nat) (pre : List (Mx n x)), k ≤ 60 ∧ i = .int .i64 ((k : Int) + 1) ∧ Hid (∀ y : Mx n x, y.1 < k → y ∈ pre) ∧ pre.length ≤ k ∧ J pre wr ∧ FrP Pk W wr)
    (fun i _ => 61 - (intOf i).toNat)
  case atStart => exact ⟨0, [], Nat.zero_le _, rfl, hid (fun y hy => absurd hy (Nat.not_lt_zero _)), Nat.le_refl _, h0, FrP.refl _ _⟩
  case round =>
    obtain ⟨k, pre, hk60, rfl, HP, hpl, hJs, hf⟩ := hrel
    by_cases hlt : k < 60
    · have hbw : Below hi W wr := hf.below hPk hhi
      have cB : wr.cell? ⟨Bd, 0, none⟩ = some (.slice ad n cap) := (hbw.cell (p := ⟨Bd, 0, none⟩) hBd).trans B0.out
      have hzw := hf.size
      have hM := hid (hcv (m - 1) _ _ _ _ (majorAt_any n x A ((k : Int) + 1) ad cap wr lo hi (by omega) hl HSZ.out (fun i s => HFK.out _ i s) (HC.out.below hbw (Nat.le_refl _))))
      have HF := hid hf
      have HJS := hid hJs
      clear hf hJs
      cases hmj : majI n x ((k : Int) + 1) with
      | none =>
        rw [hmj] at hM
        have HN := hid (show ∀ y : Mx n x, y.1 < k + 1 → y ∈ pre from fun y hy => by
          by_cases e : y.1 = k
          · have := y.2.2
            rw [e, hmj] at this
            cases this
          · exact HP.out y (by omega))
        clear hmj
        gi_wp2_with (gi_at_call 55; go_must (refine hM.out.mono ?_; rintro e w1 ⟨rfl, hb1⟩; simp only [mjV, Option.getD_none, Option.isSome_none]))
        refine ⟨fun f h => (by cases h), ?_⟩
        gi_wp2
        go_roundw
        case rel => exact ⟨k + 1, pre, by omega, by go_num, HN, by omega, hJ pre wr w1 none HJS.out (grown_of_below hb1) (fun r e => by cases e), HF.out.trans (FrP.of_below hb1)⟩
        case measure => simp [intOf]; omega
      | some t =>
        rw [hmj] at hM
        obtain ⟨y, hy⟩ : ∃ y : Mx n x, y = ⟨k, hlt, by rw [hmj]; rfl⟩ := ⟨_, rfl⟩
        have hyk : y.1 = k := by rw [hy]
        have hyt : mxT y = t := by rw [hy]; unfold mxT; simp only [hmj]; rfl
        have HN := hid (show ∀ z : Mx n x, z.1 < k + 1 → z ∈ pre ++ [y] from fun z hz => by
          by_cases e : z.1 = k
          · have : z = y := Subtype.ext (by rw [e, hyk])
            rw [this]; simp
          · exact List.mem_append_left _ (HP.out z (by omega)))
        clear hmj hy
        have HYY := hid (fun (w1 : World) (h : J pre w1) => HY.out pre y w1 h (by omega))
        rw [hyk, hyt] at HYY
        clear hyk hyt
        gi_wp2_with (gi_at_call 55; go_must (refine hM.out.mono ?_; rintro e w1 ⟨rfl, hb1⟩; simp only [mjV, Option.getD_some, Option.isSome_some]; obtain ⟨fn, tmps, assign, body, hy, hR⟩ := HYY.out w1 (hJ pre wr w1 none HJS.out (grown_of_below hb1) (fun r e => by cases e)); (try dsimp only at hy); have HB1 := hid hb1; clear hb1))
        refine hR.mono ?_
        rintro e W3 (⟨rfl, hJ3, hk3⟩ | ⟨rfl, hJx3⟩)
        · gi_wp2
          go_roundw
          case rel => exact ⟨k + 1, pre ++ [y], by omega, by go_num, HN, by simp; omega, hJ3, (HF.out.trans (FrP.of_below HB1.out)).trans hk3⟩
          case measure => simp [intOf]; omega
        · gi_wp2
          refine bodyPost_ret (results_none rfl _ _ _) rfl ?_
          exact ⟨⟨_, rfl⟩, .inr ⟨pre ++ [y], trivial, hJx3⟩⟩
    · obtain rfl : k = 60 := by omega
      gi_wp2
      go_end0
      exact ⟨⟨_, rfl⟩, .inl ⟨_, fun y => HP.out y y.2.1, hJs⟩⟩
/-- whether what a recorder knows is fixed -/
def kfB (gn : Nat) (gs : Nat → Sl) (d : Dk) : Bool := allTo (fun i => decide (fixAt gn gs ((i : Int) + 1) = some (d.s i).text)) d.kn.toNat
/-- whether what most have is fixed -/
def mf1 (gn : Nat) (gs : Nat → Sl) (n : Nat) (x : Nat → Rc) (k : Nat) : Bool := match majI n x ((k : Int) + 1) with
  | none => true
  | some t => decide (fixAt gn gs ((k : Int) + 1) = some t)
def mfB (gn : Nat) (gs : Nat → Sl) (n : Nat) (x : Nat → Rc) : Bool := allTo (mf1 gn gs n x) 60
set_option maxRecDepth 100000 in
set_option maxHeartbeats 2000000 in
theorem knownFixed_any (gn : Nat) (gs : Nat → Sl) (ga : Option Addr) (gc : Nat) (d : Dk) (gd cap B : Nat) (w : World) (lo hi : Nat) (hhi : hi ≤ w.heap.size) (hl : (gn : Int) ≤ 1048576) (hr : ∀ i, i < gn → 1 ≤ (gs i).bal ∧ (gs i).bal ≤ 60) (hasc : ∀ i j, i < j → j < gn → (gs i).bal < (gs j).bal) (hc : SlsIn w lo hi ga gn gs)
    (hB : B < w.heap.size) (b0 : w.cell? ⟨B, 0, none⟩ = some (.int .i64 d.pr)) (b1 : w.cell? ⟨B, 1, none⟩ = some (.int .i64 d.kn)) (b2 : w.cell? ⟨B, 2, none⟩ = some (.slice (some ⟨gd, 0, none⟩) d.n cap))
    (hk0 : 0 ≤ d.kn) (hk1 : d.kn ≤ d.n) (hk60 : d.kn ≤ 99) (hcap : d.n ≤ cap) (hld : (d.n : Int) ≤ 1048576) (hs : SlsIn w 0 hi (some ⟨gd, 0, none⟩) d.n d.s) :
    Calls Try.prog 57 #[.slice ga gn gc, .func (.func 102) #[] #[.pointer (some ⟨B, 0, none⟩)]] w fun e w' => e = .returned (.bool (kfB gn gs d)) ∧ Below w.heap.size w w' := by
  have hcv : ∀ (k f : Nat) (args : Array Value) (w : World) (R : Ending → World → Prop), Calls Try.prog f args w R → CallsIn Fence.wide k Try.prog f args w R := fun _ _ _ _ _ h => callsIn_wide.2 h
  refine (callsIn_wide.1 (allFixed_in (α := Ix d.kn.toNat) Fence.wide 9 hcv trivial trivial 102 #[.pointer (some ⟨B, 0, none⟩)] trivial (enters_of Try.func102 (by kernel_rfl) rfl) rfl (by decide) (fun y => (y.1 : Int) + 1) (fun y => (d.s y.1).text) (fun y => by have := y.2; omega) (fun ys => ixs ys = List.range d.kn.toNat) (fun _ => True) d.kn.toNat gn gs ga gc w lo hi hhi hl hr hasc hc ?_)).mono ?_
  · intro W0 hB0 l J Jx W hW hJ _ hY h0
    have hBW : Below w.heap.size w W := hB0.trans (hW.mono hB0.size)
    exact knownWalk_in Fence.wide 8 hcv trivial trivial rfl (by omega) l B hi _ d gd cap d.kn.toNat (by omega) (by omega) hcap hld J Jx W hJ hY
      ((hBW.cell (p := ⟨B, 0, none⟩) hB).trans b0) ((hBW.cell (p := ⟨B, 1, none⟩) hB).trans b1) ((hBW.cell (p := ⟨B, 2, none⟩) hB).trans b2)
      (by have := hBW.size; omega) (fun q hq h => by omega) (hs.below hBW hhi) h0
  · rintro e w' ⟨hb, ⟨rfl, ys, hS, hA⟩ | ⟨rfl, y, hy⟩⟩
    · refine ⟨?_, hb⟩
      have : kfB gn gs d = true := allTo_iff.2 (fun i hi => by
        have hm : i ∈ ixs ys := by rw [hS]; exact List.mem_range.2 hi
        obtain ⟨z, hz, e⟩ := List.mem_map.1 hm
        have := hA z hz
        rw [e] at this
        exact decide_eq_true this)
      rw [this]
    · refine ⟨?_, hb⟩
      have : kfB gn gs d = false := allTo_no y.2 (by simpa using hy)
      rw [this]
set_option maxRecDepth 100000 in
set_option maxHeartbeats 2000000 in
theorem majorsFixed_any (gn : Nat) (gs : Nat → Sl) (ga : Option Addr) (gc : Nat) (n : Nat) (x : Nat → Rc) (A : Nat → RcA) (ad : Option Addr) (cap B : Nat) (w : World) (lo hi : Nat) (hhi : hi ≤ w.heap.size) (hl : (gn : Int) ≤ 1048576) (hr : ∀ i, i < gn → 1 ≤ (gs i).bal ∧ (gs i).bal ≤ 60) (hasc : ∀ i j, i < j → j < gn → (gs i).bal < (gs j).bal) (hc : SlsIn w lo hi ga gn gs)
    (hB : B < w.heap.size) (b0 : w.cell? ⟨B, 0, none⟩ = some (.slice ad n cap)) (hn : n ≤ 5) (hsz : ∀ i, i < n → ((x i).sf.n : Int) ≤ 8796093022208) (hfk : ∀ (ix : Int) i s, i < n → stA x ix i = some s → SlKey s) (hx : RcsIn w lo hi ad n x A) :
    Calls Try.prog 57 #[.slice ga gn gc, .func (.func 104) #[] #[.pointer (some ⟨B, 0, none⟩)]] w fun e w' => e = .returned (.bool (mfB gn gs n x)) ∧ Below w.heap.size w w' := by
  have hcv : ∀ (k f : Nat) (args : Array Value) (w : World) (R : Ending → World → Prop), Calls Try.prog f args w R → CallsIn Fence.wide k Try.prog f args w R := fun _ _ _ _ _ h => callsIn_wide.2 h
  refine (callsIn_wide.1 (allFixed_in (α := Mx n x) Fence.wide 9 hcv trivial trivial 104 #[.pointer (some ⟨B, 0, none⟩)] trivial (enters_of Try.func104 (by kernel_rfl) rfl) rfl (by decide) (fun y => (y.1 : Int) + 1) (fun y => mxT y) (fun y => by have := y.2.1; omega) (fun ys => ∀ y : Mx n x, y ∈ ys) (fun _ => True) 60 gn gs ga gc w lo hi hhi hl hr hasc hc ?_)).mono ?_
  · intro W0 hB0 l J Jx W hW hJ _ hY h0
    have hBW : Below w.heap.size w W := hB0.trans (hW.mono hB0.size)
    exact majWalk_in Fence.wide 8 hcv trivial trivial rfl (by omega) l B lo w.heap.size _ n x A ad cap hn hsz hfk J Jx W hJ hY hB
      ((hBW.cell (p := ⟨B, 0, none⟩) hB).trans b0)
      hBW.size (fun q hq h => by omega) ((hx.below hBW hhi).mono (Nat.le_refl _) hhi) h0
  · rintro e w' ⟨hb, ⟨rfl, ys, hS, hA⟩ | ⟨rfl, y, hy⟩⟩
    · refine ⟨?_, hb⟩
      have : mfB gn gs n x = true := allTo_iff.2 (fun k hk => by
        unfold mf1
        cases hmj : majI n x ((k : Int) + 1) with
        | none => rfl
        | some t =>
          have := hA ⟨k, hk, by rw [hmj]; rfl⟩ (hS _)
          simp only [mxT, hmj, Option.getD_some] at this
          exact decide_eq_true this)
      rw [this]
    · refine ⟨?_, hb⟩
      obtain ⟨k, hk, hs⟩ := y
      have hy2 : fixAt gn gs ((k : Int) + 1) ≠ some ((majI n x ((k : Int) + 1)).getD ⟨#[]⟩) := hy
      have : mfB gn gs n x = false := allTo_no hk (by
        unfold mf1
        cases hmj : majI n x ((k : Int) + 1) with
        | none => rw [hmj] at hs; cases hs
        | some t =>
          rw [hmj] at hy2
          simpa using hy2)
      rw [this]
end Go.Proofs.Ytjepponnhieocaa
namespace Go.Proofs.Ytjepponnhieocaa
open Go.RowKit Go.Shelf
def agReg6G (gn : Nat) (gs : Nat → Sl) (ga : Option Addr) (gc : Nat) (d : Dk) (gd : Nat) (dc : Nat) (B : Nat) (R : Nat) (i : Nat) (v : Value) (X : World) : Prop :=
  match i with
  | 0 => v = .pointer (some ⟨B, 2, none⟩)
  | 1 => v = .slice ga gn gc
  | 2 => v = .pointer (some ⟨R, 6, none⟩)
  | 3 => v = dkV d (some ⟨gd, 0, none⟩) dc
  | 4 => ∃ g, v = .func (.func 102) #[] #[.pointer (some ⟨g, 0, none⟩)] ∧ g < X.heap.size ∧ X.cell? ⟨g, 0, none⟩ = some (.int .i64 d.pr) ∧ X.cell? ⟨g, 1, none⟩ = some (.int .i64 d.kn) ∧ X.cell? ⟨g, 2, none⟩ = some (.slice (some ⟨gd, 0, none⟩) d.n dc)
  | 5 => v = .bool (kfB gn gs d)
  | _ => True
set_option maxRecDepth 100000 in
set_option maxHeartbeats 4000000 in
theorem agReg6 (p0 p2 p3 p5 p6 p7 p8 p9 p10 p11 p12 p13 p14 p21 p22 p23 p24 p25 p26 p27 p28 : Value) (v0 v1 v2 v3 v4 v5 : Value) (gn : Nat) (gs : Nat → Sl) (ga : Option Addr) (gc : Nat) (d : Dk) (gd : Nat) (dc : Nat) (B : Nat) (R : Nat) (W : World) (hB : B < W.heap.size) (hRl : R < W.heap.size) (c2 : W.cell? ⟨B, 2, none⟩ = some (.slice ga gn gc)) (hR : W.rangeAt R 6 [.int .i64 d.pr, .int .i64 d.kn, .slice (some ⟨gd, 0, none⟩) d.n dc]) (lo ub : Nat) (hhi : ub ≤ W.heap.size) (hl : (gn : Int) ≤ 1048576) (hr : ∀ i, i < gn → 1 ≤ (gs i).bal ∧ (gs i).bal ≤ 60) (hasc : ∀ i j, i < j → j < gn → (gs i).bal < (gs j).bal) (hc : SlsIn W lo ub ga gn gs) (hk0 : 0 ≤ d.kn) (hk1 : d.kn ≤ d.n) (hk60 : d.kn ≤ 99) (hcap : d.n ≤ dc) (hld : (d.n : Int) ≤ 1048576) (hs : SlsIn W 0 ub (some ⟨gd, 0, none⟩) d.n d.s) (Q : Exit → Act → World → Prop) (hQ : ∀ (t : Nat → Value) (v3 : Value) X, v3 = .bool (!kfB gn gs d) ∧ Below W.heap.size W X → Q .normal ⟨#[p0, (.pointer (some ⟨B, 0, none⟩)), p2, p3, (.pointer (some ⟨R, 0, none⟩)), p5, p6, p7, p8, p9, p10, p11, p12, p13, p14, t 0, t 1, t 2, t 3, t 4, t 5, v3, p22, p23, p24, p25, p26, p27, p28], []⟩ X) :
    Code.wp Try.prog (Code.region 6 #[{ dst := some 15, op := Op.fieldAddr 26 (Operand.tmp 1) 2, type := 0, pos := "l18_rec_agree.go:22", after := #[], guard := none }, { dst := some 16, op := Op.load 24 (Operand.tmp 15), type := 24, pos := "l18_rec_agree.go:22", after := #[{ on := 0, ground := Ground.data }], guard := none }, { dst := some 17, op := Op.fieldAddr 58 (Operand.tmp 4) 4, type := 0, pos := "l18_rec_agree.go:22", after := #[], guard := none }, { dst := some 18, op := Op.load 55 (Operand.tmp 17), type := 55, pos := "l18_rec_agree.go:22", after := #[{ on := 2, ground := Ground.data }], guard := none }, { dst := some 19, op := Op.call { callee := Callee.value (Operand.func 58), args := #[Operand.tmp 18], argTypes := #[55] }, type := 92, pos := "l18_rec_agree.go:22", after := #[{ on := 3, ground := Ground.data }], guard := none }, { dst := some 20, op := Op.call { callee := Callee.value (Operand.func 57), args := #[Operand.tmp 16, Operand.tmp 19], argTypes := #[24, 92] }, type := 4, pos := "l18_rec_agree.go:22", after := #[{ on := 1, ground := Ground.data }, { on := 4, ground := Ground.data }, { on := 4, ground := Ground.chain }], guard := none }, { dst := some 21, op := Op.unOp UnOp.not 4 (Operand.tmp 20), type := 4, pos := "l18_rec_agree.go:22", after := #[{ on := 5, ground := Ground.data }], guard := none }] true) Q ⟨#[p0, (.pointer (some ⟨B, 0, none⟩)), p2, p3, (.pointer (some ⟨R, 0, none⟩)), p5, p6, p7, p8, p9, p10, p11, p12, p13, p14, v0, v1, v2, v3, v4, v5, p21, p22, p23, p24, p25, p26, p27, p28], []⟩ W := by
  refine regionJ (by kernel_rfl) 6 (fun t : Nat → Value => #[p0, (.pointer (some ⟨B, 0, none⟩)), p2, p3, (.pointer (some ⟨R, 0, none⟩)), p5, p6, p7, p8, p9, p10, p11, p12, p13, p14, t 0, t 1, t 2, t 3, t 4, t 5, p21, p22, p23, p24, p25, p26, p27, p28]) (fun i => match i with | 0 => v0 | 1 => v1 | 2 => v2 | 3 => v3 | 4 => v4 | _ => v5) (agReg6G gn gs ga gc d gd dc B R) (fun a X => ∃ (t : Nat → Value) (v3 : Value), a = ⟨#[p0, (.pointer (some ⟨B, 0, none⟩)), p2, p3, (.pointer (some ⟨R, 0, none⟩)), p5, p6, p7, p8, p9, p10, p11, p12, p13, p14, t 0, t 1, t 2, t 3, t 4, t 5, v3, p22, p23, p24, p25, p26, p27, p28], []⟩ ∧ v3 = .bool (!kfB gn gs d) ∧ Below W.heap.size W X) (by kernel_rfl) (by kernel_rfl) (by kernel_rfl) ?_ rfl ?_ ?_ ?_
  · intro i v X Y hi h hb
    rcases (show i = 0 ∨ i = 1 ∨ i = 2 ∨ i = 3 ∨ i = 4 ∨ i = 5 by omega) with rfl | rfl | rfl | rfl | rfl | rfl
    · exact h
    · exact h
    · exact h
    · exact h
    · obtain ⟨g, e, hg0, h0, h1, h2⟩ := h
      exact ⟨g, e, Nat.lt_of_lt_of_le hg0 hb.size, (hb.cell (p := ⟨g, 0, none⟩) hg0).trans h0, (hb.cell (p := ⟨g, 1, none⟩) hg0).trans h1, (hb.cell (p := ⟨g, 2, none⟩) hg0).trans h2⟩
    · exact h
  · intro i hi t X K hb hg hK
    rcases (show i = 0 ∨ i = 1 ∨ i = 2 ∨ i = 3 ∨ i = 4 ∨ i = 5 by omega) with rfl | rfl | rfl | rfl | rfl | rfl
    · have h := hK (.pointer (some ⟨B, 2, none⟩)) X rfl (Below.refl _ _)
      refine wpOp_of rfl rfl ?_
      clear hK hg
      go_simp
      simpa [updT] using h
    · have e0 : t 0 = .pointer (some ⟨B, 2, none⟩) := hg 0 ⟨_, rfl, ⟨0, .data⟩, by simp, rfl, rfl⟩
      have c : X.cell? ⟨B, 2, none⟩ = some (.slice ga gn gc) := (hb.cell (p := ⟨B, 2, none⟩) hB).trans c2
      have h := hK (.slice ga gn gc) X rfl (Below.refl _ _)
      refine wpOp_of rfl rfl ?_
      clear hK hg
      go_simp
      simpa [updT, e0] using h
    · have h := hK (.pointer (some ⟨R, 6, none⟩)) X rfl (Below.refl _ _)
      refine wpOp_of rfl rfl ?_
      clear hK hg
      go_simp
      simpa [updT] using h
    · have e2 : t 2 = .pointer (some ⟨R, 6, none⟩) := hg 2 ⟨_, rfl, ⟨2, .data⟩, by simp, rfl, rfl⟩
      refine wpOp_load_at rfl rfl 55 _ rfl R 6 (by exact e2) [.int .i64 d.pr, .int .i64 d.kn, .slice (some ⟨gd, 0, none⟩) d.n dc] _ (rangeAt_same hR (fun j => hb.cell (p := ⟨R, j, none⟩) hRl)) Try.underlying55 rfl dk_sz55 ?_
      have h := hK (dkV d (some ⟨gd, 0, none⟩) dc) X rfl (Below.refl _ _)
      exact h
    · have e3 : t 3 = dkV d (some ⟨gd, 0, none⟩) dc := hg 3 ⟨_, rfl, ⟨3, .data⟩, by simp, rfl, rfl⟩
      refine wpOp_of rfl rfl ?_
      have HK := hid hK
      clear hK hg
      go_simp
      go_at_call 58
      refine (callsIn_wide.1 (knownTexts_in Fence.wide 9 trivial rfl d (some ⟨gd, 0, none⟩) dc X)).mono ?_
      rintro r Y ⟨rfl, rfl⟩
      have h := HK.out (.func (.func 102) #[] #[.pointer (some ⟨X.heap.size, 0, none⟩)]) (X.alloc (.cells #[.int .i64 d.pr, .int .i64 d.kn, .slice (some ⟨gd, 0, none⟩) d.n dc] 55)) ⟨X.heap.size, rfl, by simp, by simp, by simp, by simp⟩ (below_alloc _ _)
      simpa [updT, e3] using h
    · have e1 : t 1 = .slice ga gn gc := hg 1 ⟨_, rfl, ⟨1, .data⟩, by simp, rfl, rfl⟩
      obtain ⟨g, e4, hg0, b0, b1, b2⟩ := hg 4 ⟨_, rfl, ⟨4, .data⟩, by simp, rfl, rfl⟩
      refine wpOp_of rfl rfl ?_
      have HK := hid hK
      have B0 := hid b0
      have B1 := hid b1
      have B2 := hid b2
      clear hK hg b0 b1 b2
      go_simp
      go_at_call 57
      refine (knownFixed_any gn gs ga gc d gd dc g X lo ub (Nat.le_trans hhi hb.size) hl hr hasc (hc.below hb hhi) hg0 B0.out B1.out B2.out hk0 hk1 hk60 hcap hld (hs.below hb hhi)).mono ?_
      rintro r Y ⟨rfl, hbY⟩
      have h := HK.out (.bool (kfB gn gs d)) Y rfl hbY
      simpa [updT, e1, e4] using h
  · intro t X K hb hg hK
    have e5 : t 5 = .bool (kfB gn gs d) := hg 5 (by omega)
    refine wpOp_of rfl rfl ?_
    have HK := hid hK
    clear hK hg
    go_simp
    have h := HK.out _ X ⟨t, .bool (!kfB gn gs d), rfl, rfl, hb⟩
    simpa [e5] using h
  · rintro a X ⟨t, v3, rfl, hp⟩
    exact hQ t v3 X hp
def agReg9G (gn : Nat) (gs : Nat → Sl) (ga : Option Addr) (gc : Nat) (n : Nat) (x : Nat → Rc) (ad : Option Addr) (cap : Nat) (B : Nat) (i : Nat) (v : Value) (X : World) : Prop :=
  match i with
  | 0 => v = .pointer (some ⟨B, 2, none⟩)
  | 1 => v = .slice ga gn gc
  | 2 => v = .pointer (some ⟨B, 0, none⟩)
  | 3 => v = .slice ad n cap
  | 4 => ∃ g, v = .func (.func 104) #[] #[.pointer (some ⟨g, 0, none⟩)] ∧ g < X.heap.size ∧ X.cell? ⟨g, 0, none⟩ = some (.slice ad n cap)
  | 5 => v = .bool (mfB gn gs n x)
  | _ => True
set_option maxRecDepth 100000 in
set_option maxHeartbeats 4000000 in
theorem agReg9 (p0 p2 p3 p4 p5 p6 p7 p8 p9 p10 p11 p12 p13 p14 p15 p16 p17 p18 p19 p20 p21 p22 : Value) (v0 v1 v2 v3 v4 v5 : Value) (gn : Nat) (gs : Nat → Sl) (ga : Option Addr) (gc : Nat) (n : Nat) (x : Nat → Rc) (ad : Option Addr) (cap : Nat) (B : Nat) (W : World) (A : Nat → RcA) (hB : B < W.heap.size) (c2 : W.cell? ⟨B, 2, none⟩ = some (.slice ga gn gc)) (c0 : W.cell? ⟨B, 0, none⟩ = some (.slice ad n cap)) (lo ub : Nat) (hhi : ub ≤ W.heap.size) (hl : (gn : Int) ≤ 1048576) (hr : ∀ i, i < gn → 1 ≤ (gs i).bal ∧ (gs i).bal ≤ 60) (hasc : ∀ i j, i < j → j < gn → (gs i).bal < (gs j).bal) (hc : SlsIn W lo ub ga gn gs) (hn : n ≤ 5) (hsz : ∀ i, i < n → ((x i).sf.n : Int) ≤ 8796093022208) (hfk : ∀ (ix : Int) i s, i < n → stA x ix i = some s → SlKey s) (hx : RcsIn W lo ub ad n x A) (Q : Exit → Act → World → Prop) (hQ : ∀ (t : Nat → Value) (v3 : Value) X, v3 = .bool (mfB gn gs n x) ∧ Below W.heap.size W X → Q .normal ⟨#[p0, (.pointer (some ⟨B, 0, none⟩)), v3, p3, p4, p5, p6, p7, p8, p9, p10, p11, p12, p13, p14, p15, p16, p17, p18, p19, p20, p21, p22, t 0, t 1, t 2, t 3, t 4, t 5], []⟩ X) :
    Code.wp Try.prog (Code.region 9 #[{ dst := some 23, op := Op.fieldAddr 26 (Operand.tmp 1) 2, type := 0, pos := "l18_rec_agree.go:26", after := #[], guard := none }, { dst := some 24, op := Op.load 24 (Operand.tmp 23), type := 24, pos := "l18_rec_agree.go:26", after := #[{ on := 0, ground := Ground.data }], guard := none }, { dst := some 25, op := Op.fieldAddr 26 (Operand.tmp 1) 0, type := 0, pos := "l18_rec_agree.go:26", after := #[], guard := none }, { dst := some 26, op := Op.load 22 (Operand.tmp 25), type := 22, pos := "l18_rec_agree.go:26", after := #[{ on := 2, ground := Ground.data }], guard := none }, { dst := some 27, op := Op.call { callee := Callee.value (Operand.func 59), args := #[Operand.tmp 26], argTypes := #[22] }, type := 92, pos := "l18_rec_agree.go:26", after := #[{ on := 3, ground := Ground.data }], guard := none }, { dst := some 28, op := Op.call { callee := Callee.value (Operand.func 57), args := #[Operand.tmp 24, Operand.tmp 27], argTypes := #[24, 92] }, type := 4, pos := "l18_rec_agree.go:26", after := #[{ on := 1, ground := Ground.data }, { on := 4, ground := Ground.data }, { on := 4, ground := Ground.chain }], guard := none }, { dst := some 2, op := Op.assign (Operand.tmp 28), type := 4, pos := "l18_rec_agree.go:26", after := #[{ on := 5, ground := Ground.data }, { on := 5, ground := Ground.chain }, { on := 0, ground := Ground.phase }, { on := 1, ground := Ground.phase }, { on := 2, ground := Ground.phase }, { on := 3, ground := Ground.phase }, { on := 4, ground := Ground.phase }, { on := 5, ground := Ground.phase }], guard := none }] true) Q ⟨#[p0, (.pointer (some ⟨B, 0, none⟩)), p2, p3, p4, p5, p6, p7, p8, p9, p10, p11, p12, p13, p14, p15, p16, p17, p18, p19, p20, p21, p22, v0, v1, v2, v3, v4, v5], []⟩ W := by
  refine regionJ (by kernel_rfl) 6 (fun t : Nat → Value => #[p0, (.pointer (some ⟨B, 0, none⟩)), p2, p3, p4, p5, p6, p7, p8, p9, p10, p11, p12, p13, p14, p15, p16, p17, p18, p19, p20, p21, p22, t 0, t 1, t 2, t 3, t 4, t 5]) (fun i => match i with | 0 => v0 | 1 => v1 | 2 => v2 | 3 => v3 | 4 => v4 | _ => v5) (agReg9G gn gs ga gc n x ad cap B) (fun a X => ∃ (t : Nat → Value) (v3 : Value), a = ⟨#[p0, (.pointer (some ⟨B, 0, none⟩)), v3, p3, p4, p5, p6, p7, p8, p9, p10, p11, p12, p13, p14, p15, p16, p17, p18, p19, p20, p21, p22, t 0, t 1, t 2, t 3, t 4, t 5], []⟩ ∧ v3 = .bool (mfB gn gs n x) ∧ Below W.heap.size W X) (by kernel_rfl) (by kernel_rfl) (by kernel_rfl) ?_ rfl ?_ ?_ ?_
  · intro i v X Y hi h hb
    rcases (show i = 0 ∨ i = 1 ∨ i = 2 ∨ i = 3 ∨ i = 4 ∨ i = 5 by omega) with rfl | rfl | rfl | rfl | rfl | rfl
    · exact h
    · exact h
    · exact h
    · exact h
    · obtain ⟨g, e, hg0, h0⟩ := h
      exact ⟨g, e, Nat.lt_of_lt_of_le hg0 hb.size, (hb.cell (p := ⟨g, 0, none⟩) hg0).trans h0⟩
    · exact h
  · intro i hi t X K hb hg hK
    rcases (show i = 0 ∨ i = 1 ∨ i = 2 ∨ i = 3 ∨ i = 4 ∨ i = 5 by omega) with rfl | rfl | rfl | rfl | rfl | rfl
    · have h := hK (.pointer (some ⟨B, 2, none⟩)) X rfl (Below.refl _ _)
      refine wpOp_of rfl rfl ?_
      clear hK hg
      go_simp
      simpa [updT] using h
    · have e0 : t 0 = .pointer (some ⟨B, 2, none⟩) := hg 0 ⟨_, rfl, ⟨0, .data⟩, by simp, rfl, rfl⟩
      have c : X.cell? ⟨B, 2, none⟩ = some (.slice ga gn gc) := (hb.cell (p := ⟨B, 2, none⟩) hB).trans c2
      have h := hK (.slice ga gn gc) X rfl (Below.refl _ _)
      refine wpOp_of rfl rfl ?_
      clear hK hg
      go_simp
      simpa [updT, e0] using h
    · have h := hK (.pointer (some ⟨B, 0, none⟩)) X rfl (Below.refl _ _)
      refine wpOp_of rfl rfl ?_
      clear hK hg
      go_simp
      simpa [updT] using h
    · have e2 : t 2 = .pointer (some ⟨B, 0, none⟩) := hg 2 ⟨_, rfl, ⟨2, .data⟩, by simp, rfl, rfl⟩
      have c : X.cell? ⟨B, 0, none⟩ = some (.slice ad n cap) := (hb.cell (p := ⟨B, 0, none⟩) hB).trans c0
      have h := hK (.slice ad n cap) X rfl (Below.refl _ _)
      refine wpOp_of rfl rfl ?_
      clear hK hg
      go_simp
      simpa [updT, e2] using h
    · have e3 : t 3 = .slice ad n cap := hg 3 ⟨_, rfl, ⟨3, .data⟩, by simp, rfl, rfl⟩
      refine wpOp_of rfl rfl ?_
      have HK := hid hK
      clear hK hg
      go_simp
      go_at_call 59
      refine (majors_any ad n cap X).mono ?_
      rintro r Y ⟨rfl, rfl⟩
      have h := HK.out (.func (.func 104) #[] #[.pointer (some ⟨X.heap.size, 0, none⟩)]) (X.alloc (.cells #[.slice ad n cap] 22)) ⟨X.heap.size, rfl, by simp, by simp⟩ (below_alloc _ _)
      simpa [updT, e3] using h
    · have e1 : t 1 = .slice ga gn gc := hg 1 ⟨_, rfl, ⟨1, .data⟩, by simp, rfl, rfl⟩
      obtain ⟨g, e4, hg0, b0⟩ := hg 4 ⟨_, rfl, ⟨4, .data⟩, by simp, rfl, rfl⟩
      refine wpOp_of rfl rfl ?_
      have HK := hid hK
      have B0 := hid b0
      clear hK hg b0
      go_simp
      go_at_call 57
      refine (majorsFixed_any gn gs ga gc n x A ad cap g X lo ub (Nat.le_trans hhi hb.size) hl hr hasc (hc.below hb hhi) hg0 B0.out hn hsz hfk (hx.below hb hhi)).mono ?_
      rintro r Y ⟨rfl, hbY⟩
      have h := HK.out (.bool (mfB gn gs n x)) Y rfl hbY
      simpa [updT, e1, e4] using h
  · intro t X K hb hg hK
    have e5 : t 5 = .bool (mfB gn gs n x) := hg 5 (by omega)
    refine wpOp_of rfl rfl ?_
    have HK := hid hK
    clear hK hg
    go_simp
    have h := HK.out _ X ⟨t, .bool (mfB gn gs n x), rfl, rfl, hb⟩
    simpa [e5] using h
  · rintro a X ⟨t, v3, rfl, hp⟩
    exact hQ t v3 X hp
theorem disk_at {w : World} {b : Nat} {r : Rc} {A : RcA} (h : w.rangeAt b 0 (rcC r A).toList) : w.rangeAt b 6 [.int .i64 r.dk.pr, .int .i64 r.dk.kn, .slice A.da r.dk.n A.dc] := fun j u hu => by
  have := h (6 + j) u (by
    match j, hu with
    | 0, hu => simpa using hu
    | 1, hu => simpa using hu
    | 2, hu => simpa using hu
    | j + 3, hu => simp at hu)
  simpa [Addr.add] using this
theorem ascF_lt {n : Nat} {x : Nat → Sl} (h : ascF n x = true) : ∀ j i, i < j → j < n → (x i).bal < (x j).bal
  | 0, i, hi, _ => absurd hi (Nat.not_lt_zero _)
  | j + 1, i, hi, hj => by
    have h1 := allTo_iff.1 h (j + 1) hj
    simp at h1
    by_cases e : i = j
    · rw [e]; exact h1
    · have := ascF_lt h j i (by omega) (by omega)
      omega
theorem rwB_fix {v : Rw} (h : rwB v = true) : (∀ i, i < v.gn → 1 ≤ (v.gs i).bal ∧ (v.gs i).bal ≤ 60) ∧ ∀ i j, i < j → j < v.gn → (v.gs i).bal < (v.gs j).bal := by
  simp only [rwB, fxB, Bool.and_eq_true] at h
  refine ⟨fun i hi => ?_, fun i j hij hj => ascF_lt h.2.2.2 j i hij hj⟩
  have := allTo_iff.1 h.2.2.1 i hi
  simp only [fx1, Bool.and_eq_true] at this
  exact inB_of this.1
theorem rcB_known {r : Rc} (h : rcB r = true) : 0 ≤ r.dk.kn ∧ r.dk.kn ≤ r.dk.n ∧ r.dk.kn ≤ 99 := by
  obtain ⟨h0, h1⟩ := dkB_known (rcB_disk h)
  have h2 := rcB_disk h
  simp only [dkB, slsB, Bool.and_eq_true] at h2
  have h3 := h2.2.1.1
  simp at h3
  exact ⟨h0, h1, by omega⟩
/-- what RecAgree answers -/
def agB (v : Rw) : Bool := rwB v && (allTo (fun i => kfB v.gn v.gs (v.x i).dk) v.n && mfB v.gn v.gs v.n v.x)
set_option maxRecDepth 100000 in
set_option maxHeartbeats 8000000 in
theorem implAgree_any (v : Rw) (V : RwA) (w : World) (lo hi : Nat) (hhi : hi ≤ w.heap.size) (hf : RwFit v) (hm : RwSmall v) (hw : ∀ i, i < v.n → RcNew (v.x i) (V.A i)) (hc : RwIn w lo hi v V) :
    Calls Try.prog 20 #[rwV v V] w fun e w' => e = .returned (.bool (agB v)) ∧ Below w.heap.size w w' := by
  have HC := hid hc
  have HF := hid hf
  have HM := hid hm
  have HW := hid hw
  have hB0 := below_alloc w (.cells (rwC v V) 26)
  have H0 := hid (holds_new w (rwC v V) 26)
  have hz0 : w.heap.size < (w.alloc (.cells (rwC v V) 26)).heap.size := by simp
  have hOK := hid (implWorld_any v V (w.alloc (.cells (rwC v V) 26)) lo hi (Nat.le_trans hhi hB0.size) hf hw (hc.below hB0 hhi))
  obtain ⟨q0, q1, q2⟩ := holds3 H0.out
  clear hc hf hw hm
  cases hv : rwB v with
  | false =>
    have HE := hid (show agB v = false by simp [agB, hv])
    rw [hv] at hOK
    go_enter Try.func20, Try.ntmps20
    go_wp2_with (go_at_call 16; go_must (refine hOK.out.mono ?_; rintro e w1 ⟨rfl, hb1⟩; have hB1 : Below w.heap.size w w1 := hB0.trans (hb1.mono hB0.size)))
    go_ret
    exact ⟨ret_bool HE.out.symm, hB1⟩
  | true =>
    have HV0 := hid hv
    have hn5 := rwB_n5 hv
    have HN0 := hid (fun k (hk : k < v.n) (h : kfB v.gn v.gs (v.x k).dk = false) => (show agB v = false by unfold agB; rw [allTo_no (p := fun i => kfB v.gn v.gs (v.x i).dk) hk h]; simp))
    have HE := hid (fun (h : ∀ i, i < v.n → kfB v.gn v.gs (v.x i).dk = true) => (show agB v = mfB v.gn v.gs v.n v.x by unfold agB; rw [hv, allTo_iff.2 h]; simp))
    obtain ⟨hfx, hfa⟩ := rwB_fix hv
    have HFX := hid hfx
    have HFA := hid hfa
    rw [hv] at hOK
    clear hfx hfa hv
    go_enter Try.func20, Try.ntmps20
    go_wp2_with (go_at_call 16; go_must (refine hOK.out.mono ?_; rintro e w1 ⟨rfl, hb1⟩; have hB1 : Below w.heap.size w w1 := hB0.trans (hb1.mono hB0.size); have hz1 : w.heap.size < w1.heap.size := Nat.lt_of_lt_of_le hz0 hb1.size; have H1 := hid (H0.out.below hb1 hz0); obtain ⟨p0, p1, p2⟩ := holds3 H1.out))
    clear p0 p1 p2 q0 q1 q2 hOK H0 hb1
    go_loopw [11] (fun i wr => ∃ k : Nat, k ≤ v.n ∧ i = .int .i64 k ∧ Below w1.heap.size w1 wr ∧ Hid (∀ j, j < k → kfB v.gn v.gs (v.x j).dk = true)) (fun i _ => v.n - (intOf i).toNat)
    case atStart => exact ⟨0, Nat.zero_le _, rfl, Below.refl _ _, fun j hj => absurd hj (Nat.not_lt_zero _)⟩
    case round =>
      obtain ⟨k, hk, rfl, hb, HA⟩ := hrel
      have hBr : Below w.heap.size w wr := hB1.trans (hb.mono hB1.size)
      have hzr : w.heap.size < wr.heap.size := Nat.lt_of_lt_of_le hz1 hb.size
      obtain ⟨p0, p1, p2⟩ := holds3 (H1.out.below hb hz1)
      by_cases hkn : k < v.n
      · obtain ⟨b, off, e, hlo, hbh, hrx, hix⟩ := HC.out.rs k hkn
        have HR := hid (rangeAt_same hrx (fun j => hBr.cell (p := ⟨b, j, none⟩) (by show b < _; omega)))
        have HIX := hid hix
        obtain ⟨gd, hda⟩ := (HW.out k hkn).da
        have HDC := hid (HW.out k hkn).dc
        have HDA := hid hda
        obtain ⟨hk0, hk1, hk9⟩ := rcB_known (rwB_rec HV0.out hkn)
        have P2 := hid p2
        rw [e]
        clear hrx hix e p0 p1 p2 hda
        cases hkf : kfB v.gn v.gs (v.x k).dk with
        | false =>
          have HEN := hid (HN0.out k hkn hkf)
          go_wp2_with (first | ((with_reducible show wpList _ _ _ (⟨some 14, Op.load 58 _, _, _, _, _⟩ :: _) _ _); go_must (refine wpList_load_mid rfl 58 _ rfl b (off + k * 18) rfl (rcCs (v.x k) (V.A k)) _ HR.out Try.underlying58 rfl rcs_sz58 ?_)) | ((with_reducible show wpList _ _ _ (⟨none, Op.store 58 _ _, _, _, _, _⟩ :: _) _ _); go_must (refine wpList_store_new rfl 58 _ _ rfl wr.heap.size (rcC (v.x k) (V.A k)).toList rfl rfl (there41 wr) rcs_sz58 (by simp [Value.oneCell']) ?_; intro U hr hfr hsv; have HV := hid hr; have HFV := hid hfr; have HSV := hid hsv; clear hr hfr hsv)))
          have hbU : Below wr.heap.size wr U := (below_alloc _ _).trans (HFV.out.below (Nat.le_refl _) (by simp))
          have hBU : Below w.heap.size w U := hBr.trans (hbU.mono (by omega))
          have hDK := disk_at HV.out
          rw [HDA.out] at hDK
          have hIU := (HC.out.below hBU hhi)
          refine agReg6 _ _ _ _ _ _ _ _ _ _ _ _ _ _ _ _ _ _ _ _ _ _ _ _ _ _ _ v.gn v.gs V.ga V.gc (v.x k).dk gd (V.A k).dc w.heap.size wr.heap.size U (by have := hbU.size; omega) (by rw [HSV.out]; simp) ((hbU.cell (p := ⟨w.heap.size, 2, none⟩) hzr).trans P2.out) hDK lo hi (Nat.le_trans hhi hBU.size) HM.out.gn HFX.out HFA.out hIU.gs hk0 hk1 hk9 (Nat.le_of_eq HDC.out.symm) (HM.out.x k hkn).dk (by have h := (HIX.out.below hBU hhi).dk; rw [HDA.out] at h; exact h.mono (Nat.zero_le _) (Nat.le_refl _)) _ ?_
          rintro t v3 X ⟨rfl, hbX⟩
          rw [hkf]
          clear hIU hDK HR HIX P2
          go_wp2
          go_ret
          exact ⟨ret_bool HEN.out.symm, hBU.trans (hbX.mono hBU.size)⟩
        | true =>
          go_wp2_with (first | ((with_reducible show wpList _ _ _ (⟨some 14, Op.load 58 _, _, _, _, _⟩ :: _) _ _); go_must (refine wpList_load_mid rfl 58 _ rfl b (off + k * 18) rfl (rcCs (v.x k) (V.A k)) _ HR.out Try.underlying58 rfl rcs_sz58 ?_)) | ((with_reducible show wpList _ _ _ (⟨none, Op.store 58 _ _, _, _, _, _⟩ :: _) _ _); go_must (refine wpList_store_new rfl 58 _ _ rfl wr.heap.size (rcC (v.x k) (V.A k)).toList rfl rfl (there41 wr) rcs_sz58 (by simp [Value.oneCell']) ?_; intro U hr hfr hsv; have HV := hid hr; have HFV := hid hfr; have HSV := hid hsv; clear hr hfr hsv)))
          have hbU : Below wr.heap.size wr U := (below_alloc _ _).trans (HFV.out.below (Nat.le_refl _) (by simp))
          have hBU : Below w.heap.size w U := hBr.trans (hbU.mono (by omega))
          have hDK := disk_at HV.out
          rw [HDA.out] at hDK
          have hIU := (HC.out.below hBU hhi)
          refine agReg6 _ _ _ _ _ _ _ _ _ _ _ _ _ _ _ _ _ _ _ _ _ _ _ _ _ _ _ v.gn v.gs V.ga V.gc (v.x k).dk gd (V.A k).dc w.heap.size wr.heap.size U (by have := hbU.size; omega) (by rw [HSV.out]; simp) ((hbU.cell (p := ⟨w.heap.size, 2, none⟩) hzr).trans P2.out) hDK lo hi (Nat.le_trans hhi hBU.size) HM.out.gn HFX.out HFA.out hIU.gs hk0 hk1 hk9 (Nat.le_of_eq HDC.out.symm) (HM.out.x k hkn).dk (by have h := (HIX.out.below hBU hhi).dk; rw [HDA.out] at h; exact h.mono (Nat.zero_le _) (Nat.le_refl _)) _ ?_
          rintro t v3 X ⟨rfl, hbX⟩
          rw [hkf]
          have HKF := hid hkf
          clear hIU hDK HR HIX P2 hkf
          go_wp2
          go_roundw
          case rel => exact ⟨k + 1, by omega, by go_num, hb.trans ((hbU.trans (hbX.mono hbU.size)).mono hb.size), fun j hj => by
            by_cases e : j = k
            · rw [e]; exact HKF.out
            · exact HA.out j (by omega)⟩
          case measure => simp [intOf]; omega
      · have HEN := hid (HE.out (fun i hi => HA.out i (by omega)))
        have P0 := hid p0
        have P2 := hid p2
        clear p0 p1 p2
        go_wp2
        have hIU := (HC.out.below hBr hhi)
        refine agReg9 _ _ _ _ _ _ _ _ _ _ _ _ _ _ _ _ _ _ _ _ _ _ _ _ _ _ _ _ v.gn v.gs V.ga V.gc v.n v.x V.ra V.rc w.heap.size wr V.A hzr P2.out P0.out lo hi (Nat.le_trans hhi hBr.size) HM.out.gn HFX.out HFA.out hIU.gs (rwB_n5 HV0.out) (fun i hi => (HF.out.x i hi).sf.n) (fun ix i s hi hs => (slB_key (stA_ok HV0.out hi hs)).1) hIU.rs _ ?_
        rintro t v3 X ⟨rfl, hbX⟩
        clear hIU P0 P2
        go_wp2
        go_ret
        exact ⟨ret_bool HEN.out.symm, hBr.trans (hbX.mono hBr.size)⟩
end Go.Proofs.Ytjepponnhieocaa
namespace Go.Proofs.Ytjepponnhieocaa
open Go.RowKit
theorem kfB_yes {gn : Nat} {gs : Nat → Sl} {d : Dk} (h : ∀ i, i < d.kn.toNat → fixAt gn gs ((i : Int) + 1) = some (d.s i).text) : kfB gn gs d = true := allTo_iff.2 (fun i hi => decide_eq_true (h i hi))
theorem kfB_no {gn : Nat} {gs : Nat → Sl} {d : Dk} {i : Nat} (hi : i < d.kn.toNat) (h : fixAt gn gs ((i : Int) + 1) ≠ some (d.s i).text) : kfB gn gs d = false := allTo_no hi (by simpa using h)
set_option maxRecDepth 100000 in
set_option maxHeartbeats 8000000 in
theorem specAgree_any (v : Rw) (V : RwA) (w : World) (lo hi : Nat) (hhi : hi ≤ w.heap.size) (hf : RwFit v) (hm : RwSmall v) (hw : ∀ i, i < v.n → RcNew (v.x i) (V.A i)) (hc : RwIn w lo hi v V) :
    Calls Try.prog 19 #[rwV v V] w fun e w' => e = .returned (.bool (agB v)) ∧ Below w.heap.size w w' := by
  have HC := hid hc
  have HF := hid hf
  have HM := hid hm
  have HW := hid hw
  have hB0 := below_alloc w (.cells (rwC v V) 26)
  have H0 := hid (holds_new w (rwC v V) 26)
  have hz0 : w.heap.size < (w.alloc (.cells (rwC v V) 26)).heap.size := by simp
  have hOK := hid (specWorld_any v V (w.alloc (.cells (rwC v V) 26)) lo hi (Nat.le_trans hhi hB0.size) hf (hc.below hB0 hhi))
  obtain ⟨q0, q1, q2⟩ := holds3 H0.out
  have hgl : (v.gn : Int) ≤ 8796093022208 := by have := hm.gn; omega
  clear hc hf hw hm
  cases hv : rwB v with
  | false =>
    have HE := hid (show agB v = false by simp [agB, hv])
    rw [hv] at hOK
    go_enter Try.func19, Try.ntmps19
    go_wp2_with (go_at_call 14; go_must (refine hOK.out.mono ?_; rintro e w1 ⟨rfl, hb1⟩; have hB1 : Below w.heap.size w w1 := hB0.trans (hb1.mono hB0.size)))
    go_ret
    exact ⟨ret_bool HE.out.symm, hB1⟩
  | true =>
    have HV0 := hid hv
    have hn5 := rwB_n5 hv
    have HN0 := hid (fun k (hk : k < v.n) (h : kfB v.gn v.gs (v.x k).dk = false) => (show agB v = false by unfold agB; rw [allTo_no (p := fun i => kfB v.gn v.gs (v.x i).dk) hk h]; simp))
    have HN1 := hid (fun k (hk : k < 60) (h : mf1 v.gn v.gs v.n v.x k = false) => (show agB v = false by unfold agB mfB; rw [allTo_no (p := mf1 v.gn v.gs v.n v.x) hk h]; simp))
    have HE := hid (fun (h : ∀ i, i < v.n → kfB v.gn v.gs (v.x i).dk = true) (h2 : ∀ k, k < 60 → mf1 v.gn v.gs v.n v.x k = true) => (show agB v = true by unfold agB mfB; rw [hv, allTo_iff.2 h, allTo_iff.2 h2]; simp))
    rw [hv] at hOK
    clear hv
    go_enter Try.func19, Try.ntmps19
    go_wp2_with (go_at_call 14; go_must (refine hOK.out.mono ?_; rintro e w1 ⟨rfl, hb1⟩; have hB1 : Below w.heap.size w w1 := hB0.trans (hb1.mono hB0.size); have hz1 : w.heap.size < w1.heap.size := Nat.lt_of_lt_of_le hz0 hb1.size; have H1 := hid (H0.out.below hb1 hz0)))
    clear q0 q1 q2 hOK H0 hb1
    go_loopw [3] (fun i wr => ∃ k : Nat, k ≤ v.n ∧ i = .int .i64 k ∧ Below w1.heap.size w1 wr ∧ Hid (∀ j, j < k → kfB v.gn v.gs (v.x j).dk = true)) (fun i _ => v.n - (intOf i).toNat)
    case atStart => exact ⟨0, Nat.zero_le _, rfl, Below.refl _ _, fun j hj => absurd hj (Nat.not_lt_zero _)⟩
    case round =>
      obtain ⟨k, hk, rfl, hb, HA⟩ := hrel
      have hBr : Below w.heap.size w wr := hB1.trans (hb.mono hB1.size)
      have hzr : w.heap.size < wr.heap.size := Nat.lt_of_lt_of_le hz1 hb.size
      have H2 := hid (H1.out.below hb hz1)
      obtain ⟨p0, p1, p2⟩ := holds3 H2.out
      by_cases hkn : k < v.n
      · obtain ⟨b, off, e, hlo, hbh, hrx, hix⟩ := HC.out.rs k hkn
        have HR := hid (rangeAt_same hrx (fun j => hBr.cell (p := ⟨b, j, none⟩) (by show b < _; omega)))
        have HBK := hid (bookSpec_any (v.x k) (V.A k) wr lo hi (Nat.le_trans hhi hBr.size) (HM.out.x k hkn) (HF.out.x k hkn) (HW.out k hkn) (hix.below hBr hhi))
        have hbn : bkN (v.x k) = (v.x k).dk.kn.toNat := by simp [bkN, rwB_rec HV0.out hkn]
        obtain ⟨hk0, hk1, hk9⟩ := rcB_known (rwB_rec HV0.out hkn)
        have hb99 : bkN (v.x k) ≤ 99 := by omega
        have HBN := hid hbn
        rw [e] at p0
        clear hrx hix e hbn p1 p2
        have HB := hid hb
        clear hb
        generalize hbk : bkN (v.x k) = nb at *
        have HNB := hid hbk
        clear hbk
        go_wp2_with (first | ((with_reducible show wpList _ _ _ (⟨some 27, Op.load 58 _, _, _, _, _⟩ :: _) _ _); go_must (refine wpList_load_mid rfl 58 _ rfl b (off + k * 18) rfl (rcCs (v.x k) (V.A k)) _ HR.out Try.underlying58 rfl rcs_sz58 ?_)) | (go_at_call 22; go_must (refine HBK.out.mono ?_; rintro e w2 ⟨ad, cap, rfl, hst, hb2⟩; have HST := hid hst; have HB2 := hid hb2; clear hst)))
        have H3 := hid (H2.out.below HB2.out hzr)
        have hz2 : w.heap.size < w2.heap.size := Nat.lt_of_lt_of_le hzr HB2.out.size
        have hB2 : Below w.heap.size w w2 := hBr.trans (HB2.out.mono (by omega))
        have HBR := hid (show Below w1.heap.size w1 w2 from HB.out.trans (HB2.out.mono HB.out.size))
        clear p0 HR HBK H2 hb2 HB HB2
        clear hBr hzr
        go_loopw [5] (fun i wr => ∃ j : Nat, j ≤ nb ∧ i = .int .i64 j ∧ Below w2.heap.size w2 wr ∧ Hid (∀ q, q < j → fixAt v.gn v.gs ((q : Int) + 1) = some ((v.x k).dk.s q).text)) (fun i _ => nb - (intOf i).toNat)
        case atStart => exact ⟨0, Nat.zero_le _, rfl, Below.refl _ _, fun j hj => absurd hj (Nat.not_lt_zero _)⟩
        case round =>
          obtain ⟨j, hj, rfl, hb3, HA2⟩ := hrel
          have hB3 : Below w.heap.size w wr := hB2.trans (hb3.mono hB2.size)
          have hz3 : w.heap.size < wr.heap.size := Nat.lt_of_lt_of_le hz2 hb3.size
          obtain ⟨p0, p1, p2⟩ := holds3 (H3.out.below hb3 hz2)
          by_cases hjn : j < nb
          · have hFX := hid (specFixed_any v V ((j : Int) + 1) wr lo hi (Nat.le_trans hhi hB3.size) hgl (HC.out.below hB3 hhi))
            obtain ⟨b4, off4, e4, _, hbh4, hcx⟩ := HST.out j hjn
            have hcx' := (hb3.cell (p := ⟨b4, off4 + j, none⟩) hbh4).trans hcx
            rw [e4]
            clear hcx e4
            have hjk : j < (v.x k).dk.kn.toNat := by have := HNB.out; have := HBN.out; omega
            cases hfx : fixAt v.gn v.gs ((j : Int) + 1) with
            | none =>
              have HEN := hid (HN0.out k hkn (kfB_no hjk (by rw [hfx]; simp)))
              rw [hfx] at hFX
              clear hfx
              go_wp2_with (go_at_call 56; go_must (refine hFX.out.mono ?_; rintro e w4 ⟨rfl, hb4⟩; simp only [mjV, Option.getD_none, Option.isSome_none]))
              go_ret
              exact ⟨ret_bool HEN.out.symm, hB3.trans (hb4.mono hB3.size)⟩
            | some t =>
              rw [hfx] at hFX
              by_cases ht : t = bkX (v.x k) j
              · have HN := hid (show fixAt v.gn v.gs ((j : Int) + 1) = some ((v.x k).dk.s j).text by rw [hfx, ht]; rfl)
                subst ht
                clear hfx
                go_wp2_with (go_at_call 56; go_must (refine hFX.out.mono ?_; rintro e w4 ⟨rfl, hb4⟩; simp only [mjV, Option.getD_some, Option.isSome_some]; have c4 := (hb4.cell (p := ⟨b4, off4 + j, none⟩) (by show b4 < _; have := hb3.size; omega)).trans hcx'))
                go_roundw
                case rel => exact ⟨j + 1, by omega, by go_num, hb3.trans (hb4.mono hb3.size), fun q hq => by
                  by_cases e : q = j
                  · rw [e]; exact HN.out
                  · exact HA2.out q (by omega)⟩
                case measure => simp [intOf]; omega
              · have HEN := hid (HN0.out k hkn (kfB_no hjk (by rw [hfx]; simpa [bkX] using ht)))
                have hne := toList_ne ht
                clear hfx
                go_wp2_with (go_at_call 56; go_must (refine hFX.out.mono ?_; rintro e w4 ⟨rfl, hb4⟩; simp only [mjV, Option.getD_some, Option.isSome_some]; have c4 := (hb4.cell (p := ⟨b4, off4 + j, none⟩) (by show b4 < _; have := hb3.size; omega)).trans hcx'))
                go_ret
                exact ⟨ret_bool HEN.out.symm, hB3.trans (hb4.mono hB3.size)⟩
          · have HN := hid (show kfB v.gn v.gs (v.x k).dk = true from kfB_yes (fun i hi => HA2.out i (by have := HNB.out; have := HBN.out; omega)))
            clear p0 p1 p2
            go_wp2
            go_roundw
            case rel => exact ⟨k + 1, by omega, by go_num, HBR.out.trans (hb3.mono HBR.out.size), fun j hj => by
              by_cases e : j = k
              · rw [e]; exact HN.out
              · exact HA.out j (by omega)⟩
            case measure => simp [intOf]; omega
      · have HALL := hid (show ∀ i, i < v.n → kfB v.gn v.gs (v.x i).dk = true from fun i hi => HA.out i (by omega))
        have HH2 := hid hBr
        clear HA
        go_wp2
        clear p0 p1 p2
        generalize hWr : wr = Wr at *
        clear hWr
        go_loopw [8] (fun i wr => ∃ j : Nat, j ≤ 60 ∧ i = .int .i64 ((j : Int) + 1) ∧ Below Wr.heap.size Wr wr ∧ Hid (∀ q, q < j → mf1 v.gn v.gs v.n v.x q = true)) (fun i _ => 61 - (intOf i).toNat)
        case atStart => exact ⟨0, Nat.zero_le _, rfl, Below.refl _ _, fun j hj => absurd hj (Nat.not_lt_zero _)⟩
        case round =>
          obtain ⟨j, hj, rfl, hb3, HA2⟩ := hrel
          have hB3 : Below w.heap.size w wr := HH2.out.trans (hb3.mono HH2.out.size)
          have H3 := hid (H2.out.below hb3 hzr)
          have hz3 : w.heap.size < wr.heap.size := Nat.lt_of_lt_of_le hzr hb3.size
          obtain ⟨p0, p1, p2⟩ := holds3 H3.out
          by_cases hjn : j < 60
          · have hMJ := hid (show Calls Try.prog 54 #[rwV v V, .int .i64 ((j : Int) + 1)] wr fun e w' => e = .returned (mjV (majI v.n v.x ((j : Int) + 1))) ∧ Below wr.heap.size wr w' from maj_eq (n := v.n) (x := v.x) (ix := (j : Int) + 1) (fun i s hi hs => (slB_key (stA_ok HV0.out hi hs)).2) ▸ specMajor_any v V ((j : Int) + 1) wr lo hi (Nat.le_trans hhi hB3.size) hn5 (fun i hi => (HF.out.x i hi).sf.n) (HC.out.below hB3 hhi))
            have hFX := hid (fun (X : World) (hX : Below w.heap.size w X) => specFixed_any v V ((j : Int) + 1) X lo hi (Nat.le_trans hhi hX.size) hgl (HC.out.below hX hhi))
            have HM1 := hid (show mf1 v.gn v.gs v.n v.x j = match majI v.n v.x ((j : Int) + 1) with | none => true | some t => decide (fixAt v.gn v.gs ((j : Int) + 1) = some t) from rfl)
            cases hmj : majI v.n v.x ((j : Int) + 1) with
            | none =>
              rw [hmj] at hMJ HM1
              have HN := hid (show mf1 v.gn v.gs v.n v.x j = true from HM1.out)
              unfold mjV at hFX
              generalize (fixAt v.gn v.gs ((j : Int) + 1)).getD ⟨#[]⟩ = sv at *
              generalize (fixAt v.gn v.gs ((j : Int) + 1)).isSome = bv at *
              clear hmj HM1
              go_wp2_with (first | (go_at_call 54; go_must (refine hMJ.out.mono ?_; rintro e w4 ⟨rfl, hb4⟩; simp only [mjV, Option.getD_none, Option.isSome_none]; obtain ⟨r0, r1, r2⟩ := holds3 (H3.out.below hb4 hz3))) | (go_at_call 56; go_must (refine (hFX.out w4 (hB3.trans (hb4.mono hB3.size))).mono ?_; rintro e w5 ⟨rfl, hb5⟩)))
              go_roundw
              case rel => exact ⟨j + 1, by omega, by go_num, (hb3.trans (hb4.mono hb3.size)).trans (hb5.mono (by have := hb3.size; have := hb4.size; omega)), fun q hq => by
                by_cases e : q = j
                · rw [e]; exact HN.out
                · exact HA2.out q (by omega)⟩
              case measure => simp [intOf]; omega
            | some t =>
              rw [hmj] at hMJ HM1
              clear hmj
              cases hfx : fixAt v.gn v.gs ((j : Int) + 1) with
              | none =>
                have HEN := hid (HN1.out j hjn (by rw [HM1.out, hfx]; simp))
                rw [hfx] at hFX
                clear hfx HM1
                go_wp2_with (first | (go_at_call 54; go_must (refine hMJ.out.mono ?_; rintro e w4 ⟨rfl, hb4⟩; simp only [mjV, Option.getD_some, Option.isSome_some]; obtain ⟨r0, r1, r2⟩ := holds3 (H3.out.below hb4 hz3))) | (go_at_call 56; go_must (refine (hFX.out w4 (hB3.trans (hb4.mono hB3.size))).mono ?_; rintro e w5 ⟨rfl, hb5⟩; simp only [mjV, Option.getD_none, Option.isSome_none])))
                go_ret
                exact ⟨ret_bool HEN.out.symm, (hB3.trans (hb4.mono hB3.size)).trans (hb5.mono (by have := hB3.size; have := hb4.size; omega))⟩
              | some t2 =>
                by_cases ht : t2 = t
                · subst ht
                  have HN := hid (show mf1 v.gn v.gs v.n v.x j = true by rw [HM1.out, hfx]; simp)
                  rw [hfx] at hFX
                  clear hfx HM1
                  go_wp2_with (first | (go_at_call 54; go_must (refine hMJ.out.mono ?_; rintro e w4 ⟨rfl, hb4⟩; simp only [mjV, Option.getD_some, Option.isSome_some]; obtain ⟨r0, r1, r2⟩ := holds3 (H3.out.below hb4 hz3))) | (go_at_call 56; go_must (refine (hFX.out w4 (hB3.trans (hb4.mono hB3.size))).mono ?_; rintro e w5 ⟨rfl, hb5⟩; simp only [mjV, Option.getD_some, Option.isSome_some])))
                  go_roundw
                  case rel => exact ⟨j + 1, by omega, by go_num, (hb3.trans (hb4.mono hb3.size)).trans (hb5.mono (by have := hb3.size; have := hb4.size; omega)), fun q hq => by
                    by_cases e : q = j
                    · rw [e]; exact HN.out
                    · exact HA2.out q (by omega)⟩
                  case measure => simp [intOf]; omega
                · have HEN := hid (HN1.out j hjn (by rw [HM1.out, hfx]; simpa using ht))
                  have hne := toList_ne ht
                  rw [hfx] at hFX
                  clear hfx HM1
                  go_wp2_with (first | (go_at_call 54; go_must (refine hMJ.out.mono ?_; rintro e w4 ⟨rfl, hb4⟩; simp only [mjV, Option.getD_some, Option.isSome_some]; obtain ⟨r0, r1, r2⟩ := holds3 (H3.out.below hb4 hz3))) | (go_at_call 56; go_must (refine (hFX.out w4 (hB3.trans (hb4.mono hB3.size))).mono ?_; rintro e w5 ⟨rfl, hb5⟩; simp only [mjV, Option.getD_some, Option.isSome_some])))
                  go_ret
                  exact ⟨ret_bool HEN.out.symm, (hB3.trans (hb4.mono hB3.size)).trans (hb5.mono (by have := hB3.size; have := hb4.size; omega))⟩
          · have HEN := hid (HE.out HALL.out (fun q hq => HA2.out q (by omega)))
            clear p0 p1 p2
            go_wp2
            go_ret
            exact ⟨ret_bool HEN.out.symm, hB3⟩
end Go.Proofs.Ytjepponnhieocaa
namespace Go.Proofs.Ytjepponnhieocaa
open Go.RowKit
set_option maxRecDepth 100000 in
set_option maxHeartbeats 8000000 in
theorem agReg10 (p0 p2 p3 p4 p6 p7 p8 p9 p10 p11 p12 p13 p14 p15 p16 p17 p18 p19 p20 p21 : Value) (s0 b5 : Nat) (v : Rw) (V V5 : RwA) (hf : RwFit v) (hm : RwSmall v) (W : World) (hv : W.rangeAt b5 0 (rwC v V5).toList) (hbx : W.rangeAt s0 0 (rwC v V).toList) (hat : RwIn W 0 W.heap.size v V5) (hin : RwIn W 0 s0 v V) (hs : s0 < W.heap.size) (zb : b5 < W.heap.size) (Q : Exit → Act → World → Prop)
    (hQ : ∀ u0 u1 u2 u3 X, Below W.heap.size W X → Q .normal ⟨#[p0, .pointer (some ⟨s0, 0, none⟩), p2, p3, p4, .pointer (some ⟨b5, 0, none⟩), p6, p7, p8, p9, p10, p11, p12, p13, p14, p15, p16, p17, p18, p19, p20, p21, u0, u1, u2, u3, .bool false], []⟩ X) :
    Code.wp Try.prog (Code.region 10 #[{ dst := some 22, op := Op.load 26 (Operand.tmp 5), type := 26, pos := "exact.go:3225", after := #[], guard := none }, { dst := some 23, op := Op.load 35 (Operand.tmp 1), type := 35, pos := "exact.go:3225", after := #[], guard := none }, { dst := some 24, op := Op.call { callee := Callee.value (Operand.func 15), args := #[Operand.tmp 23], argTypes := #[35] }, type := 26, pos := "exact.go:3225", after := #[{ on := 1, ground := Ground.data }], guard := none }, { dst := some 25, op := Op.call { callee := Callee.value (Operand.func 10), args := #[Operand.tmp 22, Operand.tmp 24], argTypes := #[26, 26] }, type := 4, pos := "exact.go:3225", after := #[{ on := 0, ground := Ground.data }, { on := 2, ground := Ground.data }, { on := 2, ground := Ground.chain }], guard := none }, { dst := some 26, op := Op.unOp UnOp.not 4 (Operand.tmp 25), type := 4, pos := "exact.go:3225", after := #[{ on := 3, ground := Ground.data }], guard := none }] true) Q ⟨#[p0, .pointer (some ⟨s0, 0, none⟩), p2, p3, p4, .pointer (some ⟨b5, 0, none⟩), p6, p7, p8, p9, p10, p11, p12, p13, p14, p15, p16, p17, p18, p19, p20, p21, undef, undef, undef, undef, undef], []⟩ W := by
  refine region5 (by kernel_rfl) (fun t : Nat → Value => #[p0, .pointer (some ⟨s0, 0, none⟩), p2, p3, p4, .pointer (some ⟨b5, 0, none⟩), p6, p7, p8, p9, p10, p11, p12, p13, p14, p15, p16, p17, p18, p19, p20, p21, t 0, t 1, t 2, t 3, t 4]) (rwV v V5) (rwV v V) (fun x X => ∃ V', x = rwV v V' ∧ RwIn X 0 X.heap.size v V') rfl (by kernel_rfl) ?hd ?st2 rfl ?s0 ?s1 ?s2 ?s3 ?s4 ?hfin
  case hd =>
    intro l i hr
    obtain ⟨_, o, ho, hdep⟩ := mem_ready.1 hr
    refine ⟨fun e => ?_, fun e => ?_, fun e => ?_⟩ <;> subst e <;> simp only [List.getElem?_toArray, List.getElem?_cons_succ, List.getElem?_cons_zero, Option.some.injEq] at ho <;> subst ho
    · exact hdep ⟨1, .data⟩ (by simp) rfl
    · exact ⟨hdep ⟨0, .data⟩ (by simp) rfl, hdep ⟨2, .data⟩ (by simp) rfl⟩
    · exact hdep ⟨3, .data⟩ (by simp) rfl
  case st2 =>
    rintro x X Y ⟨V', rfl, h⟩ hb
    exact ⟨V', rfl, (h.below hb (Nat.le_refl _)).mono (Nat.le_refl _) hb.size⟩
  case s0 =>
    intro t X K hb hK
    exact wpOp_load_at rfl rfl 26 _ rfl b5 0 rfl (rwC v V5).toList _ (World.rangeAt_below hv hb zb) Try.underlying26 rfl rw_sz26 hK
  case s1 =>
    intro t X K hb hK
    exact wpOp_load_at rfl rfl 35 _ rfl s0 0 rfl (rwC v V).toList _ (World.rangeAt_below hbx hb hs) Try.underlying35 rfl rw_sz35 hK
  case s2 =>
    intro t X K hb e1 hK
    refine wpOp_of rfl rfl ?_
    have HK := hid hK
    clear hK
    go_simp
    go_at_call 15
    refine (toRw_any v V X 0 s0 (by have := hb.size; omega) hm (hin.below hb (by omega))).mono ?_
    rintro e Y ⟨V', rfl, ho', hn', hbY⟩
    have h := HK.out _ Y ⟨V', rfl, ho'.mono (Nat.zero_le _) (Nat.le_refl _)⟩ hbY
    simpa [updT, e1] using h
  case s3 =>
    intro t X K hb e0 h2 hK
    obtain ⟨V', e2, i2⟩ := h2
    refine wpOp_of rfl rfl ?_
    have HK := hid hK
    have HI2 := hid i2
    clear hK i2
    go_simp
    go_at_call 10
    refine (eqRw_any v V5 V' X 0 X.heap.size 0 X.heap.size (Nat.le_refl _) (Nat.le_refl _) hf ((hat.below hb (Nat.le_refl _)).mono (Nat.le_refl _) hb.size) HI2.out).mono ?_
    rintro e Y ⟨rfl, hbY⟩
    have h := HK.out Y hbY
    simpa [updT, e0, e2] using h
  case s4 =>
    intro t X K e3 hK
    refine wpOp_of rfl rfl ?_
    go_simp
    simpa [updT, e3] using hK
  case hfin =>
    intro t X e4 hb
    have h := hQ (t 0) (t 1) (t 2) (t 3) X hb
    rw [← e4] at h
    exact h
set_option maxRecDepth 100000 in
set_option maxHeartbeats 8000000 in
theorem agree_law (v : Rw) (V : RwA) (w : World) (hf : RwFit v) (hc : RwIn w 0 w.heap.size v V) :
    Calls Try.prog 6 #[rwV v V] w fun e w' => e = .returned (.bool true) ∧ Below w.heap.size w w' := by
  have HF := hid hf
  have HC := hid hc
  have cS := hid (specAgree_any v)
  have cI := hid (implAgree_any v)
  clear hf hc
  have mark : Nat := 0
  go_enter Try.func6, Try.ntmps6
  go_wp2_with (first | ((with_reducible show wpList _ _ _ (⟨some 7, _, _, _, _, _⟩ :: _) _ _); clear mark; have hB0 := below_alloc w (.cells (rwC v V) 35); have H0 := hid (Holds.range (cs := (rwC v V).toList) (holds_new w (rwC v V) 35)); have hz0 : w.heap.size < (w.alloc (.cells (rwC v V) 35)).heap.size := (by simp); generalize w.alloc (.cells (rwC v V) 35) = W at *) | ((with_reducible show wpList _ _ _ (⟨some 7, Op.load 35 _, _, _, _, _⟩ :: _) _ _); refine wpList_load_mid rfl 35 _ rfl w.heap.size 0 rfl (rwC v V).toList _ H0.out Try.underlying35 rfl rw_sz35 ?_))
  refine (szRw_any v V 1048576 W (by omega) (by omega) 0 w.heap.size (by have := hB0.size; omega) HF.out (HC.out.below hB0 (Nat.le_refl _))).mono ?_
  rintro e w1 ⟨rfl, hb1⟩
  have hB1 : Below w.heap.size w w1 := hB0.trans (hb1.mono hB0.size)
  have H1 : Hid (w1.rangeAt w.heap.size 0 (rwC v V).toList) := hid (World.rangeAt_below H0.out hb1 hz0)
  have hz1 : w.heap.size < w1.heap.size := Nat.lt_of_lt_of_le hz0 hb1.size
  clear hb1 H0 hB0 hz0
  by_cases hsz : szOut 1048576 (szRw v) < 0
  · clear H1
    go_wp2
    go_ret
    exact ⟨rfl, hB1⟩
  have HM := hid (rwSmall_of (szOut_ge (l := 1048576) (s := szRw v) (by omega)).1)
  go_wp2_with (first | ((with_reducible show wpList _ _ _ (⟨some 12, Op.load 35 _, _, _, _, _⟩ :: _) _ _); refine wpList_load_mid rfl 35 _ rfl w.heap.size 0 rfl (rwC v V).toList _ H1.out Try.underlying35 rfl rw_sz35 ?_))
  refine (toRw_any v V w1 0 w.heap.size (by omega) HM.out (HC.out.below hB1 (Nat.le_refl _))).mono ?_
  rintro e w2 ⟨V2, rfl, ho2, hn2, hb2⟩
  have hB2 : Below w.heap.size w w2 := hB1.trans (hb2.mono hB1.size)
  have H2 : Hid (w2.rangeAt w.heap.size 0 (rwC v V).toList) := hid (World.rangeAt_below H1.out hb2 hz1)
  have hz2 : w.heap.size < w2.heap.size := Nat.lt_of_lt_of_le hz1 hb2.size
  have hS := hid (cS.out V2 w2 w1.heap.size w2.heap.size (Nat.le_refl _) HF.out HM.out hn2 ho2)
  generalize agB v = bv at *
  clear hb2 H1 hn2 ho2 hB1 hz1
  go_wp2_with fail
  refine hS.out.mono ?_
  rintro e w3 ⟨rfl, hb3⟩
  have hB3 : Below w.heap.size w w3 := hB2.trans (hb3.mono hB2.size)
  have H3 : Hid (w3.rangeAt w.heap.size 0 (rwC v V).toList) := hid (World.rangeAt_below H2.out hb3 hz2)
  have hz3 : w.heap.size < w3.heap.size := Nat.lt_of_lt_of_le hz2 hb3.size
  clear hb3 H2 hS hB2 hz2
  go_wp2_with (first | ((with_reducible show wpList _ _ _ (⟨some 15, Op.load 35 _, _, _, _, _⟩ :: _) _ _); refine wpList_load_mid rfl 35 _ rfl w.heap.size 0 rfl (rwC v V).toList _ H3.out Try.underlying35 rfl rw_sz35 ?_))
  refine (toRw_any v V w3 0 w.heap.size (by omega) HM.out (HC.out.below hB3 (Nat.le_refl _))).mono ?_
  rintro e w4 ⟨V4, rfl, ho4, hn4, hb4⟩
  have hB4 : Below w.heap.size w w4 := hB3.trans (hb4.mono hB3.size)
  have H4 : Hid (w4.rangeAt w.heap.size 0 (rwC v V).toList) := hid (World.rangeAt_below H3.out hb4 hz3)
  have hz4 : w.heap.size < w4.heap.size := Nat.lt_of_lt_of_le hz3 hb4.size
  have HN4 := hid hn4
  have HO4 := hid (ho4.mono (Nat.zero_le _) (Nat.le_refl _))
  clear hb4 H3 hn4 ho4 hB3 hz3
  go_wp2_with (first | ((with_reducible show wpList _ _ _ (⟨none, Op.store 26 _ _, _, _, _, _⟩ :: _) _ _); refine wpList_store_new rfl 26 _ _ rfl w4.heap.size (rwC v V4).toList rfl rfl (there3 w4 _) rw_sz26 (by simp [Value.oneCell']) ?_; intro X hr hfr hsv; have HV := hid hr; have HFV := hid hfr; have HSV := hid hsv; clear hr hfr hsv) | ((with_reducible show wpList _ _ _ (⟨some 17, Op.load 26 _, _, _, _, _⟩ :: _) _ _); refine wpList_load_mid rfl 26 _ rfl w4.heap.size 0 rfl (rwC v V4).toList _ HV.out Try.underlying26 rfl rw_sz26 ?_))
  have hBV : Below w.heap.size w X := (hB4.alloc hB4.size _).trans (HFV.out.below hB4.size (by simp; have := hB4.size; omega))
  have zV : w4.heap.size < X.heap.size := by rw [HSV.out]; simp
  have hb4V : Below w4.heap.size w4 X := (below_alloc w4 _).trans (HFV.out.below (Nat.le_refl _) (by simp))
  have H4V : Hid (X.rangeAt w.heap.size 0 (rwC v V).toList) := hid (World.rangeAt_below H4.out hb4V hz4)
  have hI := hid (cI.out V4 X 0 w4.heap.size (by omega) HF.out HM.out HN4.out (HO4.out.below hb4V (Nat.le_refl _)))
  have HO5 := hid ((HO4.out.below hb4V (Nat.le_refl _)))
  clear HFV HSV H4 hB4 HO4
  refine hI.out.mono ?_
  rintro e w5 ⟨rfl, hb5⟩
  have hB5 : Below w.heap.size w w5 := hBV.trans (hb5.mono hBV.size)
  have H5 : Hid (w5.rangeAt w.heap.size 0 (rwC v V).toList) := hid (World.rangeAt_below H4V.out hb5 (by omega))
  have X5 : Hid (w5.rangeAt w4.heap.size 0 (rwC v V4).toList) := hid (World.rangeAt_below HV.out hb5 zV)
  have z5 : w4.heap.size < w5.heap.size := Nat.lt_of_lt_of_le zV hb5.size
  have HO6 := hid ((HO5.out.below hb5 (by omega)).mono (Nat.le_refl _) (Nat.le_of_lt z5))
  have HC5 := hid (HC.out.below hB5 (Nat.le_refl _))
  clear hb5 hI HV H4V hBV zV hb4V HO5 HN4
  have hne : (bv != bv) = false := by cases bv <;> rfl
  go_wp2
  refine agReg10 _ _ _ _ _ _ _ _ _ _ _ _ _ _ _ _ _ _ _ _ w.heap.size w4.heap.size v V V4 HF.out HM.out w5 X5.out H5.out HO6.out HC5.out (by omega) z5 _ ?_
  intro u0 u1 u2 u3 X hX
  have hBX : Below w.heap.size w X := hB5.trans (hX.mono hB5.size)
  clear hX X5 H5 HO6 HC5
  go_wp2
  go_ret
  exact ⟨rfl, hBX⟩
end Go.Proofs.Ytjepponnhieocaa
namespace Go.Proofs.Ytjepponnhieocaa
open Go.ChangeShapes Go.WideShapes Go.ChangeAt Go.RowKit
open Go.WideMaps Go.WideElems
set_option maxRecDepth 100000 in
theorem agree_lifted (os : Os) (started : os.Started) (H : Type) (enc : TypeId × Value → H) :
    ReturnsInHanded {} Try.checked os 6 .any (Rows.fnExactRecAgreeSpec.pre6 enc Try.prog Try.f6 Rows.fnExactRecAgreeRow.domain false) (Rows.fnExactRecAgreeSpec.post enc Try.prog Try.f6 false true false false) := by
  refine returnsInHanded_of_change_sized (C := Try.checked) Try.own started (by kernel_rfl) Try.func6
    (ChangeSpec.witness6 (enc := enc) (C := Try.checked) false ⟨#[], #[.agg #[.slice none 0 0, .slice none 0 0, .slice none 0 0]], []⟩ 8 (by kernel_rfl) (by kernel_rfl) (by kernel_rfl) (by kernel_rfl)) ?_
  intro W base args ds gs before hval0 hW _ hsz0 _
  have hsz : (DataW.weightsEach Try.prog (Try.f6.params.toList ++ Rows.fnExactRecAgreeSpec.plain.varTypes Try.prog) (ds ++ gs)).all (· ≤ reachBytes) = true := hsz0
  clear hsz0
  have hval : ∀ (j : Nat) t v, Try.f6.params[j]? = some t → args[j]? = some v → Value.okWide Try.prog W .any base t v := hval0
  have hW' := hW
  obtain ⟨p, q, hA0, hV, rfl, _, _⟩ := hW
  have hA : DataW.TrodAll enc Try.prog W 0 (fun _ => true) true Try.f6.params.toList args.toList ds p := hA0
  rw [Try.params6] at hA hval hsz
  obtain ⟨v0, d0, rfl, rfl, h0⟩ := trodAll_one hA
  obtain ⟨rfl, rfl⟩ := trodVars_none hV
  have hfit : Fits 35 d0 := fun x hx => by
    have := List.all_eq_true.1 hsz x (DataW.weights_mem_each (j := 0) (t := 35) rfl rfl x hx)
    simpa using this
  have h0k := h0
  obtain ⟨r, A, rfl, hin, hbf⟩ := openRw (hval 0 35 v0 rfl rfl) h0 hfit
  clear hA0 hval0 hsz
  simp only [List.append_nil] at hW'
  have hlt : ∀ y ∈ p, y.block < W.heap.size := fun y hy => by simpa using hW'.lt y (by simp [hy])
  refine (agree_law r A W hbf hin).mono fun e W' ⟨he, hb⟩ => ?_
  subst he
  refine ⟨_, rfl, _, _, _, [], p, [], hW', ?_, ?_, rfl, hb.frame _, fun h => by cases h⟩
  · exact trodAll_mk1 (shut_bool Try.underlying4 true)
  · exact trodAll_mk1 (Below.trod Try.laidOut (by kernel_rfl) (of_decide_eq_true (by kernel_rfl)) h0k hb hlt)
theorem agree_holds : Rows.FnExactRecAgreeSaid :=
  OpenClaim.holds_of_wide 6 Try.f6 rfl rfl rfl rfl rfl rfl rfl ⟨rfl, rfl, rfl, rfl, rfl⟩ rfl rfl rfl rfl rfl (by kernel_rfl) Try.func6 (by kernel_rfl)
    (of_decide_eq_true (by kernel_rfl)) (by unfold Func.isWrapper; rw [if_neg (of_decide_eq_false (by kernel_rfl))]; exact ⟨rfl, rfl⟩)
    (fun os started H enc _ => agree_lifted os started H enc)
end Go.Proofs.Ytjepponnhieocaa
