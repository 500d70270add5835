import Derived.Test.YtjepponnhieocaaGf
import Derived.Test.YtjepponnhieocaaWz
import Derived.Test.YtjepponnhieocaaYsh
import Derived.Test.YtjepponnhieocaaNb
namespace Go.Proofs.Ytjepponnhieocaa
open Go.RowKit
/-- what a recorder is to be in its place -/
def rp1 (n : Nat) (x : Nat → Rc) (i : Nat) : Bool := (!((x i).num != (i : Int) + 1)) && ((!((x i).of != (n : Int))) && rcB (x i))
def rcsB (n : Nat) (x : Nat → Rc) : Bool := inB n 1 5 && allTo (rp1 n x) n
theorem rcsB_no {n k : Nat} {x : Nat → Rc} (hk : k < n) (h : rp1 n x k = false) : rcsB n x = false := by unfold rcsB; rw [allTo_no hk h]; simp
theorem rcsB_yes {n : Nat} {x : Nat → Rc} (hn : inB n 1 5 = true) (h : ∀ i, i < n → rp1 n x i = true) : rcsB n x = true := by unfold rcsB; rw [allTo_iff.2 h, hn]; rfl
set_option maxRecDepth 100000 in
set_option maxHeartbeats 4000000 in
theorem recordersFit_any (n : Nat) (x : Nat → Rc) (A : Nat → RcA) (ad : Option Addr) (cap : Nat) (w : World) (lo hi : Nat) (hhi : hi ≤ w.heap.size) (hl : (n : Int) ≤ 8796093022208) (hf : ∀ i, i < n → RcFit (x i)) (hw : ∀ i, i < n → RcNew (x i) (A i)) (hc : RcsIn w lo hi ad n x A) :
    Calls Try.prog 51 #[.slice ad n cap] w fun e w' => e = .returned (.bool (rcsB n x)) ∧ Below w.heap.size w w' := by
  have HF := hid hf
  have HC := hid hc
  have HW := hid hw
  clear hf hc hw
  cases hn : inB (n : Int) 1 5 with
  | false =>
    have HE := hid (show rcsB n x = false by unfold rcsB; rw [hn]; rfl)
    go_enter Try.func51, Try.ntmps51
    go_wp2_with (go_at_call 80; refine (within_any n 1 5 _).mono ?_; rintro e w1 ⟨rfl, h0⟩; rw [h0, hn]; clear h0 w1)
    go_ret
    exact ⟨ret_bool HE.out.symm, Below.refl _ _⟩
  | true =>
    have HY := hid hn
    go_enter Try.func51, Try.ntmps51
    go_wp2_with (go_at_call 80; refine (within_any n 1 5 _).mono ?_; rintro e w1 ⟨rfl, h0⟩; rw [h0, hn]; clear h0 w1)
    clear hn
    go_loopw [11] (fun i wr => ∃ k : Nat, k ≤ n ∧ i = .int .i64 k ∧ Below w.heap.size w wr ∧ Hid (∀ j, j < k → rp1 n x j = true)) (fun i _ => n - (intOf i).toNat)
    case atStart => exact ⟨0, Nat.zero_le _, rfl, Below.refl _ _, fun j hj => absurd hj (Nat.not_lt_zero _)⟩
    case round =>
      obtain ⟨k, hk, rfl, hb, HA⟩ := hrel
      by_cases hkn : k < n
      · obtain ⟨b, off, e, hlo, hbh, hrx, hix⟩ := HC.out k hkn
        have HR := hid (rangeAt_same hrx (fun j => hb.cell (p := ⟨b, j, none⟩) (by show b < _; omega)))
        have HI := hid (hix.below hb hhi)
        have HFK := hid (HF.out k hkn)
        have HWK := hid (HW.out k hkn)
        rw [e]
        have hw1 : hi ≤ wr.heap.size := Nat.le_trans hhi hb.size
        clear hrx hix e
        cases h1 : ((x k).num != (k : Int) + 1) with
        | true =>
          have HE := hid (rcsB_no hkn (show rp1 n x k = false by rw [rp1, h1]; rfl))
          go_wp2_with (first | ((with_reducible show wpList _ _ _ (⟨some 15, Op.load 58 _, _, _, _, _⟩ :: _) _ _); go_must (refine wpList_load_mid rfl 58 _ rfl b (off + k * 18) rfl (rcCs (x k) (A k)) _ HR.out Try.underlying58 rfl rcs_sz58 ?_)) | ((with_reducible show wpList _ _ _ (⟨none, Op.store 58 _ _, _, _, _, _⟩ :: _) _ _); go_must (refine wpList_store_new rfl 58 _ _ rfl wr.heap.size (rcC (x k) (A k)).toList rfl rfl (there41 wr) rcs_sz58 (by simp [Value.oneCell']) ?_; intro V hr hfr hsv; have c0 : V.cell? ⟨wr.heap.size, 0, none⟩ = some (.int .i64 (x k).num) := (by simpa using hr 0 _ rfl); have c1 : V.cell? ⟨wr.heap.size, 1, none⟩ = some (.int .i64 (x k).of) := (by simpa using hr 1 _ rfl); have HV := hid hr; have HFV := hid hfr; have HSV := hid hsv; clear hr hfr hsv)))
          go_ret
          exact ⟨ret_bool HE.out.symm, (hb.alloc hb.size _).trans (HFV.out.below hb.size (by simp; have := hb.size; omega))⟩
        | false =>
          cases h2 : ((x k).of != (n : Int)) with
          | true =>
            have HE := hid (rcsB_no hkn (show rp1 n x k = false by rw [rp1, h1, h2]; rfl))
            go_wp2_with (first | ((with_reducible show wpList _ _ _ (⟨some 15, Op.load 58 _, _, _, _, _⟩ :: _) _ _); go_must (refine wpList_load_mid rfl 58 _ rfl b (off + k * 18) rfl (rcCs (x k) (A k)) _ HR.out Try.underlying58 rfl rcs_sz58 ?_)) | ((with_reducible show wpList _ _ _ (⟨none, Op.store 58 _ _, _, _, _, _⟩ :: _) _ _); go_must (refine wpList_store_new rfl 58 _ _ rfl wr.heap.size (rcC (x k) (A k)).toList rfl rfl (there41 wr) rcs_sz58 (by simp [Value.oneCell']) ?_; intro V hr hfr hsv; have c0 : V.cell? ⟨wr.heap.size, 0, none⟩ = some (.int .i64 (x k).num) := (by simpa using hr 0 _ rfl); have c1 : V.cell? ⟨wr.heap.size, 1, none⟩ = some (.int .i64 (x k).of) := (by simpa using hr 1 _ rfl); have HV := hid hr; have HFV := hid hfr; have HSV := hid hsv; clear hr hfr hsv)))
            go_ret
            exact ⟨ret_bool HE.out.symm, (hb.alloc hb.size _).trans (HFV.out.below hb.size (by simp; have := hb.size; omega))⟩
          | false =>
            have HC3 := hid (fun (V : World) (hB : Below wr.heap.size wr V) => implValid_any (x k) (A k) V lo hi (Nat.le_trans hw1 hB.size) HFK.out HWK.out (HI.out.below hB hw1))
            have HE0 := hid (fun (h : rcB (x k) = false) => rcsB_no hkn (show rp1 n x k = false by rw [rp1, h1, h2, h]; rfl))
            have HE1 := hid (fun (h : rcB (x k) = true) => (show rp1 n x k = true by rw [rp1, h1, h2, h]; rfl))
            generalize rcB (x k) = bv at *
            cases bv with
            | false =>
              have HE := hid (HE0.out rfl)
              clear HE0 HE1
              go_wp2_with (first | ((with_reducible show wpList _ _ _ (⟨some 15, Op.load 58 _, _, _, _, _⟩ :: _) _ _); go_must (refine wpList_load_mid rfl 58 _ rfl b (off + k * 18) rfl (rcCs (x k) (A k)) _ HR.out Try.underlying58 rfl rcs_sz58 ?_)) | ((with_reducible show wpList _ _ _ (⟨none, Op.store 58 _ _, _, _, _, _⟩ :: _) _ _); go_must (refine wpList_store_new rfl 58 _ _ rfl wr.heap.size (rcC (x k) (A k)).toList rfl rfl (there41 wr) rcs_sz58 (by simp [Value.oneCell']) ?_; intro V hr hfr hsv; have c0 : V.cell? ⟨wr.heap.size, 0, none⟩ = some (.int .i64 (x k).num) := (by simpa using hr 0 _ rfl); have c1 : V.cell? ⟨wr.heap.size, 1, none⟩ = some (.int .i64 (x k).of) := (by simpa using hr 1 _ rfl); have HV := hid hr; have HFV := hid hfr; have HSV := hid hsv; clear hr hfr hsv)) | ((with_reducible show wpList _ _ _ (⟨some 29, Op.load 58 _, _, _, _, _⟩ :: _) _ _); go_must (refine wpList_load_want ?hw 58 _ rfl wr.heap.size 0 rfl (rcC (x k) (A k)).toList _ HV.out Try.underlying58 rfl rcs_sz58 ?_; (case hw => (go_simp; done)))) | (go_at_call 70; go_must (refine (HC3.out V ((below_alloc _ _).trans (HFV.out.below (Nat.le_refl _) (by simp)))).mono ?_; rintro e w1 ⟨rfl, hb1⟩)))
              go_ret
              exact ⟨ret_bool HE.out.symm, ((hb.alloc hb.size _).trans (HFV.out.below hb.size (by simp; have := hb.size; omega))).trans (hb1.mono (by have := HSV.out; simp at this; have := hb.size; omega))⟩
            | true =>
              have HN := hid (HE1.out rfl)
              clear HE0 HE1
              go_wp2_with (first | ((with_reducible show wpList _ _ _ (⟨some 15, Op.load 58 _, _, _, _, _⟩ :: _) _ _); go_must (refine wpList_load_mid rfl 58 _ rfl b (off + k * 18) rfl (rcCs (x k) (A k)) _ HR.out Try.underlying58 rfl rcs_sz58 ?_)) | ((with_reducible show wpList _ _ _ (⟨none, Op.store 58 _ _, _, _, _, _⟩ :: _) _ _); go_must (refine wpList_store_new rfl 58 _ _ rfl wr.heap.size (rcC (x k) (A k)).toList rfl rfl (there41 wr) rcs_sz58 (by simp [Value.oneCell']) ?_; intro V hr hfr hsv; have c0 : V.cell? ⟨wr.heap.size, 0, none⟩ = some (.int .i64 (x k).num) := (by simpa using hr 0 _ rfl); have c1 : V.cell? ⟨wr.heap.size, 1, none⟩ = some (.int .i64 (x k).of) := (by simpa using hr 1 _ rfl); have HV := hid hr; have HFV := hid hfr; have HSV := hid hsv; clear hr hfr hsv)) | ((with_reducible show wpList _ _ _ (⟨some 29, Op.load 58 _, _, _, _, _⟩ :: _) _ _); go_must (refine wpList_load_want ?hw 58 _ rfl wr.heap.size 0 rfl (rcC (x k) (A k)).toList _ HV.out Try.underlying58 rfl rcs_sz58 ?_; (case hw => (go_simp; done)))) | (go_at_call 70; go_must (refine (HC3.out V ((below_alloc _ _).trans (HFV.out.below (Nat.le_refl _) (by simp)))).mono ?_; rintro e w1 ⟨rfl, hb1⟩)))
              go_roundw
              case rel => exact ⟨k + 1, by omega, by go_num, ((hb.alloc hb.size _).trans (HFV.out.below hb.size (by simp; have := hb.size; omega))).trans (hb1.mono (by have := HSV.out; simp at this; have := hb.size; omega)), fun j hj => by
                by_cases e : j = k
                · rw [e]; exact HN.out
                · exact HA.out j (by omega)⟩
              case measure => simp [intOf]; omega
      · have HE := hid (rcsB_yes HY.out (fun i hi => HA.out i (by omega)))
        go_wp2
        go_ret
        exact ⟨ret_bool HE.out.symm, hb⟩
/-- what a world is to be -/
def rwB (v : Rw) : Bool := rcsB v.n v.x && (flB v.fn v.fs v.n && fxB v.gn v.gs)
set_option maxRecDepth 100000 in
set_option maxHeartbeats 2000000 in
theorem implWorld_any (v : Rw) (V : RwA) (w : World) (lo hi : Nat) (hhi : hi ≤ w.heap.size) (hf : RwFit v) (hw : ∀ i, i < v.n → RcNew (v.x i) (V.A i)) (hc : RwIn w lo hi v V) :
    Calls Try.prog 16 #[rwV v V] w fun e w' => e = .returned (.bool (rwB v)) ∧ Below w.heap.size w w' := by
  have HF := hid hf
  have HI := hid hc
  have HW := hid hw
  clear hf hc hw
  have hB0 := below_alloc w (.cells (rwC v V) 26)
  have H0 := holds_new w (rwC v V) 26
  have hz0 : w.heap.size < (w.alloc (.cells (rwC v V) 26)).heap.size := by simp
  have c1 := recordersFit_any v.n v.x V.A V.ra V.rc (w.alloc (.cells (rwC v V) 26)) lo hi (Nat.le_trans hhi hB0.size) HF.out.n HF.out.x HW.out (HI.out.below hB0 hhi).rs
  have ee : rwB v = (rcsB v.n v.x && (flB v.fn v.fs v.n && fxB v.gn v.gs)) := rfl
  rw [ee]
  clear ee
  go_enter Try.func16, Try.ntmps16
  go_wp2_with fail
  refine c1.mono ?_
  clear c1
  rintro e w1 ⟨rfl, hb1⟩
  have hB1 : Below w.heap.size w w1 := hB0.trans (hb1.mono hB0.size)
  have H1 : Holds w1 w.heap.size (rwC v V) := H0.below hb1 hz0
  have hz1 : w.heap.size < w1.heap.size := Nat.lt_of_lt_of_le hz0 hb1.size
  clear hb1 H0 hB0
  obtain ⟨p0, p1, p2⟩ := holds3 H1
  cases e1 : rcsB v.n v.x with
  | false =>
    clear H1
    go_wp2
    go_ret
    exact ⟨by rw [e1]; rfl, hB1⟩
  | true =>
    have c2 := flightFits_any v.fn v.fs v.n V.fa V.fc w1 lo hi (Nat.le_trans hhi hB1.size) HF.out.fn HF.out.fs (HI.out.below hB1 hhi).fs
    go_wp2_with fail
    refine c2.mono ?_
    clear c2 p0 p1 p2
    rintro e w2 ⟨rfl, hb2⟩
    have hB2 : Below w.heap.size w w2 := hB1.trans (hb2.mono hB1.size)
    have H2 : Holds w2 w.heap.size (rwC v V) := H1.below hb2 hz1
    clear hb2 H1
    obtain ⟨p0, p1, p2⟩ := holds3 H2
    cases e2 : flB v.fn v.fs v.n with
    | false =>
      clear H2
      go_wp2
      go_ret
      exact ⟨by rw [e1, e2]; rfl, hB2⟩
    | true =>
      have c3 := fixedFits_any v.gn v.gs V.ga V.gc w2 lo hi (Nat.le_trans hhi hB2.size) HF.out.gn HF.out.gs (HI.out.below hB2 hhi).gs
      go_wp2_with fail
      refine c3.mono ?_
      clear c3
      rintro e w3 ⟨rfl, hb3⟩
      clear H2
      go_wp2
      go_ret
      exact ⟨by rw [e1, e2]; rfl, hB2.trans (hb3.mono hB2.size)⟩
end Go.Proofs.Ytjepponnhieocaa
