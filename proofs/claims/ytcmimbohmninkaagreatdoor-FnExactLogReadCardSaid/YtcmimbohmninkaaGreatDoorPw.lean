import Derived.Test.YtcmimbohmninkaaGreatDoorPv
import Derived.Test.YtcmimbohmninkaaGreatDoorLh
namespace Go.Proofs.YtcmimbohmninkaaGreatDoor
open Go.RowKit
theorem rd_no {s : ByteArray} (h : ∀ cl nn x, Told s cl nn x → lfS (cOf cl nn x) = s → s = ⟨#[]⟩) : Rd s c00 false := by
  refine Or.inr ⟨rfl, rfl, fun cl nn x e => ?_⟩
  by_cases hs : s = ⟨#[]⟩
  · exact hs
  · exact h cl nn x (told_of e hs) e
theorem formC_ne (cl : ByteArray) (nn : Int) (x : Wr) : formC (cOf cl nn x) ≠ ⟨#[]⟩ := by
  intro e
  have e2 : formS cl x.kind x.name (holdS x.hold) x.text nn.toNat x.op.toNat x.seen.toNat = ⟨#[]⟩ := e
  rw [formS_fT, fT_step _ _ _ _ _ _ _ _ 0 (by omega)] at e2
  have := congrArg ByteArray.size e2
  rw [size_app] at this
  have h0 : (⟨#[]⟩ : ByteArray).size = 0 := rfl
  omega
theorem lfS_yes {c : Bc} (h : okB c = true ∧ ((formC c).size : Int) ≤ 100) : lfS c = formC c := if_pos h
theorem lfS_no {c : Bc} (h : ¬ (okB c = true ∧ ((formC c).size : Int) ≤ 100)) : lfS c = ⟨#[]⟩ := if_neg h
/-- what impl's reading comes to -/
def FreeA (w : World) (A : BcA) : Prop := ∀ b o, A.ra = some ⟨b, o, none⟩ → o = 0 ∧ ∀ i, w.frozen? ⟨b, i, none⟩ = false
theorem FreeA.nil (w : World) (a : Option Addr) (m n : Nat) : FreeA w ⟨a, none, m, n⟩ := fun _ _ h => by cases h
def CoR (s : ByteArray) (w : World) (e : Ending) (w' : World) : Prop :=
  ∃ c A b err, e = .returned (.tuple #[bcV c A, err]) ∧ ((b = true ∧ err = .nilIface) ∨ (b = false ∧ ∃ t p, err = .iface t p)) ∧ Rd s c b ∧ BcIn w' w.heap.size w'.heap.size c A ∧ Below w.heap.size w w' ∧ FreeA w' A
def ReR (s : ByteArray) (w : World) (e : Ending) (w' : World) : Prop :=
  ∃ c A b, e = .returned (.tuple #[bcV c A, .bool b]) ∧ Rd s c b ∧ BcIn w' w.heap.size w'.heap.size c A ∧ Below w.heap.size w w' ∧ FreeA w' A
theorem Tab.belowAt {w w' : World} (h : Tab w) (hb : Below w.heap.size w w') : Tab w' := h.below hb
theorem addr_ne {B i j : Nat} (h : i ≠ j) : (⟨B, i, none⟩ : Addr) ≠ ⟨B, j, none⟩ := fun e => h (congrArg Addr.off e)
theorem store4_range {U : World} {B : Nat} (h : U.there B 0 4) (a0 a1 a2 a3 : Value) : (((((U.setCell ⟨B, 0, none⟩ a0).setCell ⟨B, 1, none⟩ a1).setCell ⟨B, 2, none⟩ a2).setCell ⟨B, 3, none⟩ a3).drew).rangeAt B 0 [a0, a1, a2, a3] := by
  have g : ∀ j, j < 4 → ∃ u, U.cell? ⟨B, j, none⟩ = some u := fun j hj => by
    have := (h j hj).1
    rw [Nat.zero_add] at this
    exact Option.isSome_iff_exists.1 this
  obtain ⟨u0, g0⟩ := g 0 (by omega)
  obtain ⟨u1, g1⟩ := g 1 (by omega)
  obtain ⟨u2, g2⟩ := g 2 (by omega)
  obtain ⟨u3, g3⟩ := g 3 (by omega)
  intro j u hu
  show ((((U.setCell ⟨B, 0, none⟩ a0).setCell ⟨B, 1, none⟩ a1).setCell ⟨B, 2, none⟩ a2).setCell ⟨B, 3, none⟩ a3).cell? ⟨B, 0 + j, none⟩ = some u
  rw [Nat.zero_add]
  have hj : j < 4 := by
    rcases Nat.lt_or_ge j 4 with h | h
    · exact h
    · have hl : [a0, a1, a2, a3].length ≤ j := h
      rw [List.getElem?_eq_none hl] at hu
      cases hu
  rcases (show j = 0 ∨ j = 1 ∨ j = 2 ∨ j = 3 by omega) with rfl | rfl | rfl | rfl
  · have hv : a0 = u := by simpa using hu
    rw [World.cell?_setCell_other _ _ _ _ (addr_ne (by omega)), World.cell?_setCell_other _ _ _ _ (addr_ne (by omega)), World.cell?_setCell_other _ _ _ _ (addr_ne (by omega)), World.cell?_setCell_same _ _ _ g0, hv]
  · have hv : a1 = u := by simpa using hu
    rw [World.cell?_setCell_other _ _ _ _ (addr_ne (by omega)), World.cell?_setCell_other _ _ _ _ (addr_ne (by omega)), World.cell?_setCell_same _ _ _ ((World.cell?_setCell_other _ _ _ _ (addr_ne (by omega))).trans g1), hv]
  · have hv : a2 = u := by simpa using hu
    rw [World.cell?_setCell_other _ _ _ _ (addr_ne (by omega)), World.cell?_setCell_same _ _ _ ((World.cell?_setCell_other _ _ _ _ (addr_ne (by omega))).trans ((World.cell?_setCell_other _ _ _ _ (addr_ne (by omega))).trans g2)), hv]
  · have hv : a3 = u := by simpa using hu
    rw [World.cell?_setCell_same _ _ _ ((World.cell?_setCell_other _ _ _ _ (addr_ne (by omega))).trans ((World.cell?_setCell_other _ _ _ _ (addr_ne (by omega))).trans ((World.cell?_setCell_other _ _ _ _ (addr_ne (by omega))).trans g3))), hv]
theorem fit_of {s cl : ByteArray} {nn : Int} {x : Wr} (h : cl.size ≤ s.size ∧ x.kind.size ≤ s.size ∧ x.name.size ≤ s.size ∧ x.text.size ≤ s.size ∧ x.hold.size ≤ s.size) (hs : (s.size : Int) ≤ 1048576) : BcFit (cOf cl nn x) :=
  ⟨by show (cl.size : Int) ≤ _; omega, by show ((0 : Nat) : Int) ≤ _; omega, fun i hi => absurd hi (Nat.not_lt_zero _), by show ((1 : Nat) : Int) ≤ _; omega, fun i _ => ⟨by show (x.kind.size : Int) ≤ _; omega, by show (x.name.size : Int) ≤ _; omega, by show (x.text.size : Int) ≤ _; omega, by show (x.hold.size : Int) ≤ _; omega⟩⟩
set_option maxRecDepth 100000 in
set_option maxHeartbeats 8000000 in
theorem callOf_any (s : ByteArray) (hs : (s.size : Int) ≤ 1048576) (m : Int) (w : World) (hT : Tab w) (hE : Ers w) (h7 : w.cell? ⟨7, 0, none⟩ = some (.int .i64 m)) (h8 : ∃ e, w.cell? ⟨8, 0, none⟩ = some e ∧ ErrV e) (h9 : ∃ e, w.cell? ⟨9, 0, none⟩ = some e ∧ ErrV e) (hz : 9 < w.heap.size) :
    Calls Tryz.prog 13 #[.string s] w fun e w' => CoR s w e w' := by
  have hB0 : Below w.heap.size w (w.alloc (.cells #[.string ⟨#[]⟩, .int .i64 0, .slice none 0 0, .slice none 0 0] 27)) := below_alloc w _
  by_cases hl : (100 : Int) < (s.size : Int)
  · have RD : Hid (Rd s c00 false) := hid (rd_no fun cl nn x T _ => by have := T.le; omega)
    obtain ⟨_, ty, pv, hc0⟩ := (hE.below hB0) 0 (by omega)
    have HU : Hid (Below (w.heap.size + 1) (w.alloc (.cells #[.string ⟨#[]⟩, .int .i64 0, .slice none 0 0, .slice none 0 0] 27)) (w.alloc (.cells #[.string ⟨#[]⟩, .int .i64 0, .slice none 0 0, .slice none 0 0] 27))) := hid (Below.refl _ _)
    have HBU := hid hB0
    have HTX : Hid ((w.alloc (.cells #[.string ⟨#[]⟩, .int .i64 0, .slice none 0 0, .slice none 0 0] 27)).there w.heap.size 0 4) := hid (there_new w #[.string ⟨#[]⟩, .int .i64 0, .slice none 0 0, .slice none 0 0] 27)
    have b0 : (w.alloc (.cells #[.string ⟨#[]⟩, .int .i64 0, .slice none 0 0, .slice none 0 0] 27)).cell? ⟨w.heap.size, 0, none⟩ = some (.string ⟨#[]⟩) := (HU.out.cell (p := ⟨w.heap.size, 0, none⟩) (by show w.heap.size < _; omega)).trans (by go_simp)
    have d0 : (w.alloc (.cells #[.string ⟨#[]⟩, .int .i64 0, .slice none 0 0, .slice none 0 0] 27)).frozen? ⟨w.heap.size, 0, none⟩ = false := (HU.out.frozen (p := ⟨w.heap.size, 0, none⟩) (by show w.heap.size < _; omega)).trans (by go_simp)
    have b1 : (w.alloc (.cells #[.string ⟨#[]⟩, .int .i64 0, .slice none 0 0, .slice none 0 0] 27)).cell? ⟨w.heap.size, 1, none⟩ = some (.int .i64 0) := (HU.out.cell (p := ⟨w.heap.size, 1, none⟩) (by show w.heap.size < _; omega)).trans (by go_simp)
    have d1 : (w.alloc (.cells #[.string ⟨#[]⟩, .int .i64 0, .slice none 0 0, .slice none 0 0] 27)).frozen? ⟨w.heap.size, 1, none⟩ = false := (HU.out.frozen (p := ⟨w.heap.size, 1, none⟩) (by show w.heap.size < _; omega)).trans (by go_simp)
    have b2 : (w.alloc (.cells #[.string ⟨#[]⟩, .int .i64 0, .slice none 0 0, .slice none 0 0] 27)).cell? ⟨w.heap.size, 2, none⟩ = some (.slice none 0 0) := (HU.out.cell (p := ⟨w.heap.size, 2, none⟩) (by show w.heap.size < _; omega)).trans (by go_simp)
    have d2 : (w.alloc (.cells #[.string ⟨#[]⟩, .int .i64 0, .slice none 0 0, .slice none 0 0] 27)).frozen? ⟨w.heap.size, 2, none⟩ = false := (HU.out.frozen (p := ⟨w.heap.size, 2, none⟩) (by show w.heap.size < _; omega)).trans (by go_simp)
    have b3 : (w.alloc (.cells #[.string ⟨#[]⟩, .int .i64 0, .slice none 0 0, .slice none 0 0] 27)).cell? ⟨w.heap.size, 3, none⟩ = some (.slice none 0 0) := (HU.out.cell (p := ⟨w.heap.size, 3, none⟩) (by show w.heap.size < _; omega)).trans (by go_simp)
    have d3 : (w.alloc (.cells #[.string ⟨#[]⟩, .int .i64 0, .slice none 0 0, .slice none 0 0] 27)).frozen? ⟨w.heap.size, 3, none⟩ = false := (HU.out.frozen (p := ⟨w.heap.size, 3, none⟩) (by show w.heap.size < _; omega)).trans (by go_simp)
    clear hT hE h7 h8 h9 hB0
    go_enter Tryz.func13, Tryz.ntmps13
    go_wp2_with fail
    generalize (w.alloc (.cells #[.string ⟨#[]⟩, .int .i64 0, .slice none 0 0, .slice none 0 0] 27)) = U at *
    go_region
    go_wp2
    have HR6 := hid (store4_range HTX.out (.string ⟨#[]⟩) (.int .i64 0) (.slice none 0 0) (.slice none 0 0))
    refine bodyPost_ret (v := .tuple #[.agg #[.string ⟨#[]⟩, .int .i64 0, .slice none 0 0, .slice none 0 0], .iface ty pv]) (results_cell_tmp (p := 2) (u := 3) rfl _ _ w.heap.size [.string ⟨#[]⟩, .int .i64 0, .slice none 0 0, .slice none 0 0] _ rfl HR6.out Tryz.underlying27 rfl sz27) rfl ?_
    exact ⟨c00, ⟨none, none, 0, 0⟩, false, _, rfl, .inr ⟨rfl, _, _, rfl⟩, RD.out, ⟨fun i hi => absurd hi (Nat.not_lt_zero _), fun i hi => absurd hi (Nat.not_lt_zero _)⟩, ((((HBU.out.setCell (p := ⟨w.heap.size, 0, none⟩) (Nat.le_refl _) _).setCell (p := ⟨w.heap.size, 1, none⟩) (Nat.le_refl _) _).setCell (p := ⟨w.heap.size, 2, none⟩) (Nat.le_refl _) _).setCell (p := ⟨w.heap.size, 3, none⟩) (Nat.le_refl _) _).drew, FreeA.nil _ _ _ _⟩
  · have HR := hid (readFields_any s hs m (w.alloc (.cells #[.string ⟨#[]⟩, .int .i64 0, .slice none 0 0, .slice none 0 0] 27)) (hE.below hB0) ((hB0.cell (p := ⟨7, 0, none⟩) (by show 7 < _; omega)).trans h7) (by obtain ⟨e, h1, h2⟩ := h8; exact ⟨e, (hB0.cell (p := ⟨8, 0, none⟩) (by show 8 < _; omega)).trans h1, h2⟩) (by obtain ⟨e, h1, h2⟩ := h9; exact ⟨e, (hB0.cell (p := ⟨9, 0, none⟩) (by show 9 < _; omega)).trans h1, h2⟩) (by simp; omega))
    have HT := hid hT
    have HE := hid hE
    have HB0 := hid hB0
    have HTH0 := hid (there_new w #[.string ⟨#[]⟩, .int .i64 0, .slice none 0 0, .slice none 0 0] 27)
    clear hT hE h7 h8 h9 hB0
    go_enter Tryz.func13, Tryz.ntmps13
    have ha : ∀ (u : World) (o : Obj), Below u.heap.size u (u.alloc o) := fun u o => below_alloc u o
    go_wp2_with (first
      | (go_at_call 21; go_must (refine HR.out.mono ?_; rintro e w1 ⟨c, A, err, rfl, he, hb1, hok, htold⟩; have HZ := hid (show w.heap.size + 1 ≤ w1.heap.size by have := hb1.size; simpa using this); have HBW := hid (HB0.out.trans (hb1.mono (by simp))); have HTH2 := hid (fun o => there_below (there_below HTH0.out hb1 (by simp)) (below_alloc w1 o) (by have := HZ.out; omega)); have HTO := hid htold; have HOK := hid hok; clear hb1 htold hok HR HTH0; rcases he with rfl | ⟨ty, pv, rfl⟩; obtain ⟨cl, nn, x, H, rfl, rfl, hin, hsz, hun, hfz⟩ := HOK.out rfl; have HFZ := hid hfz; have HIN := hid hin; have HUN := hid hun; have HSZ := hid hsz; clear hin hun hsz hfz HOK))
      | (go_at_call 22; go_must (refine (formOf_any (cOf cl nn x) ⟨none, some ⟨H, 0, none⟩, 0, 1⟩ _ (w.heap.size + 1) w1.heap.size (by simp) (fit_of HSZ.out hs) ((HIN.out.mono (by simp) (Nat.le_refl _)).below (below_alloc w1 _) (Nat.le_refl _)) (HT.out.below (HBW.out.trans ((below_alloc w1 _).mono HBW.out.size))) (HE.out.below (HBW.out.trans ((below_alloc w1 _).mono HBW.out.size)))).mono ?_; rintro e w2 ⟨hh, hb2⟩; have HB2 := hid hb2; have HI2 : Hid (BcIn w2 (w.heap.size + 1) w1.heap.size (cOf cl nn x) ⟨none, some ⟨H, 0, none⟩, 0, 1⟩) := hid (((HIN.out.mono (by simp) (Nat.le_refl _)).below (below_alloc w1 _) (Nat.le_refl _)).below hb2 (by simp)); have f0 : w2.cell? ⟨w1.heap.size, 0, none⟩ = some (.string cl) := (hb2.cell (p := ⟨w1.heap.size, 0, none⟩) (by simp)).trans (by simp [cOf]); have f1 : w2.cell? ⟨w1.heap.size, 1, none⟩ = some (.int .i64 nn) := (hb2.cell (p := ⟨w1.heap.size, 1, none⟩) (by simp)).trans (by simp [cOf]); have f2 : w2.cell? ⟨w1.heap.size, 2, none⟩ = some (.slice none 0 0) := (hb2.cell (p := ⟨w1.heap.size, 2, none⟩) (by simp)).trans (by simp [cOf]); have f3 : w2.cell? ⟨w1.heap.size, 3, none⟩ = some (.slice (some ⟨H, 0, none⟩) 1 1) := (hb2.cell (p := ⟨w1.heap.size, 3, none⟩) (by simp)).trans (by simp [cOf]); have HT2 := hid (there_below (HTH2.out _) hb2 (by have := HZ.out; simp; omega)); have HBX := hid ((HBW.out.alloc HBW.out.size _).trans (hb2.mono (by have := HBW.out.size; simp; omega))); clear hb2 HTH2; rcases hh with ⟨hyes, rfl⟩ | ⟨hno, ty, pv, rfl⟩; (by_cases hf : formC (cOf cl nn x) = s; have HY := hid hyes; rw [hf])))
      | ((with_reducible show wpList _ _ _ (⟨none, Op.store 27 (Operand.tmp 2) _, _, _, _, _⟩ :: _) _ _); refine wpList_store_new rfl 27 _ _ rfl w.heap.size [.string ⟨#[]⟩, .int .i64 0, .slice none 0 0, .slice none 0 0] (by simp [go_sem]) rfl (HTH2.out _) sz27 (by simp [Value.oneCell']) ?_; intro W2 hr2 hf2 hz2; have HR2 := hid hr2; have HF2 := hid hf2; clear hr2 hf2)
      | ((with_reducible show wpList _ _ _ (⟨none, Op.store 27 (Operand.tmp 2) _, _, _, _, _⟩ :: _) _ _); refine wpList_store_new rfl 27 _ _ rfl w.heap.size [.string ⟨#[]⟩, .int .i64 0, .slice none 0 0, .slice none 0 0] (by simp [go_sem]) rfl HT2.out sz27 (by simp [Value.oneCell']) ?_; intro W2 hr2 hf2 hz2; have HR2 := hid hr2; have HF2 := hid hf2; clear hr2 hf2)
      | ((with_reducible show wpList _ _ _ (⟨none, Op.store 27 (Operand.tmp 2) _, _, _, _, _⟩ :: _) _ _); refine wpList_store_new rfl 27 _ _ rfl w.heap.size [.string cl, .int .i64 nn, .slice none 0 0, .slice (some ⟨H, 0, none⟩) 1 1] (by simp [go_sem]) rfl HT2.out sz27 (by simp [Value.oneCell']) ?_; intro W2 hr2 hf2 hz2; have HR2 := hid hr2; have HF2 := hid hf2; clear hr2 hf2))
    · refine bodyPost_ret (v := .tuple #[.agg #[.string cl, .int .i64 nn, .slice none 0 0, .slice (some ⟨H, 0, none⟩) 1 1], .nilIface]) (results_cell_tmp (p := 2) (u := 3) rfl _ _ w.heap.size [.string cl, .int .i64 nn, .slice none 0 0, .slice (some ⟨H, 0, none⟩) 1 1] _ rfl HR2.out Tryz.underlying27 rfl sz27) rfl ?_
      have hHH : w.heap.size + 1 ≤ H ∧ H < w1.heap.size := by
        obtain ⟨b, off, e, h1, h2, _⟩ := HI2.out.rs 0 (by show 0 < 1; omega)
        cases e
        exact ⟨h1, h2⟩
      have hz2 : w1.heap.size ≤ w2.heap.size := by have := HB2.out.size; simp at this; omega
      exact ⟨cOf cl nn x, ⟨none, some ⟨H, 0, none⟩, 0, 1⟩, true, _, rfl, .inl ⟨rfl, rfl⟩, .inl ⟨rfl, by rw [← hf]; exact formC_ne cl nn x, cl, nn, x, rfl, (lfS_yes HY.out).trans hf⟩, BcIn.past (lo := w.heap.size) (hi := w1.heap.size) (n := w1.heap.size) (HI2.out.mono (Nat.le_succ _) (Nat.le_refl _)) HF2.out (by omega) hHH.2 hz2 (by omega), HBX.out.trans (HF2.out.below (Nat.le_refl _) HBX.out.size), fun b o h => by
        cases h
        exact ⟨rfl, fun i => (HF2.out.frozen (p := ⟨H, i, none⟩) (by show H < _; omega) (Or.inr (by show _ ≤ H; omega))).trans ((HB2.out.frozen (p := ⟨H, i, none⟩) (by simp; omega)).trans (((below_alloc w1 _).frozen (p := ⟨H, i, none⟩) hHH.2).trans (HFZ.out i)))⟩⟩
    · have RD : Hid (Rd s c00 false) := hid (rd_no fun cl2 nn2 x2 T e => by
        obtain ⟨rfl, rfl, rfl⟩ := HUN.out cl2 nn2 x2 T
        rw [lfS_yes hyes] at e
        exact absurd e hf)
      have HBU := HBX
      have HTX : Hid (w2.there w.heap.size 0 4) := HT2
      obtain ⟨_, ty, pv, hc1⟩ := (HE.out.below HBX.out) 1 (by omega)
      obtain ⟨u0, b0⟩ := Option.isSome_iff_exists.1 (HT2.out 0 (by simp)).1
      obtain ⟨u1, b1⟩ := Option.isSome_iff_exists.1 (HT2.out 1 (by simp)).1
      obtain ⟨u2, b2⟩ := Option.isSome_iff_exists.1 (HT2.out 2 (by simp)).1
      obtain ⟨u3, b3⟩ := Option.isSome_iff_exists.1 (HT2.out 3 (by simp)).1
      have d0 := (HT2.out 0 (by simp)).2
      have d1 := (HT2.out 1 (by simp)).2
      have d2 := (HT2.out 2 (by simp)).2
      have d3 := (HT2.out 3 (by simp)).2
      simp only [Nat.zero_add] at b0 b1 b2 b3 d0 d1 d2 d3
      clear HB2 HI2 f0 f1 f2 f3 HT2 hyes HUN HSZ HIN HT HZ
      generalize w2 = U at *
      go_region
      go_wp2
      have HR6 := hid (store4_range HTX.out (.string ⟨#[]⟩) (.int .i64 0) (.slice none 0 0) (.slice none 0 0))
      refine bodyPost_ret (v := .tuple #[.agg #[.string ⟨#[]⟩, .int .i64 0, .slice none 0 0, .slice none 0 0], .iface ty pv]) (results_cell_tmp (p := 2) (u := 3) rfl _ _ w.heap.size [.string ⟨#[]⟩, .int .i64 0, .slice none 0 0, .slice none 0 0] _ rfl HR6.out Tryz.underlying27 rfl sz27) rfl ?_
      exact ⟨c00, ⟨none, none, 0, 0⟩, false, _, rfl, .inr ⟨rfl, _, _, rfl⟩, RD.out, ⟨fun i hi => absurd hi (Nat.not_lt_zero _), fun i hi => absurd hi (Nat.not_lt_zero _)⟩, ((((HBU.out.setCell (p := ⟨w.heap.size, 0, none⟩) (Nat.le_refl _) _).setCell (p := ⟨w.heap.size, 1, none⟩) (Nat.le_refl _) _).setCell (p := ⟨w.heap.size, 2, none⟩) (Nat.le_refl _) _).setCell (p := ⟨w.heap.size, 3, none⟩) (Nat.le_refl _) _).drew, FreeA.nil _ _ _ _⟩
    · exfalso
      have hne := toListNe hf
      have h0 : (!(formC (cOf cl nn x)).toList == s.toList) = false := by assumption
      rw [hne] at h0
      cases h0
    · have RD : Hid (Rd s c00 false) := hid (rd_no fun cl2 nn2 x2 T e => by
        obtain ⟨rfl, rfl, rfl⟩ := HUN.out cl2 nn2 x2 T
        rw [lfS_no hno] at e
        exact e.symm)
      refine bodyPost_ret (v := .tuple #[.agg #[.string ⟨#[]⟩, .int .i64 0, .slice none 0 0, .slice none 0 0], .iface ty pv]) (results_cell_tmp (p := 2) (u := 3) rfl _ _ w.heap.size [.string ⟨#[]⟩, .int .i64 0, .slice none 0 0, .slice none 0 0] _ rfl HR2.out Tryz.underlying27 rfl sz27) rfl ?_
      exact ⟨c00, ⟨none, none, 0, 0⟩, false, _, rfl, .inr ⟨rfl, _, _, rfl⟩, RD.out, ⟨fun i hi => absurd hi (Nat.not_lt_zero _), fun i hi => absurd hi (Nat.not_lt_zero _)⟩, HBX.out.trans (HF2.out.below (Nat.le_refl _) HBX.out.size), FreeA.nil _ _ _ _⟩
    · have RD : Hid (Rd s c00 false) := hid (rd_no fun cl nn x T _ => by cases HTO.out cl nn x T)
      refine bodyPost_ret (v := .tuple #[.agg #[.string ⟨#[]⟩, .int .i64 0, .slice none 0 0, .slice none 0 0], .iface ty pv]) (results_cell_tmp (p := 2) (u := 3) rfl _ _ w.heap.size [.string ⟨#[]⟩, .int .i64 0, .slice none 0 0, .slice none 0 0] _ rfl HR2.out Tryz.underlying27 rfl sz27) rfl ?_
      have hB2 := HBW.out.alloc HBW.out.size (.cells #[.string c.client, .int .i64 c.num, .slice A.wa c.wn A.wc, .slice A.ra c.rn A.rc] 27)
      exact ⟨c00, ⟨none, none, 0, 0⟩, false, _, rfl, .inr ⟨rfl, _, _, rfl⟩, RD.out, ⟨fun i hi => absurd hi (Nat.not_lt_zero _), fun i hi => absurd hi (Nat.not_lt_zero _)⟩, hB2.trans (HF2.out.below (Nat.le_refl _) hB2.size), FreeA.nil _ _ _ _⟩
end Go.Proofs.YtcmimbohmninkaaGreatDoor
