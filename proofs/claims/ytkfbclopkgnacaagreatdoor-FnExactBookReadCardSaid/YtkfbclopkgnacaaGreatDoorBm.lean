import Derived.Test.YtkfbclopkgnacaaGreatDoorPe
import Derived.WalkMore
import Derived.Test.YtkfbclopkgnacaaGreatDoorPb
import Derived.Test.YtkfbclopkgnacaaGreatDoorM
import Derived.Test.YtkfbclopkgnacaaGreatDoorRows
import Derived.WalkKit
import Derived.WalkSpells
import Derived.WalkLawsBesides
import Derived.Laws.IdiomStrings
import Derived.Deep.RegionWith
namespace Go.Proofs.YtkfbclopkgnacaaGreatDoor
open Go.RowKit
theorem OwnB.fr {w w' : World} {base R : Nat} {v : Value} {l : List UInt8} (h : OwnB w base v l) (hf : Fr R (R + 1) w w') (hR : R < base) : OwnB w' base v l := by
  refine ⟨h.1, ?_⟩
  rcases h.2 with h2 | ⟨g, cap, cur, e1, e2, e3, e4⟩
  · exact .inl h2
  · refine .inr ⟨g, cap, cur, e1, e2, ?_, e4⟩
    have hg : g < w.heap.size := by
      rcases Nat.lt_or_ge g w.heap.size with h | h
      · exact h
      · rw [Array.getElem?_eq_none h] at e3; cases e3
    rw [hf.block g hg (by omega), e3]
theorem Fr.thenBelow {w a b : World} {R : Nat} (h : Fr R (R + 1) w a) (k : Below w.heap.size a b) : Fr R (R + 1) w b :=
  ⟨k.os.trans h.os, k.tape.trans h.tape, k.output.trans h.output, Nat.le_trans h.size k.size, fun i hi ho => (k.block i hi).trans (h.block i hi ho)⟩
theorem next1_yes (R : Nat) (s : ByteArray) (k : Nat) (b : Bool) (hs : (s.size : Int) ≤ 1048576) (hk : k < s.size) (w : World) (h : RdAt w R (s.extract k s.size) b) :
    Calls Tryz.prog 57 #[.pointer (some ⟨R, 0, none⟩), .int .i64 1] w fun e w' => e = .returned (.string ⟨#[byteAt s k]⟩) ∧ RdAt w' R (s.extract (k + 1) s.size) b ∧ Fr R (R + 1) w w' := by
  refine (next_any R _ b 1 (by omega) (by rw [ext_sz]; omega) w h).mono ?_
  rintro e w' ⟨rfl, h1, h2⟩
  have hn : ¬ (s.extract k s.size).size < 1 := by rw [ext_sz]; omega
  have e1 : nxS (s.extract k s.size) 1 = ⟨#[byteAt s k]⟩ := by
    rw [show nxS (s.extract k s.size) 1 = (s.extract k s.size).extract 0 1 from if_neg hn]
    refine pa_ext ?_
    have hb := ext_byte s k 0 (by omega)
    have hl : (s.extract k s.size).data.toList.length = s.size - k := by rw [pa_len, ext_sz]
    rw [byteAt_list] at hb
    obtain ⟨x, m, hx⟩ : ∃ x m, (s.extract k s.size).data.toList = x :: m := by
      cases hd : (s.extract k s.size).data.toList with
      | nil => rw [hd] at hl; simp at hl; omega
      | cons x m => exact ⟨x, m, rfl⟩
    rw [hx] at hb
    rw [ByteArray.data_extract, Array.toList_extract, List.extract_eq_take_drop, hx]
    simp at hb ⊢
    exact hb
  have e2 : nxR (s.extract k s.size) 1 = s.extract (k + 1) s.size := by
    rw [show nxR (s.extract k s.size) 1 = (s.extract k s.size).extract 1 (s.extract k s.size).size from if_neg hn, ext_sz]
    rw [ByteArray.extract_extract]
    congr 1
    omega
  have e3 : nxA (s.extract k s.size) b 1 = b := if_neg hn
  rw [e1]
  rw [e2, e3] at h1
  exact ⟨rfl, h1, h2⟩
theorem next1_no (R : Nat) (s : ByteArray) (k : Nat) (b : Bool) (_hs : (s.size : Int) ≤ 1048576) (hk : ¬ k < s.size) (w : World) (h : RdAt w R (s.extract k s.size) b) :
    Calls Tryz.prog 57 #[.pointer (some ⟨R, 0, none⟩), .int .i64 1] w fun e w' => e = .returned (.string ⟨#[]⟩) ∧ RdAt w' R (s.extract k s.size) true ∧ Fr R (R + 1) w w' := by
  refine (next_any R _ b 1 (by omega) (by rw [ext_sz]; omega) w h).mono ?_
  rintro e w' ⟨rfl, h1, h2⟩
  have hn : (s.extract k s.size).size < 1 := by rw [ext_sz]; omega
  rw [show nxR (s.extract k s.size) 1 = s.extract k s.size from if_pos hn, show nxA (s.extract k s.size) b 1 = true from if_pos hn] at h1
  rw [show nxS (s.extract k s.size) 1 = ⟨#[]⟩ from if_pos hn]
  exact ⟨rfl, h1, h2⟩
/-- nothing is told: something was amiss, or no text in quotes comes next -/
def Nt (b : Bool) (s : ByteArray) : Prop := b = true ∨ ∀ te q, s ≠ quS te ++ q
def IQ (b : Bool) (s : ByteArray) (k : Nat) (l : List UInt8) (d : Bool) : Prop := Nt b s ∨ (d = false ∧ UqAt s k l)
theorem UqAt.esc3 {s : ByteArray} {k : Nat} {l : List UInt8} (h : UqAt s k l) (hk : byteAt s k = 92) (te q : ByteArray) (e : s = quS te ++ q) : k + 2 < s.size ∧ 0 ≤ hexZ (byteAt s (k + 1)).toNat ∧ 0 ≤ hexZ (byteAt s (k + 2)).toNat := by
  obtain ⟨j, hj, hk2, hl⟩ := h te q e
  have hm := qTo_mono te j hj
  subst e hk2
  rw [byteAt_app hm] at hk
  by_cases hje : j = te.size
  · rw [hje, (quS_end te).1] at hk
    exact absurd hk (by decide)
  · have hj2 : j < te.size := by omega
    cases hp : plainB (byteAt te j) with
    | true =>
      rw [(quS_plain hj2 hp).1] at hk
      exact absurd hk (plain_ne hp).2
    | false =>
      obtain ⟨_, e1, e2, e3, _⟩ := quS_esc hj2 hp
      rw [byteAt_app (by omega), byteAt_app e3, e1, e2, ByteArray.size_append]
      exact ⟨by omega, by omega, by omega⟩
theorem IQ.start {b : Bool} {s : ByteArray} : IQ b s 1 [] b := by
  cases b
  · exact .inr ⟨rfl, UqAt.start s⟩
  · exact .inl (.inl rfl)
theorem qpB_iff (c : UInt8) (s : ByteArray) : qpB c s = true ↔ ∃ l, s.data.toList = c :: l := by
  unfold qpB
  simp only [Bool.and_eq_true, decide_eq_true_eq]
  constructor
  · rintro ⟨h1, h2⟩
    have h3 := congrArg (fun x : ByteArray => x.data.toList) h2
    simp only [pa_extract] at h3
    cases hl : s.data.toList with
    | nil => have := pa_len s; rw [hl] at this; simp at this; omega
    | cons d l =>
      rw [hl] at h3
      simp at h3
      exact ⟨l, by rw [h3]⟩
  · rintro ⟨l, hl⟩
    refine ⟨?_, pa_ext ?_⟩
    · have := pa_len s
      rw [hl] at this
      simp at this
      omega
    · rw [pa_extract, hl]
      simp
theorem qpR_cons {c : UInt8} {s : ByteArray} {l : List UInt8} (h : s.data.toList = c :: l) : (qpR c s).data.toList = l := by
  unfold qpR
  rw [if_pos ((qpB_iff c s).2 ⟨l, h⟩), pa_extract, h]
  have := pa_len s
  rw [h] at this
  simp at this
  simp [← this]
theorem qpR_size (c : UInt8) (s : ByteArray) : (qpR c s).size ≤ s.size := by
  unfold qpR
  split
  · rw [ext_size _ _ _ (Nat.le_refl _)]
    omega
  · exact Nat.le_refl _
theorem qpR_lt {c : UInt8} {s : ByteArray} (h : qpB c s = true) : (qpR c s).size + 1 = s.size := by
  have := qpB_size h
  unfold qpR
  rw [if_pos h, ext_size _ _ _ (Nat.le_refl _)]
  omega
theorem quS_cons (te q : ByteArray) : ∃ r, (quS te ++ q).data.toList = 34 :: r := by
  have h2 : ∀ n, ∃ r, qTo te n = 34 :: r := by
    intro n
    induction n with
    | zero => exact ⟨[], rfl⟩
    | succ n ih =>
      obtain ⟨r, hr⟩ := ih
      exact ⟨r ++ qB (byteAt te n), by rw [qTo, hr]; rfl⟩
  obtain ⟨r, hr⟩ := h2 te.size
  refine ⟨r ++ [34] ++ q.data.toList, ?_⟩
  rw [pa_append]
  show (quL te).toArray.toList ++ _ = _
  unfold quL
  rw [hr]
  simp
theorem IQ.amiss {b : Bool} {s : ByteArray} (h : qpB 34 s = false) : Nt b s := by
  right
  intro te q e
  rw [e, (qpB_iff _ _).2 (quS_cons te q)] at h
  cases h
theorem IQ.over {b : Bool} {s : ByteArray} {k : Nat} {l : List UInt8} {d : Bool} (h : IQ b s k l d) (hk : ¬ k < s.size) : Nt b s := by
  rcases h with h | ⟨_, h⟩
  · exact h
  · exact .inr fun te q e => h.over hk te q e
theorem IQ.plain {b : Bool} {s : ByteArray} {k : Nat} {l : List UInt8} {d : Bool} (h : IQ b s k l d) (hk : byteAt s k ≠ 34) (hx : byteAt s k ≠ 92) : IQ b s (k + 1) (l ++ [byteAt s k]) d := by
  rcases h with h | ⟨e, h⟩
  · exact .inl h
  · exact .inr ⟨e, h.plain hk fun x => hx x.1⟩
theorem IQ.esc {b : Bool} {s : ByteArray} {k : Nat} {l : List UInt8} {d : Bool} {x : UInt8} (h : IQ b s k l false) (hk : byteAt s k = 92) (hz : k + 2 < s.size) (he : Es (s.extract (k + 1) s.size) false x d) : IQ b s (k + 3) (l ++ [x]) d := by
  rcases h with h | ⟨_, h⟩
  · exact .inl h
  · by_cases hh : 0 ≤ hexZ (byteAt s (k + 1)).toNat ∧ 0 ≤ hexZ (byteAt s (k + 2)).toNat
    · have b0 := ext_byte s (k + 1) 0 (by omega)
      have b1 := ext_byte s (k + 1) 1 (by omega)
      obtain ⟨h1, h2⟩ := he (by rw [ext_sz]; omega) (by rw [b0]; exact hh.1) (by rw [b1]; exact hh.2)
      rw [b0, b1] at h1
      exact .inr ⟨h2, h.esc hk h1⟩
    · exact .inl (.inr fun te q e => hh (h.esc3 hk te q e).2)
theorem IQ.escNo {b : Bool} {s : ByteArray} {k : Nat} {l : List UInt8} {d : Bool} (h : IQ b s k l d) (hk : byteAt s k = 92) (hz : ¬ k + 2 < s.size) : Nt b s := by
  rcases h with h | ⟨_, h⟩
  · exact h
  · exact .inr fun te q e => hz (h.esc3 hk te q e).1
theorem nxR_esc (s : ByteArray) (k : Nat) (hz : k + 2 < s.size) : nxR (s.extract (k + 1) s.size) 2 = s.extract (k + 3) s.size := by
  rw [show nxR (s.extract (k + 1) s.size) 2 = (s.extract (k + 1) s.size).extract 2 (s.extract (k + 1) s.size).size from if_neg (by rw [ext_sz]; omega), ext_sz]
  rw [ByteArray.extract_extract]
  congr 1
  omega
theorem nxR_escNo (s : ByteArray) (k : Nat) (hz : ¬ k + 2 < s.size) : nxR (s.extract (k + 1) s.size) 2 = s.extract (k + 1) s.size := if_pos (by rw [ext_sz]; omega)
/-- how much is left to be read -/
def mQ (w : World) (R : Nat) : Nat := match w.cell? ⟨R, 0, none⟩, w.cell? ⟨R, 1, none⟩ with | some (.string s), some (.bool false) => s.size + 1 | _, _ => 0
theorem mQ_no {w : World} {R : Nat} {s : ByteArray} (h : RdAt w R s false) : mQ w R = s.size + 1 := by
  unfold mQ
  rw [h.c0, h.c1]
theorem mQ_le {w : World} {R : Nat} {s : ByteArray} {d : Bool} (h : RdAt w R s d) : mQ w R ≤ s.size + 1 := by
  unfold mQ
  rw [h.c0, h.c1]
  cases d <;> simp
theorem mQ_yes {w : World} {R : Nat} {s : ByteArray} (h : RdAt w R s true) : mQ w R = 0 := by
  unfold mQ
  rw [h.c0, h.c1]
set_option maxRecDepth 100000 in
set_option maxHeartbeats 4000000 in
theorem inQuotes_any (R : Nat) (s : ByteArray) (b : Bool) (hs : (s.size : Int) ≤ 1048576) (e8 : Value) (w : World) (h : RdAt w R s b) (hR : R < w.heap.size) (h8 : w.cell? ⟨1, 0, none⟩ = some e8) (v8 : ErrV e8) (hR8 : R ≠ 1) (hz : 1 < w.heap.size) :
    Calls Tryz.prog 89 #[.pointer (some ⟨R, 0, none⟩)] w fun e w' => ∃ (r q : ByteArray) (d : Bool), e = .returned (.string r) ∧ RdAt w' R q d ∧ Fr R (R + 1) w w' ∧ (r.size ≤ s.size ∧ q.size ≤ s.size) ∧ (∀ te q2, b = false → s = quS te ++ q2 → r = te ∧ d = false ∧ q = q2) := by
  obtain ⟨i0, hi0, hz0, hz1, hz2⟩ := info_parts Tryz.info5
  have HT := hid (take_any R 34 s b hs w h)
  have HS : Hid (∃ k l, k ≤ s.size ∧ l.length ≤ k ∧ l = [] ∧ qpR 34 s = s.extract k s.size ∧ IQ b s k l (b || !qpB 34 s)) := by
    refine hid ?_
    cases hq : qpB 34 s with
    | true => exact ⟨1, [], qpB_size hq, by simp, rfl, if_pos hq, by rw [show (b || !true) = b by cases b <;> rfl]; exact IQ.start⟩
    | false => exact ⟨0, [], by omega, by simp, rfl, by rw [show qpR 34 s = s from if_neg (by rw [hq]; decide)]; exact (pa_ext (by simp)).symm, .inl (IQ.amiss hq)⟩
  obtain ⟨d0, hd0⟩ : ∃ d0, d0 = (b || !qpB 34 s) := ⟨_, rfl⟩
  obtain ⟨q0, hq0⟩ : ∃ q0, q0 = qpR 34 s := ⟨_, rfl⟩
  rw [← hd0] at HT HS
  rw [← hq0] at HT HS
  clear hd0 hq0 h
  have H8 : Hid (∀ W, Fr R (R + 1) w W → W.cell? ⟨1, 0, none⟩ = some e8 ∧ 1 < W.heap.size ∧ R < W.heap.size) := hid fun W f => ⟨(f.cell (p := ⟨1, 0, none⟩) hz (by show 1 < R ∨ R + 1 ≤ 1; omega)).trans h8, Nat.lt_of_lt_of_le hz f.size, Nat.lt_of_lt_of_le hR f.size⟩
  have HV := hid v8
  clear h8 v8
  go_enter Tryz.func89, Tryz.ntmps89
  go_wp2
  go_step3
  go_wp2_with (go_at_call 36; go_must (refine HT.out.mono ?_; rintro e w1 ⟨rfl, hr1, hf1⟩; have HR1 := hid hr1; have HF1 := hid hf1; clear hr1 hf1 HT))
  go_step3
  go_wp2
  go_loopw [3] (fun v wr => ∃ (k : Nat) (l : List UInt8) (d : Bool), k ≤ s.size ∧ l.length ≤ k ∧ Hid (RdAt wr R (s.extract k s.size) d) ∧ Hid (OwnB wr w.heap.size v l) ∧ Hid (Fr R (R + 1) w wr) ∧ Hid (IQ b s k l d)) (fun _ wr => mQ wr R)
  case atStart =>
    obtain ⟨k, l, h1, h2, rfl, h4, h5⟩ := HS.out
    exact ⟨k, [], d0, h1, h2, hid (by rw [← h4]; exact HR1.out), hid ⟨rfl, .inl ⟨rfl, rfl⟩⟩, HF1, hid h5⟩
  case round =>
    obtain ⟨k, l, d, hk, hll, HR, HO, HF, HI⟩ := hrel
    clear HS HR1 HF1
    have c1 := HR.out.c1
    cases d with
    | true =>
      have hcv := HO.out.conv0
      clear HO
      go_wp2
      simp only [Exit.noGoto]
      go_ret
      refine ⟨_, _, true, rfl, HR.out, HF.out, ⟨by rw [ba_len]; omega, by rw [ext_sz]; omega⟩, fun te q2 hb e => ?_⟩
      rcases HI.out with (h | h) | ⟨h, _⟩
      · rw [hb] at h; cases h
      · exact absurd e (h te q2)
      · cases h
    | false =>
      by_cases hks : k < s.size
      · have HN := hid (next1_yes R s k false hs hks wr HR.out)
        have M0 := hid (mQ_no HR.out)
        clear HR
        by_cases h34 : byteAt s k = 34
        · have HE := hid (fun te q2 (hb : b = false) e => (show (⟨l.toArray⟩ : ByteArray) = te ∧ s.extract (k + 1) s.size = q2 by
            rcases HI.out with (h | h) | ⟨_, h⟩
            · rw [hb] at h; cases h
            · exact absurd e (h te q2)
            · exact h.ends h34 te q2 e))
          rw [h34] at HN
          clear HI h34
          go_wp2_with (go_at_call 57; go_must (refine HN.out.mono ?_; rintro e w1 ⟨rfl, hr1, hf1⟩; have HR1 := hid hr1; have HF1 := hid (HF.out.trans hf1); have hcv := (HO.out.fr hf1 hR).conv0; clear hr1 hf1 HN HO HF))
          simp only [Exit.noGoto]
          go_ret
          refine ⟨_, _, false, rfl, HR1.out, HF1.out, ⟨by rw [ba_len]; omega, by rw [ext_sz]; omega⟩, fun te q2 hb e => ?_⟩
          obtain ⟨e1, e2⟩ := HE.out te q2 hb e
          exact ⟨e1, rfl, e2⟩
        · by_cases h92 : byteAt s k = 92
          · by_cases h2 : k + 2 < s.size
            · have HI2 : Hid (∀ x d, Es (s.extract (k + 1) s.size) false x d → IQ b s (k + 3) (l ++ [x]) d) := hid fun x d he => HI.out.esc h92 h2 he
              have HX := hid (nxR_esc s k h2)
              rw [h92] at HN
              clear HI h34 h92
              go_wp2_with (first
                | (go_at_call 57; go_must (refine HN.out.mono ?_; rintro e w1 ⟨rfl, hr1, hf1⟩; have HR1 := hid hr1; have HF1 := hid (HF.out.trans hf1); have HO1 := hid (HO.out.fr hf1 hR); clear hr1 hf1 HN HO HF))
                | (go_at_call 121; go_must (refine (escaped_any R (s.extract (k + 1) s.size) false (by rw [ext_sz]; omega) e8 _ HR1.out (H8.out _ HF1.out).2.2 (H8.out _ HF1.out).1 HV.out hR8 (H8.out _ HF1.out).2.1).mono ?_; rintro e w2 ⟨x, d2, rfl, hr2, hf2, he2⟩; have HR2 := hid hr2; have HF2 := hid (HF1.out.trans hf2); have HO2 := hid ((HO1.out.fr hf2 hR).alloc (.cells #[.int .u8 (x.toNat : Int)] 5)); have HE2 := hid he2; clear hr2 hf2 he2 HR1 HF1 HO1))
                | (at_builtin; go_must (refine wpList_append_own _ rfl _ _ 54 rfl w.heap.size 5 i0 (.int .u8 0) 1 1 Tryz.underlying54 hi0 hz0 hz1 hz2 rfl (by decide) _ _ _ rfl HO2.out ⟨w2.heap.size, 0, none⟩ 1 1 (Lib.byteCells [x]) rfl rfl (news_alloc w2 _ 5) (by simp [Lib.byteCells, Value.oneCell']) (by unfold maxLen; omega) (by omega) (by have := HF2.out.size; simp; omega) ?_; intro v3 w3 hown3 hgrow3 _)))
              have B3 := below_app ((Below.refl w.heap.size w2).alloc HF2.out.size _) (Nat.le_refl _) (by have := HF2.out.size; simp; omega) HO2.out hgrow3
              have O3 : OwnB w3 w.heap.size v3 (l ++ [x]) := OwnB.app hown3
              have R3 := HR2.out.below B3 hR
              rw [HX.out] at R3
              go_roundw
              case rel => exact ⟨k + 3, l ++ [x], d2, by omega, by simp; omega, hid R3, hid O3, hid (HF2.out.thenBelow B3), hid (HI2.out x d2 HE2.out)⟩
              case measure =>
                rw [M0.out]
                have := mQ_le R3
                rw [ext_sz] at this ⊢
                omega
            · have HI2 := hid (HI.out.escNo h92 h2)
              have HX := hid (nxR_escNo s k h2)
              rw [h92] at HN
              clear HI h34 h92
              go_wp2_with (first
                | (go_at_call 57; go_must (refine HN.out.mono ?_; rintro e w1 ⟨rfl, hr1, hf1⟩; have HR1 := hid hr1; have HF1 := hid (HF.out.trans hf1); have HO1 := hid (HO.out.fr hf1 hR); clear hr1 hf1 HN HO HF))
                | (go_at_call 121; go_must (refine (escaped_any R (s.extract (k + 1) s.size) false (by rw [ext_sz]; omega) e8 _ HR1.out (H8.out _ HF1.out).2.2 (H8.out _ HF1.out).1 HV.out hR8 (H8.out _ HF1.out).2.1).mono ?_; rintro e w2 ⟨x, d2, rfl, hr2, hf2, he2⟩; have HR2 := hid hr2; have HF2 := hid (HF1.out.trans hf2); have HO2 := hid ((HO1.out.fr hf2 hR).alloc (.cells #[.int .u8 (x.toNat : Int)] 5)); clear hr2 hf2 he2 HR1 HF1 HO1))
                | (at_builtin; go_must (refine wpList_append_own _ rfl _ _ 54 rfl w.heap.size 5 i0 (.int .u8 0) 1 1 Tryz.underlying54 hi0 hz0 hz1 hz2 rfl (by decide) _ _ _ rfl HO2.out ⟨w2.heap.size, 0, none⟩ 1 1 (Lib.byteCells [x]) rfl rfl (news_alloc w2 _ 5) (by simp [Lib.byteCells, Value.oneCell']) (by unfold maxLen; omega) (by omega) (by have := HF2.out.size; simp; omega) ?_; intro v3 w3 hown3 hgrow3 _)))
              have B3 := below_app ((Below.refl w.heap.size w2).alloc HF2.out.size _) (Nat.le_refl _) (by have := HF2.out.size; simp; omega) HO2.out hgrow3
              have O3 : OwnB w3 w.heap.size v3 (l ++ [x]) := OwnB.app hown3
              have R3 := HR2.out.below B3 hR
              rw [HX.out] at R3
              go_roundw
              case rel => exact ⟨k + 1, l ++ [x], d2, by omega, by simp; omega, hid R3, hid O3, hid (HF2.out.thenBelow B3), hid (.inl HI2.out)⟩
              case measure =>
                rw [M0.out]
                have := mQ_le R3
                rw [ext_sz] at this ⊢
                omega
          · have HI2 := hid (HI.out.plain h34 h92)
            obtain ⟨bb, hbb⟩ : ∃ bb, bb = byteAt s k := ⟨_, rfl⟩
            rw [← hbb] at HN HI2 h34 h92
            obtain ⟨c, hc⟩ : ∃ c : ByteArray, c = ⟨#[bb]⟩ := ⟨_, rfl⟩
            rw [← hc] at HN
            have n34 : (c.toList == [34]) = false := by
              have := toListNe (a := c) (b := ⟨#[34]⟩) (fun e => h34 (by rw [hc] at e; injection e with e; simpa using e))
              simpa using this
            have n92 : (c.toList == [92]) = false := by
              have := toListNe (a := c) (b := ⟨#[92]⟩) (fun e => h92 (by rw [hc] at e; injection e with e; simpa using e))
              simpa using this
            have cz : c.size = 1 := by rw [hc]; rfl
            have HC := hid (show Lib.strCells c = Lib.byteCells [bb] by rw [hc]; rfl)
            clear hc hbb HI h34 h92
            go_wp2_with (first
              | (go_at_call 57; go_must (refine HN.out.mono ?_; rintro e w1 ⟨rfl, hr1, hf1⟩; have HR1 := hid hr1; have HF1 := hid (HF.out.trans hf1); have HO1 := hid (HO.out.fr hf1 hR); clear hr1 hf1 HN HO HF))
              | (at_builtin; go_must (refine Lib.wpList_append_own_string _ rfl _ _ 54 9 rfl w.heap.size 5 i0 Tryz.underlying54 Tryz.underlying9 hi0 hz0 hz1 hz2 _ _ _ rfl HO1.out c rfl (by unfold maxLen; omega) (by omega) (by have := HF1.out.size; omega) ?_; intro v3 w3 hown3 hgrow3 _)))
            have B3 := below_app (Below.refl w.heap.size w1) (Nat.le_refl _) HF1.out.size HO1.out hgrow3
            rw [HC.out, cz] at hown3
            have O3 : OwnB w3 w.heap.size v3 (l ++ [bb]) := OwnB.app hown3
            have R3 := HR1.out.below B3 hR
            go_roundw
            case rel => exact ⟨k + 1, l ++ [bb], false, by omega, by simp; omega, hid R3, hid O3, hid (HF1.out.thenBelow B3), HI2⟩
            case measure =>
              rw [M0.out]
              have := mQ_le R3
              rw [ext_sz] at this ⊢
              omega
      · have HN := hid (next1_no R s k false hs hks wr HR.out)
        have M0 := hid (mQ_no HR.out)
        have HI2 := hid (HI.out.over hks)
        clear HR HI
        go_wp2_with (first
          | (go_at_call 57; go_must (refine HN.out.mono ?_; rintro e w1 ⟨rfl, hr1, hf1⟩; have HR1 := hid hr1; have HF1 := hid (HF.out.trans hf1); have HO1 := hid (HO.out.fr hf1 hR); clear hr1 hf1 HN HO HF))
          | (at_builtin; go_must (refine Lib.wpList_append_own_string _ rfl _ _ 54 9 rfl w.heap.size 5 i0 Tryz.underlying54 Tryz.underlying9 hi0 hz0 hz1 hz2 _ _ _ rfl HO1.out ⟨#[]⟩ rfl (by unfold maxLen; show l.length + 0 ≤ _; omega) (by show l.length + 0 ≤ _; omega) (by have := HF1.out.size; omega) ?_; intro v3 w3 hown3 hgrow3 _)))
        have B3 := below_app (Below.refl w.heap.size w1) (Nat.le_refl _) HF1.out.size HO1.out hgrow3
        have O3 : OwnB w3 w.heap.size v3 l := by
          have e : Lib.byteCells l ++ Lib.strCells ⟨#[]⟩ = Lib.byteCells l := List.append_nil _
          rw [e] at hown3
          exact hown3
        have R3 := HR1.out.below B3 hR
        go_roundw
        case rel => exact ⟨k, l, true, by omega, by omega, hid R3, hid O3, hid (HF1.out.thenBelow B3), hid (.inl HI2.out)⟩
        case measure =>
          rw [M0.out, mQ_yes R3]
          omega
end Go.Proofs.YtkfbclopkgnacaaGreatDoor
namespace Go.Proofs.YtkfbclopkgnacaaGreatDoor
open Go.RowKit Go.Shelf
set_option maxRecDepth 100000 in
set_option maxHeartbeats 1000000 in
theorem clone_any (s : ByteArray) (hs : (s.size : Int) ≤ 1048576) (w : World) : Calls Tryz.prog 56 #[.string s] w fun e w' => e = .returned (.string s) ∧ Below w.heap.size w w' := by
  have HC := hid (fun W => Tryz.stringslite_Clone s W (by omega))
  go_enter Tryz.func56, Tryz.ntmps56
  go_wp2_with (go_at_call 86; go_must (refine (HC.out _).mono ?_; rintro e w1 ⟨rfl, hb1⟩; have HB := hid hb1; clear hb1))
  go_ret
  exact ⟨rfl, HB.out⟩
/-- a word that comes next: what is told of it -/
theorem index_word {a l : List UInt8} {c : UInt8} (ha : Wrd a) (hc : c = 32 ∨ c = 10) : Lib.indexAny (a ++ c :: l) [32, 10] = a.length := by
  refine Lib.indexAny_hit (x := c) (i := a.length) (fun j b hj hb => ?_) (by simp) (by rcases hc with rfl | rfl <;> rfl)
  rw [List.getElem?_append_left hj] at hb
  have h := ha.ne b (List.mem_of_getElem? hb)
  simp only [List.contains_cons, List.contains_nil, Bool.or_false, Bool.or_eq_false_iff, beq_eq_false_iff_ne]
  exact ⟨h.1, h.2⟩
def Asc (l : List UInt8) : Prop := ∀ c ∈ l, c.toNat < 128
theorem Prt.asc {l : List UInt8} (h : Prt l) : Asc l := fun c hc => (h c hc).2
theorem Wrd.asc {l : List UInt8} (h : Wrd l) : Asc l := fun c hc => (h c hc).2
theorem Asc.app {l m : List UInt8} (h : Asc l) (k : Asc m) : Asc (l ++ m) := fun c hc => (List.mem_append.1 hc).elim (h c) (k c)
theorem Asc.right {l m : List UInt8} (h : Asc (l ++ m)) : Asc m := fun c hc => h c (List.mem_append.2 (Or.inr hc))
theorem Asc.tail {c : UInt8} {m : List UInt8} (h : Asc (c :: m)) : Asc m := fun d hd => h d (List.mem_cons_of_mem _ hd)
/-- what reading a word comes to -/
def WdT (s : ByteArray) (b : Bool) (t q : ByteArray) (d : Bool) : Prop :=
  (t.size ≤ s.size ∧ q.size ≤ s.size) ∧ ∀ a c l, b = false → Asc s.data.toList → s.data.toList = a ++ c :: l → Wrd a → c = 32 ∨ c = 10 → t.data.toList = a ∧ d = false ∧ q.data.toList = c :: l
set_option maxRecDepth 100000 in
set_option maxHeartbeats 2000000 in
theorem word_any (R : Nat) (s : ByteArray) (b : Bool) (hs : (s.size : Int) ≤ 1048576) (w : World) (h : RdAt w R s b) (hR : R < w.heap.size) :
    Calls Tryz.prog 31 #[.pointer (some ⟨R, 0, none⟩)] w fun e w' => ∃ (t q : ByteArray) (d : Bool), e = .returned (.string t) ∧ RdAt w' R q d ∧ Fr R (R + 1) w w' ∧ WdT s b t q d := by
  have HI := hid (indexAny_any s hs)
  have c0 := h.c0
  have HH := hid h
  clear h
  go_enter Tryz.func31, Tryz.ntmps31
  go_wp2_with (go_at_call 55; go_must (refine (HI.out _).mono ?_; rintro e w1 ⟨i, rfl, hi, hx, hb1⟩; have HX := hid hx; have HB := hid hb1; have H1 := hid (HH.out.below hb1 hR); have f1 := H1.out.f1; have d1 := H1.out.c1; clear hx hb1; rcases hi with rfl | ⟨k, rfl, hk⟩))
  · have H2 := hid (H1.out.amiss true)
    have HF := hid ((Fr.of_below (lo := R) (hi := R + 1) HB.out).setCell (p := ⟨R, 1, none⟩) (Nat.le_refl _) (Nat.lt_succ_self _) (.bool true))
    go_wp2
    go_ret
    refine ⟨⟨#[]⟩, s, true, rfl, H2.out, HF.out, ⟨Nat.zero_le _, Nat.le_refl _⟩, fun a c l hb ha e hw hc => ?_⟩
    have := HX.out ha
    rw [e, index_word hw hc] at this
    omega
  · have HN := hid (next_any R s b k (by omega) hs w1 (HH.out.below HB.out hR))
    rw [show nxS s k = s.extract 0 k from if_neg (by omega), show nxR s k = s.extract k s.size from if_neg (by omega), show nxA s b k = b from if_neg (by omega)] at HN
    have HC := hid (clone_any (s.extract 0 k) (by rw [ext_size _ _ _ (by omega)]; omega))
    go_wp2_with (first
      | (go_at_call 57; go_must (refine HN.out.mono ?_; rintro e w2 ⟨rfl, hr2, hf2⟩; have HR2 := hid hr2; have HF2 := hid ((Fr.of_below (lo := R) (hi := R + 1) HB.out).trans hf2); clear hr2 hf2))
      | (go_at_call 56; go_must (refine (HC.out _).mono ?_; rintro e w3 ⟨rfl, hb3⟩; have HB3 := hid hb3; clear hb3)))
    go_ret
    have hsz := HF2.out.size
    refine ⟨_, _, b, rfl, HR2.out.below HB3.out (by omega), HF2.out.thenBelow (HB3.out.mono hsz), ⟨by rw [ext_size _ _ _ (by omega)]; omega, by rw [ext_size _ _ _ (Nat.le_refl _)]; omega⟩, fun a c l hb ha e hw hc => ?_⟩
    have hka := HX.out ha
    rw [e, index_word hw hc] at hka
    have hk2 : k = a.length := by omega
    have hz := pa_len s
    rw [pa_extract, pa_extract, ← hz, e, hk2, Nat.sub_zero, List.drop_zero, List.take_left, List.drop_left]
    refine ⟨rfl, hb, List.take_of_length_le ?_⟩
    simp
end Go.Proofs.YtkfbclopkgnacaaGreatDoor
namespace Go.Proofs.YtkfbclopkgnacaaGreatDoor
open Go.RowKit Go.Shelf
/-- what reading a field comes to -/
def FdT (s : ByteArray) (b : Bool) (t q : ByteArray) (d : Bool) : Prop :=
  (t.size ≤ s.size ∧ q.size ≤ s.size ∧ (qpB 32 s = true → q.size < s.size)) ∧ ∀ a c l, b = false → Asc s.data.toList → s.data.toList = 32 :: (a ++ c :: l) → Wrd a → c = 32 ∨ c = 10 → t.data.toList = a ∧ d = false ∧ q.data.toList = c :: l
set_option maxRecDepth 100000 in
set_option maxHeartbeats 1000000 in
theorem field_any (R : Nat) (s : ByteArray) (b : Bool) (hs : (s.size : Int) ≤ 1048576) (w : World) (h : RdAt w R s b) (hR : R < w.heap.size) :
    Calls Tryz.prog 59 #[.pointer (some ⟨R, 0, none⟩)] w fun e w' => ∃ (t q : ByteArray) (d : Bool), e = .returned (.string t) ∧ RdAt w' R q d ∧ Fr R (R + 1) w w' ∧ FdT s b t q d := by
  have HT := hid (take_any R 32 s b hs w h)
  have hz := qpR_size 32 s
  go_enter Tryz.func59, Tryz.ntmps59
  go_wp2_with (first
    | (go_at_call 36; go_must (refine HT.out.mono ?_; rintro e w1 ⟨rfl, hr1, hf1⟩; have HR1 := hid hr1; have HF1 := hid hf1; clear hr1 hf1 HT))
    | (go_at_call 31; go_must (refine (word_any R (qpR 32 s) (b || !qpB 32 s) (by omega) _ HR1.out (Nat.lt_of_lt_of_le hR HF1.out.size)).mono ?_; rintro e w2 ⟨t, q, d, rfl, hr2, hf2, hw2⟩; have HR2 := hid hr2; have HF2 := hid (HF1.out.trans hf2); have HW := hid hw2; clear hr2 hf2 hw2)))
  go_ret
  refine ⟨t, q, d, rfl, HR2.out, HF2.out, ⟨Nat.le_trans HW.out.1.1 hz, Nat.le_trans HW.out.1.2 hz, fun hq => ?_⟩, fun a c l hb ha e hw hc => ?_⟩
  · have := qpR_lt hq
    have := HW.out.1.2
    omega
  · have hq : qpB 32 s = true := (qpB_iff 32 s).2 ⟨_, e⟩
    have er := qpR_cons e
    refine HW.out.2 a c l (by rw [hb, hq]; rfl) ?_ er hw hc
    rw [er]
    rw [e] at ha
    exact ha.tail
/-- the two variables that hold errors -/
def ErC (w : World) : Prop := ∃ e1 e2, w.cell? ⟨1, 0, none⟩ = some e1 ∧ ErrV e1 ∧ w.cell? ⟨2, 0, none⟩ = some e2 ∧ ErrV e2 ∧ 2 < w.heap.size
theorem ErC.fr {w w' : World} {R : Nat} (h : ErC w) (hf : Fr R (R + 1) w w') (hR : 2 < R) : ErC w' := by
  obtain ⟨e1, e2, h1, v1, h2, v2, hz⟩ := h
  exact ⟨e1, e2, (hf.cell (p := ⟨1, 0, none⟩) (show 1 < w.heap.size by omega) (by show 1 < R ∨ R + 1 ≤ 1; omega)).trans h1, v1, (hf.cell (p := ⟨2, 0, none⟩) (show 2 < w.heap.size from hz) (by show 2 < R ∨ R + 1 ≤ 2; omega)).trans h2, v2, Nat.lt_of_lt_of_le hz hf.size⟩
theorem ErC.below {w w' : World} (h : ErC w) (hf : Below w.heap.size w w') : ErC w' := by
  obtain ⟨e1, e2, h1, v1, h2, v2, hz⟩ := h
  exact ⟨e1, e2, (hf.cell (p := ⟨1, 0, none⟩) (show 1 < w.heap.size by omega)).trans h1, v1, (hf.cell (p := ⟨2, 0, none⟩) hz).trans h2, v2, Nat.lt_of_lt_of_le hz hf.size⟩
theorem atoi_er (s : ByteArray) (hs : (s.size : Int) ≤ 1048576) (w : World) (h : ErC w) :
    Calls Tryz.prog 58 #[.string s] w fun e w' => ∃ v err, e = .returned (.tuple #[.int .i64 v, err]) ∧ (-9223372036854775808 ≤ v ∧ v ≤ 9223372036854775807) ∧ ErrV err ∧ (∀ m : Nat, m ≤ 1000000 → s = dS m → v = m ∧ err = .nilIface) ∧ Below w.heap.size w w' := by
  obtain ⟨e1, e2, h1, v1, h2, v2, hz⟩ := h
  exact atoi_any s hs e1 e2 w h1 v1 h2 v2
/-- what reading a number comes to -/
def NmT (s : ByteArray) (b : Bool) (v : Int) (q : ByteArray) (d : Bool) : Prop :=
  ((-9223372036854775808 ≤ v ∧ v ≤ 9223372036854775807) ∧ q.size ≤ s.size) ∧ ∀ (m : Nat) c l, b = false → Asc s.data.toList → s.data.toList = 32 :: ((dS m).data.toList ++ c :: l) → m ≤ 1000000 → c = 32 ∨ c = 10 → v = m ∧ d = false ∧ q.data.toList = c :: l
set_option maxRecDepth 100000 in
set_option maxHeartbeats 2000000 in
theorem numR_any (R : Nat) (s : ByteArray) (b : Bool) (hs : (s.size : Int) ≤ 1048576) (w : World) (h : RdAt w R s b) (hR : R < w.heap.size) (hE : ErC w) (hR2 : 2 < R) :
    Calls Tryz.prog 32 #[.pointer (some ⟨R, 0, none⟩)] w fun e w' => ∃ (v : Int) (q : ByteArray) (d : Bool), e = .returned (.int .i64 v) ∧ RdAt w' R q d ∧ Fr R (R + 1) w w' ∧ NmT s b v q d := by
  have HT := hid (field_any R s b hs w h hR)
  have HE := hid hE
  clear hE h
  have HTL : Hid (∀ (t q : ByteArray) (d1 : Bool) (v : Int) (err : Value), FdT s b t q d1 → (-9223372036854775808 ≤ v ∧ v ≤ 9223372036854775807) → (∀ m : Nat, m ≤ 1000000 → t = dS m → v = m ∧ err = Value.nilIface) → ∀ d, (d1 = false → err = Value.nilIface → d = false) → NmT s b v q d) := hid fun t q d1 v err hf hv hm d hd => ⟨⟨hv, hf.1.2.1⟩, fun m c l hb ha e hm2 hc => by
    obtain ⟨k1, k2, k3⟩ := hf.2 _ c l hb ha e (wrd_dec m) hc
    obtain ⟨k4, k5⟩ := hm m hm2 (pa_ext k1)
    exact ⟨k4, hd k2 k5, k3⟩⟩
  go_enter Tryz.func32, Tryz.ntmps32
  go_wp2_with (first
    | (go_at_call 59; go_must (refine HT.out.mono ?_; rintro e w1 ⟨t, q, d1, rfl, hr1, hf1, hw1⟩; have HR1 := hid hr1; have HF1 := hid hf1; have HW := hid hw1; clear hr1 hf1 hw1 HT))
    | (go_at_call 58; go_must (refine (atoi_er t (by have := HW.out.1.1; omega) _ (HE.out.fr HF1.out hR2)).mono ?_; rintro e w2 ⟨v, err, rfl, hv, hev, hm, hb2⟩; have HR2 := hid (HR1.out.below hb2 (Nat.lt_of_lt_of_le hR HF1.out.size)); have HF2 := hid (HF1.out.thenBelow (hb2.mono HF1.out.size)); have HQ := hid (HTL.out t q d1 v err HW.out hv hm); have c1 := HR2.out.c1; have f1 := HR2.out.f1; clear hv hm hb2 HTL HW; rcases hev with rfl | ⟨et, ep, rfl⟩ <;> cases d1)))
  · go_ret
    exact ⟨v, q, false, rfl, HR2.out.amiss false, HF2.out.setCell (p := ⟨R, 1, none⟩) (Nat.le_refl _) (Nat.lt_succ_self _) _, HQ.out false (fun _ _ => rfl)⟩
  · go_ret
    exact ⟨v, q, true, rfl, HR2.out.amiss true, HF2.out.setCell (p := ⟨R, 1, none⟩) (Nat.le_refl _) (Nat.lt_succ_self _) _, HQ.out true (fun h _ => by cases h)⟩
  · go_ret
    exact ⟨v, q, true, rfl, HR2.out.amiss true, HF2.out.setCell (p := ⟨R, 1, none⟩) (Nat.le_refl _) (Nat.lt_succ_self _) _, HQ.out true (fun _ h => by cases h)⟩
  · go_ret
    exact ⟨v, q, true, rfl, HR2.out.amiss true, HF2.out.setCell (p := ⟨R, 1, none⟩) (Nat.le_refl _) (Nat.lt_succ_self _) _, HQ.out true (fun h _ => by cases h)⟩
/-- what reading a text in quotes comes to -/
def QuT (s : ByteArray) (b : Bool) (t q : ByteArray) (d : Bool) : Prop :=
  (t.size ≤ s.size ∧ q.size ≤ s.size) ∧ ∀ te l, b = false → s.data.toList = 32 :: ((quS te).data.toList ++ l) → t = te ∧ d = false ∧ q.data.toList = l
set_option maxRecDepth 100000 in
set_option maxHeartbeats 1000000 in
theorem quoted_any (R : Nat) (s : ByteArray) (b : Bool) (hs : (s.size : Int) ≤ 1048576) (w : World) (h : RdAt w R s b) (hR : R < w.heap.size) (hE : ErC w) (hR2 : 2 < R) :
    Calls Tryz.prog 60 #[.pointer (some ⟨R, 0, none⟩)] w fun e w' => ∃ (t q : ByteArray) (d : Bool), e = .returned (.string t) ∧ RdAt w' R q d ∧ Fr R (R + 1) w w' ∧ QuT s b t q d := by
  have HT := hid (take_any R 32 s b hs w h)
  have hz := qpR_size 32 s
  have HIQ : Hid (∀ W, Fr R (R + 1) w W → RdAt W R (qpR 32 s) (b || !qpB 32 s) → Calls Tryz.prog 89 #[.pointer (some ⟨R, 0, none⟩)] W fun e w' => ∃ (r q : ByteArray) (d : Bool), e = .returned (.string r) ∧ RdAt w' R q d ∧ Fr R (R + 1) W w' ∧ (r.size ≤ (qpR 32 s).size ∧ q.size ≤ (qpR 32 s).size) ∧ (∀ te q2, (b || !qpB 32 s) = false → qpR 32 s = quS te ++ q2 → r = te ∧ d = false ∧ q = q2)) := hid fun W hf hr => by
    obtain ⟨e1, e2, h1, v1, h2, v2, hz2⟩ := hE.fr hf hR2
    exact inQuotes_any R (qpR 32 s) (b || !qpB 32 s) (by omega) e1 W hr (Nat.lt_of_lt_of_le hR hf.size) h1 v1 (by omega) (by omega)
  clear hE
  go_enter Tryz.func60, Tryz.ntmps60
  go_wp2_with (first
    | (go_at_call 36; go_must (refine HT.out.mono ?_; rintro e w1 ⟨rfl, hr1, hf1⟩; have HR1 := hid hr1; have HF1 := hid hf1; clear hr1 hf1 HT))
    | (go_at_call 89; go_must (refine (HIQ.out _ HF1.out HR1.out).mono ?_; rintro e w2 ⟨t, q, d, rfl, hr2, hf2, hw2, ht2⟩; have HR2 := hid hr2; have HF2 := hid (HF1.out.trans hf2); have HW := hid hw2; have HL := hid ht2; clear hr2 hf2 hw2 ht2)))
  go_ret
  refine ⟨t, q, d, rfl, HR2.out, HF2.out, ⟨Nat.le_trans HW.out.1 hz, Nat.le_trans HW.out.2 hz⟩, fun te l hb e => ?_⟩
  have hq : qpB 32 s = true := (qpB_iff 32 s).2 ⟨_, e⟩
  have er := qpR_cons e
  obtain ⟨k1, k2, k3⟩ := HL.out te ⟨l.toArray⟩ (by rw [hb, hq]; rfl) (pa_ext (by rw [er, pa_append]))
  exact ⟨k1, k2, by rw [k3]⟩
end Go.Proofs.YtkfbclopkgnacaaGreatDoor
namespace Go.Proofs.YtkfbclopkgnacaaGreatDoor
open Go.RowKit Go.Shelf
theorem ownsRow_frR {w w' : World} {base R e z n : Nat} {v : Value} {xs : List Value} (h : w.ownsRow base e z v n xs) (hf : Fr R (R + 1) w w') (hR : R < base) : w'.ownsRow base e z v n xs := by
  refine ⟨h.1, ?_⟩
  rcases h.2 with h2 | ⟨g, cap, cur, e1, e2, e3, e4⟩
  · exact .inl h2
  · refine .inr ⟨g, cap, cur, e1, e2, ?_, e4⟩
    have hg : g < w.heap.size := (Array.getElem?_eq_some_iff.1 e3).1
    exact (hf.block g hg (by omega)).trans e3
/-- what reading all that is left of a line comes to -/
def FsT (s : ByteArray) (b : Bool) (xs : List ByteArray) (q : ByteArray) (d : Bool) : Prop :=
  (xs.length + q.size ≤ s.size ∧ ∀ x ∈ xs, x.size ≤ s.size) ∧ ∀ ys l, b = false → Asc s.data.toList → s.data.toList = spL ys ++ 10 :: l → (∀ y ∈ ys, Wrd y.data.toList) → xs = ys ∧ d = false ∧ q.data.toList = 10 :: l
/-- where the reading of fields stands -/
def FsI (s : ByteArray) (b : Bool) (xs : List ByteArray) (q : ByteArray) (d : Bool) : Prop :=
  (xs.length + q.size ≤ s.size ∧ ∀ x ∈ xs, x.size ≤ s.size) ∧ ∀ ys l, b = false → Asc s.data.toList → s.data.toList = spL ys ++ 10 :: l → (∀ y ∈ ys, Wrd y.data.toList) → ∃ zs, ys = xs ++ zs ∧ d = false ∧ q.data.toList = spL zs ++ 10 :: l
theorem FsI.start (s : ByteArray) (b : Bool) : FsI s b [] s b := ⟨⟨by simp, fun x hx => absurd hx (by simp)⟩, fun ys _ hb _ e _ => ⟨ys, rfl, hb, e⟩⟩
theorem FsI.done {s : ByteArray} {b : Bool} {xs : List ByteArray} {q : ByteArray} {d : Bool} (h : FsI s b xs q d) (hq : d = false → qpB 32 q = false) : FsT s b xs q d := by
  refine ⟨h.1, fun ys l hb ha e hw => ?_⟩
  obtain ⟨zs, e1, e2, e3⟩ := h.2 ys l hb ha e hw
  cases zs with
  | nil => exact ⟨by rw [e1, List.append_nil], e2, e3⟩
  | cons z zs =>
    have := hq e2
    rw [(qpB_iff 32 q).2 ⟨_, by rw [e3, spL_cons]; rfl⟩] at this
    cases this
theorem FsI.next {s : ByteArray} {b : Bool} {xs : List ByteArray} {q t q2 : ByteArray} {d2 : Bool} (h : FsI s b xs q false) (hq : qpB 32 q = true) (hf : FdT q false t q2 d2) : FsI s b (xs ++ [t]) q2 d2 := by
  refine ⟨⟨?_, fun x hx => ?_⟩, fun ys l hb ha e hw => ?_⟩
  · have h1 := h.1.1
    have h2 := hf.1.2.2 hq
    simp
    omega
  · rcases List.mem_append.1 hx with hx | hx
    · exact h.1.2 x hx
    · rw [List.mem_singleton.1 hx]
      have h1 := h.1.1
      have h2 := hf.1.1
      omega
  · obtain ⟨zs, e1, _, e3⟩ := h.2 ys l hb ha e hw
    have haq : Asc q.data.toList := by
      rw [e, e1, spL_app, List.append_assoc, ← e3] at ha
      exact ha.right
    cases zs with
    | nil =>
      obtain ⟨r, hr⟩ := (qpB_iff 32 q).1 hq
      rw [e3, spL_nil] at hr
      simp at hr
    | cons z zs =>
      rw [spL_cons] at e3
      have hz : Wrd z.data.toList := hw z (by rw [e1]; simp)
      have key : ∃ c l2, spL zs ++ 10 :: l = c :: l2 ∧ (c = 32 ∨ c = 10) := by
        cases zs with
        | nil => exact ⟨10, l, rfl, Or.inr rfl⟩
        | cons y zs => exact ⟨32, _, by rw [spL_cons]; rfl, Or.inl rfl⟩
      obtain ⟨c, l2, k1, k2⟩ := key
      obtain ⟨m1, m2, m3⟩ := hf.2 z.data.toList c l2 rfl haq (by rw [e3, ← k1]; simp) hz k2
      exact ⟨zs, by rw [e1, pa_ext m1]; simp, m2, by rw [m3, k1]⟩
set_option maxRecDepth 100000 in
set_option maxHeartbeats 4000000 in
theorem fields_any (R : Nat) (s : ByteArray) (b : Bool) (hs : (s.size : Int) ≤ 1048576) (w : World) (h : RdAt w R s b) (hR : R < w.heap.size) :
    Calls Tryz.prog 61 #[.pointer (some ⟨R, 0, none⟩)] w fun e w' => ∃ (v : Value) (xs : List ByteArray) (q : ByteArray) (d : Bool), e = .returned v ∧ w'.ownsRow w.heap.size 9 1 v xs.length (sC xs) ∧ RdAt w' R q d ∧ Fr R (R + 1) w w' ∧ FsT s b xs q d := by
  obtain ⟨i0, hi0, hi1, hi2, hi3⟩ := info_parts Tryz.info9
  have HH := hid h
  clear h
  go_enter Tryz.func61, Tryz.ntmps61
  go_wp2
  go_loopw [3] (fun v wr => ∃ (q : ByteArray) (d : Bool) (xs : List ByteArray), Hid (RdAt wr R q d) ∧ Hid (wr.ownsRow w.heap.size 9 1 v xs.length (sC xs)) ∧ Hid (Fr R (R + 1) w wr) ∧ Hid (FsI s b xs q d)) (fun _ wr => mQ wr R)
  case atStart => exact ⟨s, b, [], HH, hid ⟨rfl, .inl ⟨rfl, rfl⟩⟩, hid (Fr.refl _ _ _), hid (FsI.start s b)⟩
  case round =>
    obtain ⟨q, d, xs, HR, HO, HF, HI⟩ := hrel
    clear HH
    have c0 := HR.out.c0
    have c1 := HR.out.c1
    have hqs : q.size ≤ s.size := by have := HI.out.1.1; omega
    have hxs : xs.length ≤ s.size := by have := HI.out.1.1; omega
    cases d with
    | true =>
      go_wp2
      go_ret
      exact ⟨_, xs, q, true, rfl, HO.out, HR.out, HF.out, HI.out.done (fun h => by cases h)⟩
    | false =>
      have HP := hid (hasPre2_any 32 q (by omega))
      cases hq : qpB 32 q with
      | false =>
        rw [hq] at HP
        go_wp2_with (go_at_call 90; go_must (refine (HP.out _).mono ?_; rintro e w1 ⟨rfl, hw1⟩; rw [hw1]; clear hw1))
        go_ret
        exact ⟨_, xs, q, false, rfl, HO.out, HR.out, HF.out, HI.out.done (fun _ => hq)⟩
      | true =>
        rw [hq] at HP
        have HD := hid (field_any R q false (by omega) wr HR.out (Nat.lt_of_lt_of_le hR HF.out.size))
        have M0 := hid (mQ_no HR.out)
        have HQ := hid hq
        clear hq
        go_wp2_with (first
          | (go_at_call 90; go_must (refine (HP.out _).mono ?_; rintro e w1 ⟨rfl, hw1⟩; rw [hw1]; clear hw1))
          | (go_at_call 59; go_must (refine HD.out.mono ?_; rintro e w2 ⟨t, q2, d2, rfl, hr2, hf2, ht2⟩; have HR2 := hid hr2; have HF2 := hid (HF.out.trans hf2); have HT2 := hid ht2; have OW2 := hid ((ownsRow_frR HO.out hf2 hR).alloc (.cells #[.string t] 9)); clear hr2 hf2 ht2 HO HD))
          | (at_builtin; go_must (refine wpList_append_own _ rfl _ _ 32 rfl w.heap.size 9 i0 (.string ⟨#[]⟩) 1 16 Tryz.underlying32 hi0 hi1 hi2 hi3 rfl (by decide) _ _ _ rfl OW2.out ⟨w2.heap.size, 0, none⟩ 1 1 [.string t] rfl rfl (news_alloc w2 [.string t] 9) (by simp [Value.oneCell']) (by unfold maxLen; omega) (by omega) (by simp; have := HF2.out.size; omega) ?_; intro v6 w6 own6 grow6 _; have HO6 := hid own6; have HG6 := hid grow6; clear own6 grow6)))
        have hsz := HF2.out.size
        have B6 : Below w.heap.size w2 w6 := ((Below.refl w.heap.size w2).alloc hsz _).grown HG6.out (by simp; omega) (fun r e => (OW2.out.lt r e).1)
        have R6 := HR2.out.below B6 hR
        have I6 := FsI.next HI.out HQ.out HT2.out
        go_roundw
        case rel => exact ⟨q2, d2, xs ++ [t], hid R6, hid (by rw [sC_snoc', List.length_append]; exact HO6.out), hid (HF2.out.thenBelow B6), hid I6⟩
        case measure =>
          rw [M0.out]
          have h1 := mQ_le R6
          have h2 := HT2.out.1.2.2 HQ.out
          omega
end Go.Proofs.YtkfbclopkgnacaaGreatDoor
namespace Go.Proofs.YtkfbclopkgnacaaGreatDoor
open Go.RowKit
end Go.Proofs.YtkfbclopkgnacaaGreatDoor
namespace Go.Proofs.YtkfbclopkgnacaaGreatDoor
open Go.RowKit
set_option maxRecDepth 100000 in
set_option maxHeartbeats 400000 in
theorem markText_any (k : Nat) (w : World) (h1 : 1 ≤ (k : Int)) (h2 : (k : Int) ≤ 1099511627776) :
    Calls Tryz.prog 48 #[.int .i64 k] w fun e w' => e = .returned (.string (mt k)) ∧ Below w.heap.size w w' := by
  go_enter Tryz.func48, Tryz.ntmps48
  go_wp2
  go_loopw [0, 3] (fun t o wr => ∃ (j f : Nat) (acc : List UInt8), t = .int .i64 j ∧ o = .string ⟨acc.toArray⟩ ∧ j ≤ f ∧ acc.length + j ≤ k ∧ mtGo f j acc = mtGo k k [] ∧ Below w.heap.size w wr) (fun t _ _ => (intOf t).toNat)
  case atStart => exact ⟨k, k, [], rfl, rfl, Nat.le_refl _, by simp, rfl, Below.refl _ _⟩
  case round =>
    obtain ⟨j, f, acc, rfl, rfl, hjf, hal, hgo, hb⟩ := hrel
    have HG := hid hgo
    clear hgo
    have hsz : ((⟨acc.toArray⟩ : ByteArray).size) = acc.length := by simp [ByteArray.size]
    by_cases hj0 : 0 < (j : Int)
    · have hcv' := mt_conv wr (48 + (j : Int) % 10) (by omega) (by omega)
      go_wp2
      go_roundw
      case rel => exact ⟨j / 10, f - 1, _ :: acc, by go_num, rfl, by omega, by simp; omega, by rw [← HG.out, mtGo_succ f j acc hjf (by omega)], hb.alloc hb.size _⟩
      case measure => simp [intOf]; omega
    · have hj : j = 0 := by omega
      subst hj
      have HG2 : Hid (acc = mtGo k k []) := by have := HG.out; rw [mtGo_zero] at this; exact this
      clear HG
      go_wp2
      go_ret
      refine ⟨?_, hb⟩
      rw [mt, ← HG2.out]
      exact congrArg (fun x => Ending.returned (Value.string x)) rfl
set_option maxRecDepth 100000 in
set_option maxHeartbeats 400000 in
theorem markStrs_any (n : Nat) (s : Nat → ByteArray) (ad : Option Addr) (cap k0 : Nat) (w : World) (lo hi : Nat) (hhi : hi ≤ w.heap.size) (hl : (n : Int) ≤ 1073741824) (hk1 : 1 ≤ (k0 : Int)) (hk2 : (k0 : Int) ≤ 1073741824)
    (hc : StrsOwn w lo hi ad n s) :
    Calls Tryz.prog 49 #[.slice ad n cap, .int .i64 k0] w fun e w' => e = .returned (.int .i64 (k0 + n : Nat)) ∧ StrsOwn w' lo hi ad n (fun i => mt (k0 + i)) ∧ Fr lo hi w w' := by
  go_enter Tryz.func49, Tryz.ntmps49
  go_wp2
  go_loopw [1, 5] (fun t i wr => ∃ k : Nat, k ≤ n ∧ i = .int .i64 k ∧ t = .int .i64 (k0 + k : Nat) ∧ Fr lo hi w wr ∧ StrsOwn wr lo hi ad n (fun i => if i < k then mt (k0 + i) else s i)) (fun _ i _ => n - (intOf i).toNat)
  case atStart => exact ⟨0, Nat.zero_le _, rfl, rfl, Fr.refl _ _ _, by simpa using hc⟩
  case round =>
    obtain ⟨k, hk, rfl, rfl, hfr, hown⟩ := hrel
    clear hc
    by_cases hkn : k < n
    · obtain ⟨b, off, rfl, hlo, hbh, hcx, hfx⟩ := hown k hkn
      go_wp2_with (go_at_call 48; refine (markText_any (k0 + k) _ (by omega) (by omega)).mono ?_; rintro e w1 ⟨rfl, hb1⟩; have hcx1 := (hb1.cell (p := ⟨b, off + k, none⟩) (Nat.lt_of_lt_of_le hbh (Nat.le_trans hhi hfr.size))).trans hcx; have hfx1 := (hb1.frozen (p := ⟨b, off + k, none⟩) (Nat.lt_of_lt_of_le hbh (Nat.le_trans hhi hfr.size))).trans hfx)
      go_roundw
      case rel => exact ⟨k + 1, by omega, by go_num, by go_num, (hfr.trans (Fr.of_below hb1)).setCell hlo hbh _, markStep hown hb1 (Nat.le_trans hhi hfr.size) hkn hcx1⟩
      case measure => simp [intOf]; omega
    · have : k = n := by omega
      subst this
      have HR : Hid (StrsOwn wr lo hi ad k (fun i => mt (k0 + i))) := fun i hi' => by
        have := hown i hi'
        dsimp only at this
        rwa [if_pos hi'] at this
      clear hown
      go_wp2
      go_ret
      exact ⟨rfl, HR.out, hfr⟩
set_option maxRecDepth 100000 in
set_option maxHeartbeats 400000 in
theorem heldStrs_any (n : Nat) (ad : Option Addr) (cap k0 : Nat) (w : World) (lo hi : Nat) (hhi : hi ≤ w.heap.size) (hl : (n : Int) ≤ 1073741824) (hk1 : 1 ≤ (k0 : Int)) (hk2 : (k0 : Int) ≤ 1073741824)
    (hc : StrsOwn w lo hi ad n (fun i => mt (k0 + i))) :
    Calls Tryz.prog 50 #[.slice ad n cap, .int .i64 k0] w fun e w' => e = .returned (.int .i64 (k0 + n : Nat)) ∧ Below w.heap.size w w' := by
  go_enter Tryz.func50, Tryz.ntmps50
  go_wp2
  go_loopw [1, 5] (fun t i wr => ∃ k : Nat, k ≤ n ∧ i = .int .i64 k ∧ t = .int .i64 (k0 + k : Nat) ∧ Below w.heap.size w wr) (fun _ i _ => n - (intOf i).toNat)
  case atStart => exact ⟨0, Nat.zero_le _, rfl, rfl, Below.refl _ _⟩
  case round =>
    obtain ⟨k, hk, rfl, rfl, hb⟩ := hrel
    by_cases hkn : k < n
    · obtain ⟨b, off, rfl, hlo, hbh, hcx, hfx⟩ := hc k hkn
      clear hc hfx
      have hcx1 : wr.cell? ⟨b, off + k, none⟩ = some (.string (mt (k0 + k))) := (hb.cell (p := ⟨b, off + k, none⟩) (by show b < _; omega)).trans hcx
      clear hcx
      go_wp2
      go_region_with (go_at_call 48; refine (markText_any (k0 + k) _ (by omega) (by omega)).mono ?_; rintro e w1 ⟨rfl, hb1⟩; have hcx2 := (hb1.cell (p := ⟨b, off + k, none⟩) (Nat.lt_of_lt_of_le hbh (Nat.le_trans hhi hb.size))).trans hcx1)
      all_goals
        go_wp2
        go_roundw
        case rel => exact ⟨k + 1, by omega, by go_num, by go_num, hb.drew.trans (hb1.mono hb.size)⟩
        case measure => simp [intOf]; omega
    · have : k = n := by omega
      subst this
      clear hc
      go_wp2
      go_ret
      exact ⟨rfl, hb⟩
end Go.Proofs.YtkfbclopkgnacaaGreatDoor
