import Derived.Test.YtcmimbohmninkaaGreatDoorPp
import Derived.WalkMore
namespace Go.Proofs.YtcmimbohmninkaaGreatDoor
open Go.RowKit
theorem OwnB.fr {w w' : World} {base R : Nat} {v : Value} {l : List UInt8} (h : OwnB w base v l) (hf : Fr R (R + 1) w w') (hR : R < base) : OwnB w' base v l := by
  refine ⟨h.1, ?_⟩
  rcases h.2 with h2 | ⟨g, cap, cur, e1, e2, e3, e4⟩
  · exact .inl h2
  · refine .inr ⟨g, cap, cur, e1, e2, ?_, e4⟩
    have hg : g < w.heap.size := by
      rcases Nat.lt_or_ge g w.heap.size with h | h
      · exact h
      · rw [Array.getElem?_eq_none h] at e3; cases e3
    rw [hf.block g hg (by omega), e3]
theorem Fr.thenBelow {w a b : World} {R : Nat} (h : Fr R (R + 1) w a) (k : Below w.heap.size a b) : Fr R (R + 1) w b :=
  ⟨k.os.trans h.os, k.tape.trans h.tape, k.output.trans h.output, Nat.le_trans h.size k.size, fun i hi ho => (k.block i hi).trans (h.block i hi ho)⟩
theorem next1_yes (R : Nat) (s : ByteArray) (k : Nat) (b : Bool) (hs : (s.size : Int) ≤ 1048576) (hk : k < s.size) (w : World) (h : RdAt w R (s.extract k s.size) b) :
    Calls Tryz.prog 74 #[.pointer (some ⟨R, 0, none⟩), .int .i64 1] w fun e w' => e = .returned (.string ⟨#[byteAt s k]⟩) ∧ RdAt w' R (s.extract (k + 1) s.size) b ∧ Fr R (R + 1) w w' := by
  refine (next_any R _ b 1 (by omega) (by rw [ext_sz]; omega) w h).mono ?_
  rintro e w' ⟨rfl, h1, h2⟩
  have hn : ¬ (s.extract k s.size).size < 1 := by rw [ext_sz]; omega
  have e1 : nxS (s.extract k s.size) 1 = ⟨#[byteAt s k]⟩ := by
    rw [show nxS (s.extract k s.size) 1 = (s.extract k s.size).extract 0 1 from if_neg hn]
    refine pa_ext ?_
    have hb := ext_byte s k 0 (by omega)
    have hl : (s.extract k s.size).data.toList.length = s.size - k := by rw [pa_len, ext_sz]
    rw [byteAt_list] at hb
    obtain ⟨x, m, hx⟩ : ∃ x m, (s.extract k s.size).data.toList = x :: m := by
      cases hd : (s.extract k s.size).data.toList with
      | nil => rw [hd] at hl; simp at hl; omega
      | cons x m => exact ⟨x, m, rfl⟩
    rw [hx] at hb
    rw [ByteArray.data_extract, Array.toList_extract, List.extract_eq_take_drop, hx]
    simp at hb ⊢
    exact hb
  have e2 : nxR (s.extract k s.size) 1 = s.extract (k + 1) s.size := by
    rw [show nxR (s.extract k s.size) 1 = (s.extract k s.size).extract 1 (s.extract k s.size).size from if_neg hn, ext_sz]
    rw [ByteArray.extract_extract]
    congr 1
    omega
  have e3 : nxA (s.extract k s.size) b 1 = b := if_neg hn
  rw [e1]
  rw [e2, e3] at h1
  exact ⟨rfl, h1, h2⟩
theorem next1_no (R : Nat) (s : ByteArray) (k : Nat) (b : Bool) (_hs : (s.size : Int) ≤ 1048576) (hk : ¬ k < s.size) (w : World) (h : RdAt w R (s.extract k s.size) b) :
    Calls Tryz.prog 74 #[.pointer (some ⟨R, 0, none⟩), .int .i64 1] w fun e w' => e = .returned (.string ⟨#[]⟩) ∧ RdAt w' R (s.extract k s.size) true ∧ Fr R (R + 1) w w' := by
  refine (next_any R _ b 1 (by omega) (by rw [ext_sz]; omega) w h).mono ?_
  rintro e w' ⟨rfl, h1, h2⟩
  have hn : (s.extract k s.size).size < 1 := by rw [ext_sz]; omega
  rw [show nxR (s.extract k s.size) 1 = s.extract k s.size from if_pos hn, show nxA (s.extract k s.size) b 1 = true from if_pos hn] at h1
  rw [show nxS (s.extract k s.size) 1 = ⟨#[]⟩ from if_pos hn]
  exact ⟨rfl, h1, h2⟩
/-- where the reading of a text in quotes stands, and whether it went amiss -/
def IQ (s : ByteArray) (k : Nat) (l : List UInt8) (d : Bool) : Prop := (∀ te, s ≠ quS te) ∨ (d = false ∧ UqAt s k l)
theorem UqAt.esc3 {s : ByteArray} {k : Nat} {l : List UInt8} (h : UqAt s k l) (hk : byteAt s k = 92) (te : ByteArray) (e : s = quS te) : k + 2 < s.size ∧ 0 ≤ hexZ (byteAt s (k + 1)).toNat ∧ 0 ≤ hexZ (byteAt s (k + 2)).toNat := by
  obtain ⟨j, hj, hk2, hl⟩ := h te e
  subst e hk2
  by_cases hje : j = te.size
  · rw [hje, (quS_end te).1] at hk
    exact absurd hk (by decide)
  · have hj2 : j < te.size := by omega
    cases hp : plainB (byteAt te j) with
    | true =>
      rw [(quS_plain hj2 hp).1] at hk
      exact absurd hk (plain_ne hp).2
    | false =>
      obtain ⟨_, e1, e2, e3, _⟩ := quS_esc hj2 hp
      rw [e1, e2]
      exact ⟨e3, by omega, by omega⟩
theorem UqAt.ends2 {s : ByteArray} {k : Nat} {l : List UInt8} (h : UqAt s k l) (hk : byteAt s k = 34) (te : ByteArray) (e : s = quS te) : k + 1 = s.size := by
  obtain ⟨j, hj, hk2, hl⟩ := h te e
  by_cases hje : j = te.size
  · rw [hk2, hje, e]
    exact (quS_end te).2
  · rw [e, hk2] at hk
    cases hp : plainB (byteAt te j) with
    | true =>
      rw [(quS_plain (by omega) hp).1] at hk
      exact absurd hk (plain_ne hp).1
    | false =>
      rw [(quS_esc (by omega) hp).1] at hk
      exact absurd hk (by decide)
theorem IQ.start {s : ByteArray} (_h : qpB s = true) : IQ s 1 [] false := .inr ⟨rfl, UqAt.start s⟩
theorem qpB_quS (te : ByteArray) : qpB (quS te) = true := by
  have e : (quS te).data.toList = 34 :: (quS te).data.toList.tail := by
    have h2 : ∀ n, ∃ r, qTo te n = 34 :: r := by
      intro n
      induction n with
      | zero => exact ⟨[], rfl⟩
      | succ n ih => obtain ⟨r, hr⟩ := ih; exact ⟨r ++ qB (byteAt te n), by rw [qTo, hr]; rfl⟩
    obtain ⟨r, hr⟩ := h2 te.size
    have : (quS te).data.toList = 34 :: (r ++ [34]) := by
      show (quL te).toArray.toList = _
      unfold quL
      rw [hr]
      simp
    rw [this]
    rfl
  unfold qpB
  have hz : 1 ≤ (quS te).size := by have := qTo_mono te 0 (Nat.zero_le _); omega
  rw [decide_eq_true hz, Bool.true_and, decide_eq_true]
  refine pa_ext ?_
  rw [ByteArray.data_extract, Array.toList_extract, List.extract_eq_take_drop, e]
  simp
theorem IQ.amiss {s : ByteArray} (h : qpB s = false) : ∀ te, s ≠ quS te := by
  intro te e
  rw [e, qpB_quS] at h
  cases h
theorem IQ.over {s : ByteArray} {k : Nat} {l : List UInt8} {d : Bool} (h : IQ s k l d) (hk : ¬ k < s.size) : ∀ te, s ≠ quS te := by
  rcases h with h | ⟨_, h⟩
  · exact h
  · exact fun te e => h.over hk te e
theorem IQ.plain {s : ByteArray} {k : Nat} {l : List UInt8} {d : Bool} (h : IQ s k l d) (hk : byteAt s k ≠ 34) (hx : byteAt s k ≠ 92) : IQ s (k + 1) (l ++ [byteAt s k]) d := by
  rcases h with h | ⟨e, h⟩
  · exact .inl h
  · exact .inr ⟨e, h.plain hk fun x => hx x.1⟩
theorem IQ.esc {s : ByteArray} {k : Nat} {l : List UInt8} {d : Bool} {x : UInt8} (h : IQ s k l false) (hk : byteAt s k = 92) (hz : k + 2 < s.size) (he : Es (s.extract (k + 1) s.size) false x d) : IQ s (k + 3) (l ++ [x]) d := by
  rcases h with h | ⟨_, h⟩
  · exact .inl h
  · by_cases hh : 0 ≤ hexZ (byteAt s (k + 1)).toNat ∧ 0 ≤ hexZ (byteAt s (k + 2)).toNat
    · have b0 := ext_byte s (k + 1) 0 (by omega)
      have b1 := ext_byte s (k + 1) 1 (by omega)
      obtain ⟨h1, h2⟩ := he (by rw [ext_sz]; omega) (by rw [b0]; exact hh.1) (by rw [b1]; exact hh.2)
      rw [b0, b1] at h1
      exact .inr ⟨h2, h.esc hk h1⟩
    · exact .inl fun te e => hh (h.esc3 hk te e).2
theorem IQ.escNo {s : ByteArray} {k : Nat} {l : List UInt8} {d : Bool} (h : IQ s k l d) (hk : byteAt s k = 92) (hz : ¬ k + 2 < s.size) : ∀ te, s ≠ quS te := by
  rcases h with h | ⟨_, h⟩
  · exact h
  · exact fun te e => hz (h.esc3 hk te e).1
theorem nxR_esc (s : ByteArray) (k : Nat) (hz : k + 2 < s.size) : nxR (s.extract (k + 1) s.size) 2 = s.extract (k + 3) s.size := by
  rw [show nxR (s.extract (k + 1) s.size) 2 = (s.extract (k + 1) s.size).extract 2 (s.extract (k + 1) s.size).size from if_neg (by rw [ext_sz]; omega), ext_sz]
  rw [ByteArray.extract_extract]
  congr 1
  omega
theorem nxR_escNo (s : ByteArray) (k : Nat) (hz : ¬ k + 2 < s.size) : nxR (s.extract (k + 1) s.size) 2 = s.extract (k + 1) s.size := if_pos (by rw [ext_sz]; omega)
/-- how much is left to be read -/
def mQ (w : World) (R : Nat) : Nat := match w.cell? ⟨R, 0, none⟩, w.cell? ⟨R, 1, none⟩ with | some (.string s), some (.bool false) => s.size + 1 | _, _ => 0
theorem mQ_no {w : World} {R : Nat} {s : ByteArray} (h : RdAt w R s false) : mQ w R = s.size + 1 := by
  unfold mQ
  rw [h.c0, h.c1]
theorem mQ_le {w : World} {R : Nat} {s : ByteArray} {d : Bool} (h : RdAt w R s d) : mQ w R ≤ s.size + 1 := by
  unfold mQ
  rw [h.c0, h.c1]
  cases d <;> simp
theorem mQ_yes {w : World} {R : Nat} {s : ByteArray} (h : RdAt w R s true) : mQ w R = 0 := by
  unfold mQ
  rw [h.c0, h.c1]
set_option maxRecDepth 100000 in
set_option maxHeartbeats 4000000 in
theorem inQuotes_any (R : Nat) (s : ByteArray) (hs : (s.size : Int) ≤ 1048576) (e8 : Value) (w : World) (h : RdAt w R s false) (hR : R < w.heap.size) (h8 : w.cell? ⟨8, 0, none⟩ = some e8) (v8 : ErrV e8) (hR8 : R ≠ 8) (hz : 8 < w.heap.size) :
    Calls Tryz.prog 61 #[.pointer (some ⟨R, 0, none⟩)] w fun e w' => ∃ (r q : ByteArray) (d : Bool), e = .returned (.string r) ∧ RdAt w' R q d ∧ Fr R (R + 1) w w' ∧ r.size ≤ s.size ∧ (∀ te, s = quS te → r = te ∧ d = false ∧ q = ⟨#[]⟩) := by
  obtain ⟨i0, hi0, hz0, hz1, hz2⟩ := info_parts Tryz.info5
  have HT := hid (takeQuote_any R s hs w h)
  have HS : Hid (∃ k l, k ≤ s.size ∧ l.length ≤ k ∧ l = [] ∧ qpR s = s.extract k s.size ∧ IQ s k l (!qpB s)) := by
    refine hid ?_
    cases hq : qpB s with
    | true => exact ⟨1, [], qpB_size hq, by simp, rfl, if_pos hq, IQ.start hq⟩
    | false => exact ⟨0, [], by omega, by simp, rfl, by rw [show qpR s = s from if_neg (by rw [hq]; decide)]; exact (pa_ext (by simp)).symm, .inl (IQ.amiss hq)⟩
  obtain ⟨d0, hd0⟩ : ∃ d0, d0 = !qpB s := ⟨_, rfl⟩
  obtain ⟨q0, hq0⟩ : ∃ q0, q0 = qpR s := ⟨_, rfl⟩
  rw [← hd0] at HT HS
  rw [← hq0] at HT HS
  clear hd0 hq0 h
  have H8 : Hid (∀ W, Fr R (R + 1) w W → W.cell? ⟨8, 0, none⟩ = some e8 ∧ 8 < W.heap.size ∧ R < W.heap.size) := hid fun W f => ⟨(f.cell (p := ⟨8, 0, none⟩) hz (by show 8 < R ∨ R + 1 ≤ 8; omega)).trans h8, Nat.lt_of_lt_of_le hz f.size, Nat.lt_of_lt_of_le hR f.size⟩
  have HV := hid v8
  clear h8 v8
  go_enter Tryz.func61, Tryz.ntmps61
  go_wp2
  go_step3
  go_wp2_with (go_at_call 73; go_must (refine HT.out.mono ?_; rintro e w1 ⟨rfl, hr1, hf1⟩; have HR1 := hid hr1; have HF1 := hid hf1; clear hr1 hf1 HT))
  go_step3
  go_wp2
  go_loopw [3] (fun v wr => ∃ (k : Nat) (l : List UInt8) (d : Bool), k ≤ s.size ∧ l.length ≤ k ∧ Hid (RdAt wr R (s.extract k s.size) d) ∧ Hid (OwnB wr w.heap.size v l) ∧ Hid (Fr R (R + 1) w wr) ∧ Hid (IQ s k l d)) (fun _ wr => mQ wr R)
  case atStart =>
    obtain ⟨k, l, h1, h2, rfl, h4, h5⟩ := HS.out
    exact ⟨k, [], d0, h1, h2, hid (by rw [← h4]; exact HR1.out), hid ⟨rfl, .inl ⟨rfl, rfl⟩⟩, HF1, hid h5⟩
  case round =>
    obtain ⟨k, l, d, hk, hll, HR, HO, HF, HI⟩ := hrel
    clear HS HR1 HF1
    have c1 := HR.out.c1
    cases d with
    | true =>
      have hcv := HO.out.conv0
      clear HO
      go_wp2
      simp only [Exit.noGoto]
      go_ret
      refine ⟨_, _, true, rfl, HR.out, HF.out, by rw [ba_len]; omega, fun te e => ?_⟩
      rcases HI.out with h | ⟨h, _⟩
      · exact absurd e (h te)
      · cases h
    | false =>
      by_cases hks : k < s.size
      · have HN := hid (next1_yes R s k false hs hks wr HR.out)
        have M0 := hid (mQ_no HR.out)
        clear HR
        by_cases h34 : byteAt s k = 34
        · have HE := hid (fun te e => (show (⟨l.toArray⟩ : ByteArray) = te ∧ k + 1 = s.size by
            rcases HI.out with h | ⟨_, h⟩
            · exact absurd e (h te)
            · exact ⟨h.ends h34 te e, h.ends2 h34 te e⟩))
          rw [h34] at HN
          clear HI h34
          go_wp2_with (go_at_call 74; go_must (refine HN.out.mono ?_; rintro e w1 ⟨rfl, hr1, hf1⟩; have HR1 := hid hr1; have HF1 := hid (HF.out.trans hf1); have hcv := (HO.out.fr hf1 hR).conv0; clear hr1 hf1 HN HO HF))
          simp only [Exit.noGoto]
          go_ret
          refine ⟨_, _, false, rfl, HR1.out, HF1.out, by rw [ba_len]; omega, fun te e => ?_⟩
          obtain ⟨e1, e2⟩ := HE.out te e
          refine ⟨e1, rfl, ?_⟩
          rw [e2]
          exact pa_ext (by simp)
        · by_cases h92 : byteAt s k = 92
          · by_cases h2 : k + 2 < s.size
            · have HI2 : Hid (∀ x d, Es (s.extract (k + 1) s.size) false x d → IQ s (k + 3) (l ++ [x]) d) := hid fun x d he => HI.out.esc h92 h2 he
              have HX := hid (nxR_esc s k h2)
              rw [h92] at HN
              clear HI h34 h92
              go_wp2_with (first
                | (go_at_call 74; go_must (refine HN.out.mono ?_; rintro e w1 ⟨rfl, hr1, hf1⟩; have HR1 := hid hr1; have HF1 := hid (HF.out.trans hf1); have HO1 := hid (HO.out.fr hf1 hR); clear hr1 hf1 HN HO HF))
                | (go_at_call 75; go_must (refine (escaped_any R (s.extract (k + 1) s.size) false (by rw [ext_sz]; omega) e8 _ HR1.out (H8.out _ HF1.out).2.2 (H8.out _ HF1.out).1 HV.out hR8 (H8.out _ HF1.out).2.1).mono ?_; rintro e w2 ⟨x, d2, rfl, hr2, hf2, he2⟩; have HR2 := hid hr2; have HF2 := hid (HF1.out.trans hf2); have HO2 := hid ((HO1.out.fr hf2 hR).alloc (.cells #[.int .u8 (x.toNat : Int)] 5)); have HE2 := hid he2; clear hr2 hf2 he2 HR1 HF1 HO1))
                | (at_builtin; go_must (refine wpList_append_own _ rfl _ _ 48 rfl w.heap.size 5 i0 (.int .u8 0) 1 1 Tryz.underlying48 hi0 hz0 hz1 hz2 rfl (by decide) _ _ _ rfl HO2.out ⟨w2.heap.size, 0, none⟩ 1 1 (Lib.byteCells [x]) rfl rfl (news_alloc w2 _ 5) (by simp [Lib.byteCells, Value.oneCell']) (by unfold maxLen; omega) (by omega) (by have := HF2.out.size; simp; omega) ?_; intro v3 w3 hown3 hgrow3 _)))
              have B3 := below_app ((Below.refl w.heap.size w2).alloc HF2.out.size _) (Nat.le_refl _) (by have := HF2.out.size; simp; omega) HO2.out hgrow3
              have O3 : OwnB w3 w.heap.size v3 (l ++ [x]) := OwnB.app hown3
              have R3 := HR2.out.below B3 hR
              rw [HX.out] at R3
              go_roundw
              case rel => exact ⟨k + 3, l ++ [x], d2, by omega, by simp; omega, hid R3, hid O3, hid (HF2.out.thenBelow B3), hid (HI2.out x d2 HE2.out)⟩
              case measure =>
                rw [M0.out]
                have := mQ_le R3
                rw [ext_sz] at this ⊢
                omega
            · have HI2 := hid (HI.out.escNo h92 h2)
              have HX := hid (nxR_escNo s k h2)
              rw [h92] at HN
              clear HI h34 h92
              go_wp2_with (first
                | (go_at_call 74; go_must (refine HN.out.mono ?_; rintro e w1 ⟨rfl, hr1, hf1⟩; have HR1 := hid hr1; have HF1 := hid (HF.out.trans hf1); have HO1 := hid (HO.out.fr hf1 hR); clear hr1 hf1 HN HO HF))
                | (go_at_call 75; go_must (refine (escaped_any R (s.extract (k + 1) s.size) false (by rw [ext_sz]; omega) e8 _ HR1.out (H8.out _ HF1.out).2.2 (H8.out _ HF1.out).1 HV.out hR8 (H8.out _ HF1.out).2.1).mono ?_; rintro e w2 ⟨x, d2, rfl, hr2, hf2, he2⟩; have HR2 := hid hr2; have HF2 := hid (HF1.out.trans hf2); have HO2 := hid ((HO1.out.fr hf2 hR).alloc (.cells #[.int .u8 (x.toNat : Int)] 5)); clear hr2 hf2 he2 HR1 HF1 HO1))
                | (at_builtin; go_must (refine wpList_append_own _ rfl _ _ 48 rfl w.heap.size 5 i0 (.int .u8 0) 1 1 Tryz.underlying48 hi0 hz0 hz1 hz2 rfl (by decide) _ _ _ rfl HO2.out ⟨w2.heap.size, 0, none⟩ 1 1 (Lib.byteCells [x]) rfl rfl (news_alloc w2 _ 5) (by simp [Lib.byteCells, Value.oneCell']) (by unfold maxLen; omega) (by omega) (by have := HF2.out.size; simp; omega) ?_; intro v3 w3 hown3 hgrow3 _)))
              have B3 := below_app ((Below.refl w.heap.size w2).alloc HF2.out.size _) (Nat.le_refl _) (by have := HF2.out.size; simp; omega) HO2.out hgrow3
              have O3 : OwnB w3 w.heap.size v3 (l ++ [x]) := OwnB.app hown3
              have R3 := HR2.out.below B3 hR
              rw [HX.out] at R3
              go_roundw
              case rel => exact ⟨k + 1, l ++ [x], d2, by omega, by simp; omega, hid R3, hid O3, hid (HF2.out.thenBelow B3), hid (.inl HI2.out)⟩
              case measure =>
                rw [M0.out]
                have := mQ_le R3
                rw [ext_sz] at this ⊢
                omega
          · have HI2 := hid (HI.out.plain h34 h92)
            obtain ⟨bb, hbb⟩ : ∃ bb, bb = byteAt s k := ⟨_, rfl⟩
            rw [← hbb] at HN HI2 h34 h92
            obtain ⟨c, hc⟩ : ∃ c : ByteArray, c = ⟨#[bb]⟩ := ⟨_, rfl⟩
            rw [← hc] at HN
            have n34 : (c.toList == [34]) = false := by
              have := toListNe (a := c) (b := ⟨#[34]⟩) (fun e => h34 (by rw [hc] at e; injection e with e; simpa using e))
              simpa using this
            have n92 : (c.toList == [92]) = false := by
              have := toListNe (a := c) (b := ⟨#[92]⟩) (fun e => h92 (by rw [hc] at e; injection e with e; simpa using e))
              simpa using this
            have cz : c.size = 1 := by rw [hc]; rfl
            have HC := hid (show Lib.strCells c = Lib.byteCells [bb] by rw [hc]; rfl)
            clear hc hbb HI h34 h92
            go_wp2_with (first
              | (go_at_call 74; go_must (refine HN.out.mono ?_; rintro e w1 ⟨rfl, hr1, hf1⟩; have HR1 := hid hr1; have HF1 := hid (HF.out.trans hf1); have HO1 := hid (HO.out.fr hf1 hR); clear hr1 hf1 HN HO HF))
              | (at_builtin; go_must (refine Lib.wpList_append_own_string _ rfl _ _ 48 9 rfl w.heap.size 5 i0 Tryz.underlying48 Tryz.underlying9 hi0 hz0 hz1 hz2 _ _ _ rfl HO1.out c rfl (by unfold maxLen; omega) (by omega) (by have := HF1.out.size; omega) ?_; intro v3 w3 hown3 hgrow3 _)))
            have B3 := below_app (Below.refl w.heap.size w1) (Nat.le_refl _) HF1.out.size HO1.out hgrow3
            rw [HC.out, cz] at hown3
            have O3 : OwnB w3 w.heap.size v3 (l ++ [bb]) := OwnB.app hown3
            have R3 := HR1.out.below B3 hR
            go_roundw
            case rel => exact ⟨k + 1, l ++ [bb], false, by omega, by simp; omega, hid R3, hid O3, hid (HF1.out.thenBelow B3), HI2⟩
            case measure =>
              rw [M0.out]
              have := mQ_le R3
              rw [ext_sz] at this ⊢
              omega
      · have HN := hid (next1_no R s k false hs hks wr HR.out)
        have M0 := hid (mQ_no HR.out)
        have HI2 := hid (HI.out.over hks)
        clear HR HI
        go_wp2_with (first
          | (go_at_call 74; go_must (refine HN.out.mono ?_; rintro e w1 ⟨rfl, hr1, hf1⟩; have HR1 := hid hr1; have HF1 := hid (HF.out.trans hf1); have HO1 := hid (HO.out.fr hf1 hR); clear hr1 hf1 HN HO HF))
          | (at_builtin; go_must (refine Lib.wpList_append_own_string _ rfl _ _ 48 9 rfl w.heap.size 5 i0 Tryz.underlying48 Tryz.underlying9 hi0 hz0 hz1 hz2 _ _ _ rfl HO1.out ⟨#[]⟩ rfl (by unfold maxLen; show l.length + 0 ≤ _; omega) (by show l.length + 0 ≤ _; omega) (by have := HF1.out.size; omega) ?_; intro v3 w3 hown3 hgrow3 _)))
        have B3 := below_app (Below.refl w.heap.size w1) (Nat.le_refl _) HF1.out.size HO1.out hgrow3
        have O3 : OwnB w3 w.heap.size v3 l := by
          have e : Lib.byteCells l ++ Lib.strCells ⟨#[]⟩ = Lib.byteCells l := List.append_nil _
          rw [e] at hown3
          exact hown3
        have R3 := HR1.out.below B3 hR
        go_roundw
        case rel => exact ⟨k, l, true, by omega, by omega, hid R3, hid O3, hid (HF1.out.thenBelow B3), hid (.inl HI2.out)⟩
        case measure =>
          rw [M0.out, mQ_yes R3]
          omega
end Go.Proofs.YtcmimbohmninkaaGreatDoor
