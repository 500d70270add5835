import Derived.Test.YtkfbclopkgnacaaGreatDoorPl
import Derived.Test.YtkfbclopkgnacaaGreatDoorPn
import Derived.Shelf.Strconv.ParseUintEmpty
import Derived.Shelf.Strconv.ToError
import Derived.Lib.AppendStr
import Derived.Test.YtkfbclopkgnacaaGreatDoorPb
import Derived.Test.YtkfbclopkgnacaaGreatDoorPa
namespace Go.Proofs.YtkfbclopkgnacaaGreatDoor
open Go.Shelf Go.RowKit
theorem parse16_two (t : ByteArray) (h : t.size = 2) (w : World) :
    Calls Tryz.prog 136 #[.string t, .int .i64 16, .int .i64 8] w fun e w' => PuR (byteAt t 0).toNat (byteAt t 1).toNat 5 133 t w e w' := by
  refine (parse16_in (P := Tryz.prog) (ρ := Tryz.laysC172_ren) { Tryz.laysC172 with } t h w).mono ?_
  intro e w' hr
  have e0 : t.data.toList.getD 0 0 = byteAt t 0 := by rw [byteAt_list]; simp [List.getD]
  have e1 : t.data.toList.getD 1 0 = byteAt t 1 := by rw [byteAt_list]; simp [List.getD]
  rw [e0, e1] at hr
  exact hr
theorem parse16_none (w : World) :
    Calls Tryz.prog 136 #[.string ⟨#[]⟩, .int .i64 16, .int .i64 8] w fun e w' => e = .returned (.tuple #[.int .u64 0, .iface 133 (.int .i64 2)]) ∧ w' = w :=
  Any.internal_strconv_ParseUint_empty (P := Tryz.prog) (ρ := Tryz.laysC172_ren) { Tryz.laysC172 with } 16 8 w
theorem toError_syn (s : ByteArray) (hs : (s.size : Int) ≤ 1048576) (ev : Value) (w : World) (hv : w.cell? ⟨1, 0, none⟩ = some ev) (hev : ErrV ev) :
    Calls Tryz.prog 88 #[.string ⟨#[80, 97, 114, 115, 101, 85, 105, 110, 116]⟩, .string s, .int .i64 16, .int .i64 8, .iface 133 (.int .i64 2)] w fun e w' => ∃ t p, e = .returned (.iface t p) ∧ Below w.heap.size w w' := by
  refine (Any.strconv_toError_syntax (P := Tryz.prog) (ρ := Tryz.laysC172_ren) { Tryz.laysC172 with } ⟨#[80, 97, 114, 115, 101, 85, 105, 110, 116]⟩ s 16 8 ev w (by omega) hv hev).mono ?_
  rintro e w' ⟨n, rfl, _, _, hb⟩
  exact ⟨_, _, rfl, hb⟩
/-- what two digits, or none, come to -/
def P16 (t : ByteArray) (n : Int) (v : Value) : Prop :=
  0 ≤ n ∧ n ≤ 255 ∧ ErrV v ∧ (t.size = 2 → 0 ≤ hexZ (byteAt t 0).toNat → 0 ≤ hexZ (byteAt t 1).toNat → v = .nilIface ∧ n = 16 * hexZ (byteAt t 0).toNat + hexZ (byteAt t 1).toNat)
theorem parse16_any (t : ByteArray) (ht : t.size = 2 ∨ t = ⟨#[]⟩) (w : World) :
    Calls Tryz.prog 136 #[.string t, .int .i64 16, .int .i64 8] w fun e w' => ∃ n v, e = .returned (.tuple #[.int .u64 n, v]) ∧ (v = .nilIface ∨ v = .iface 133 (.int .i64 2)) ∧ P16 t n v ∧ Below w.heap.size w w' := by
  rcases ht with h | rfl
  · refine (parse16_two t h w).mono ?_
    rintro e w' ⟨n, v, rfl, h0, h1, hv, hx, rfl⟩
    refine ⟨n, v, rfl, hv, ⟨h0, h1, ?_, fun _ => hx⟩, Lib.bytesWorld_below _ _ _⟩
    rcases hv with rfl | rfl
    · exact .inl rfl
    · exact .inr ⟨_, _, rfl⟩
  · refine (parse16_none w).mono ?_
    rintro e w' ⟨rfl, rfl⟩
    exact ⟨0, _, rfl, .inr rfl, ⟨by omega, by omega, .inr ⟨_, _, rfl⟩, fun h => absurd h (by decide)⟩, Below.refl _ _⟩
theorem P16.err {t : ByteArray} {n : Int} {v v2 : Value} (h : P16 t n v) (hv : v = .iface 133 (.int .i64 2)) (h2 : ErrV v2) : P16 t n v2 :=
  ⟨h.1, h.2.1, h2, fun a b c => absurd (hv.symm.trans (h.2.2.2 a b c).1) (by intro e; cases e)⟩
set_option maxRecDepth 100000 in
set_option maxHeartbeats 2000000 in
theorem parseUint_any (t : ByteArray) (ht : t.size = 2 ∨ t = ⟨#[]⟩) (e8 : Value) (w : World) (h8 : w.cell? ⟨1, 0, none⟩ = some e8) (v8 : ErrV e8) (hz : 1 < w.heap.size) :
    Calls Tryz.prog 138 #[.string t, .int .i64 16, .int .i64 8] w fun e w' => ∃ n v, e = .returned (.tuple #[.int .u64 n, v]) ∧ P16 t n v ∧ Below w.heap.size w w' := by
  have HA := hid (parse16_any t ht)
  have HT := hid (fun W k8 => toError_syn t (by rcases ht with h | rfl; omega; decide) e8 W k8 v8)
  clear ht v8
  go_enter Tryz.func138, Tryz.ntmps138
  go_wp2_with (go_at_call 136; go_must (refine (HA.out _).mono ?_; rintro e w1 ⟨n, v, rfl, hv, hp, hb⟩; have HP := hid hp; have HB := hid hb; have HK := hid ((hb.cell (p := ⟨1, 0, none⟩) hz).trans h8); clear hp hb h8; rcases hv with rfl | rfl))
  · go_wp2
    go_ret2
    exact ⟨n, _, rfl, HP.out, HB.out⟩
  · go_wp2_with (go_at_call 88; go_must (refine (HT.out _ HK.out).mono ?_; rintro e w2 ⟨t2, p2, rfl, hb2⟩; have HB2 := hid hb2; clear hb2))
    go_ret2
    exact ⟨n, _, rfl, HP.out.err rfl (.inr ⟨_, _, rfl⟩), HB.out.trans (HB2.out.mono HB.out.size)⟩
end Go.Proofs.YtkfbclopkgnacaaGreatDoor
namespace Go.Proofs.YtkfbclopkgnacaaGreatDoor
open Go.RowKit
theorem ext_byte0 (r : ByteArray) (_h : 2 ≤ r.size) : byteAt (r.extract 0 2) 0 = byteAt r 0 ∧ byteAt (r.extract 0 2) 1 = byteAt r 1 := by
  constructor <;> (rw [byteAt_list, byteAt_list]; simp [ByteArray.data_extract])
theorem ext_byte (s : ByteArray) (k i : Nat) (h : k + i < s.size) : byteAt (s.extract k s.size) i = byteAt s (k + i) := by
  rw [byteAt_list, byteAt_list]
  simp only [ByteArray.data_extract, Array.toList_extract, List.extract_eq_take_drop, List.getElem?_drop, List.getElem?_take]
  rw [if_pos (by omega)]
theorem ext_sz (s : ByteArray) (k : Nat) : (s.extract k s.size).size = s.size - k := by
  rw [ByteArray.size_extract]
  omega
theorem nxS_two (r : ByteArray) : (nxS r 2).size = 2 ∨ nxS r 2 = ⟨#[]⟩ := by
  unfold nxS
  by_cases h : r.size < 2
  · rw [if_pos h]; exact .inr rfl
  · rw [if_neg h]
    left
    rw [ByteArray.size_extract]
    omega
/-- what two digits that come next tell -/
def Es (r : ByteArray) (b : Bool) (x : UInt8) (d : Bool) : Prop :=
  2 ≤ r.size → 0 ≤ hexZ (byteAt r 0).toNat → 0 ≤ hexZ (byteAt r 1).toNat → 16 * hexZ (byteAt r 0).toNat + hexZ (byteAt r 1).toNat = (x.toNat : Int) ∧ d = b
theorem RdAt.below {w w' : World} {R : Nat} {s : ByteArray} {b : Bool} (h : RdAt w R s b) {B : Nat} (hb : Below B w w') (hR : R < B) : RdAt w' R s b :=
  ⟨(hb.cell (p := ⟨R, 0, none⟩) hR).trans h.c0, (hb.cell (p := ⟨R, 1, none⟩) hR).trans h.c1, (hb.frozen (p := ⟨R, 0, none⟩) hR).trans h.f0, (hb.frozen (p := ⟨R, 1, none⟩) hR).trans h.f1⟩
theorem es_of {r : ByteArray} {b : Bool} {n : Int} {v : Value} {x : UInt8} (hp : P16 (nxS r 2) n v) (hx : n = (x.toNat : Int)) (d : Bool) (hd : v = .nilIface → ¬ r.size < 2 → d = b) : Es r b x d := by
  intro h2 h0 h1
  have hn : ¬ r.size < 2 := by omega
  have e : nxS r 2 = r.extract 0 2 := if_neg hn
  have hz : (nxS r 2).size = 2 := by rw [e, ByteArray.size_extract]; omega
  obtain ⟨e0, e1⟩ := ext_byte0 r h2
  rw [← e] at e0 e1
  obtain ⟨hv, hnn⟩ := hp.2.2.2 hz (by rw [e0]; exact h0) (by rw [e1]; exact h1)
  rw [e0, e1] at hnn
  exact ⟨by rw [← hx, hnn], hd hv hn⟩
set_option maxRecDepth 100000 in
set_option maxHeartbeats 2000000 in
theorem escaped_any (R : Nat) (r : ByteArray) (b : Bool) (hr : (r.size : Int) ≤ 1048576) (e8 : Value) (w : World) (h : RdAt w R r b) (hR : R < w.heap.size) (h8 : w.cell? ⟨1, 0, none⟩ = some e8) (v8 : ErrV e8) (hR8 : R ≠ 1) (hz : 1 < w.heap.size) :
    Calls Tryz.prog 121 #[.pointer (some ⟨R, 0, none⟩)] w fun e w' => ∃ (x : UInt8) (d : Bool), e = .returned (.int .u8 (x.toNat : Int)) ∧ RdAt w' R (nxR r 2) d ∧ Fr R (R + 1) w w' ∧ Es r b x d := by
  have HN := hid (next_any R r b 2 (by omega) hr w h)
  have HP := hid (fun W k8 kz => parseUint_any (nxS r 2) (nxS_two r) e8 W k8 v8 kz)
  have HA : Hid (∀ d, d = nxA r b 2 → ¬ r.size < 2 → d = b) := hid fun d e hn => e.trans (if_neg hn)
  have HES : Hid (∀ n v (x : UInt8) d, P16 (nxS r 2) n v → n = (x.toNat : Int) → (v = .nilIface → ¬ r.size < 2 → d = b) → Es r b x d) := hid fun n v x d hp hx hd => es_of hp hx d hd
  obtain ⟨a, ha⟩ : ∃ a, a = nxA r b 2 := ⟨_, rfl⟩
  obtain ⟨q, hq⟩ : ∃ q, q = nxR r 2 := ⟨_, rfl⟩
  obtain ⟨c, hc⟩ : ∃ c, c = nxS r 2 := ⟨_, rfl⟩
  rw [← ha] at HN HA
  rw [← hq] at HN ⊢
  rw [← hc] at HN HP HES
  clear hq hc ha h
  go_enter Tryz.func121, Tryz.ntmps121
  go_wp2_with (first
    | (go_at_call 57; go_must (refine HN.out.mono ?_; rintro e w1 ⟨rfl, hr1, hf1⟩; have HR1 := hid hr1; have HF1 := hid hf1; have HK8 := hid ((hf1.cell (p := ⟨1, 0, none⟩) hz (by show 1 < R ∨ R + 1 ≤ 1; omega)).trans h8); have HZ8 := hid (Nat.lt_of_lt_of_le hz hf1.size); have HZR := hid (Nat.lt_of_lt_of_le hR hf1.size); clear hr1 hf1 h8 HN))
    | (go_at_call 138; go_must (refine (HP.out _ HK8.out HZ8.out).mono ?_; rintro e w2 ⟨n, v, rfl, hp, hb⟩; have HP2 := hid hp; have HR2 := hid (HR1.out.below hb HZR.out); have HF2 := hid (HF1.out.trans (Fr.of_below hb)); obtain ⟨x, hx⟩ : ∃ x : UInt8, n = (x.toNat : Int) := ⟨UInt8.ofNat n.toNat, by rw [UInt8.toNat_ofNat']; have := hp.1; have := hp.2.1; omega⟩; have HX := hid (HES.out n v x · hp hx); have hv := hp.2.2.1; clear hp hb HP HR1 HF1 HK8 HZ8 HZR HES; subst hx; have hx8 := UInt8.toNat_lt x; have g0 := HR2.out.c1; have g1 := HR2.out.f1; rcases hv with rfl | ⟨t, p, rfl⟩ <;> cases a)))
  all_goals go_ret
  · exact ⟨x, false, rfl, HR2.out.amiss _, HF2.out.setCell (p := ⟨R, 1, none⟩) (Nat.le_refl _) (Nat.lt_succ_self _) _, HX.out _ fun _ => HA.out _ rfl⟩
  · exact ⟨x, true, rfl, HR2.out.amiss _, HF2.out.setCell (p := ⟨R, 1, none⟩) (Nat.le_refl _) (Nat.lt_succ_self _) _, HX.out _ fun _ => HA.out _ rfl⟩
  · exact ⟨x, true, rfl, HR2.out.amiss _, HF2.out.setCell (p := ⟨R, 1, none⟩) (Nat.le_refl _) (Nat.lt_succ_self _) _, HX.out _ fun h => by cases h⟩
  · exact ⟨x, true, rfl, HR2.out.amiss _, HF2.out.setCell (p := ⟨R, 1, none⟩) (Nat.le_refl _) (Nat.lt_succ_self _) _, HX.out _ fun h => by cases h⟩
end Go.Proofs.YtkfbclopkgnacaaGreatDoor
namespace Go.Proofs.YtkfbclopkgnacaaGreatDoor
open Go.RowKit
theorem sC_snoc' (l : List ByteArray) (s : ByteArray) : sC (l ++ [s]) = sC l ++ [.string s] := by simp [sC]
theorem str_val {a b : ByteArray} (h : a = b) : Value.string a = Value.string b := by rw [h]
set_option maxRecDepth 100000 in
set_option maxHeartbeats 4000000 in
theorem words_any (s0 : ByteArray) (hs0 : (s0.size : Int) ≤ 1048576) (w : World) :
    Calls Tryz.prog 10 #[.string s0, .int .i64 7] w fun e w' => ∃ g cap, e = .returned (.tuple #[.slice (some ⟨g, 0, none⟩) 7 cap, .string (rN s0 7)]) ∧ (∀ j, j < 7 → w'.cell? ⟨g, j, none⟩ = some (.string (wH (rN s0 j)))) ∧ g < w'.heap.size ∧ Below w.heap.size w w' := by
  obtain ⟨i0, hi0, hi1, hi2, hi3⟩ := info_parts Tryz.info9
  have OW0 := hid (World.ownsRow_made (base := w.heap.size) (e := 9) (size := 1) w #[] 0 (Nat.le_refl _) (by unfold maxLen; omega) rfl)
  go_enter Tryz.func10, Tryz.ntmps10
  go_wp2
  go_loopw [0, 6, 7] (fun sv v i wr => ∃ k : Nat, k ≤ 7 ∧ sv = .string (rN s0 k) ∧ i = .int .i64 k ∧ Below w.heap.size w wr ∧ wr.ownsRow w.heap.size 9 1 v k (sC ((List.range k).map fun j => wH (rN s0 j)))) (fun _ _ i _ => 7 - (intOf i).toNat)
  case atStart => exact ⟨0, Nat.zero_le _, rfl, rfl, below_alloc _ _, OW0.out⟩
  case round =>
    obtain ⟨k, hk, rfl, rfl, hb, own⟩ := hrel
    have OWN := hid own
    clear own
    by_cases hk7 : k < 7
    · have hsz : ((rN s0 k).size : Int) ≤ 1048576 := by have := rN_size s0 k; omega
      have HRN := hid (show rN s0 (k + 1) = wR (rN s0 k) from rfl)
      generalize hsk : rN s0 k = s at *
      have HSK := hid hsk
      clear hsk
      go_wp2
      go_loop [8] (fun n => ∃ m : Nat, m ≤ s.size ∧ n = .int .i64 m ∧ Hid (∀ j, j < m → byteAt s j ≠ 32)) (fun n => s.size - (intOf n).toNat)
      case atStart => exact ⟨0, Nat.zero_le _, rfl, hid (fun j hj => absurd hj (Nat.not_lt_zero _))⟩
      case round =>
        obtain ⟨m, hm, rfl, HA⟩ := hrel
        by_cases hms : m < s.size
        · have HB := hid (byteAt_eq s m hms)
          by_cases h32 : s[m] = 32
          · have hend : IsEnd s m := ⟨hm, HA.out, fun _ => by rw [HB.out]; exact h32⟩
            have HWE := hid (wE_eq hend)
            have HH := hid (show wH (rN s0 k) = s.extract 0 m by rw [HSK.out]; unfold wH; rw [HWE.out])
            have RNX := hid (show Value.string (s.extract (m + 1) s.size) = Value.string (rN s0 (k + 1)) from str_val (by rw [HRN.out]; unfold wR wS; rw [HWE.out, if_pos hms]))
            have hb32 : (s[m].toNat : Int) = 32 := by rw [h32]; rfl
            have h32b : ((s[m].toNat : Int) == 32) = true := by simp [hb32]
            clear hend
            have own5 := OWN.out.alloc (.cells #[.string (s.extract 0 m)] 9)
            have NW := news_alloc wr [.string (s.extract 0 m)] 9
            go_wp2_with ((with_reducible show wpList _ _ _ (⟨some 32, _, _, _, _, _⟩ :: _) _ _); go_must (refine wpList_append_own_at _ rfl _ _ 32 rfl w.heap.size 9 i0 _ 1 16 Tryz.underlying32 hi0 hi1 hi2 hi3 rfl (by decide) _ k _ rfl own5 ⟨wr.heap.size, 0, none⟩ 1 1 [.string (s.extract 0 m)] rfl rfl NW (by simp [Value.oneCell']) (by unfold maxLen; omega) (by omega) (by simp; have := hb.size; omega) ?_; intro v6 w6 own6 grow6 nil6 at6; have HO6 := hid own6; have HG6 := hid grow6; clear own6 grow6 nil6 at6 own5 NW))
            go_roundw
            case rel =>
              refine ⟨k + 1, by omega, RNX.out, by go_num, (hb.alloc hb.size _).grown HG6.out (by simp; have := hb.size; omega) (fun r e => (OWN.out.lt r e).1), ?_⟩
              rw [List.range_succ, List.map_append, List.map_cons, List.map_nil, sC_snoc', HH.out]
              exact HO6.out
            case measure => simp [intOf]; omega
          · have HN := hid (show ∀ j, j < m + 1 → byteAt s j ≠ 32 from fun j hj => by
              by_cases e : j = m
              · rw [e, HB.out]; exact h32
              · exact HA.out j (by omega))
            have hb32 : ¬ ((s[m].toNat : Int) = 32) := fun e => h32 (by
              have e2 : s[m].toNat = 32 := by omega
              exact UInt8.toNat_inj.1 e2)
            have h32b : ((s[m].toNat : Int) == 32) = false := by simpa using hb32
            go_wp2
            go_round
            case rel => exact ⟨m + 1, by omega, by go_num, HN⟩
            case measure => simp [intOf]; omega
        · obtain rfl : m = s.size := by omega
          have hend : IsEnd s s.size := ⟨hm, HA.out, fun h => absurd h (Nat.lt_irrefl _)⟩
          have HWE := hid (wE_eq hend)
          have HH := hid (show wH (rN s0 k) = s by
            rw [HSK.out]; unfold wH; rw [HWE.out]
            refine pa_ext ?_
            rw [pa_extract, List.drop_zero, List.take_of_length_le (by rw [pa_len]; omega)])
          have RNX := hid (show Value.string ByteArray.empty = Value.string (rN s0 (k + 1)) from str_val (by
            rw [HRN.out]; unfold wR wS; rw [HWE.out, if_neg (Nat.lt_irrefl _)]
            refine pa_ext ?_
            rw [pa_extract, Nat.sub_self, List.take_zero]
            rfl))
          clear hend
          have own5 := OWN.out.alloc (.cells #[.string s] 9)
          have NW := news_alloc wr [.string s] 9
          go_wp2_with ((with_reducible show wpList _ _ _ (⟨some 32, _, _, _, _, _⟩ :: _) _ _); go_must (refine wpList_append_own_at _ rfl _ _ 32 rfl w.heap.size 9 i0 _ 1 16 Tryz.underlying32 hi0 hi1 hi2 hi3 rfl (by decide) _ k _ rfl own5 ⟨wr.heap.size, 0, none⟩ 1 1 [.string s] rfl rfl NW (by simp [Value.oneCell']) (by unfold maxLen; omega) (by omega) (by simp; have := hb.size; omega) ?_; intro v6 w6 own6 grow6 nil6 at6; have HO6 := hid own6; have HG6 := hid grow6; clear own6 grow6 nil6 at6 own5 NW))
          go_roundw
          case rel =>
            refine ⟨k + 1, by omega, RNX.out, by go_num, (hb.alloc hb.size _).grown HG6.out (by simp; have := hb.size; omega) (fun r e => (OWN.out.lt r e).1), ?_⟩
            rw [List.range_succ, List.map_append, List.map_cons, List.map_nil, sC_snoc', HH.out]
            exact HO6.out
          case measure => simp [intOf]; omega
    · obtain rfl : k = 7 := by omega
      obtain ⟨g', cap', cur, e', l1, l2, l3, _⟩ := OWN.out.2.resolve_left (fun h => by omega)
      subst e'
      have HL := hid (OWN.out.lt g' rfl).2
      have HCE := hid (show ∀ j, j < 7 → wr.cell? ⟨g', j, none⟩ = some (.string (wH (rN s0 j))) from fun j hj => by
        rw [OWN.out.cellAt j (by omega)]
        simp [sC, hj])
      clear l1 l2
      go_wp2
      refine bodyPost_ret (v := .tuple #[.slice (some ⟨g', 0, none⟩) 7 cap', .string (rN s0 7)]) (by simp [results, Tryz.results10, go_sem]) rfl ?_
      exact ⟨g', cap', rfl, HCE.out, HL.out, hb⟩
end Go.Proofs.YtkfbclopkgnacaaGreatDoor
namespace Go.Proofs.YtkfbclopkgnacaaGreatDoor
open Go.RowKit
theorem grown_of_below {w w' : World} (h : Below w.heap.size w w') : w.grownBy w' none := ⟨h.os, h.tape, h.output, h.size, fun k hk _ => h.block k hk⟩
theorem OwnB.below {W W' : World} {base : Nat} {v : Value} {l : List UInt8} (h : OwnB W base v l) (hb : Below W.heap.size W W') : OwnB W' base v l := World.ownsRow.kept h (grown_of_below hb) (Classical.em _)
theorem operB {o : Oper} {a : Act} {w : World} {K : Act → World → Prop} {Q : Exit → Act → World → Prop} (s x : Operand) (hop : o.op = Op.call { callee := Callee.builtin Builtin.append, args := #[s, x], argTypes := #[54, 54] })
    (base : Nat) (v : Value) (L M : List UInt8) (b : Nat) (hs : a.eval s = v) (hx : a.eval x = .slice (some ⟨b, 0, none⟩) M.length M.length) (ho : OwnB w base v L)
    (hc : ∀ j u, (Lib.byteCells M)[j]? = some u → w.cell? ((⟨b, 0, none⟩ : Addr).add j) = some u) (hl : (L.length : Int) + M.length ≤ 70368744177664) (hbase : base ≤ w.heap.size)
    (hK : ∀ v2 w2, OwnB w2 base v2 (L ++ M) → Below base w w2 → K (a.put o.dst v2) w2) : o.wp Tryz.prog a w K Q := by
  obtain ⟨v2, w2, hr, h2, h3⟩ := appB_run b ho hc hl hbase o.type
  unfold Oper.wp execOp
  simp only [hop, resolve, invoke, builtin, Sem.run_bind, Sem.run_pure, Result.andThen_ok, List.map_toArray, List.map_cons, List.map_nil, hs, hx, hr]
  exact hK v2 w2 h2 h3
def uqReg6G (s : ByteArray) (vv : Value) (l : List UInt8) (pp : Nat) (i : Nat) (v : Value) (_X : World) : Prop :=
  match i with
  | 0 => v = vv
  | 1 => v = .string ⟨l.toArray⟩
  | 2 => v = .string s
  | 3 => v = .int .i64 pp
  | 4 => v = .int .i64 ((pp : Int) + 1)
  | 5 => v = .string (s.extract (pp + 1) s.size)
  | 6 => v = .string ⟨l.toArray⟩
  | _ => True
set_option maxRecDepth 100000 in
set_option maxHeartbeats 4000000 in
theorem uqReg6 (p1 p3 p6 p7 p8 p9 p10 p11 p12 p13 p14 p15 p16 p23 p24 p25 p26 p27 p28 p29 p30 p31 p32 p33 p34 p35 p36 p37 p38 p39 p40 p41 p42 p43 p44 p45 p46 p47 p48 p49 p50 p51 p52 p53 p54 p55 p56 p57 p58 p59 p60 p61 p62 p63 p64 p65 p66 p67 p68 p69 p70 p71 p72 p73 p74 p75 : Value) (v0 v1 v2 v3 v4 v5 v6 : Value) (s : ByteArray) (vv : Value) (l : List UInt8) (pp : Nat) (W : World) (his : pp < s.size) (hs : (s.size : Int) ≤ 1048576) (hcv : ∀ X, Below W.heap.size W X → (convert 54 9 vv).run Tryz.prog X = .ok (.string ⟨l.toArray⟩) X) (Q : Exit → Act → World → Prop) (hQ : ∀ (t : Nat → Value) (v3 : Value) X, v3 = .string (s.extract (pp + 1) s.size) ∧ t 6 = .string ⟨l.toArray⟩ ∧ Below W.heap.size W X → Q .normal ⟨#[(.string s), p1, t 6, v3, vv, (.int .i64 pp), p6, p7, p8, p9, p10, p11, p12, p13, p14, p15, p16, t 0, t 1, t 2, t 3, t 4, t 5, p23, p24, p25, p26, p27, p28, p29, p30, p31, p32, p33, p34, p35, p36, p37, p38, p39, p40, p41, p42, p43, p44, p45, p46, p47, p48, p49, p50, p51, p52, p53, p54, p55, p56, p57, p58, p59, p60, p61, p62, p63, p64, p65, p66, p67, p68, p69, p70, p71, p72, p73, p74, p75], []⟩ X) :
    Code.wp Tryz.prog (Code.region 6 #[{ dst := some 17, op := Op.move (Operand.tmp 4), type := 54, pos := "l9_book_form.go:91", after := #[], guard := none }, { dst := some 18, op := Op.convert 54 9 (Operand.tmp 17), type := 9, pos := "l9_book_form.go:91", after := #[{ on := 0, ground := Ground.data }], guard := none }, { dst := some 19, op := Op.move (Operand.tmp 0), type := 9, pos := "l9_book_form.go:91", after := #[], guard := none }, { dst := some 20, op := Op.move (Operand.tmp 5), type := 3, pos := "l9_book_form.go:91", after := #[], guard := none }, { dst := some 21, op := Op.binOp BinOp.add 3 (Operand.tmp 20) (Operand.const (Value.int IntKind.i64 1)) 3, type := 3, pos := "l9_book_form.go:91", after := #[{ on := 3, ground := Ground.data }], guard := none }, { dst := some 22, op := Op.slice 9 (Operand.tmp 19) (some (Operand.tmp 21)) none none, type := 9, pos := "l9_book_form.go:91", after := #[{ on := 2, ground := Ground.data }, { on := 4, ground := Ground.data }], guard := none }, { dst := some 2, op := Op.assign (Operand.tmp 18), type := 9, pos := "l9_book_form.go:91", after := #[{ on := 1, ground := Ground.data }, { on := 0, ground := Ground.phase }, { on := 1, ground := Ground.phase }, { on := 2, ground := Ground.textOnly Departure.lateStores }, { on := 3, ground := Ground.textOnly Departure.lateStores }, { on := 4, ground := Ground.textOnly Departure.lateStores }, { on := 5, ground := Ground.textOnly Departure.lateStoresUnsure }], guard := none }, { dst := some 3, op := Op.assign (Operand.tmp 22), type := 9, pos := "l9_book_form.go:91", after := #[{ on := 5, ground := Ground.data }, { on := 6, ground := Ground.chain }, { on := 0, ground := Ground.phase }, { on := 1, ground := Ground.phase }, { on := 2, ground := Ground.phase }, { on := 3, ground := Ground.phase }, { on := 4, ground := Ground.phase }, { on := 5, ground := Ground.phase }, { on := 6, ground := Ground.phase }], guard := none }] true) Q ⟨#[(.string s), p1, v6, p3, vv, (.int .i64 pp), p6, p7, p8, p9, p10, p11, p12, p13, p14, p15, p16, v0, v1, v2, v3, v4, v5, p23, p24, p25, p26, p27, p28, p29, p30, p31, p32, p33, p34, p35, p36, p37, p38, p39, p40, p41, p42, p43, p44, p45, p46, p47, p48, p49, p50, p51, p52, p53, p54, p55, p56, p57, p58, p59, p60, p61, p62, p63, p64, p65, p66, p67, p68, p69, p70, p71, p72, p73, p74, p75], []⟩ W := by
  refine regionJ (by kernel_rfl) 7 (fun t : Nat → Value => #[(.string s), p1, t 6, p3, vv, (.int .i64 pp), p6, p7, p8, p9, p10, p11, p12, p13, p14, p15, p16, t 0, t 1, t 2, t 3, t 4, t 5, p23, p24, p25, p26, p27, p28, p29, p30, p31, p32, p33, p34, p35, p36, p37, p38, p39, p40, p41, p42, p43, p44, p45, p46, p47, p48, p49, p50, p51, p52, p53, p54, p55, p56, p57, p58, p59, p60, p61, p62, p63, p64, p65, p66, p67, p68, p69, p70, p71, p72, p73, p74, p75]) (fun i => match i with | 0 => v0 | 1 => v1 | 2 => v2 | 3 => v3 | 4 => v4 | 5 => v5 | _ => v6) (uqReg6G s vv l pp) (fun a X => ∃ (t : Nat → Value) (v3 : Value), a = ⟨#[(.string s), p1, t 6, v3, vv, (.int .i64 pp), p6, p7, p8, p9, p10, p11, p12, p13, p14, p15, p16, t 0, t 1, t 2, t 3, t 4, t 5, p23, p24, p25, p26, p27, p28, p29, p30, p31, p32, p33, p34, p35, p36, p37, p38, p39, p40, p41, p42, p43, p44, p45, p46, p47, p48, p49, p50, p51, p52, p53, p54, p55, p56, p57, p58, p59, p60, p61, p62, p63, p64, p65, p66, p67, p68, p69, p70, p71, p72, p73, p74, p75], []⟩ ∧ v3 = .string (s.extract (pp + 1) s.size) ∧ t 6 = .string ⟨l.toArray⟩ ∧ Below W.heap.size W X) (by kernel_rfl) (by kernel_rfl) (by kernel_rfl) ?_ rfl ?_ ?_ ?_
  · intro i v X Y hi h hb
    rcases (show i = 0 ∨ i = 1 ∨ i = 2 ∨ i = 3 ∨ i = 4 ∨ i = 5 ∨ i = 6 by omega) with rfl | rfl | rfl | rfl | rfl | rfl | rfl
    · exact h
    · exact h
    · exact h
    · exact h
    · exact h
    · exact h
    · exact h
  · intro i hi t X K hb hg hK
    rcases (show i = 0 ∨ i = 1 ∨ i = 2 ∨ i = 3 ∨ i = 4 ∨ i = 5 ∨ i = 6 by omega) with rfl | rfl | rfl | rfl | rfl | rfl | rfl
    · have h := hK (vv) X rfl (Below.refl _ _)
      refine wpOp_of rfl rfl ?_
      clear hK hg
      go_simp
      simpa [updT] using h
    · have e0 : t 0 = vv := hg 0 ⟨_, rfl, ⟨0, .data⟩, by simp, rfl, rfl⟩
      have q := hcv X hb
      have h := hK (.string ⟨l.toArray⟩) X rfl (Below.refl _ _)
      refine wpOp_of rfl rfl ?_
      clear hK hg
      go_simp
      simpa [updT, e0] using h
    · have h := hK (.string s) X rfl (Below.refl _ _)
      refine wpOp_of rfl rfl ?_
      clear hK hg
      go_simp
      simpa [updT] using h
    · have h := hK (.int .i64 pp) X rfl (Below.refl _ _)
      refine wpOp_of rfl rfl ?_
      clear hK hg
      go_simp
      simpa [updT] using h
    · have e3 : t 3 = .int .i64 pp := hg 3 ⟨_, rfl, ⟨3, .data⟩, by simp, rfl, rfl⟩
      have h := hK (.int .i64 ((pp : Int) + 1)) X rfl (Below.refl _ _)
      have hw : IntKind.i64.wrap ((pp : Int) + 1) = (pp : Int) + 1 := wrap_i64_le (by omega) (by omega)
      refine wpOp_of rfl rfl ?_
      clear hK hg
      go_simp
      simpa [updT, e3, hw] using h
    · have e2 : t 2 = .string s := hg 2 ⟨_, rfl, ⟨2, .data⟩, by simp, rfl, rfl⟩
      have e4 : t 4 = .int .i64 ((pp : Int) + 1) := hg 4 ⟨_, rfl, ⟨4, .data⟩, by simp, rfl, rfl⟩
      have h := hK (.string (s.extract (pp + 1) s.size)) X rfl (Below.refl _ _)
      refine wpOp_of rfl rfl ?_
      clear hK hg
      go_simp
      rw [if_pos (by omega)]
      go_simp
      simpa [updT, e2, e4] using h
    · have e1 : t 1 = .string ⟨l.toArray⟩ := hg 1 ⟨_, rfl, ⟨1, .data⟩, by simp, rfl, rfl⟩
      have h := hK (.string ⟨l.toArray⟩) X rfl (Below.refl _ _)
      refine wpOp_of rfl rfl ?_
      clear hK hg
      go_simp
      simpa [updT, e1] using h
  · intro t X K hb hg hK
    have e5 : t 5 = .string (s.extract (pp + 1) s.size) := hg 5 (by omega)
    have e6 : t 6 = .string ⟨l.toArray⟩ := hg 6 (by omega)
    refine wpOp_of rfl rfl ?_
    have HK := hid hK
    clear hK hg
    go_simp
    have h := HK.out _ X ⟨t, .string (s.extract (pp + 1) s.size), rfl, rfl, e6, hb⟩
    simpa [e5, e6] using h
  · rintro a X ⟨t, v3, rfl, hp⟩
    exact hQ t v3 X hp
def uqReg8G (s : ByteArray) (vv : Value) (_l : List UInt8) (pp : Nat) (bb : UInt8) (i : Nat) (v : Value) (X : World) : Prop :=
  match i with
  | 0 => v = vv
  | 1 => v = .string s
  | 2 => v = .int .i64 pp
  | 3 => v = .int .i64 ((pp : Int) + 1)
  | 4 => v = .int .u8 ((byteAt s (pp + 1)).toNat : Int)
  | 5 => v = .int .i64 (hexZ (byteAt s (pp + 1)).toNat)
  | 6 => v = .int .i64 (16 * hexZ (byteAt s (pp + 1)).toNat)
  | 7 => v = .string s
  | 8 => v = .int .i64 pp
  | 9 => v = .int .i64 ((pp : Int) + 2)
  | 10 => v = .int .u8 ((byteAt s (pp + 2)).toNat : Int)
  | 11 => v = .int .i64 (hexZ (byteAt s (pp + 2)).toNat)
  | 12 => v = .int .i64 (16 * hexZ (byteAt s (pp + 1)).toNat + hexZ (byteAt s (pp + 2)).toNat)
  | 13 => v = .int .u8 (bb.toNat : Int)
  | 14 => ∃ g, v = .slice (some ⟨g, 0, none⟩) 1 1 ∧ g < X.heap.size ∧ X.cell? ⟨g, 0, none⟩ = some (.int .u8 (bb.toNat : Int))
  | _ => True
set_option maxRecDepth 100000 in
set_option maxHeartbeats 4000000 in
theorem uqReg8 (p1 p2 p3 p6 p7 p8 p9 p10 p11 p12 p13 p14 p15 p16 p17 p18 p19 p20 p21 p22 p23 p24 p25 p26 p27 p28 p29 p30 p31 p32 p33 p34 p35 p36 p37 p38 p39 p40 p41 p42 p43 p44 p45 p46 p47 p48 p49 p65 p66 p67 p68 p69 p70 p71 p72 p73 p74 p75 : Value) (v0 v1 v2 v3 v4 v5 v6 v7 v8 v9 v10 v11 v12 v13 v14 : Value) (s : ByteArray) (vv : Value) (l : List UInt8) (pp : Nat) (bb : UInt8) (W : World) (base : Nat) (hbase : base ≤ W.heap.size) (his : pp + 2 < s.size) (hs : (s.size : Int) ≤ 1048576) (h1 : 0 ≤ hexZ (byteAt s (pp + 1)).toNat) (h1b : hexZ (byteAt s (pp + 1)).toNat ≤ 15) (h2 : 0 ≤ hexZ (byteAt s (pp + 2)).toNat) (h2b : hexZ (byteAt s (pp + 2)).toNat ≤ 15) (hbb : 16 * hexZ (byteAt s (pp + 1)).toNat + hexZ (byteAt s (pp + 2)).toNat = (bb.toNat : Int)) (hll : (l.length : Int) ≤ 1048576) (hO : OwnB W base vv l) (Q : Exit → Act → World → Prop) (hQ : ∀ (t : Nat → Value) (v3 : Value) X, (OwnB X base v3 (l ++ [bb]) ∧ Below base W X) → Q .normal ⟨#[(.string s), p1, p2, p3, v3, (.int .i64 pp), p6, p7, p8, p9, p10, p11, p12, p13, p14, p15, p16, p17, p18, p19, p20, p21, p22, p23, p24, p25, p26, p27, p28, p29, p30, p31, p32, p33, p34, p35, p36, p37, p38, p39, p40, p41, p42, p43, p44, p45, p46, p47, p48, p49, t 0, t 1, t 2, t 3, t 4, t 5, t 6, t 7, t 8, t 9, t 10, t 11, t 12, t 13, t 14, v3, p66, p67, p68, p69, p70, p71, p72, p73, p74, p75], []⟩ X) :
    Code.wp Tryz.prog (Code.region 8 #[{ dst := some 50, op := Op.move (Operand.tmp 4), type := 54, pos := "l9_book_form.go:94", after := #[], guard := none }, { dst := some 51, op := Op.move (Operand.tmp 0), type := 9, pos := "l9_book_form.go:94", after := #[], guard := none }, { dst := some 52, op := Op.move (Operand.tmp 5), type := 3, pos := "l9_book_form.go:94", after := #[], guard := none }, { dst := some 53, op := Op.binOp BinOp.add 3 (Operand.tmp 52) (Operand.const (Value.int IntKind.i64 1)) 3, type := 3, pos := "l9_book_form.go:94", after := #[{ on := 2, ground := Ground.data }], guard := none }, { dst := some 54, op := Op.index 9 (Operand.tmp 51) (Operand.tmp 53), type := 5, pos := "l9_book_form.go:94", after := #[{ on := 1, ground := Ground.data }, { on := 3, ground := Ground.data }], guard := none }, { dst := some 55, op := Op.call { callee := Callee.value (Operand.func 27), args := #[Operand.tmp 54], argTypes := #[5] }, type := 3, pos := "l9_book_form.go:94", after := #[{ on := 4, ground := Ground.data }], guard := none }, { dst := some 56, op := Op.binOp BinOp.mul 3 (Operand.const (Value.int IntKind.i64 16)) (Operand.tmp 55) 3, type := 3, pos := "l9_book_form.go:94", after := #[{ on := 5, ground := Ground.data }], guard := none }, { dst := some 57, op := Op.move (Operand.tmp 0), type := 9, pos := "l9_book_form.go:94", after := #[], guard := none }, { dst := some 58, op := Op.move (Operand.tmp 5), type := 3, pos := "l9_book_form.go:94", after := #[], guard := none }, { dst := some 59, op := Op.binOp BinOp.add 3 (Operand.tmp 58) (Operand.const (Value.int IntKind.i64 2)) 3, type := 3, pos := "l9_book_form.go:94", after := #[{ on := 8, ground := Ground.data }], guard := none }, { dst := some 60, op := Op.index 9 (Operand.tmp 57) (Operand.tmp 59), type := 5, pos := "l9_book_form.go:94", after := #[{ on := 7, ground := Ground.data }, { on := 9, ground := Ground.data }], guard := none }, { dst := some 61, op := Op.call { callee := Callee.value (Operand.func 27), args := #[Operand.tmp 60], argTypes := #[5] }, type := 3, pos := "l9_book_form.go:94", after := #[{ on := 10, ground := Ground.data }, { on := 5, ground := Ground.chain }], guard := none }, { dst := some 62, op := Op.binOp BinOp.add 3 (Operand.tmp 56) (Operand.tmp 61) 3, type := 3, pos := "l9_book_form.go:94", after := #[{ on := 6, ground := Ground.data }, { on := 11, ground := Ground.data }], guard := none }, { dst := some 63, op := Op.convert 3 5 (Operand.tmp 62), type := 5, pos := "l9_book_form.go:94", after := #[{ on := 12, ground := Ground.data }], guard := none }, { dst := some 64, op := Op.buildSlice 54 1 #[(0, Operand.tmp 63)], type := 54, pos := "l9_book_form.go:94", after := #[{ on := 13, ground := Ground.data }], guard := none }, { dst := some 65, op := Op.call { callee := Callee.builtin Builtin.append, args := #[Operand.tmp 50, Operand.tmp 64], argTypes := #[54, 54] }, type := 54, pos := "l9_book_form.go:94", after := #[{ on := 0, ground := Ground.data }, { on := 14, ground := Ground.data }, { on := 11, ground := Ground.chain }], guard := none }, { dst := some 4, op := Op.assign (Operand.tmp 65), type := 54, pos := "l9_book_form.go:94", after := #[{ on := 15, ground := Ground.data }, { on := 15, ground := Ground.chain }, { on := 0, ground := Ground.phase }, { on := 1, ground := Ground.phase }, { on := 2, ground := Ground.phase }, { on := 3, ground := Ground.phase }, { on := 4, ground := Ground.phase }, { on := 5, ground := Ground.phase }, { on := 6, ground := Ground.phase }, { on := 7, ground := Ground.phase }, { on := 8, ground := Ground.phase }, { on := 9, ground := Ground.phase }, { on := 10, ground := Ground.phase }, { on := 11, ground := Ground.phase }, { on := 12, ground := Ground.phase }, { on := 13, ground := Ground.phase }, { on := 14, ground := Ground.phase }, { on := 15, ground := Ground.phase }], guard := none }] true) Q ⟨#[(.string s), p1, p2, p3, vv, (.int .i64 pp), p6, p7, p8, p9, p10, p11, p12, p13, p14, p15, p16, p17, p18, p19, p20, p21, p22, p23, p24, p25, p26, p27, p28, p29, p30, p31, p32, p33, p34, p35, p36, p37, p38, p39, p40, p41, p42, p43, p44, p45, p46, p47, p48, p49, v0, v1, v2, v3, v4, v5, v6, v7, v8, v9, v10, v11, v12, v13, v14, p65, p66, p67, p68, p69, p70, p71, p72, p73, p74, p75], []⟩ W := by
  refine regionK (by kernel_rfl) 15 (fun t : Nat → Value => #[(.string s), p1, p2, p3, vv, (.int .i64 pp), p6, p7, p8, p9, p10, p11, p12, p13, p14, p15, p16, p17, p18, p19, p20, p21, p22, p23, p24, p25, p26, p27, p28, p29, p30, p31, p32, p33, p34, p35, p36, p37, p38, p39, p40, p41, p42, p43, p44, p45, p46, p47, p48, p49, t 0, t 1, t 2, t 3, t 4, t 5, t 6, t 7, t 8, t 9, t 10, t 11, t 12, t 13, t 14, p65, p66, p67, p68, p69, p70, p71, p72, p73, p74, p75]) (fun i => match i with | 0 => v0 | 1 => v1 | 2 => v2 | 3 => v3 | 4 => v4 | 5 => v5 | 6 => v6 | 7 => v7 | 8 => v8 | 9 => v9 | 10 => v10 | 11 => v11 | 12 => v12 | 13 => v13 | _ => v14) (uqReg8G s vv l pp bb) (fun a X => ∃ (t : Nat → Value) (v3 : Value), a = ⟨#[(.string s), p1, p2, p3, vv, (.int .i64 pp), p6, p7, p8, p9, p10, p11, p12, p13, p14, p15, p16, p17, p18, p19, p20, p21, p22, p23, p24, p25, p26, p27, p28, p29, p30, p31, p32, p33, p34, p35, p36, p37, p38, p39, p40, p41, p42, p43, p44, p45, p46, p47, p48, p49, t 0, t 1, t 2, t 3, t 4, t 5, t 6, t 7, t 8, t 9, t 10, t 11, t 12, t 13, t 14, v3, p66, p67, p68, p69, p70, p71, p72, p73, p74, p75], []⟩ ∧ (OwnB X base v3 (l ++ [bb]) ∧ Below base W X)) (fun a X => ∃ (t : Nat → Value) (v3 : Value), a = ⟨#[(.string s), p1, p2, p3, v3, (.int .i64 pp), p6, p7, p8, p9, p10, p11, p12, p13, p14, p15, p16, p17, p18, p19, p20, p21, p22, p23, p24, p25, p26, p27, p28, p29, p30, p31, p32, p33, p34, p35, p36, p37, p38, p39, p40, p41, p42, p43, p44, p45, p46, p47, p48, p49, t 0, t 1, t 2, t 3, t 4, t 5, t 6, t 7, t 8, t 9, t 10, t 11, t 12, t 13, t 14, v3, p66, p67, p68, p69, p70, p71, p72, p73, p74, p75], []⟩ ∧ (OwnB X base v3 (l ++ [bb]) ∧ Below base W X)) (by kernel_rfl) (by kernel_rfl) (by kernel_rfl) (by kernel_rfl) ?_ rfl ?_ ?_ ?_ ?_
  · intro i v X Y hi h hb
    rcases (show i = 0 ∨ i = 1 ∨ i = 2 ∨ i = 3 ∨ i = 4 ∨ i = 5 ∨ i = 6 ∨ i = 7 ∨ i = 8 ∨ i = 9 ∨ i = 10 ∨ i = 11 ∨ i = 12 ∨ i = 13 ∨ i = 14 by omega) with rfl | rfl | rfl | rfl | rfl | rfl | rfl | rfl | rfl | rfl | rfl | rfl | rfl | rfl | rfl
    · exact h
    · exact h
    · exact h
    · exact h
    · exact h
    · exact h
    · exact h
    · exact h
    · exact h
    · exact h
    · exact h
    · exact h
    · exact h
    · exact h
    · obtain ⟨g, e, hg0, h0⟩ := h
      exact ⟨g, e, Nat.lt_of_lt_of_le hg0 hb.size, (hb.cell (p := ⟨g, 0, none⟩) hg0).trans h0⟩
  · intro i hi t X K hb hg hK
    rcases (show i = 0 ∨ i = 1 ∨ i = 2 ∨ i = 3 ∨ i = 4 ∨ i = 5 ∨ i = 6 ∨ i = 7 ∨ i = 8 ∨ i = 9 ∨ i = 10 ∨ i = 11 ∨ i = 12 ∨ i = 13 ∨ i = 14 by omega) with rfl | rfl | rfl | rfl | rfl | rfl | rfl | rfl | rfl | rfl | rfl | rfl | rfl | rfl | rfl
    · have h := hK (vv) X rfl (Below.refl _ _)
      refine wpOp_of rfl rfl ?_
      clear hK hg
      go_simp
      simpa [updT] using h
    · have h := hK (.string s) X rfl (Below.refl _ _)
      refine wpOp_of rfl rfl ?_
      clear hK hg
      go_simp
      simpa [updT] using h
    · have h := hK (.int .i64 pp) X rfl (Below.refl _ _)
      refine wpOp_of rfl rfl ?_
      clear hK hg
      go_simp
      simpa [updT] using h
    · have e2 : t 2 = .int .i64 pp := hg 2 ⟨_, rfl, ⟨2, .data⟩, by simp, rfl, rfl⟩
      have h := hK (.int .i64 ((pp : Int) + 1)) X rfl (Below.refl _ _)
      have hw : IntKind.i64.wrap ((pp : Int) + 1) = (pp : Int) + 1 := wrap_i64_le (by omega) (by omega)
      refine wpOp_of rfl rfl ?_
      clear hK hg
      go_simp
      simpa [updT, e2, hw] using h
    · have e1 : t 1 = .string s := hg 1 ⟨_, rfl, ⟨1, .data⟩, by simp, rfl, rfl⟩
      have e3 : t 3 = .int .i64 ((pp : Int) + 1) := hg 3 ⟨_, rfl, ⟨3, .data⟩, by simp, rfl, rfl⟩
      have h := hK (.int .u8 ((byteAt s (pp + 1)).toNat : Int)) X rfl (Below.refl _ _)
      rw [byteAt_eq s (pp + 1) (by omega)] at h
      have hi : (0 : Int) ≤ (pp : Int) + 1 ∧ (pp : Int) + 1 < (s.size : Int) := by omega
      have hn : ((pp : Int) + 1).toNat = pp + 1 := by omega
      refine wpOp_of rfl rfl ?_
      clear hK hg
      go_simp
      simpa [updT, e1, e3, hn] using h
    · have e4 : t 4 = .int .u8 ((byteAt s (pp + 1)).toNat : Int) := hg 4 ⟨_, rfl, ⟨4, .data⟩, by simp, rfl, rfl⟩
      have hbY := Below.refl X.heap.size X
      refine wpOp_of rfl rfl ?_
      have HK := hid hK
      clear hK hg
      go_simp
      go_at_call 27
      refine (hexN_any (byteAt s (pp + 1)).toNat (UInt8.toNat_lt _) X).mono ?_
      rintro r Y ⟨rfl, rfl⟩
      have h := HK.out (.int .i64 (hexZ (byteAt s (pp + 1)).toNat)) Y rfl hbY
      simpa [updT, e4] using h
    · have e5 : t 5 = .int .i64 (hexZ (byteAt s (pp + 1)).toNat) := hg 5 ⟨_, rfl, ⟨5, .data⟩, by simp, rfl, rfl⟩
      have h := hK (.int .i64 (16 * hexZ (byteAt s (pp + 1)).toNat)) X rfl (Below.refl _ _)
      have hw : IntKind.i64.wrap (16 * hexZ (byteAt s (pp + 1)).toNat) = 16 * hexZ (byteAt s (pp + 1)).toNat := wrap_i64_le (by omega) (by omega)
      refine wpOp_of rfl rfl ?_
      clear hK hg
      go_simp
      simpa [updT, e5, hw] using h
    · have h := hK (.string s) X rfl (Below.refl _ _)
      refine wpOp_of rfl rfl ?_
      clear hK hg
      go_simp
      simpa [updT] using h
    · have h := hK (.int .i64 pp) X rfl (Below.refl _ _)
      refine wpOp_of rfl rfl ?_
      clear hK hg
      go_simp
      simpa [updT] using h
    · have e8 : t 8 = .int .i64 pp := hg 8 ⟨_, rfl, ⟨8, .data⟩, by simp, rfl, rfl⟩
      have h := hK (.int .i64 ((pp : Int) + 2)) X rfl (Below.refl _ _)
      have hw : IntKind.i64.wrap ((pp : Int) + 2) = (pp : Int) + 2 := wrap_i64_le (by omega) (by omega)
      refine wpOp_of rfl rfl ?_
      clear hK hg
      go_simp
      simpa [updT, e8, hw] using h
    · have e7 : t 7 = .string s := hg 7 ⟨_, rfl, ⟨7, .data⟩, by simp, rfl, rfl⟩
      have e9 : t 9 = .int .i64 ((pp : Int) + 2) := hg 9 ⟨_, rfl, ⟨9, .data⟩, by simp, rfl, rfl⟩
      have h := hK (.int .u8 ((byteAt s (pp + 2)).toNat : Int)) X rfl (Below.refl _ _)
      rw [byteAt_eq s (pp + 2) (by omega)] at h
      have hi : (0 : Int) ≤ (pp : Int) + 2 ∧ (pp : Int) + 2 < (s.size : Int) := by omega
      have hn : ((pp : Int) + 2).toNat = pp + 2 := by omega
      refine wpOp_of rfl rfl ?_
      clear hK hg
      go_simp
      simpa [updT, e7, e9, hn] using h
    · have e10 : t 10 = .int .u8 ((byteAt s (pp + 2)).toNat : Int) := hg 10 ⟨_, rfl, ⟨10, .data⟩, by simp, rfl, rfl⟩
      have hbY := Below.refl X.heap.size X
      refine wpOp_of rfl rfl ?_
      have HK := hid hK
      clear hK hg
      go_simp
      go_at_call 27
      refine (hexN_any (byteAt s (pp + 2)).toNat (UInt8.toNat_lt _) X).mono ?_
      rintro r Y ⟨rfl, rfl⟩
      have h := HK.out (.int .i64 (hexZ (byteAt s (pp + 2)).toNat)) Y rfl hbY
      simpa [updT, e10] using h
    · have e6 : t 6 = .int .i64 (16 * hexZ (byteAt s (pp + 1)).toNat) := hg 6 ⟨_, rfl, ⟨6, .data⟩, by simp, rfl, rfl⟩
      have e11 : t 11 = .int .i64 (hexZ (byteAt s (pp + 2)).toNat) := hg 11 ⟨_, rfl, ⟨11, .data⟩, by simp, rfl, rfl⟩
      have h := hK (.int .i64 (16 * hexZ (byteAt s (pp + 1)).toNat + hexZ (byteAt s (pp + 2)).toNat)) X rfl (Below.refl _ _)
      have hw : IntKind.i64.wrap (16 * hexZ (byteAt s (pp + 1)).toNat + hexZ (byteAt s (pp + 2)).toNat) = 16 * hexZ (byteAt s (pp + 1)).toNat + hexZ (byteAt s (pp + 2)).toNat := wrap_i64_le (by omega) (by omega)
      refine wpOp_of rfl rfl ?_
      clear hK hg hbb
      go_simp
      simpa [updT, e6, e11, hw] using h
    · have e12 : t 12 = .int .i64 (16 * hexZ (byteAt s (pp + 1)).toNat + hexZ (byteAt s (pp + 2)).toNat) := hg 12 ⟨_, rfl, ⟨12, .data⟩, by simp, rfl, rfl⟩
      have h := hK (.int .u8 (bb.toNat : Int)) X rfl (Below.refl _ _)
      have hb6 : bb.toNat < 256 := UInt8.toNat_lt _
      rw [hbb] at e12
      have hw : IntKind.u8.wrap (bb.toNat : Int) = (bb.toNat : Int) := wrap_u8_le (by omega) (by omega)
      refine wpOp_of rfl rfl ?_
      clear hK hg
      go_simp
      simpa [updT, e12, hw] using h
    · have e13 : t 13 = .int .u8 (bb.toNat : Int) := hg 13 ⟨_, rfl, ⟨13, .data⟩, by simp, rfl, rfl⟩
      have h := hK (.slice (some ⟨X.heap.size, 0, none⟩) 1 1) (X.alloc (.cells #[.int .u8 (bb.toNat : Int)] 5)) ⟨X.heap.size, rfl, by simp, by simp⟩ (below_alloc _ _)
      refine wpOp_of rfl rfl ?_
      clear hK hg
      go_simp
      simpa [updT, e13] using h
  · intro t X K hb hg hK
    have e0 : t 0 = vv := hg 0 (by omega)
    obtain ⟨g, e14, hg0, hc0⟩ := hg 14 (by omega)
    refine wpOp_of rfl rfl ?_
    refine operB (.tmp 50) (.tmp 64) rfl base (t 0) l [bb] g rfl (by rw [e14]; rfl) (by rw [e0]; exact OwnB.below hO hb) (by
      intro j u hu
      have : j = 0 := by
        rcases j with _ | j
        · rfl
        · simp [Lib.byteCells] at hu
      subst this
      simp [Lib.byteCells] at hu
      rw [← hu]
      simpa [Addr.add] using hc0) (by simp; omega) (Nat.le_trans hbase hb.size) (fun v3 w2 h1 h2 => ?_)
    have h := hK ⟨#[(.string s), p1, p2, p3, vv, (.int .i64 pp), p6, p7, p8, p9, p10, p11, p12, p13, p14, p15, p16, p17, p18, p19, p20, p21, p22, p23, p24, p25, p26, p27, p28, p29, p30, p31, p32, p33, p34, p35, p36, p37, p38, p39, p40, p41, p42, p43, p44, p45, p46, p47, p48, p49, t 0, t 1, t 2, t 3, t 4, t 5, t 6, t 7, t 8, t 9, t 10, t 11, t 12, t 13, t 14, v3, p66, p67, p68, p69, p70, p71, p72, p73, p74, p75], []⟩ w2 ⟨t, v3, rfl, h1, (hb.mono hbase).trans h2⟩
    exact h
  · rintro a X K ⟨t, v3, rfl, hp⟩ hK
    have h := hK ⟨#[(.string s), p1, p2, p3, v3, (.int .i64 pp), p6, p7, p8, p9, p10, p11, p12, p13, p14, p15, p16, p17, p18, p19, p20, p21, p22, p23, p24, p25, p26, p27, p28, p29, p30, p31, p32, p33, p34, p35, p36, p37, p38, p39, p40, p41, p42, p43, p44, p45, p46, p47, p48, p49, t 0, t 1, t 2, t 3, t 4, t 5, t 6, t 7, t 8, t 9, t 10, t 11, t 12, t 13, t 14, v3, p66, p67, p68, p69, p70, p71, p72, p73, p74, p75], []⟩ X ⟨t, v3, rfl, hp⟩
    refine wpOp_of rfl rfl ?_
    clear hK
    go_simp
    exact h
  · rintro a X ⟨t, v3, rfl, hp⟩
    exact hQ t v3 X hp
end Go.Proofs.YtkfbclopkgnacaaGreatDoor
namespace Go.Proofs.YtkfbclopkgnacaaGreatDoor
open Go.RowKit
theorem qTo_pre (te : ByteArray) : ∀ n j, j < n → ∃ r, qTo te n = qTo te j ++ qB (byteAt te j) ++ r
  | 0, j, h => absurd h (Nat.not_lt_zero _)
  | n + 1, j, h => by
    by_cases e : j = n
    · subst e
      exact ⟨[], by simp [qTo]⟩
    · obtain ⟨r, hr⟩ := qTo_pre te n j (by omega)
      exact ⟨r ++ qB (byteAt te n), by rw [qTo, hr]; simp⟩
theorem quS_pre (te : ByteArray) (j : Nat) (h : j < te.size) : ∃ r, (quS te).data.toList = qTo te j ++ (qB (byteAt te j) ++ (r ++ [34])) := by
  obtain ⟨r, hr⟩ := qTo_pre te te.size j h
  refine ⟨r, ?_⟩
  show (quL te).toArray.toList = _
  unfold quL
  rw [hr]
  simp
theorem at_behind {s : ByteArray} {a b : List UInt8} (e : s.data.toList = a ++ b) (i : Nat) : byteAt s (a.length + i) = b[i]?.getD 0 := by
  rw [byteAt_list, e, List.getElem?_append_right (by omega), Nat.add_sub_cancel_left]
theorem quS_end (te : ByteArray) : byteAt (quS te) (qTo te te.size).length = 34 ∧ (qTo te te.size).length + 1 = (quS te).size := by
  have e : (quS te).data.toList = qTo te te.size ++ [34] := rfl
  refine ⟨at_behind e 0, ?_⟩
  have := congrArg List.length e
  rw [pa_len, List.length_append] at this
  simpa using this.symm
theorem qTo_mono (te : ByteArray) (j : Nat) (h : j ≤ te.size) : (qTo te j).length < (quS te).size := by
  by_cases e : j = te.size
  · have := (quS_end te).2
    rw [e]
    omega
  · obtain ⟨r, hr⟩ := quS_pre te j (by omega)
    have := congrArg List.length hr
    rw [pa_len, List.length_append, List.length_append, List.length_append] at this
    simp at this
    omega
theorem hex_digs : ∀ x : Fin 16, hexZ (byteAt digs x.val).toNat = (x.val : Int) := by decide
theorem hexZ_le (x : Nat) : hexZ x ≤ 15 := by
  unfold hexZ
  split
  · omega
  · split <;> omega
theorem plain_ne {b : UInt8} (h : plainB b = true) : b ≠ 34 ∧ b ≠ 92 := by
  refine ⟨fun e => ?_, fun e => ?_⟩ <;> · subst e; revert h; decide
theorem quS_plain {te : ByteArray} {j : Nat} (h : j < te.size) (hp : plainB (byteAt te j) = true) : byteAt (quS te) (qTo te j).length = byteAt te j ∧ (qTo te (j + 1)).length = (qTo te j).length + 1 := by
  obtain ⟨r, hr⟩ := quS_pre te j h
  rw [qB_yes hp] at hr
  refine ⟨at_behind hr 0, ?_⟩
  rw [qTo, qB_yes hp]
  simp
theorem quS_esc {te : ByteArray} {j : Nat} (h : j < te.size) (hp : plainB (byteAt te j) = false) : byteAt (quS te) (qTo te j).length = 92 ∧ hexZ (byteAt (quS te) ((qTo te j).length + 1)).toNat = ((byteAt te j).toNat / 16 : Nat) ∧ hexZ (byteAt (quS te) ((qTo te j).length + 2)).toNat = ((byteAt te j).toNat % 16 : Nat) ∧ (qTo te j).length + 2 < (quS te).size ∧ (qTo te (j + 1)).length = (qTo te j).length + 3 := by
  obtain ⟨r, hr⟩ := quS_pre te j h
  rw [qB_no hp] at hr
  have hlt := UInt8.toNat_lt (byteAt te j)
  have h1 : byteAt (quS te) ((qTo te j).length + 1) = byteAt digs ((byteAt te j).toNat / 16) := at_behind hr 1
  have h2 : byteAt (quS te) ((qTo te j).length + 2) = byteAt digs ((byteAt te j).toNat % 16) := at_behind hr 2
  refine ⟨at_behind hr 0, ?_, ?_, ?_, ?_⟩
  · rw [h1]
    exact hex_digs ⟨(byteAt te j).toNat / 16, by omega⟩
  · rw [h2]
    exact hex_digs ⟨(byteAt te j).toNat % 16, by omega⟩
  · have := congrArg List.length hr
    rw [pa_len] at this
    simp at this
    omega
  · rw [qTo, qB_no hp]
    simp
theorem byteAt_app {t q : ByteArray} {i : Nat} (h : i < t.size) : byteAt (t ++ q) i = byteAt t i := by
  rw [byteAt_list, byteAt_list, pa_append, List.getElem?_append_left (by rw [pa_len]; exact h)]
/-- where the reading of a text in quotes stands -/
def UqAt (s : ByteArray) (k : Nat) (l : List UInt8) : Prop := ∀ te q, s = quS te ++ q → ∃ j, j ≤ te.size ∧ k = (qTo te j).length ∧ l = te.data.toList.take j
theorem take_snoc (te : ByteArray) (j : Nat) (h : j < te.size) : te.data.toList.take (j + 1) = te.data.toList.take j ++ [byteAt te j] := by
  rw [List.take_add_one, List.getElem?_eq_getElem (by rw [pa_len]; exact h), byteAt_list, List.getElem?_eq_getElem (by rw [pa_len]; exact h)]
  rfl
theorem UqAt.start (s : ByteArray) : UqAt s 1 [] := fun te _ _ => ⟨0, Nat.zero_le _, rfl, by simp⟩
theorem UqAt.over {s : ByteArray} {k : Nat} {l : List UInt8} (h : UqAt s k l) (hk : ¬ k < s.size) (te q : ByteArray) (e : s = quS te ++ q) : False := by
  obtain ⟨j, hj, hk2, _⟩ := h te q e
  have := qTo_mono te j hj
  rw [e, ByteArray.size_append] at hk
  omega
theorem UqAt.last {s : ByteArray} {k : Nat} {l : List UInt8} (h : UqAt s k l) (hk : byteAt s k = 34) (te q : ByteArray) (e : s = quS te ++ q) : l = te.data.toList ∧ k + 1 = (quS te).size := by
  obtain ⟨j, hj, hk2, hl⟩ := h te q e
  have hm := qTo_mono te j hj
  by_cases hje : j = te.size
  · exact ⟨by rw [hl, hje, List.take_of_length_le (by rw [pa_len]; exact Nat.le_refl _)], by rw [hk2, hje]; exact (quS_end te).2⟩
  · rw [e, hk2, byteAt_app hm] at hk
    cases hp : plainB (byteAt te j) with
    | true =>
      rw [(quS_plain (by omega) hp).1] at hk
      exact absurd hk (plain_ne hp).1
    | false =>
      rw [(quS_esc (by omega) hp).1] at hk
      exact absurd hk (by decide)
theorem ext_app (t q : ByteArray) : (t ++ q).extract t.size (t ++ q).size = q := by
  refine pa_ext ?_
  rw [pa_extract, pa_append, ByteArray.size_append, ← pa_len t, List.drop_left, List.take_of_length_le (by rw [pa_len, pa_len]; omega)]
theorem UqAt.ends {s : ByteArray} {k : Nat} {l : List UInt8} (h : UqAt s k l) (hk : byteAt s k = 34) (te q : ByteArray) (e : s = quS te ++ q) : (⟨l.toArray⟩ : ByteArray) = te ∧ s.extract (k + 1) s.size = q := by
  obtain ⟨h1, h2⟩ := h.last hk te q e
  refine ⟨pa_ext h1, ?_⟩
  rw [h2, e]
  exact ext_app _ _
theorem UqAt.esc {s : ByteArray} {k : Nat} {l : List UInt8} {bb : UInt8} (h : UqAt s k l) (hk : byteAt s k = 92) (hbb : 16 * hexZ (byteAt s (k + 1)).toNat + hexZ (byteAt s (k + 2)).toNat = (bb.toNat : Int)) : UqAt s (k + 3) (l ++ [bb]) := by
  intro te q e
  obtain ⟨j, hj, hk2, hl⟩ := h te q e
  have hm := qTo_mono te j hj
  subst e hk2
  rw [byteAt_app hm] at hk
  by_cases hje : j = te.size
  · rw [hje, (quS_end te).1] at hk
    exact absurd hk (by decide)
  · have hj2 : j < te.size := by omega
    cases hp : plainB (byteAt te j) with
    | true =>
      rw [(quS_plain hj2 hp).1] at hk
      exact absurd hk (plain_ne hp).2
    | false =>
      obtain ⟨_, e1, e2, e4, e3⟩ := quS_esc hj2 hp
      rw [byteAt_app (by omega), byteAt_app e4, e1, e2] at hbb
      have hb : bb = byteAt te j := by
        refine UInt8.toNat_inj.1 ?_
        omega
      exact ⟨j + 1, by omega, e3.symm, by rw [take_snoc te j hj2, hl, hb]⟩
theorem UqAt.plain {s : ByteArray} {k : Nat} {l : List UInt8} (h : UqAt s k l) (hk : byteAt s k ≠ 34) (hx : ¬ (byteAt s k = 92 ∧ k + 2 < s.size ∧ 0 ≤ hexZ (byteAt s (k + 1)).toNat ∧ 0 ≤ hexZ (byteAt s (k + 2)).toNat)) : UqAt s (k + 1) (l ++ [byteAt s k]) := by
  intro te q e
  obtain ⟨j, hj, hk2, hl⟩ := h te q e
  have hm := qTo_mono te j hj
  subst e hk2
  rw [byteAt_app hm] at hk ⊢
  by_cases hje : j = te.size
  · rw [hje] at hk
    exact absurd (quS_end te).1 hk
  · have hj2 : j < te.size := by omega
    cases hp : plainB (byteAt te j) with
    | true =>
      obtain ⟨e1, e2⟩ := quS_plain hj2 hp
      exact ⟨j + 1, by omega, e2.symm, by rw [take_snoc te j hj2, hl, e1]⟩
    | false =>
      obtain ⟨e0, e1, e2, e3, _⟩ := quS_esc hj2 hp
      exact absurd ⟨by rw [byteAt_app hm]; exact e0, by rw [ByteArray.size_append]; omega, by rw [byteAt_app (by omega), e1]; omega, by rw [byteAt_app e3, e2]; omega⟩ hx
theorem u8_ne {b : UInt8} {n : Nat} (hn : n < 256) (h : ¬ b = UInt8.ofNat n) : ((b.toNat : Int) == (n : Int)) = false := by
  have : ¬ b.toNat = n := fun e => h (UInt8.toNat_inj.1 (by rw [e, UInt8.toNat_ofNat']; omega))
  simp
  omega
theorem u8_34 {b : UInt8} (h : ¬ b = 34) : ¬ ((b.toNat : Int) = 34) := fun e => h (by
  have e2 : b.toNat = 34 := by omega
  exact UInt8.toNat_inj.1 e2)
theorem u8_92 {b : UInt8} (h : ¬ b = 92) : ¬ ((b.toNat : Int) = 92) := fun e => h (by
  have e2 : b.toNat = 92 := by omega
  exact UInt8.toNat_inj.1 e2)
theorem ba_len (l : List UInt8) : (⟨l.toArray⟩ : ByteArray).size = l.length := List.size_toArray
theorem ba0 : (⟨([] : List UInt8).toArray⟩ : ByteArray) = ByteArray.empty := rfl
theorem OwnB.conv0 {W : World} {base : Nat} {v : Value} {l : List UInt8} (h : OwnB W base v l) : (convert 54 9 v).run Tryz.prog W = .ok (.string ⟨l.toArray⟩) W := by
  by_cases h0 : l = []
  · subst h0
    rcases h.2 with ⟨hv, _⟩ | ⟨g, cap, cur, hv, _⟩
    · subst hv
      simp [convert, Conv.bytesToString, go_sem]
      rfl
    · subst hv
      refine run_convert_bytes_back (P := Tryz.prog) W 54 9 5 ⟨g, 0, none⟩ cap [] Tryz.underlying54 Tryz.underlying5 Tryz.underlying9 ?_
      intro i hi
      exact absurd hi (Nat.not_lt_zero _)
  · exact OwnB.conv h h0
end Go.Proofs.YtkfbclopkgnacaaGreatDoor
