import Derived.Test.YtcmimbohmninkaaGreatDoorPo
import Derived.Lib.AppendStr
namespace Go.Proofs.YtcmimbohmninkaaGreatDoor
open Go.RowKit
theorem ext_byte0 (r : ByteArray) (_h : 2 ≤ r.size) : byteAt (r.extract 0 2) 0 = byteAt r 0 ∧ byteAt (r.extract 0 2) 1 = byteAt r 1 := by
  constructor <;> (rw [byteAt_list, byteAt_list]; simp [ByteArray.data_extract])
theorem ext_byte (s : ByteArray) (k i : Nat) (h : k + i < s.size) : byteAt (s.extract k s.size) i = byteAt s (k + i) := by
  rw [byteAt_list, byteAt_list]
  simp only [ByteArray.data_extract, Array.toList_extract, List.extract_eq_take_drop, List.getElem?_drop, List.getElem?_take]
  rw [if_pos (by omega)]
theorem ext_sz (s : ByteArray) (k : Nat) : (s.extract k s.size).size = s.size - k := by
  rw [ByteArray.size_extract]
  omega
theorem nxS_two (r : ByteArray) : (nxS r 2).size = 2 ∨ nxS r 2 = ⟨#[]⟩ := by
  unfold nxS
  by_cases h : r.size < 2
  · rw [if_pos h]; exact .inr rfl
  · rw [if_neg h]
    left
    rw [ByteArray.size_extract]
    omega
/-- what two digits that come next tell -/
def Es (r : ByteArray) (b : Bool) (x : UInt8) (d : Bool) : Prop :=
  2 ≤ r.size → 0 ≤ hexZ (byteAt r 0).toNat → 0 ≤ hexZ (byteAt r 1).toNat → 16 * hexZ (byteAt r 0).toNat + hexZ (byteAt r 1).toNat = (x.toNat : Int) ∧ d = b
theorem RdAt.below {w w' : World} {R : Nat} {s : ByteArray} {b : Bool} (h : RdAt w R s b) {B : Nat} (hb : Below B w w') (hR : R < B) : RdAt w' R s b :=
  ⟨(hb.cell (p := ⟨R, 0, none⟩) hR).trans h.c0, (hb.cell (p := ⟨R, 1, none⟩) hR).trans h.c1, (hb.frozen (p := ⟨R, 0, none⟩) hR).trans h.f0, (hb.frozen (p := ⟨R, 1, none⟩) hR).trans h.f1⟩
theorem es_of {r : ByteArray} {b : Bool} {n : Int} {v : Value} {x : UInt8} (hp : P16 (nxS r 2) n v) (hx : n = (x.toNat : Int)) (d : Bool) (hd : v = .nilIface → ¬ r.size < 2 → d = b) : Es r b x d := by
  intro h2 h0 h1
  have hn : ¬ r.size < 2 := by omega
  have e : nxS r 2 = r.extract 0 2 := if_neg hn
  have hz : (nxS r 2).size = 2 := by rw [e, ByteArray.size_extract]; omega
  obtain ⟨e0, e1⟩ := ext_byte0 r h2
  rw [← e] at e0 e1
  obtain ⟨hv, hnn⟩ := hp.2.2.2 hz (by rw [e0]; exact h0) (by rw [e1]; exact h1)
  rw [e0, e1] at hnn
  exact ⟨by rw [← hx, hnn], hd hv hn⟩
set_option maxRecDepth 100000 in
set_option maxHeartbeats 2000000 in
theorem escaped_any (R : Nat) (r : ByteArray) (b : Bool) (hr : (r.size : Int) ≤ 1048576) (e8 : Value) (w : World) (h : RdAt w R r b) (hR : R < w.heap.size) (h8 : w.cell? ⟨8, 0, none⟩ = some e8) (v8 : ErrV e8) (hR8 : R ≠ 8) (hz : 8 < w.heap.size) :
    Calls Tryz.prog 75 #[.pointer (some ⟨R, 0, none⟩)] w fun e w' => ∃ (x : UInt8) (d : Bool), e = .returned (.int .u8 (x.toNat : Int)) ∧ RdAt w' R (nxR r 2) d ∧ Fr R (R + 1) w w' ∧ Es r b x d := by
  have HN := hid (next_any R r b 2 (Nat.le_refl _) hr w h)
  have HP := hid (fun W k8 kz => parseUint_any (nxS r 2) (nxS_two r) e8 W k8 v8 kz)
  have HA : Hid (∀ d, d = nxA r b 2 → ¬ r.size < 2 → d = b) := hid fun d e hn => e.trans (if_neg hn)
  have HES : Hid (∀ n v (x : UInt8) d, P16 (nxS r 2) n v → n = (x.toNat : Int) → (v = .nilIface → ¬ r.size < 2 → d = b) → Es r b x d) := hid fun n v x d hp hx hd => es_of hp hx d hd
  obtain ⟨a, ha⟩ : ∃ a, a = nxA r b 2 := ⟨_, rfl⟩
  obtain ⟨q, hq⟩ : ∃ q, q = nxR r 2 := ⟨_, rfl⟩
  obtain ⟨c, hc⟩ : ∃ c, c = nxS r 2 := ⟨_, rfl⟩
  rw [← ha] at HN HA
  rw [← hq] at HN ⊢
  rw [← hc] at HN HP HES
  clear hq hc ha h
  go_enter Tryz.func75, Tryz.ntmps75
  go_wp2_with (first
    | (go_at_call 74; go_must (refine HN.out.mono ?_; rintro e w1 ⟨rfl, hr1, hf1⟩; have HR1 := hid hr1; have HF1 := hid hf1; have HK8 := hid ((hf1.cell (p := ⟨8, 0, none⟩) hz (by show 8 < R ∨ R + 1 ≤ 8; omega)).trans h8); have HZ8 := hid (Nat.lt_of_lt_of_le hz hf1.size); have HZR := hid (Nat.lt_of_lt_of_le hR hf1.size); clear hr1 hf1 h8 HN))
    | (go_at_call 89; go_must (refine (HP.out _ HK8.out HZ8.out).mono ?_; rintro e w2 ⟨n, v, rfl, hp, hb⟩; have HP2 := hid hp; have HR2 := hid (HR1.out.below hb HZR.out); have HF2 := hid (HF1.out.trans (Fr.of_below hb)); obtain ⟨x, hx⟩ : ∃ x : UInt8, n = (x.toNat : Int) := ⟨UInt8.ofNat n.toNat, by rw [UInt8.toNat_ofNat']; have := hp.1; have := hp.2.1; omega⟩; have HX := hid (HES.out n v x · hp hx); have hv := hp.2.2.1; clear hp hb HP HR1 HF1 HK8 HZ8 HZR HES; subst hx; have hx8 := UInt8.toNat_lt x; have g0 := HR2.out.c1; have g1 := HR2.out.f1; rcases hv with rfl | ⟨t, p, rfl⟩ <;> cases a)))
  all_goals go_ret
  · exact ⟨x, false, rfl, HR2.out.amiss _, HF2.out.setCell (p := ⟨R, 1, none⟩) (Nat.le_refl _) (Nat.lt_succ_self _) _, HX.out _ fun _ => HA.out _ rfl⟩
  · exact ⟨x, true, rfl, HR2.out.amiss _, HF2.out.setCell (p := ⟨R, 1, none⟩) (Nat.le_refl _) (Nat.lt_succ_self _) _, HX.out _ fun _ => HA.out _ rfl⟩
  · exact ⟨x, true, rfl, HR2.out.amiss _, HF2.out.setCell (p := ⟨R, 1, none⟩) (Nat.le_refl _) (Nat.lt_succ_self _) _, HX.out _ fun h => by cases h⟩
  · exact ⟨x, true, rfl, HR2.out.amiss _, HF2.out.setCell (p := ⟨R, 1, none⟩) (Nat.le_refl _) (Nat.lt_succ_self _) _, HX.out _ fun h => by cases h⟩
end Go.Proofs.YtcmimbohmninkaaGreatDoor
