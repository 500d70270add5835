import Derived.Test.YtcmimbohmninkaaGreatDoorPm
import Derived.Test.YtcmimbohmninkaaGreatDoorPn
import Derived.Shelf.Strconv.ParseUintEmpty
import Derived.Shelf.Strconv.ToError
namespace Go.Proofs.YtcmimbohmninkaaGreatDoor
open Go.Shelf Go.RowKit
theorem parse16_two (t : ByteArray) (h : t.size = 2) (w : World) :
    Calls Tryz.prog 99 #[.string t, .int .i64 16, .int .i64 8] w fun e w' => PuR (byteAt t 0).toNat (byteAt t 1).toNat 5 105 t w e w' := by
  refine (parse16_in (P := Tryz.prog) (ρ := Tryz.laysC172_ren) { Tryz.laysC172 with } t h w).mono ?_
  intro e w' hr
  have e0 : t.data.toList.getD 0 0 = byteAt t 0 := by rw [byteAt_list]; simp [List.getD]
  have e1 : t.data.toList.getD 1 0 = byteAt t 1 := by rw [byteAt_list]; simp [List.getD]
  rw [e0, e1] at hr
  exact hr
theorem parse16_none (w : World) :
    Calls Tryz.prog 99 #[.string ⟨#[]⟩, .int .i64 16, .int .i64 8] w fun e w' => e = .returned (.tuple #[.int .u64 0, .iface 105 (.int .i64 2)]) ∧ w' = w :=
  Any.internal_strconv_ParseUint_empty (P := Tryz.prog) (ρ := Tryz.laysC172_ren) { Tryz.laysC172 with } 16 8 w
theorem toError_syn (s : ByteArray) (hs : (s.size : Int) ≤ 1048576) (ev : Value) (w : World) (hv : w.cell? ⟨8, 0, none⟩ = some ev) (hev : ErrV ev) :
    Calls Tryz.prog 71 #[.string ⟨#[80, 97, 114, 115, 101, 85, 105, 110, 116]⟩, .string s, .int .i64 16, .int .i64 8, .iface 105 (.int .i64 2)] w fun e w' => ∃ t p, e = .returned (.iface t p) ∧ Below w.heap.size w w' := by
  refine (Any.strconv_toError_syntax (P := Tryz.prog) (ρ := Tryz.laysC172_ren) { Tryz.laysC172 with } ⟨#[80, 97, 114, 115, 101, 85, 105, 110, 116]⟩ s 16 8 ev w (by omega) hv hev).mono ?_
  rintro e w' ⟨n, rfl, _, _, hb⟩
  exact ⟨_, _, rfl, hb⟩
/-- what two digits, or none, come to -/
def P16 (t : ByteArray) (n : Int) (v : Value) : Prop :=
  0 ≤ n ∧ n ≤ 255 ∧ ErrV v ∧ (t.size = 2 → 0 ≤ hexZ (byteAt t 0).toNat → 0 ≤ hexZ (byteAt t 1).toNat → v = .nilIface ∧ n = 16 * hexZ (byteAt t 0).toNat + hexZ (byteAt t 1).toNat)
theorem parse16_any (t : ByteArray) (ht : t.size = 2 ∨ t = ⟨#[]⟩) (w : World) :
    Calls Tryz.prog 99 #[.string t, .int .i64 16, .int .i64 8] w fun e w' => ∃ n v, e = .returned (.tuple #[.int .u64 n, v]) ∧ (v = .nilIface ∨ v = .iface 105 (.int .i64 2)) ∧ P16 t n v ∧ Below w.heap.size w w' := by
  rcases ht with h | rfl
  · refine (parse16_two t h w).mono ?_
    rintro e w' ⟨n, v, rfl, h0, h1, hv, hx, rfl⟩
    refine ⟨n, v, rfl, hv, ⟨h0, h1, ?_, fun _ => hx⟩, Lib.bytesWorld_below _ _ _⟩
    rcases hv with rfl | rfl
    · exact .inl rfl
    · exact .inr ⟨_, _, rfl⟩
  · refine (parse16_none w).mono ?_
    rintro e w' ⟨rfl, rfl⟩
    exact ⟨0, _, rfl, .inr rfl, ⟨by omega, by omega, .inr ⟨_, _, rfl⟩, fun h => absurd h (by decide)⟩, Below.refl _ _⟩
theorem P16.err {t : ByteArray} {n : Int} {v v2 : Value} (h : P16 t n v) (hv : v = .iface 105 (.int .i64 2)) (h2 : ErrV v2) : P16 t n v2 :=
  ⟨h.1, h.2.1, h2, fun a b c => absurd (hv.symm.trans (h.2.2.2 a b c).1) (by intro e; cases e)⟩
set_option maxRecDepth 100000 in
set_option maxHeartbeats 2000000 in
theorem parseUint_any (t : ByteArray) (ht : t.size = 2 ∨ t = ⟨#[]⟩) (e8 : Value) (w : World) (h8 : w.cell? ⟨8, 0, none⟩ = some e8) (v8 : ErrV e8) (hz : 8 < w.heap.size) :
    Calls Tryz.prog 89 #[.string t, .int .i64 16, .int .i64 8] w fun e w' => ∃ n v, e = .returned (.tuple #[.int .u64 n, v]) ∧ P16 t n v ∧ Below w.heap.size w w' := by
  have HA := hid (parse16_any t ht)
  have HT := hid (fun W k8 => toError_syn t (by rcases ht with h | rfl; omega; decide) e8 W k8 v8)
  clear ht v8
  go_enter Tryz.func89, Tryz.ntmps89
  go_wp2_with (go_at_call 99; go_must (refine (HA.out _).mono ?_; rintro e w1 ⟨n, v, rfl, hv, hp, hb⟩; have HP := hid hp; have HB := hid hb; have HK := hid ((hb.cell (p := ⟨8, 0, none⟩) hz).trans h8); clear hp hb h8; rcases hv with rfl | rfl))
  · go_wp2
    go_ret2
    exact ⟨n, _, rfl, HP.out, HB.out⟩
  · go_wp2_with (go_at_call 71; go_must (refine (HT.out _ HK.out).mono ?_; rintro e w2 ⟨t2, p2, rfl, hb2⟩; have HB2 := hid hb2; clear hb2))
    go_ret2
    exact ⟨n, _, rfl, HP.out.err rfl (.inr ⟨_, _, rfl⟩), HB.out.trans (HB2.out.mono HB.out.size)⟩
end Go.Proofs.YtcmimbohmninkaaGreatDoor
