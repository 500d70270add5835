import Derived.Test.YtcmimbohmninkaaGreatDoorPi
namespace Go.Proofs.YtcmimbohmninkaaGreatDoor
open Go.RowKit
set_option maxRecDepth 100000 in
set_option maxHeartbeats 1000000 in
theorem word2_any (g b o : Nat) (f : ByteArray) (u : Value) (w : World) (h0 : w.cell? ⟨g, 0, none⟩ = some (.pointer (some ⟨b, o, none⟩))) (h1 : w.cell? ⟨b, o, none⟩ = some u) (h2 : w.frozen? ⟨b, o, none⟩ = false) :
    Calls Tryz.prog 51 #[.string f, .pointer (some ⟨g, 0, none⟩)] w fun e w' => e = .returned .nilIface ∧ w' = w.setCell ⟨b, o, none⟩ (.string f) := by
  go_enter Tryz.func51, Tryz.ntmps51
  go_wp2
  go_ret
  exact ⟨rfl, rfl⟩
def hdW (w : World) (b o : Nat) (f : ByteArray) : World := if f = ⟨#[42]⟩ then w else w.setCell ⟨b, o, none⟩ (.string f)
set_option maxRecDepth 100000 in
set_option maxHeartbeats 1000000 in
theorem hold2_any (g b o : Nat) (f : ByteArray) (u : Value) (w : World) (h0 : w.cell? ⟨g, 0, none⟩ = some (.pointer (some ⟨b, o, none⟩))) (h1 : w.cell? ⟨b, o, none⟩ = some u) (h2 : w.frozen? ⟨b, o, none⟩ = false) :
    Calls Tryz.prog 57 #[.string f, .pointer (some ⟨g, 0, none⟩)] w fun e w' => e = .returned .nilIface ∧ w' = hdW w b o f := by
  by_cases hf : f = ⟨#[42]⟩
  · have HE := hid (show hdW w b o f = w from if_pos hf)
    subst hf
    go_enter Tryz.func57, Tryz.ntmps57
    go_wp2
    go_ret
    exact ⟨rfl, HE.out.symm⟩
  · have HE := hid (show hdW w b o f = w.setCell ⟨b, o, none⟩ (.string f) from if_neg hf)
    have hne : (f.toList == [42]) = false := by
      have := toListNe hf
      simpa using this
    clear hf
    go_enter Tryz.func57, Tryz.ntmps57
    go_wp2
    go_ret
    exact ⟨rfl, HE.out.symm⟩
/-- a reader: what is left, and whether something was amiss -/
structure RdAt (w : World) (R : Nat) (s : ByteArray) (b : Bool) : Prop where
  c0 : w.cell? ⟨R, 0, none⟩ = some (.string s)
  c1 : w.cell? ⟨R, 1, none⟩ = some (.bool b)
  f0 : w.frozen? ⟨R, 0, none⟩ = false
  f1 : w.frozen? ⟨R, 1, none⟩ = false
theorem RdAt.rest {w : World} {R : Nat} {s : ByteArray} {b : Bool} (h : RdAt w R s b) (t : ByteArray) : RdAt (w.setCell ⟨R, 0, none⟩ (.string t)) R t b :=
  ⟨World.cell?_setCell_same _ _ _ h.c0, (World.cell?_setCell_other _ _ _ _ (by intro e; cases e)).trans h.c1, by simpa using h.f0, by simpa using h.f1⟩
theorem RdAt.amiss {w : World} {R : Nat} {s : ByteArray} {b : Bool} (h : RdAt w R s b) (d : Bool) : RdAt (w.setCell ⟨R, 1, none⟩ (.bool d)) R s d :=
  ⟨(World.cell?_setCell_other _ _ _ _ (by intro e; cases e)).trans h.c0, World.cell?_setCell_same _ _ _ h.c1, by simpa using h.f0, by simpa using h.f1⟩
/-- so many bytes that come next -/
def nxS (s : ByteArray) (k : Nat) : ByteArray := if s.size < k then ⟨#[]⟩ else s.extract 0 k
def nxR (s : ByteArray) (k : Nat) : ByteArray := if s.size < k then s else s.extract k s.size
def nxA (s : ByteArray) (b : Bool) (k : Nat) : Bool := if s.size < k then true else b
set_option maxRecDepth 100000 in
set_option maxHeartbeats 1000000 in
theorem next_any (R : Nat) (s : ByteArray) (b : Bool) (k : Nat) (_hk : k ≤ 2) (_hs : (s.size : Int) ≤ 1048576) (w : World) (h : RdAt w R s b) :
    Calls Tryz.prog 74 #[.pointer (some ⟨R, 0, none⟩), .int .i64 k] w fun e w' => e = .returned (.string (nxS s k)) ∧ RdAt w' R (nxR s k) (nxA s b k) ∧ Fr R (R + 1) w w' := by
  have c0 := h.c0
  have c1 := h.c1
  have f0 := h.f0
  have f1 := h.f1
  by_cases hl : s.size < k
  · have H1 := hid (h.amiss true)
    rw [show nxS s k = ⟨#[]⟩ from if_pos hl, show nxR s k = s from if_pos hl, show nxA s b k = true from if_pos hl]
    clear h
    go_enter Tryz.func74, Tryz.ntmps74
    go_wp2
    go_ret
    exact ⟨rfl, H1.out, (Fr.refl R (R + 1) w).setCell (p := ⟨R, 1, none⟩) (Nat.le_refl _) (Nat.lt_succ_self _) _⟩
  · have H1 := hid (h.rest (s.extract k s.size))
    rw [show nxS s k = s.extract 0 k from if_neg hl, show nxR s k = s.extract k s.size from if_neg hl, show nxA s b k = b from if_neg hl]
    clear h
    have hi : (k : Int) ≤ (s.size : Int) := by omega
    go_enter Tryz.func74, Tryz.ntmps74
    go_wp2
    go_ret
    exact ⟨rfl, H1.out, (Fr.refl R (R + 1) w).setCell (p := ⟨R, 0, none⟩) (Nat.le_refl _) (Nat.lt_succ_self _) _⟩
end Go.Proofs.YtcmimbohmninkaaGreatDoor
