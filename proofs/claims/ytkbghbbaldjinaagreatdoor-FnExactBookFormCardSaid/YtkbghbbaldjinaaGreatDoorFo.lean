import Derived.Test.YtkbghbbaldjinaaGreatDoorFn
import Derived.Test.YtkbghbbaldjinaaGreatDoorFp
namespace Go.Proofs.YtkbghbbaldjinaaGreatDoor
open Go.RowKit
theorem SL.block {w : World} {base : Nat} {v : Value} {xs : List ByteArray} (h : SL w base v xs) {k : Nat} (hk : w.heap.size ≤ k) : v.ownBlock ≠ some k := by
  obtain ⟨g, cap, rfl, e2, e3, _⟩ := h
  intro e
  have : g = k := by simpa [Value.ownBlock] using e
  omega
set_option maxRecDepth 100000 in
set_option maxHeartbeats 2000000 in
theorem implObj_any (B b : Nat) (l : List UInt8) (o : Ob) (ov : ObV o) (ad : Option Addr) (cap : Nat) (vF : Value) (F : Nat) (f0 : ByteArray) (fs : List ByteArray) (w : World) (lo hi : Nat) (hW : ∀ w', Below F w w' → Wr B b l w') (hBF : B ≤ F) (hF : F ≤ w.heap.size) (hS : SL w F vF (f0 :: fs)) (hT : Tab w) (hc : StrsIn w lo hi ad o.hn o.hs) (hiF : hi ≤ F) (zf : fs.length ≤ 3) (zfs : ∀ s ∈ f0 :: fs, s.size ≤ 3000002) (hl : (l.length : Int) ≤ 600000000000) :
    Calls Tryz.prog 22 #[.pointer (some ⟨b, 0, none⟩), .agg #[.string o.kind, .string o.name, .int .i64 o.ver, .int .i64 o.born, .string o.text, .bool o.ending, .slice ad o.hn cap], vF] w fun e w' => e = .returned (.tuple #[]) ∧ Wr B b (l ++ (lineS ((f0 :: fs) ++ six o ++ hol o)).data.toList) w' ∧ Below B w w' := by
  have hev := ov.ev
  have heb := ov.eb
  obtain ⟨vv, hvv⟩ : ∃ vv : Nat, o.ver.toNat = vv := ⟨_, rfl⟩
  obtain ⟨bb, hbb⟩ : ∃ bb : Nat, o.born.toNat = bb := ⟨_, rfl⟩
  have hvl := ov.lv
  have hbl := ov.lb
  have zt := ov.sm.t
  have zh := ov.sm.h
  have E6 : Hid (six o = [o.kind, o.name, dS vv, dS bb, wrdS o.ending ⟨#[101, 110, 100, 105, 110, 103]⟩, quS o.text]) := by rw [← hvv, ← hbb]; exact hid rfl
  rw [hvv] at hev hvl
  rw [hbb] at heb hbl
  rw [hev, heb]
  have HOV := hid ov
  have HW := hid hW
  have HS := hid hS
  have HT := hid hT
  have HC := hid hc
  have HZ := hid zfs
  have hlen : (((joinL ((f0 :: fs) ++ six o ++ hol o)).length : Nat) : Int) ≤ 1000000000000 := by
    have h1 := joinL_len (m := 3000002) (a := f0) (xs := fs ++ six o ++ hol o) (by
      intro s hs
      have : s ∈ f0 :: fs ∨ s ∈ six o ++ hol o := by
        simp only [List.mem_cons, List.mem_append] at hs ⊢
        rcases hs with h | (h | h) | h
        · exact Or.inl (Or.inl h)
        · exact Or.inl (Or.inr h)
        · exact Or.inr (Or.inl h)
        · exact Or.inr (Or.inr h)
      rcases this with h | h
      · exact zfs s h
      · exact six_size ov s h)
    have h2 : (fs ++ six o ++ hol o).length ≤ 1010 := by
      simp [six, hol]
      omega
    have h3 : ((fs ++ six o ++ hol o).length + 1) * (3000002 + 1) ≤ 1011 * 3000003 := Nat.mul_le_mul (by omega) (by omega)
    have h4 : (f0 :: fs) ++ six o ++ hol o = f0 :: (fs ++ six o ++ hol o) := by simp
    rw [h4]
    omega
  have hN : ((((f0 :: fs) ++ six o ++ hol o).length : Nat) : Int) ≤ 1000000000 := by
    simp [six, hol]
    omega
  clear hev heb hvv hbb ov hW hS hT hc zfs
  go_enter Tryz.func22, Tryz.ntmps22
  go_wp2_with fail
  refine objImplReg _ _ _ _ _ _ _ _ _ _ _ _ (fun _ => undef) o w.heap.size vv bb vF _ (by simp) (by simp) (by simp) (by simp) (by simp) (by simp) (by simp) hvl hbl zt (HT.out.below (below_alloc _ _)) F (f0 :: fs) (by simp; omega) (HS.out.grow (below_alloc _ _) (Nat.le_refl _)) (by simp; omega) _ ?_
  rintro t v3 X ⟨h1, h2, h3⟩
  rw [← E6.out] at h1
  have p6 : X.cell? ⟨w.heap.size, 6, none⟩ = some (.slice ad o.hn cap) := (World.cell?_of_block (h3 w.heap.size (by simp) (HS.out.block (Nat.le_refl _)))).trans (by simp)
  have hX : Below F w X := ((below_alloc w _).mono hF).trans h2
  have zX := hX.size
  have HX1 := hid h1
  have HXC := hid (HC.out.below hX hiF)
  clear h1 h2 h3
  go_wp2_with (first
    | (at_builtin; go_must (refine wpListSL rfl _ _ rfl F _ _ ((f0 :: fs) ++ six o) (hol o) rfl rfl HX1.out (strs_src HXC.out) (by have := hN; simp at this ⊢; omega) (by omega) ?_; intro v4 Y k1 k2 k3))
    | (go_at_call 20; refine (line_any B b l F v4 ((f0 :: fs) ++ six o ++ hol o) _ (HW.out _ (hX.trans k2)) (by have := k2.size; omega) k1 hN hlen (by omega)).mono ?_; rintro e Z ⟨rfl, hz, hbz⟩))
  go_end0
  exact ⟨rfl, hz, ((hX.trans k2).mono hBF).trans hbz⟩
end Go.Proofs.YtkbghbbaldjinaaGreatDoor
