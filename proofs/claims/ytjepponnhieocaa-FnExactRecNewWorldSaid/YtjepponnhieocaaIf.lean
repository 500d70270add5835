import Derived.Test.YtjepponnhieocaaIe
import Derived.Test.YtjepponnhieocaaO
import Derived.ProofKit
import Derived.SizedLaws
namespace Go.Proofs.Ytjepponnhieocaa
open Go.ChangeShapes Go.WideShapes Go.ChangeAt Go.RowKit
open Go.WideMaps Go.WideElems
def nwR (n : Nat) : Rw := ⟨n, fun i => rc0 ((i : Int) + 1) n true, 0, fun _ => ⟨0, 0, 0, 0, 0, 0, ⟨#[]⟩, 0, fun _ => ⟨0, ⟨#[]⟩⟩⟩, 0, fun _ => ⟨0, ⟨#[]⟩⟩⟩
def nwA (ad : Option Addr) (cap : Nat) : RwA := ⟨ad, none, none, cap, 0, 0, fun _ => rcA0⟩
theorem nwR_fit {n : Nat} (h : n ≤ 5) : RwFit (nwR n) := ⟨by show (n : Int) ≤ _; omega, fun i _ => rc0_fit _ _ _, by show ((0 : Nat) : Int) ≤ _; omega, fun i hi => absurd hi (Nat.not_lt_zero _), by show ((0 : Nat) : Int) ≤ _; omega, fun i hi => absurd hi (Nat.not_lt_zero _)⟩
theorem nwR_in {w : World} {lo hi n : Nat} {ad : Option Addr} {cap : Nat} (h : RcsIn w lo hi ad n (fun i => rc0 ((i : Int) + 1) n true) (fun _ => rcA0)) : RwIn w lo hi (nwR n) (nwA ad cap) := ⟨h, fun _i hi => absurd hi (Nat.not_lt_zero _), fun _i hi => absurd hi (Nat.not_lt_zero _)⟩
theorem NwRow.isIn {w : World} {g n lo : Nat} (h : NwRow w g n n) (hl : lo ≤ g) : RcsIn w lo w.heap.size (some ⟨g, 0, none⟩) n (fun i => rc0 ((i : Int) + 1) n true) (fun _ => rcA0) := fun i hi =>
  ⟨g, 0, rfl, hl, h.room.lt, by rw [Nat.zero_add]; exact h.at_ i hi, rc0_in _ _ _ _ _ _⟩
set_option maxRecDepth 100000 in
set_option maxHeartbeats 8000000 in
theorem newLawYes (n : Nat) (w : World) (h1 : 1 ≤ n) (h5 : n ≤ 5) : Calls Try.prog 3 #[.int .i64 n] w fun e w' => e = .returned (.bool true) ∧ Below w.heap.size w w' := by
  have hneg : ¬ ((1 : Int) + 11 * n < 0) := by omega
  go_enter Try.func3, Try.ntmps3
  go_wp2_with fail
  refine (newSpecYes_any n w h1 h5).mono ?_
  rintro e w1 ⟨ad, cap, rfl, in1, hb1⟩
  have IN := hid in1
  clear in1
  go_wp2_with fail
  refine (newWorldYes_any n _ h1 h5).mono ?_
  rintro e w2 ⟨g, rfl, hg, row, hb2⟩
  have z2 := hb2.size
  simp only [World.size_alloc] at hg z2
  have b12 : Below w1.heap.size w1 w2 := (below_alloc w1 _).trans (hb2.mono (by simp))
  have K3 : Holds w2 w1.heap.size #[.slice ad n cap, .slice none 0 0, .slice none 0 0] := (holds_new w1 _ 26).below hb2 (by simp)
  have hgl := row.room.lt
  have HB1 := hid hb1
  have RW := hid row
  clear hb1 hb2 row
  obtain ⟨k0, k1, k2⟩ := holds3 K3
  have a0 : ∀ o, (w2.alloc o).cell? ⟨w1.heap.size, 0, none⟩ = some (.slice ad n cap) := fun o => (World.cell?_alloc_past _ _ _ (by (try simp); omega)).trans k0
  have a1 : ∀ o, (w2.alloc o).cell? ⟨w1.heap.size, 1, none⟩ = some (.slice none 0 0) := fun o => (World.cell?_alloc_past _ _ _ (by (try simp); omega)).trans k1
  have a2 : ∀ o, (w2.alloc o).cell? ⟨w1.heap.size, 2, none⟩ = some (.slice none 0 0) := fun o => (World.cell?_alloc_past _ _ _ (by (try simp); omega)).trans k2
  go_wp2_with fail
  obtain ⟨W2, hW2⟩ : ∃ W2, w2.alloc (.cells #[.slice (some ⟨g, 0, none⟩) n n, .slice none 0 0, .slice none 0 0] 26) = W2 := ⟨_, rfl⟩
  have bW2 : Below w2.heap.size w2 W2 := by rw [← hW2]; exact below_alloc _ _
  have sW2 : W2.heap.size = w2.heap.size + 1 := by rw [← hW2]; simp
  have K4 : Holds W2 w2.heap.size #[.slice (some ⟨g, 0, none⟩) n n, .slice none 0 0, .slice none 0 0] := by rw [← hW2]; exact holds_new _ _ _
  have K3' : Holds W2 w1.heap.size #[.slice ad n cap, .slice none 0 0, .slice none 0 0] := K3.below bW2 (by omega)
  have rowW : NwRow W2 g n n := RW.out.fr (lo := 0) (hi := 0) (Fr.of_below bW2) (Or.inr (Nat.zero_le _))
  rw [hW2]
  clear hW2 a0 a1 a2 k0 k1 k2 K3
  refine (eqRw_any (nwR n) (nwA (some ⟨g, 0, none⟩) n) (nwA ad cap) W2 w1.heap.size W2.heap.size w.heap.size w1.heap.size (Nat.le_refl _) (by omega) (nwR_fit h5) (nwR_in (rowW.isIn (by omega))) ((nwR_in IN.out).below (b12.trans (bW2.mono (by omega))) (Nat.le_refl _))).mono ?_
  rintro e w3 ⟨rfl, hb3⟩
  have z3 := hb3.size
  have K4a : Holds w3 w2.heap.size #[.slice (some ⟨g, 0, none⟩) n n, .slice none 0 0, .slice none 0 0] := K4.below hb3 (by omega)
  have K3a : Holds w3 w1.heap.size #[.slice ad n cap, .slice none 0 0, .slice none 0 0] := K3'.below hb3 (by omega)
  have row3 : NwRow w3 g n n := rowW.fr (lo := 0) (hi := 0) (Fr.of_below hb3) (Or.inr (Nat.zero_le _))
  have b13 : Below w1.heap.size w1 w3 := (b12.trans (bW2.mono (by omega))).trans (hb3.mono (by omega))
  clear K4 K3' rowW hb3 b12 bW2 RW
  obtain ⟨k0, k1, k2⟩ := holds3 K4a
  go_wp2_with fail
  refine (markNw_any g n w3 h5 row3).mono ?_
  clear k0 k1 k2
  rintro e w4 ⟨rfl, m4, f4⟩
  have z4 := f4.size
  have K4b : Holds w4 w2.heap.size #[.slice (some ⟨g, 0, none⟩) n n, .slice none 0 0, .slice none 0 0] := K4a.fr f4 (by omega) (Or.inr (by omega))
  have K3b : Holds w4 w1.heap.size #[.slice ad n cap, .slice none 0 0, .slice none 0 0] := K3a.fr f4 (by omega) (Or.inl (by omega))
  have b14 : Below w1.heap.size w1 w4 := b13.trans (f4.below (by omega) (by omega))
  clear K4a K3a row3 b13 f4
  obtain ⟨k0, k1, k2⟩ := holds3 K4b
  have M4 := hid m4
  clear m4
  go_wp2_with fail
  refine (heldNw_any g n w4 h5 M4.out).mono ?_
  clear k0 k1 k2
  rintro e w5 ⟨rfl, hb5⟩
  have z5 := hb5.size
  have K4c : Holds w5 w2.heap.size #[.slice (some ⟨g, 0, none⟩) n n, .slice none 0 0, .slice none 0 0] := K4b.below hb5 (by omega)
  have K3c : Holds w5 w1.heap.size #[.slice ad n cap, .slice none 0 0, .slice none 0 0] := K3b.below hb5 (by omega)
  have M5 := hid (M4.out.fr (lo := 0) (hi := 0) (Fr.of_below hb5) (Or.inr (Nat.zero_le _)))
  have b15 : Below w1.heap.size w1 w5 := b14.trans (hb5.mono (by omega))
  clear K4b K3b hb5 b14 M4
  go_wp2_with fail
  refine (newWorldYes_any n w5 h1 h5).mono ?_
  rintro e w6 ⟨g2, rfl, hg2, row2, hb6⟩
  have z6 := hb6.size
  have K4d : Holds w6 w2.heap.size #[.slice (some ⟨g, 0, none⟩) n n, .slice none 0 0, .slice none 0 0] := K4c.below hb6 (by omega)
  have K3d : Holds w6 w1.heap.size #[.slice ad n cap, .slice none 0 0, .slice none 0 0] := K3c.below hb6 (by omega)
  have M6 := hid (M5.out.fr (lo := 0) (hi := 0) (Fr.of_below hb6) (Or.inr (Nat.zero_le _)))
  have b16 : Below w1.heap.size w1 w6 := b15.trans (hb6.mono (by omega))
  have RW2 := hid row2
  clear K4c K3c hb6 b15 M5 row2
  obtain ⟨k0, k1, k2⟩ := holds3 K3d
  have a0 : ∀ o, (w6.alloc o).cell? ⟨w1.heap.size, 0, none⟩ = some (.slice ad n cap) := fun o => (World.cell?_alloc_past _ _ _ (by (try simp); omega)).trans k0
  have a1 : ∀ o, (w6.alloc o).cell? ⟨w1.heap.size, 1, none⟩ = some (.slice none 0 0) := fun o => (World.cell?_alloc_past _ _ _ (by (try simp); omega)).trans k1
  have a2 : ∀ o, (w6.alloc o).cell? ⟨w1.heap.size, 2, none⟩ = some (.slice none 0 0) := fun o => (World.cell?_alloc_past _ _ _ (by (try simp); omega)).trans k2
  go_wp2_with fail
  obtain ⟨W6, hW6⟩ : ∃ W6, w6.alloc (.cells #[.slice (some ⟨g2, 0, none⟩) n n, .slice none 0 0, .slice none 0 0] 26) = W6 := ⟨_, rfl⟩
  have bW6 : Below w6.heap.size w6 W6 := by rw [← hW6]; exact below_alloc _ _
  have sW6 : W6.heap.size = w6.heap.size + 1 := by rw [← hW6]; simp
  have row6 : NwRow W6 g2 n n := RW2.out.fr (lo := 0) (hi := 0) (Fr.of_below bW6) (Or.inr (Nat.zero_le _))
  have K4e : Holds W6 w2.heap.size #[.slice (some ⟨g, 0, none⟩) n n, .slice none 0 0, .slice none 0 0] := K4d.below bW6 (by omega)
  have M7 := hid (M6.out.fr (lo := 0) (hi := 0) (Fr.of_below bW6) (Or.inr (Nat.zero_le _)))
  have b17 : Below w1.heap.size w1 W6 := b16.trans (bW6.mono (by omega))
  rw [hW6]
  clear hW6 a0 a1 a2 k0 k1 k2 K3d K4d b16 M6 RW2 bW6
  refine (eqRw_any (nwR n) (nwA (some ⟨g2, 0, none⟩) n) (nwA ad cap) W6 w1.heap.size W6.heap.size w.heap.size w1.heap.size (Nat.le_refl _) (by omega) (nwR_fit h5) (nwR_in (row6.isIn (by omega))) ((nwR_in IN.out).below b17 (Nat.le_refl _))).mono ?_
  rintro e w7 ⟨rfl, hb7⟩
  have z7 := hb7.size
  obtain ⟨k0, k1, k2⟩ := holds3 (K4e.below hb7 (by omega))
  have M8 := hid (M7.out.fr (lo := 0) (hi := 0) (Fr.of_below hb7) (Or.inr (Nat.zero_le _)))
  have b18 : Below w1.heap.size w1 w7 := b17.trans (hb7.mono (by omega))
  clear K4e M7 b17 hb7 row6
  go_wp2_with fail
  refine (heldNw_any g n w7 h5 M8.out).mono ?_
  rintro e w8 ⟨rfl, hb8⟩
  have hbf : Below w.heap.size w w8 := (HB1.out.trans (b18.mono HB1.out.size)).trans (hb8.mono (by have := HB1.out.size; omega))
  clear k0 k1 k2 M8 b18 hb8
  go_wp2
  go_ret
  exact ⟨rfl, hbf⟩
set_option maxRecDepth 100000 in
set_option maxHeartbeats 8000000 in
theorem newLawNo (a : Int) (w : World) (h : inB a 1 5 = false) : Calls Try.prog 3 #[.int .i64 a] w fun e w' => e = .returned (.bool true) ∧ Below w.heap.size w w' := by
  have cS := hid (fun X => newSpecNo_any a X h)
  have cI := hid (fun X => newWorldNo_any a X h)
  have cM := hid markZ_any
  have cH := hid heldZ_any
  have cE := hid (fun X : World => eqRw_any (nwR 0) (nwA none 0) (nwA none 0) X 0 0 0 0 (Nat.zero_le _) (Nat.zero_le _) (nwR_fit (by omega)) (nwR_in (fun i hi => absurd hi (Nat.not_lt_zero _))) (nwR_in (fun i hi => absurd hi (Nat.not_lt_zero _))))
  unfold zrw at cS cI cM cH
  clear h
  go_enter Try.func3, Try.ntmps3
  go_wp2_with fail
  refine (cS.out w).mono ?_
  rintro e w1 ⟨rfl, hb1⟩
  go_wp2_with fail
  refine (cI.out _).mono ?_
  rintro e w2 ⟨rfl, hb2⟩
  have z2 := hb2.size
  simp only [World.size_alloc] at z2
  have b12 : Below w1.heap.size w1 w2 := (below_alloc w1 _).trans (hb2.mono (by simp))
  have K3 : Holds w2 w1.heap.size #[.slice none 0 0, .slice none 0 0, .slice none 0 0] := (holds_new w1 _ 26).below hb2 (by simp)
  have HB1 := hid hb1
  clear hb1 hb2
  obtain ⟨k0, k1, k2⟩ := holds3 K3
  have a0 : ∀ o, (w2.alloc o).cell? ⟨w1.heap.size, 0, none⟩ = some (.slice none 0 0) := fun o => (World.cell?_alloc_past _ _ _ (by (try simp); omega)).trans k0
  have a1 : ∀ o, (w2.alloc o).cell? ⟨w1.heap.size, 1, none⟩ = some (.slice none 0 0) := fun o => (World.cell?_alloc_past _ _ _ (by (try simp); omega)).trans k1
  have a2 : ∀ o, (w2.alloc o).cell? ⟨w1.heap.size, 2, none⟩ = some (.slice none 0 0) := fun o => (World.cell?_alloc_past _ _ _ (by (try simp); omega)).trans k2
  go_wp2_with fail
  obtain ⟨W2, hW2⟩ : ∃ W2, w2.alloc (.cells #[.slice none 0 0, .slice none 0 0, .slice none 0 0] 26) = W2 := ⟨_, rfl⟩
  have bW2 : Below w2.heap.size w2 W2 := by rw [← hW2]; exact below_alloc _ _
  have sW2 : W2.heap.size = w2.heap.size + 1 := by rw [← hW2]; simp
  have K4 : Holds W2 w2.heap.size #[.slice none 0 0, .slice none 0 0, .slice none 0 0] := by rw [← hW2]; exact holds_new _ _ _
  have K3' : Holds W2 w1.heap.size #[.slice none 0 0, .slice none 0 0, .slice none 0 0] := K3.below bW2 (by omega)
  rw [hW2]
  clear hW2 a0 a1 a2 k0 k1 k2 K3
  refine (cE.out W2).mono ?_
  rintro e w3 ⟨rfl, hb3⟩
  have z3 := hb3.size
  have K4a : Holds w3 w2.heap.size #[.slice none 0 0, .slice none 0 0, .slice none 0 0] := K4.below hb3 (by omega)
  have K3a : Holds w3 w1.heap.size #[.slice none 0 0, .slice none 0 0, .slice none 0 0] := K3'.below hb3 (by omega)
  have b13 : Below w1.heap.size w1 w3 := (b12.trans (bW2.mono (by omega))).trans (hb3.mono (by omega))
  clear K4 K3' hb3 b12 bW2
  obtain ⟨k0, k1, k2⟩ := holds3 K4a
  go_wp2_with fail
  refine (cM.out w3).mono ?_
  clear k0 k1 k2
  rintro e w4 ⟨rfl, hb4⟩
  have z4 := hb4.size
  have K4b : Holds w4 w2.heap.size #[.slice none 0 0, .slice none 0 0, .slice none 0 0] := K4a.below hb4 (by omega)
  have K3b : Holds w4 w1.heap.size #[.slice none 0 0, .slice none 0 0, .slice none 0 0] := K3a.below hb4 (by omega)
  have b14 : Below w1.heap.size w1 w4 := b13.trans (hb4.mono (by omega))
  clear K4a K3a b13 hb4
  obtain ⟨k0, k1, k2⟩ := holds3 K4b
  go_wp2_with fail
  refine (cH.out w4).mono ?_
  clear k0 k1 k2
  rintro e w5 ⟨rfl, hb5⟩
  have z5 := hb5.size
  have K4c : Holds w5 w2.heap.size #[.slice none 0 0, .slice none 0 0, .slice none 0 0] := K4b.below hb5 (by omega)
  have K3c : Holds w5 w1.heap.size #[.slice none 0 0, .slice none 0 0, .slice none 0 0] := K3b.below hb5 (by omega)
  have b15 : Below w1.heap.size w1 w5 := b14.trans (hb5.mono (by omega))
  clear K4b K3b hb5 b14
  go_wp2_with fail
  refine (cI.out w5).mono ?_
  rintro e w6 ⟨rfl, hb6⟩
  have z6 := hb6.size
  have K4d : Holds w6 w2.heap.size #[.slice none 0 0, .slice none 0 0, .slice none 0 0] := K4c.below hb6 (by omega)
  have K3d : Holds w6 w1.heap.size #[.slice none 0 0, .slice none 0 0, .slice none 0 0] := K3c.below hb6 (by omega)
  have b16 : Below w1.heap.size w1 w6 := b15.trans (hb6.mono (by omega))
  clear K4c K3c hb6 b15
  obtain ⟨k0, k1, k2⟩ := holds3 K3d
  have a0 : ∀ o, (w6.alloc o).cell? ⟨w1.heap.size, 0, none⟩ = some (.slice none 0 0) := fun o => (World.cell?_alloc_past _ _ _ (by (try simp); omega)).trans k0
  have a1 : ∀ o, (w6.alloc o).cell? ⟨w1.heap.size, 1, none⟩ = some (.slice none 0 0) := fun o => (World.cell?_alloc_past _ _ _ (by (try simp); omega)).trans k1
  have a2 : ∀ o, (w6.alloc o).cell? ⟨w1.heap.size, 2, none⟩ = some (.slice none 0 0) := fun o => (World.cell?_alloc_past _ _ _ (by (try simp); omega)).trans k2
  go_wp2_with fail
  obtain ⟨W6, hW6⟩ : ∃ W6, w6.alloc (.cells #[.slice none 0 0, .slice none 0 0, .slice none 0 0] 26) = W6 := ⟨_, rfl⟩
  have bW6 : Below w6.heap.size w6 W6 := by rw [← hW6]; exact below_alloc _ _
  have sW6 : W6.heap.size = w6.heap.size + 1 := by rw [← hW6]; simp
  have K4e : Holds W6 w2.heap.size #[.slice none 0 0, .slice none 0 0, .slice none 0 0] := K4d.below bW6 (by omega)
  have b17 : Below w1.heap.size w1 W6 := b16.trans (bW6.mono (by omega))
  rw [hW6]
  clear hW6 a0 a1 a2 k0 k1 k2 K3d K4d b16 bW6
  refine (cE.out W6).mono ?_
  rintro e w7 ⟨rfl, hb7⟩
  have z7 := hb7.size
  obtain ⟨k0, k1, k2⟩ := holds3 (K4e.below hb7 (by omega))
  have b18 : Below w1.heap.size w1 w7 := b17.trans (hb7.mono (by omega))
  clear K4e b17 hb7
  go_wp2_with fail
  refine (cH.out w7).mono ?_
  rintro e w8 ⟨rfl, hb8⟩
  have hbf : Below w.heap.size w w8 := (HB1.out.trans (b18.mono HB1.out.size)).trans (hb8.mono (by have := HB1.out.size; omega))
  clear k0 k1 k2 b18 hb8
  go_wp2
  go_ret
  exact ⟨rfl, hbf⟩
theorem newWorld_law (a : Int) (w : World) : Calls Try.prog 3 #[.int .i64 a] w fun e w' => e = .returned (.bool true) ∧ Below w.heap.size w w' := by
  cases h : inB a 1 5 with
  | false => exact newLawNo a w h
  | true =>
    have h2 : 1 ≤ a ∧ a ≤ 5 := by simpa [inB] using h
    obtain ⟨n, rfl⟩ : ∃ n : Nat, a = n := ⟨a.toNat, by omega⟩
    exact newLawYes n w (by omega) (by omega)
set_option maxRecDepth 100000 in
theorem newWorld_lifted (os : Os) (started : os.Started) (H : Type) (enc : TypeId × Value → H) :
    ReturnsInHanded {} Try.checked os 3 .any (Rows.fnExactRecNewWorldSpec.pre6 enc Try.prog Try.f3 Rows.fnExactRecNewWorldRow.domain false) (Rows.fnExactRecNewWorldSpec.post enc Try.prog Try.f3 false true false false) := by
  refine returnsInHanded_of_change_sized (C := Try.checked) Try.own started (by kernel_rfl) Try.func3
    (ChangeSpec.witness6 (enc := enc) (C := Try.checked) false ⟨#[], #[.int .i64 0], []⟩ 8 (by kernel_rfl) (by kernel_rfl) (by kernel_rfl) (by kernel_rfl)) ?_
  intro W base args ds gs before hval0 hW _ hsz0 _
  clear hsz0
  have hval : ∀ (j : Nat) t v, Try.f3.params[j]? = some t → args[j]? = some v → Value.okWide Try.prog W .any base t v := hval0
  have hW' := hW
  obtain ⟨p, q, hA0, hV, rfl, _, _⟩ := hW
  have hA : DataW.TrodAll enc Try.prog W 0 (fun _ => true) true Try.f3.params.toList args.toList ds p := hA0
  rw [Try.params3] at hA hval
  obtain ⟨v0, d0, rfl, rfl, h0⟩ := trodAll_one hA
  obtain ⟨rfl, rfl⟩ := trodVars_none hV
  obtain ⟨n1, rfl, rfl, rfl, hn1⟩ := open_int Try.underlying3 (hval 0 3 v0 rfl rfl) h0
  clear hA0 hval0
  simp only [List.append_nil] at hW'
  refine (newWorld_law n1 W).mono fun e W' ⟨he, hb⟩ => ?_
  subst he
  refine ⟨_, rfl, _, _, _, [], [], [], hW', ?_, ?_, rfl, hb.frame _, fun h => by cases h⟩
  · exact trodAll_mk1 (shut_bool Try.underlying4 true)
  · exact trodAll_mk1 (shut_int Try.underlying3 hn1)
theorem newWorld_holds : Rows.FnExactRecNewWorldSaid :=
  OpenClaim.holds_of_wide 3 Try.f3 rfl rfl rfl rfl rfl rfl rfl ⟨rfl, rfl, rfl, rfl, rfl⟩ rfl rfl rfl rfl rfl (by kernel_rfl) Try.func3 (by kernel_rfl)
    (of_decide_eq_true (by kernel_rfl)) (by unfold Func.isWrapper; rw [if_neg (of_decide_eq_false (by kernel_rfl))]; exact ⟨rfl, rfl⟩)
    (fun os started H enc _ => newWorld_lifted os started H enc)
end Go.Proofs.Ytjepponnhieocaa
