import Derived.Test.YtkcgfjnmkbbnoaaNl
namespace Go.Proofs.Ytkcgfjnmkbbnoaa
open Go.ChangeShapes Go.WideShapes Go.ChangeAt Go.RowKit
open Go.WideMaps Go.WideElems
set_option maxRecDepth 100000 in
set_option maxHeartbeats 8000000 in
theorem logNewLaw {a : Int} {n d : Nat} {Nw Mk : World → Nat → Option Addr → Nat → Prop} (hh : NwWays a n d Nw Mk) (w : World) : Calls Try.prog 3 #[.int .i64 a] w fun e w' => e = .returned (.bool true) ∧ Below w.heap.size w w' := by
  have hneg : ¬ ((1 : Int) + 11 * n < 0) := by omega
  have h5 := hh.n5
  have HH := hid hh
  clear hh
  go_enter Try.func3, Try.ntmps3
  go_wp2_with fail
  refine (specLogNew HH.out w).mono ?_
  rintro e w1 ⟨ad, cap, rfl, in1, hb1⟩
  have IN := hid in1
  clear in1
  go_wp2_with fail
  refine (implLogNew HH.out _).mono ?_
  rintro e w2 ⟨ad2, cap2, g, rfl, hg, hgd, row, hb2⟩
  have z2 := hb2.size
  simp only [World.size_alloc] at hg z2
  have b12 : Below w1.heap.size w1 w2 := (below_alloc w1 _).trans (hb2.mono (by simp))
  have K3 : Holds w2 w1.heap.size (lwC ad n cap) := (holds_new w1 _ 29).below hb2 (by simp)
  have HB1 := hid hb1
  have RW := hid row
  clear hb1 hb2 row
  obtain ⟨k0, k1, k2, k3, k4⟩ := holds5 K3
  have a0 : ∀ o, (w2.alloc o).cell? ⟨w1.heap.size, 0, none⟩ = some (.slice ad n cap) := fun o => (World.cell?_alloc_past _ _ _ (by (try simp); omega)).trans k0
  have a1 : ∀ o, (w2.alloc o).cell? ⟨w1.heap.size, 1, none⟩ = some (.slice none 0 0) := fun o => (World.cell?_alloc_past _ _ _ (by (try simp); omega)).trans k1
  have a2 : ∀ o, (w2.alloc o).cell? ⟨w1.heap.size, 2, none⟩ = some (.slice none 0 0) := fun o => (World.cell?_alloc_past _ _ _ (by (try simp); omega)).trans k2
  have a3 : ∀ o, (w2.alloc o).cell? ⟨w1.heap.size, 3, none⟩ = some (.int .i64 0) := fun o => (World.cell?_alloc_past _ _ _ (by (try simp); omega)).trans k3
  have a4 : ∀ o, (w2.alloc o).cell? ⟨w1.heap.size, 4, none⟩ = some (.slice none 0 0) := fun o => (World.cell?_alloc_past _ _ _ (by (try simp); omega)).trans k4
  go_wp2_with fail
  obtain ⟨W2, hW2⟩ : ∃ W2, w2.alloc (.cells (lwC ad2 n cap2) 29) = W2 := ⟨_, rfl⟩
  have bW2 : Below w2.heap.size w2 W2 := by rw [← hW2]; exact below_alloc _ _
  have sW2 : W2.heap.size = w2.heap.size + 1 := by rw [← hW2]; simp
  have K4 : Holds W2 w2.heap.size (lwC ad2 n cap2) := by rw [← hW2]; exact holds_new _ _ _
  have K3' : Holds W2 w1.heap.size (lwC ad n cap) := K3.below bW2 (by omega)
  have rowW := hid (HH.out.nwB _ _ _ _ _ RW.out bW2)
  rw [hW2]
  clear hW2 a0 a1 a2 a3 a4 k0 k1 k2 k3 k4 K3
  refine (eqLw h5 ad2 ad cap2 cap W2 w1.heap.size W2.heap.size w.heap.size w1.heap.size (Nat.le_refl _) (by omega) (HH.out.isIn _ _ _ _ _ rowW.out (by omega)) (IN.out.grow (b12.trans (bW2.mono (by omega))))).mono ?_
  rintro e w3 ⟨rfl, hb3⟩
  have z3 := hb3.size
  have K4a : Holds w3 w2.heap.size (lwC ad2 n cap2) := K4.below hb3 (by omega)
  have K3a : Holds w3 w1.heap.size (lwC ad n cap) := K3'.below hb3 (by omega)
  have row3 := hid (HH.out.nwB _ _ _ _ _ rowW.out hb3)
  have b13 : Below w1.heap.size w1 w3 := (b12.trans (bW2.mono (by omega))).trans (hb3.mono (by omega))
  clear K4 K3' rowW hb3 b12 bW2 RW
  obtain ⟨k0, k1, k2, k3, k4⟩ := holds5 K4a
  go_wp2_with fail
  refine (markLw HH.out w3 g ad2 cap2 row3.out (by omega)).mono ?_
  clear k0 k1 k2 k3 k4
  rintro e w4 ⟨rfl, m4, f4⟩
  have z4 := f4.size
  have K4b : Holds w4 w2.heap.size (lwC ad2 n cap2) := K4a.fr f4 (by omega) (Or.inr (by omega))
  have K3b : Holds w4 w1.heap.size (lwC ad n cap) := K3a.fr f4 (by omega) (Or.inl (by omega))
  have b14 : Below w1.heap.size w1 w4 := b13.trans (f4.below (by omega) (by omega))
  clear K4a K3a row3 b13 f4
  obtain ⟨k0, k1, k2, k3, k4⟩ := holds5 K4b
  have M4 := hid m4
  clear m4
  go_wp2_with fail
  refine (heldLw HH.out w4 g ad2 cap2 M4.out (by omega)).mono ?_
  clear k0 k1 k2 k3 k4
  rintro e w5 ⟨rfl, hb5⟩
  have z5 := hb5.size
  have K4c : Holds w5 w2.heap.size (lwC ad2 n cap2) := K4b.below hb5 (by omega)
  have K3c : Holds w5 w1.heap.size (lwC ad n cap) := K3b.below hb5 (by omega)
  have M5 := hid (HH.out.mkB _ _ _ _ _ M4.out hb5)
  have b15 : Below w1.heap.size w1 w5 := b14.trans (hb5.mono (by omega))
  clear K4b K3b hb5 b14 M4
  go_wp2_with fail
  refine (implLogNew HH.out w5).mono ?_
  rintro e w6 ⟨ad3, cap3, g2, rfl, hg2, hgd2, row2, hb6⟩
  have z6 := hb6.size
  have K4d : Holds w6 w2.heap.size (lwC ad2 n cap2) := K4c.below hb6 (by omega)
  have K3d : Holds w6 w1.heap.size (lwC ad n cap) := K3c.below hb6 (by omega)
  have M6 := hid (HH.out.mkB _ _ _ _ _ M5.out hb6)
  have b16 : Below w1.heap.size w1 w6 := b15.trans (hb6.mono (by omega))
  have RW2 := hid row2
  clear K4c K3c hb6 b15 M5 row2
  obtain ⟨k0, k1, k2, k3, k4⟩ := holds5 K3d
  have a0 : ∀ o, (w6.alloc o).cell? ⟨w1.heap.size, 0, none⟩ = some (.slice ad n cap) := fun o => (World.cell?_alloc_past _ _ _ (by (try simp); omega)).trans k0
  have a1 : ∀ o, (w6.alloc o).cell? ⟨w1.heap.size, 1, none⟩ = some (.slice none 0 0) := fun o => (World.cell?_alloc_past _ _ _ (by (try simp); omega)).trans k1
  have a2 : ∀ o, (w6.alloc o).cell? ⟨w1.heap.size, 2, none⟩ = some (.slice none 0 0) := fun o => (World.cell?_alloc_past _ _ _ (by (try simp); omega)).trans k2
  have a3 : ∀ o, (w6.alloc o).cell? ⟨w1.heap.size, 3, none⟩ = some (.int .i64 0) := fun o => (World.cell?_alloc_past _ _ _ (by (try simp); omega)).trans k3
  have a4 : ∀ o, (w6.alloc o).cell? ⟨w1.heap.size, 4, none⟩ = some (.slice none 0 0) := fun o => (World.cell?_alloc_past _ _ _ (by (try simp); omega)).trans k4
  go_wp2_with fail
  obtain ⟨W6, hW6⟩ : ∃ W6, w6.alloc (.cells (lwC ad3 n cap3) 29) = W6 := ⟨_, rfl⟩
  have bW6 : Below w6.heap.size w6 W6 := by rw [← hW6]; exact below_alloc _ _
  have sW6 : W6.heap.size = w6.heap.size + 1 := by rw [← hW6]; simp
  have row6 := hid (HH.out.nwB _ _ _ _ _ RW2.out bW6)
  have K4e : Holds W6 w2.heap.size (lwC ad2 n cap2) := K4d.below bW6 (by omega)
  have M7 := hid (HH.out.mkB _ _ _ _ _ M6.out bW6)
  have b17 : Below w1.heap.size w1 W6 := b16.trans (bW6.mono (by omega))
  rw [hW6]
  clear hW6 a0 a1 a2 a3 a4 k0 k1 k2 k3 k4 K3d K4d b16 M6 RW2 bW6
  refine (eqLw h5 ad3 ad cap3 cap W6 w1.heap.size W6.heap.size w.heap.size w1.heap.size (Nat.le_refl _) (by omega) (HH.out.isIn _ _ _ _ _ row6.out (by omega)) (IN.out.grow b17)).mono ?_
  rintro e w7 ⟨rfl, hb7⟩
  have z7 := hb7.size
  obtain ⟨k0, k1, k2, k3, k4⟩ := holds5 (K4e.below hb7 (by omega))
  have M8 := hid (HH.out.mkB _ _ _ _ _ M7.out hb7)
  have b18 : Below w1.heap.size w1 w7 := b17.trans (hb7.mono (by omega))
  clear K4e M7 b17 hb7 row6
  go_wp2_with fail
  refine (heldLw HH.out w7 g ad2 cap2 M8.out (by omega)).mono ?_
  rintro e w8 ⟨rfl, hb8⟩
  have hbf : Below w.heap.size w w8 := (HB1.out.trans (b18.mono HB1.out.size)).trans (hb8.mono (by have := HB1.out.size; omega))
  clear k0 k1 k2 k3 k4 M8 b18 hb8
  go_wp2
  go_ret
  exact ⟨rfl, hbf⟩
theorem logNew_law (a : Int) (w : World) : Calls Try.prog 3 #[.int .i64 a] w fun e w' => e = .returned (.bool true) ∧ Below w.heap.size w w' := by
  cases h : inB a 1 5 with
  | false => exact logNewLaw (waysNo a h) w
  | true =>
    have h2 : 1 ≤ a ∧ a ≤ 5 := by simpa [inB] using h
    obtain ⟨n, rfl⟩ : ∃ n : Nat, a = n := ⟨a.toNat, by omega⟩
    exact logNewLaw (waysYes n (by omega) (by omega)) w
set_option maxRecDepth 100000 in
theorem logNew_lifted (os : Os) (started : os.Started) (H : Type) (enc : TypeId × Value → H) :
    ReturnsInHanded {} Try.checked os 3 .any (Rows.fnExactLogNewSpec.pre6 enc Try.prog Try.f3 Rows.fnExactLogNewRow.domain false) (Rows.fnExactLogNewSpec.post enc Try.prog Try.f3 false true false false) := by
  refine returnsInHanded_of_change_sized (C := Try.checked) Try.own started (by kernel_rfl) Try.func3
    (ChangeSpec.witness6 (enc := enc) (C := Try.checked) false ⟨#[], #[.int .i64 0], []⟩ 8 (by kernel_rfl) (by kernel_rfl) (by kernel_rfl) (by kernel_rfl)) ?_
  intro W base args ds gs before hval0 hW _ hsz0 _
  clear hsz0
  have hval : ∀ (j : Nat) t v, Try.f3.params[j]? = some t → args[j]? = some v → Value.okWide Try.prog W .any base t v := hval0
  have hW' := hW
  obtain ⟨p, q, hA0, hV, rfl, _, _⟩ := hW
  have hA : DataW.TrodAll enc Try.prog W 0 (fun _ => true) true Try.f3.params.toList args.toList ds p := hA0
  rw [Try.params3] at hA hval
  obtain ⟨v0, d0, rfl, rfl, h0⟩ := trodAll_one hA
  obtain ⟨rfl, rfl⟩ := trodVars_none hV
  obtain ⟨n1, rfl, rfl, rfl, hn1⟩ := open_int Try.underlying3 (hval 0 3 v0 rfl rfl) h0
  clear hA0 hval0
  simp only [List.append_nil] at hW'
  refine (logNew_law n1 W).mono fun e W' ⟨he, hb⟩ => ?_
  subst he
  refine ⟨_, rfl, _, _, _, [], [], [], hW', ?_, ?_, rfl, hb.frame _, fun h => by cases h⟩
  · exact trodAll_mk1 (shut_bool Try.underlying4 true)
  · exact trodAll_mk1 (shut_int Try.underlying3 hn1)
theorem logNew_holds : Rows.FnExactLogNewSaid :=
  OpenClaim.holds_of_wide 3 Try.f3 rfl rfl rfl rfl rfl rfl rfl ⟨rfl, rfl, rfl, rfl, rfl⟩ rfl rfl rfl rfl rfl (by kernel_rfl) Try.func3 (by kernel_rfl)
    (of_decide_eq_true (by kernel_rfl)) (by unfold Func.isWrapper; rw [if_neg (of_decide_eq_false (by kernel_rfl))]; exact ⟨rfl, rfl⟩)
    (fun os started H enc _ => logNew_lifted os started H enc)
end Go.Proofs.Ytkcgfjnmkbbnoaa
