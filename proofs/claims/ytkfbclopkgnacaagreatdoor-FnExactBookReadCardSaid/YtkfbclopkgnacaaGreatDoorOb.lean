import Derived.Test.YtkfbclopkgnacaaGreatDoorOa
import Derived.Test.YtkfbclopkgnacaaGreatDoorP
import Derived.Deep.QuietTactic
import Derived.BigQuiet
namespace Go.Proofs.YtkfbclopkgnacaaGreatDoor
open Go.RowKit
set_option maxRecDepth 100000 in
set_option maxHeartbeats 400000 in
theorem keyOf0_any (x : Ob) (ad : Option Addr) (cap : Nat) (w : World) :
    Calls Tryz.prog 98 #[.agg #[.string x.kind, .string x.name, .int .i64 x.ver, .int .i64 x.born, .string x.text, .bool x.ending, .slice ad x.hn cap]] w fun e w' => e = .returned (.agg #[.string x.kind, .string x.name]) ∧ Below w.heap.size w w' := by
  go_enter Tryz.func98, Tryz.ntmps98
  go_wp2
  refine bodyPost_ret (v := .agg #[.string x.kind, .string x.name]) (by simp [results, Tryz.results98, go_sem]) rfl ⟨rfl, ?_⟩
  exact ((below_alloc' _ _).alloc (by simp) _)
theorem less_irrefl : ∀ a : List UInt8, Op.bytesLess a a = false
  | [] => rfl
  | x :: a => by simp [Op.bytesLess, less_irrefl a]
theorem befB_cmp (x z : Ob) : befB x z = decide (orI (cmpI x.kind z.kind) (cmpI x.name z.name) < 0) := by
  unfold befB orI cmpI
  by_cases h2 : x.kind.toList = z.kind.toList
  · have h1 : ltB x.kind z.kind = false := by unfold ltB; rw [h2]; exact less_irrefl _
    simp only [h1, h2, if_true, Bool.false_eq_true, if_false]
    cases h3 : ltB x.name z.name with
    | true => simp
    | false => by_cases h4 : x.name.toList = z.name.toList <;> simp [h4]
  · cases h1 : ltB x.kind z.kind with
    | true => simp [h2]
    | false => simp [h2]
set_option maxRecDepth 100000 in
set_option maxHeartbeats 1000000 in
theorem objCmp_any (x z : Ob) (ad ad2 : Option Addr) (cap cap2 : Nat) (w : World) :
    Calls Tryz.prog 123 #[.agg #[.string x.kind, .string x.name, .int .i64 x.ver, .int .i64 x.born, .string x.text, .bool x.ending, .slice ad x.hn cap], .agg #[.string z.kind, .string z.name, .int .i64 z.ver, .int .i64 z.born, .string z.text, .bool z.ending, .slice ad2 z.hn cap2]] w fun e w' => e = .returned (.int .i64 (orI (cmpI x.kind z.kind) (cmpI x.name z.name))) ∧ Below w.heap.size w w' := by
  go_enter Tryz.func123, Tryz.ntmps123
  go_wp2
  have hne : Nonempty (GW ((w.alloc (.cells #[.string x.kind, .string x.name, .int .i64 x.ver, .int .i64 x.born, .string x.text, .bool x.ending, .slice ad x.hn cap] 38)).alloc (.cells #[.string z.kind, .string z.name, .int .i64 z.ver, .int .i64 z.born, .string z.text, .bool z.ending, .slice ad2 z.hn cap2] 38))) := ⟨⟨_, Below.refl _ _⟩⟩
  have x0 := subcell (W1 := (w.alloc (.cells #[.string x.kind, .string x.name, .int .i64 x.ver, .int .i64 x.born, .string x.text, .bool x.ending, .slice ad x.hn cap] 38)).alloc (.cells #[.string z.kind, .string z.name, .int .i64 z.ver, .int .i64 z.born, .string z.text, .bool z.ending, .slice ad2 z.hn cap2] 38)) (p := ⟨w.heap.size, 0, none⟩) (v := .string x.kind) (by rw [World.cell?_alloc_past _ _ _ (by simp)]; simp) (by simp; omega)
  have z0 := subcell (W1 := (w.alloc (.cells #[.string x.kind, .string x.name, .int .i64 x.ver, .int .i64 x.born, .string x.text, .bool x.ending, .slice ad x.hn cap] 38)).alloc (.cells #[.string z.kind, .string z.name, .int .i64 z.ver, .int .i64 z.born, .string z.text, .bool z.ending, .slice ad2 z.hn cap2] 38)) (p := ⟨w.heap.size + 1, 0, none⟩) (v := .string z.kind) (by simp) (by simp)
  have x1 := subcell (W1 := (w.alloc (.cells #[.string x.kind, .string x.name, .int .i64 x.ver, .int .i64 x.born, .string x.text, .bool x.ending, .slice ad x.hn cap] 38)).alloc (.cells #[.string z.kind, .string z.name, .int .i64 z.ver, .int .i64 z.born, .string z.text, .bool z.ending, .slice ad2 z.hn cap2] 38)) (p := ⟨w.heap.size, 1, none⟩) (v := .string x.name) (by rw [World.cell?_alloc_past _ _ _ (by simp)]; simp) (by simp; omega)
  have z1 := subcell (W1 := (w.alloc (.cells #[.string x.kind, .string x.name, .int .i64 x.ver, .int .i64 x.born, .string x.text, .bool x.ending, .slice ad x.hn cap] 38)).alloc (.cells #[.string z.kind, .string z.name, .int .i64 z.ver, .int .i64 z.born, .string z.text, .bool z.ending, .slice ad2 z.hn cap2] 38)) (p := ⟨w.heap.size + 1, 1, none⟩) (v := .string z.name) (by simp) (by simp)
  have x2 := subcell (W1 := (w.alloc (.cells #[.string x.kind, .string x.name, .int .i64 x.ver, .int .i64 x.born, .string x.text, .bool x.ending, .slice ad x.hn cap] 38)).alloc (.cells #[.string z.kind, .string z.name, .int .i64 z.ver, .int .i64 z.born, .string z.text, .bool z.ending, .slice ad2 z.hn cap2] 38)) (p := ⟨w.heap.size, 2, none⟩) (v := .int .i64 x.ver) (by rw [World.cell?_alloc_past _ _ _ (by simp)]; simp) (by simp; omega)
  have z2 := subcell (W1 := (w.alloc (.cells #[.string x.kind, .string x.name, .int .i64 x.ver, .int .i64 x.born, .string x.text, .bool x.ending, .slice ad x.hn cap] 38)).alloc (.cells #[.string z.kind, .string z.name, .int .i64 z.ver, .int .i64 z.born, .string z.text, .bool z.ending, .slice ad2 z.hn cap2] 38)) (p := ⟨w.heap.size + 1, 2, none⟩) (v := .int .i64 z.ver) (by simp) (by simp)
  have x3 := subcell (W1 := (w.alloc (.cells #[.string x.kind, .string x.name, .int .i64 x.ver, .int .i64 x.born, .string x.text, .bool x.ending, .slice ad x.hn cap] 38)).alloc (.cells #[.string z.kind, .string z.name, .int .i64 z.ver, .int .i64 z.born, .string z.text, .bool z.ending, .slice ad2 z.hn cap2] 38)) (p := ⟨w.heap.size, 3, none⟩) (v := .int .i64 x.born) (by rw [World.cell?_alloc_past _ _ _ (by simp)]; simp) (by simp; omega)
  have z3 := subcell (W1 := (w.alloc (.cells #[.string x.kind, .string x.name, .int .i64 x.ver, .int .i64 x.born, .string x.text, .bool x.ending, .slice ad x.hn cap] 38)).alloc (.cells #[.string z.kind, .string z.name, .int .i64 z.ver, .int .i64 z.born, .string z.text, .bool z.ending, .slice ad2 z.hn cap2] 38)) (p := ⟨w.heap.size + 1, 3, none⟩) (v := .int .i64 z.born) (by simp) (by simp)
  have x4 := subcell (W1 := (w.alloc (.cells #[.string x.kind, .string x.name, .int .i64 x.ver, .int .i64 x.born, .string x.text, .bool x.ending, .slice ad x.hn cap] 38)).alloc (.cells #[.string z.kind, .string z.name, .int .i64 z.ver, .int .i64 z.born, .string z.text, .bool z.ending, .slice ad2 z.hn cap2] 38)) (p := ⟨w.heap.size, 4, none⟩) (v := .string x.text) (by rw [World.cell?_alloc_past _ _ _ (by simp)]; simp) (by simp; omega)
  have z4 := subcell (W1 := (w.alloc (.cells #[.string x.kind, .string x.name, .int .i64 x.ver, .int .i64 x.born, .string x.text, .bool x.ending, .slice ad x.hn cap] 38)).alloc (.cells #[.string z.kind, .string z.name, .int .i64 z.ver, .int .i64 z.born, .string z.text, .bool z.ending, .slice ad2 z.hn cap2] 38)) (p := ⟨w.heap.size + 1, 4, none⟩) (v := .string z.text) (by simp) (by simp)
  have x5 := subcell (W1 := (w.alloc (.cells #[.string x.kind, .string x.name, .int .i64 x.ver, .int .i64 x.born, .string x.text, .bool x.ending, .slice ad x.hn cap] 38)).alloc (.cells #[.string z.kind, .string z.name, .int .i64 z.ver, .int .i64 z.born, .string z.text, .bool z.ending, .slice ad2 z.hn cap2] 38)) (p := ⟨w.heap.size, 5, none⟩) (v := .bool x.ending) (by rw [World.cell?_alloc_past _ _ _ (by simp)]; simp) (by simp; omega)
  have z5 := subcell (W1 := (w.alloc (.cells #[.string x.kind, .string x.name, .int .i64 x.ver, .int .i64 x.born, .string x.text, .bool x.ending, .slice ad x.hn cap] 38)).alloc (.cells #[.string z.kind, .string z.name, .int .i64 z.ver, .int .i64 z.born, .string z.text, .bool z.ending, .slice ad2 z.hn cap2] 38)) (p := ⟨w.heap.size + 1, 5, none⟩) (v := .bool z.ending) (by simp) (by simp)
  have x6 := subcell (W1 := (w.alloc (.cells #[.string x.kind, .string x.name, .int .i64 x.ver, .int .i64 x.born, .string x.text, .bool x.ending, .slice ad x.hn cap] 38)).alloc (.cells #[.string z.kind, .string z.name, .int .i64 z.ver, .int .i64 z.born, .string z.text, .bool z.ending, .slice ad2 z.hn cap2] 38)) (p := ⟨w.heap.size, 6, none⟩) (v := .slice ad x.hn cap) (by rw [World.cell?_alloc_past _ _ _ (by simp)]; simp) (by simp; omega)
  have z6 := subcell (W1 := (w.alloc (.cells #[.string x.kind, .string x.name, .int .i64 x.ver, .int .i64 x.born, .string x.text, .bool x.ending, .slice ad x.hn cap] 38)).alloc (.cells #[.string z.kind, .string z.name, .int .i64 z.ver, .int .i64 z.born, .string z.text, .bool z.ending, .slice ad2 z.hn cap2] 38)) (p := ⟨w.heap.size + 1, 6, none⟩) (v := .slice ad2 z.hn cap2) (by simp) (by simp)
  refine wp_region_grow (by kernel_rfl) (by kernel_rfl) ?_
  repeat (go_big_quiet_step (first | (go_at_call 98; first | exact grow_of (keyOf0_any x ad cap _) | exact grow_of (keyOf0_any z ad2 cap2 _)) | (go_at_call 139; go_must (exact grow_of (keyCmp_any _ _ _ _ _)))))
  refine wpQuiet_nil ?_
  rintro w2 ⟨u, hu⟩
  have hw2 : Below ((w.alloc (.cells #[.string x.kind, .string x.name, .int .i64 x.ver, .int .i64 x.born, .string x.text, .bool x.ending, .slice ad x.hn cap] 38)).alloc (.cells #[.string z.kind, .string z.name, .int .i64 z.ver, .int .i64 z.born, .string z.text, .bool z.ending, .slice ad2 z.hn cap2] 38)).heap.size ((w.alloc (.cells #[.string x.kind, .string x.name, .int .i64 x.ver, .int .i64 x.born, .string x.text, .bool x.ending, .slice ad x.hn cap] 38)).alloc (.cells #[.string z.kind, .string z.name, .int .i64 z.ver, .int .i64 z.born, .string z.text, .bool z.ending, .slice ad2 z.hn cap2] 38)) w2 := hu ▸ u.prop
  clear hu u hne x0 x1 x2 x3 x4 x5 x6 z0 z1 z2 z3 z4 z5 z6
  go_wp2
  go_ret
  exact ⟨rfl, ((below_alloc' _ _).alloc (by simp) _).trans (hw2.mono (by simp; omega))⟩
set_option maxRecDepth 100000 in
set_option maxHeartbeats 400000 in
theorem before_any (x z : Ob) (ad ad2 : Option Addr) (cap cap2 : Nat) (w : World) :
    Calls Tryz.prog 94 #[.agg #[.string x.kind, .string x.name, .int .i64 x.ver, .int .i64 x.born, .string x.text, .bool x.ending, .slice ad x.hn cap], .agg #[.string z.kind, .string z.name, .int .i64 z.ver, .int .i64 z.born, .string z.text, .bool z.ending, .slice ad2 z.hn cap2]] w fun e w' => e = .returned (.bool (befB x z)) ∧ Below w.heap.size w w' := by
  have HE := hid (befB_cmp x z)
  have HB := hid (show ∀ o1 o2 : Obj, Below w.heap.size w ((w.alloc o1).alloc o2) from fun o1 o2 => (below_alloc' _ _).alloc (by simp) _)
  go_enter Tryz.func94, Tryz.ntmps94
  go_wp2_with (go_at_call 123; refine (objCmp_any x z _ _ _ _ _).mono ?_; rintro e w1 ⟨rfl, hb1⟩)
  go_ret
  exact ⟨ret_bool HE.out.symm, (HB.out _ _).trans (hb1.mono (by simp; omega))⟩
end Go.Proofs.YtkfbclopkgnacaaGreatDoor
