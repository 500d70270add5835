import Derived.Test.YtkecnaaacbckoaaGreatVc
import Derived.Sort.Grow
import Derived.Deep.Draws
import Derived.Test.YtkecnaaacbckoaaGreatVe
import Derived.Shelf.SlSortCmp.WholeK
import Derived.Shelf.Lay
import Derived.Ground.SlsfProg
import Derived.Test.YtkecnaaacbckoaaGreatGj
namespace Go.Proofs.YtkecnaaacbckoaaGreat
open Go.RowKit Go.Shelf Go.Sort
/-- draws and new blocks, and nothing else -/
def Gr (w w' : World) : Prop := ∃ (q : Nat) (os' : Array Obj), w' = grow (w.drewN q) os'
theorem Gr.refl (w : World) : Gr w w := ⟨0, #[], by simp [grow, World.drewN]⟩
theorem Gr.trans {a b c : World} (h : Gr a b) (k : Gr b c) : Gr a c := by
  obtain ⟨q, os, rfl⟩ := h
  obtain ⟨q', os', rfl⟩ := k
  exact ⟨q + q', os ++ os', by simp [grow, World.drewN, Array.append_assoc, Nat.add_assoc]⟩
theorem Gr.alloc {a b : World} (h : Gr a b) (o : Obj) : Gr a (b.alloc o) := h.trans ⟨0, #[o], by rw [alloc_eq_grow]; rfl⟩
theorem Gr.drew {a b : World} (h : Gr a b) : Gr a b.drew := h.trans ⟨1, #[], by rw [grow_empty]; rfl⟩
theorem Gr.below {a b : World} (h : Gr a b) : Below a.heap.size a b := by
  obtain ⟨q, os, rfl⟩ := h
  refine ⟨rfl, rfl, rfl, by simp [grow, World.drewN], fun k hk => ?_⟩
  simp [grow, World.drewN, Array.getElem?_append, hk]
set_option maxRecDepth 100000 in
set_option maxHeartbeats 2000000 in
theorem keyCmpG_any (k1 n1 ki na : ByteArray) (w : World) :
    Calls Tryz.prog 113 #[.agg #[.string k1, .string n1], .agg #[.string ki, .string na]] w fun e w' => e = .returned (.int .i64 (orI (cmpI k1 ki) (cmpI n1 na))) ∧ Gr w w' := by
  go_enter Tryz.func113, Tryz.ntmps113
  go_wp2
  refine wp_region_inv (by kernel_rfl) (PlInv w k1 n1 ki na) ?_ ?_ ?_ ?_
  · unfold PlInv
    refine ⟨_, _, _, _, _, _, _, _, _, _, _, _, _, rfl, by simp, ?_⟩
    simp
  · intro l a w' hI
    obtain ⟨t4, t5, t6, t7, t8, t9, t10, t11, t12, t13, t14, t15, t16, rfl, hls, _⟩ := hI
    exact hls
  · intro l a w' hI hr
    obtain ⟨t4, t5, t6, t7, t8, t9, t10, t11, t12, t13, t14, t15, t16, rfl, hls, f0, f1, f2, f3, f4, f5, f6, f7, f8, f9, f10, f11, f12, f13⟩ := hI
    have AL := all_listed (by kernel_rfl) (by rw [hls]; rfl) hr
    obtain rfl := f12 (AL 12 (by decide))
    obtain rfl := (f10 (AL 10 (by decide))).2
    clear f0 f1 f2 f3 f4 f5 f6 f7 f8 f9 f10 f11 f12 f13 AL hr hls
    go_wp2
    go_ret
    exact ⟨rfl, ((((Gr.refl _).alloc _).alloc _).drew).alloc _⟩
  · intro l a w' i hI hr
    obtain ⟨t4, t5, t6, t7, t8, t9, t10, t11, t12, t13, t14, t15, t16, rfl, hls, f0, f1, f2, f3, f4, f5, f6, f7, f8, f9, f10, f11, f12, f13⟩ := hI
    obtain ⟨hu, o', ho, hdep⟩ := mem_ready.1 hr
    have hi16 : i < 13 := by
      rcases Nat.lt_or_ge i 13 with h | h
      · exact h
      · rw [Array.getElem?_eq_none (by simpa using h)] at ho
        cases ho
    have kp : ∀ j, ¬ j = i → (l.setIfInBounds i true).getD j false = l.getD j false := fun j hj => by rw [getD_set (by omega), if_neg hj]
    have ki' : (l.setIfInBounds i true).getD i false = true := by rw [getD_set (by omega), if_pos rfl]
    have hsz' : (l.setIfInBounds i true).size = 13 := by simp [hls]
    have hui : l.getD i false = false := by simpa [Array.getD, hls, hi16] using hu
    have hcell : ∀ j, w'.cell? ⟨w.heap.size, j, none⟩ = (#[.string k1, .string n1] : Array Value)[j]? ∧ w'.cell? ⟨w.heap.size + 1, j, none⟩ = (#[.string ki, .string na] : Array Value)[j]? := fun j => by
      cases h10 : l.getD 10 false with
      | false => rw [f13 h10]; simp
      | true =>
        rw [(f10 h10).2]
        refine ⟨?_, ?_⟩
        · rw [World.cell?_alloc_past _ _ _ (by simp; omega)]; simp
        · rw [World.cell?_alloc_past _ _ _ (by simp)]; simp
    have p0 := (hcell 0).1
    have p1 := (hcell 1).1
    have s0 := (hcell 0).2
    have s1 := (hcell 1).2
    simp only [List.getElem?_toArray, List.getElem?_cons_succ, List.getElem?_cons_zero] at p0 p1 s0 s1
    clear hr hu hcell
    rcases (show i = 0 ∨ i = 1 ∨ i = 2 ∨ i = 3 ∨ i = 4 ∨ i = 5 ∨ i = 6 ∨ i = 7 ∨ i = 8 ∨ i = 9 ∨ i = 10 ∨ i = 11 ∨ i = 12 by omega) with rfl | rfl | rfl | rfl | rfl | rfl | rfl | rfl | rfl | rfl | rfl | rfl | rfl
    · simp only [List.getElem?_toArray, List.getElem?_cons_zero, Option.some.injEq] at ho
      subst ho
      clear hdep
      refine wpOp_of rfl rfl ?_
      generalize hK : PlInv w k1 n1 ki na (l.setIfInBounds 0 true) = K
      go_simp
      rw [← hK]
      unfold PlInv
      exact ⟨t4, _, t6, t7, t8, t9, t10, t11, t12, t13, t14, t15, t16, rfl, hsz', (fun _ => rfl), (by rw [kp 1 (by decide)]; exact f1), (by rw [kp 2 (by decide)]; exact f2), (by rw [kp 3 (by decide)]; exact f3), (by rw [kp 4 (by decide)]; exact f4), (by rw [kp 5 (by decide)]; exact f5), (by rw [kp 6 (by decide)]; exact f6), (by rw [kp 7 (by decide)]; exact f7), (by rw [kp 8 (by decide)]; exact f8), (by rw [kp 9 (by decide)]; exact f9), (by rw [kp 10 (by decide)]; exact f10), (by rw [kp 11 (by decide)]; exact f11), (by rw [kp 12 (by decide)]; exact f12), (by rw [kp 10 (by decide)]; exact f13)⟩
    · simp only [List.getElem?_toArray, List.getElem?_cons_succ, List.getElem?_cons_zero, Option.some.injEq] at ho
      subst ho
      have q0 : l.getD 0 false = true := hdep ⟨0, .data⟩ (by simp) rfl
      clear hdep
      obtain rfl := f0 q0
      refine wpOp_of rfl rfl ?_
      generalize hK : PlInv w k1 n1 ki na (l.setIfInBounds 1 true) = K
      go_simp
      rw [← hK]
      unfold PlInv
      exact ⟨t4, _, _, t7, t8, t9, t10, t11, t12, t13, t14, t15, t16, rfl, hsz', (by rw [kp 0 (by decide)]; exact f0), (fun _ => rfl), (by rw [kp 2 (by decide)]; exact f2), (by rw [kp 3 (by decide)]; exact f3), (by rw [kp 4 (by decide)]; exact f4), (by rw [kp 5 (by decide)]; exact f5), (by rw [kp 6 (by decide)]; exact f6), (by rw [kp 7 (by decide)]; exact f7), (by rw [kp 8 (by decide)]; exact f8), (by rw [kp 9 (by decide)]; exact f9), (by rw [kp 10 (by decide)]; exact f10), (by rw [kp 11 (by decide)]; exact f11), (by rw [kp 12 (by decide)]; exact f12), (by rw [kp 10 (by decide)]; exact f13)⟩
    · simp only [List.getElem?_toArray, List.getElem?_cons_succ, List.getElem?_cons_zero, Option.some.injEq] at ho
      subst ho
      clear hdep
      refine wpOp_of rfl rfl ?_
      generalize hK : PlInv w k1 n1 ki na (l.setIfInBounds 2 true) = K
      go_simp
      rw [← hK]
      unfold PlInv
      exact ⟨t4, t5, t6, _, t8, t9, t10, t11, t12, t13, t14, t15, t16, rfl, hsz', (by rw [kp 0 (by decide)]; exact f0), (by rw [kp 1 (by decide)]; exact f1), (fun _ => rfl), (by rw [kp 3 (by decide)]; exact f3), (by rw [kp 4 (by decide)]; exact f4), (by rw [kp 5 (by decide)]; exact f5), (by rw [kp 6 (by decide)]; exact f6), (by rw [kp 7 (by decide)]; exact f7), (by rw [kp 8 (by decide)]; exact f8), (by rw [kp 9 (by decide)]; exact f9), (by rw [kp 10 (by decide)]; exact f10), (by rw [kp 11 (by decide)]; exact f11), (by rw [kp 12 (by decide)]; exact f12), (by rw [kp 10 (by decide)]; exact f13)⟩
    · simp only [List.getElem?_toArray, List.getElem?_cons_succ, List.getElem?_cons_zero, Option.some.injEq] at ho
      subst ho
      have q2 : l.getD 2 false = true := hdep ⟨2, .data⟩ (by simp) rfl
      clear hdep
      obtain rfl := f2 q2
      refine wpOp_of rfl rfl ?_
      generalize hK : PlInv w k1 n1 ki na (l.setIfInBounds 3 true) = K
      go_simp
      rw [← hK]
      unfold PlInv
      exact ⟨t4, t5, t6, _, _, t9, t10, t11, t12, t13, t14, t15, t16, rfl, hsz', (by rw [kp 0 (by decide)]; exact f0), (by rw [kp 1 (by decide)]; exact f1), (by rw [kp 2 (by decide)]; exact f2), (fun _ => rfl), (by rw [kp 4 (by decide)]; exact f4), (by rw [kp 5 (by decide)]; exact f5), (by rw [kp 6 (by decide)]; exact f6), (by rw [kp 7 (by decide)]; exact f7), (by rw [kp 8 (by decide)]; exact f8), (by rw [kp 9 (by decide)]; exact f9), (by rw [kp 10 (by decide)]; exact f10), (by rw [kp 11 (by decide)]; exact f11), (by rw [kp 12 (by decide)]; exact f12), (by rw [kp 10 (by decide)]; exact f13)⟩
    · simp only [List.getElem?_toArray, List.getElem?_cons_succ, List.getElem?_cons_zero, Option.some.injEq] at ho
      subst ho
      have q1 : l.getD 1 false = true := hdep ⟨1, .data⟩ (by simp) rfl
      have q3 : l.getD 3 false = true := hdep ⟨3, .data⟩ (by simp) rfl
      clear hdep
      obtain rfl := f1 q1
      obtain rfl := f3 q3
      refine wpOp_of rfl rfl ?_
      generalize hK : PlInv w k1 n1 ki na (l.setIfInBounds 4 true) = K
      go_simp
      go_at_call 155
      refine (compare_any _ _ _).mono ?_
      rintro e w1 ⟨rfl, rfl⟩
      rw [← hK]
      unfold PlInv
      exact ⟨t4, t5, _, t7, _, _, t10, t11, t12, t13, t14, t15, t16, rfl, hsz', (by rw [kp 0 (by decide)]; exact f0), (by rw [kp 1 (by decide)]; exact f1), (by rw [kp 2 (by decide)]; exact f2), (by rw [kp 3 (by decide)]; exact f3), (fun _ => rfl), (by rw [kp 5 (by decide)]; exact f5), (by rw [kp 6 (by decide)]; exact f6), (by rw [kp 7 (by decide)]; exact f7), (by rw [kp 8 (by decide)]; exact f8), (by rw [kp 9 (by decide)]; exact f9), (by rw [kp 10 (by decide)]; exact f10), (by rw [kp 11 (by decide)]; exact f11), (by rw [kp 12 (by decide)]; exact f12), (by rw [kp 10 (by decide)]; exact f13)⟩
    · simp only [List.getElem?_toArray, List.getElem?_cons_succ, List.getElem?_cons_zero, Option.some.injEq] at ho
      subst ho
      clear hdep
      refine wpOp_of rfl rfl ?_
      generalize hK : PlInv w k1 n1 ki na (l.setIfInBounds 5 true) = K
      go_simp
      rw [← hK]
      unfold PlInv
      exact ⟨t4, t5, t6, t7, t8, t9, _, t11, t12, t13, t14, t15, t16, rfl, hsz', (by rw [kp 0 (by decide)]; exact f0), (by rw [kp 1 (by decide)]; exact f1), (by rw [kp 2 (by decide)]; exact f2), (by rw [kp 3 (by decide)]; exact f3), (by rw [kp 4 (by decide)]; exact f4), (fun _ => rfl), (by rw [kp 6 (by decide)]; exact f6), (by rw [kp 7 (by decide)]; exact f7), (by rw [kp 8 (by decide)]; exact f8), (by rw [kp 9 (by decide)]; exact f9), (by rw [kp 10 (by decide)]; exact f10), (by rw [kp 11 (by decide)]; exact f11), (by rw [kp 12 (by decide)]; exact f12), (by rw [kp 10 (by decide)]; exact f13)⟩
    · simp only [List.getElem?_toArray, List.getElem?_cons_succ, List.getElem?_cons_zero, Option.some.injEq] at ho
      subst ho
      have q5 : l.getD 5 false = true := hdep ⟨5, .data⟩ (by simp) rfl
      clear hdep
      obtain rfl := f5 q5
      refine wpOp_of rfl rfl ?_
      generalize hK : PlInv w k1 n1 ki na (l.setIfInBounds 6 true) = K
      go_simp
      rw [← hK]
      unfold PlInv
      exact ⟨t4, t5, t6, t7, t8, t9, _, _, t12, t13, t14, t15, t16, rfl, hsz', (by rw [kp 0 (by decide)]; exact f0), (by rw [kp 1 (by decide)]; exact f1), (by rw [kp 2 (by decide)]; exact f2), (by rw [kp 3 (by decide)]; exact f3), (by rw [kp 4 (by decide)]; exact f4), (by rw [kp 5 (by decide)]; exact f5), (fun _ => rfl), (by rw [kp 7 (by decide)]; exact f7), (by rw [kp 8 (by decide)]; exact f8), (by rw [kp 9 (by decide)]; exact f9), (by rw [kp 10 (by decide)]; exact f10), (by rw [kp 11 (by decide)]; exact f11), (by rw [kp 12 (by decide)]; exact f12), (by rw [kp 10 (by decide)]; exact f13)⟩
    · simp only [List.getElem?_toArray, List.getElem?_cons_succ, List.getElem?_cons_zero, Option.some.injEq] at ho
      subst ho
      clear hdep
      refine wpOp_of rfl rfl ?_
      generalize hK : PlInv w k1 n1 ki na (l.setIfInBounds 7 true) = K
      go_simp
      rw [← hK]
      unfold PlInv
      exact ⟨t4, t5, t6, t7, t8, t9, t10, t11, _, t13, t14, t15, t16, rfl, hsz', (by rw [kp 0 (by decide)]; exact f0), (by rw [kp 1 (by decide)]; exact f1), (by rw [kp 2 (by decide)]; exact f2), (by rw [kp 3 (by decide)]; exact f3), (by rw [kp 4 (by decide)]; exact f4), (by rw [kp 5 (by decide)]; exact f5), (by rw [kp 6 (by decide)]; exact f6), (fun _ => rfl), (by rw [kp 8 (by decide)]; exact f8), (by rw [kp 9 (by decide)]; exact f9), (by rw [kp 10 (by decide)]; exact f10), (by rw [kp 11 (by decide)]; exact f11), (by rw [kp 12 (by decide)]; exact f12), (by rw [kp 10 (by decide)]; exact f13)⟩
    · simp only [List.getElem?_toArray, List.getElem?_cons_succ, List.getElem?_cons_zero, Option.some.injEq] at ho
      subst ho
      have q7 : l.getD 7 false = true := hdep ⟨7, .data⟩ (by simp) rfl
      clear hdep
      obtain rfl := f7 q7
      refine wpOp_of rfl rfl ?_
      generalize hK : PlInv w k1 n1 ki na (l.setIfInBounds 8 true) = K
      go_simp
      rw [← hK]
      unfold PlInv
      exact ⟨t4, t5, t6, t7, t8, t9, t10, t11, _, _, t14, t15, t16, rfl, hsz', (by rw [kp 0 (by decide)]; exact f0), (by rw [kp 1 (by decide)]; exact f1), (by rw [kp 2 (by decide)]; exact f2), (by rw [kp 3 (by decide)]; exact f3), (by rw [kp 4 (by decide)]; exact f4), (by rw [kp 5 (by decide)]; exact f5), (by rw [kp 6 (by decide)]; exact f6), (by rw [kp 7 (by decide)]; exact f7), (fun _ => rfl), (by rw [kp 9 (by decide)]; exact f9), (by rw [kp 10 (by decide)]; exact f10), (by rw [kp 11 (by decide)]; exact f11), (by rw [kp 12 (by decide)]; exact f12), (by rw [kp 10 (by decide)]; exact f13)⟩
    · simp only [List.getElem?_toArray, List.getElem?_cons_succ, List.getElem?_cons_zero, Option.some.injEq] at ho
      subst ho
      have q6 : l.getD 6 false = true := hdep ⟨6, .data⟩ (by simp) rfl
      have q8 : l.getD 8 false = true := hdep ⟨8, .data⟩ (by simp) rfl
      clear hdep
      obtain rfl := f6 q6
      obtain rfl := f8 q8
      refine wpOp_of rfl rfl ?_
      generalize hK : PlInv w k1 n1 ki na (l.setIfInBounds 9 true) = K
      go_simp
      go_at_call 155
      refine (compare_any _ _ _).mono ?_
      rintro e w1 ⟨rfl, rfl⟩
      rw [← hK]
      unfold PlInv
      exact ⟨t4, t5, t6, t7, t8, t9, t10, _, t12, _, _, t15, t16, rfl, hsz', (by rw [kp 0 (by decide)]; exact f0), (by rw [kp 1 (by decide)]; exact f1), (by rw [kp 2 (by decide)]; exact f2), (by rw [kp 3 (by decide)]; exact f3), (by rw [kp 4 (by decide)]; exact f4), (by rw [kp 5 (by decide)]; exact f5), (by rw [kp 6 (by decide)]; exact f6), (by rw [kp 7 (by decide)]; exact f7), (by rw [kp 8 (by decide)]; exact f8), (fun _ => rfl), (by rw [kp 10 (by decide)]; exact f10), (by rw [kp 11 (by decide)]; exact f11), (by rw [kp 12 (by decide)]; exact f12), (by rw [kp 10 (by decide)]; exact f13)⟩
    · simp only [List.getElem?_toArray, List.getElem?_cons_succ, List.getElem?_cons_zero, Option.some.injEq] at ho
      subst ho
      have q4 : l.getD 4 false = true := hdep ⟨4, .data⟩ (by simp) rfl
      have q9 : l.getD 9 false = true := hdep ⟨9, .data⟩ (by simp) rfl
      clear hdep
      obtain rfl := f4 q4
      obtain rfl := f9 q9
      obtain rfl := f13 hui
      refine wpOp_of rfl rfl ?_
      generalize hK : PlInv w k1 n1 ki na (l.setIfInBounds 10 true) = K
      go_simp
      rw [← hK]
      unfold PlInv
      exact ⟨t4, t5, t6, t7, t8, _, t10, t11, t12, t13, _, _, t16, rfl, hsz', (by rw [kp 0 (by decide)]; exact f0), (by rw [kp 1 (by decide)]; exact f1), (by rw [kp 2 (by decide)]; exact f2), (by rw [kp 3 (by decide)]; exact f3), (by rw [kp 4 (by decide)]; exact f4), (by rw [kp 5 (by decide)]; exact f5), (by rw [kp 6 (by decide)]; exact f6), (by rw [kp 7 (by decide)]; exact f7), (by rw [kp 8 (by decide)]; exact f8), (by rw [kp 9 (by decide)]; exact f9), (fun _ => ⟨by simp, rfl⟩), (by rw [kp 11 (by decide)]; exact f11), (by rw [kp 12 (by decide)]; exact f12), (fun h => absurd (ki'.symm.trans h) (by decide))⟩
    · simp only [List.getElem?_toArray, List.getElem?_cons_succ, List.getElem?_cons_zero, Option.some.injEq] at ho
      subst ho
      have q10 : l.getD 10 false = true := hdep ⟨10, .data⟩ (by simp) rfl
      clear hdep
      obtain ⟨rfl, rfl⟩ := f10 q10
      refine wpOp_of rfl rfl ?_
      generalize hK : PlInv w k1 n1 ki na (l.setIfInBounds 11 true) = K
      go_simp
      go_at_call 154
      refine (or_any (cmpI k1 ki) (cmpI n1 na) _ _ _ (by have h := World.cell?_alloc_new ((w.alloc (.cells #[.string k1, .string n1] 98)).alloc (.cells #[.string ki, .string na] 98)) #[.int .i64 (cmpI k1 ki), .int .i64 (cmpI n1 na)] 3 0; simpa using h) (by have h := World.cell?_alloc_new ((w.alloc (.cells #[.string k1, .string n1] 98)).alloc (.cells #[.string ki, .string na] 98)) #[.int .i64 (cmpI k1 ki), .int .i64 (cmpI n1 na)] 3 1; simpa using h)).mono ?_
      rintro e w1 ⟨rfl, rfl⟩
      rw [← hK]
      unfold PlInv
      exact ⟨t4, t5, t6, t7, t8, t9, t10, t11, t12, t13, t14, _, _, rfl, hsz', (by rw [kp 0 (by decide)]; exact f0), (by rw [kp 1 (by decide)]; exact f1), (by rw [kp 2 (by decide)]; exact f2), (by rw [kp 3 (by decide)]; exact f3), (by rw [kp 4 (by decide)]; exact f4), (by rw [kp 5 (by decide)]; exact f5), (by rw [kp 6 (by decide)]; exact f6), (by rw [kp 7 (by decide)]; exact f7), (by rw [kp 8 (by decide)]; exact f8), (by rw [kp 9 (by decide)]; exact f9), (by rw [kp 10 (by decide)]; exact f10), (fun _ => rfl), (by rw [kp 12 (by decide)]; exact f12), (by rw [kp 10 (by decide)]; exact f13)⟩
    · simp only [List.getElem?_toArray, List.getElem?_cons_succ, List.getElem?_cons_zero, Option.some.injEq] at ho
      subst ho
      have q11 : l.getD 11 false = true := hdep ⟨11, .data⟩ (by simp) rfl
      clear hdep
      obtain rfl := f11 q11
      refine wpOp_of rfl rfl ?_
      generalize hK : PlInv w k1 n1 ki na (l.setIfInBounds 12 true) = K
      go_simp
      rw [← hK]
      unfold PlInv
      exact ⟨_, t5, t6, t7, t8, t9, t10, t11, t12, t13, t14, t15, _, rfl, hsz', (by rw [kp 0 (by decide)]; exact f0), (by rw [kp 1 (by decide)]; exact f1), (by rw [kp 2 (by decide)]; exact f2), (by rw [kp 3 (by decide)]; exact f3), (by rw [kp 4 (by decide)]; exact f4), (by rw [kp 5 (by decide)]; exact f5), (by rw [kp 6 (by decide)]; exact f6), (by rw [kp 7 (by decide)]; exact f7), (by rw [kp 8 (by decide)]; exact f8), (by rw [kp 9 (by decide)]; exact f9), (by rw [kp 10 (by decide)]; exact f10), (by rw [kp 11 (by decide)]; exact f11), (fun _ => rfl), (by rw [kp 10 (by decide)]; exact f13)⟩
set_option maxRecDepth 100000 in
set_option maxHeartbeats 400000 in
theorem keyOfG_any (x : Ob) (ad : Option Addr) (cap : Nat) (w : World) :
    Calls Tryz.prog 63 #[.agg #[.string x.kind, .string x.name, .int .i64 x.ver, .int .i64 x.born, .string x.text, .bool x.ending, .slice ad x.hn cap]] w fun e w' => e = .returned (.agg #[.string x.kind, .string x.name]) ∧ Gr w w' := by
  go_enter Tryz.func63, Tryz.ntmps63
  go_wp2
  refine bodyPost_ret (v := .agg #[.string x.kind, .string x.name]) (by simp [results, Tryz.results63, go_sem]) rfl ⟨rfl, ?_⟩
  exact ((Gr.refl _).alloc _).alloc _
def KInvG (mk : (Nat → Value) → Array Value) (n : Nat) (W : World) (vs : Nat → Value) (l : Array Bool) (a : Act) (w' : World) : Prop :=
  ∃ t : Nat → Value, a = ⟨mk t, []⟩ ∧ l.size = n ∧ (∀ i, i < n → l.getD i false = true → t i = vs i) ∧ Gr W w'
theorem KInvG.step {mk : (Nat → Value) → Array Value} {n : Nat} {W : World} {vs : Nat → Value} {l : Array Bool} {a : Act} {w' : World} {t : Nat → Value} (hls : l.size = n) (ht : ∀ i, i < n → l.getD i false = true → t i = vs i) (hb : Gr W w') (i : Nat) (hi : i < n) (ha : a = ⟨mk (upd t i (vs i)), []⟩) : KInvG mk n W vs (l.setIfInBounds i true) a w' :=
  ⟨upd t i (vs i), ha, by simp [hls], fun j hj hl => by
    by_cases e : j = i
    · subst e; simp [upd]
    · rw [getD_set (by omega), if_neg e] at hl
      rw [← ht j hj hl]
      have e2 : (j == i) = false := by simpa using e
      simp [upd, e2], hb⟩
set_option maxRecDepth 100000 in
set_option maxHeartbeats 1000000 in
theorem objCmpG_any (x z : Ob) (ad ad2 : Option Addr) (cap cap2 : Nat) (w : World) :
    Calls Tryz.prog 66 #[.agg #[.string x.kind, .string x.name, .int .i64 x.ver, .int .i64 x.born, .string x.text, .bool x.ending, .slice ad x.hn cap], .agg #[.string z.kind, .string z.name, .int .i64 z.ver, .int .i64 z.born, .string z.text, .bool z.ending, .slice ad2 z.hn cap2]] w fun e w' => e = .returned (.int .i64 (orI (cmpI x.kind z.kind) (cmpI x.name z.name))) ∧ Gr w w' := by
  have hX0 := (holds_new w #[.string x.kind, .string x.name, .int .i64 x.ver, .int .i64 x.born, .string x.text, .bool x.ending, .slice ad x.hn cap] 73).below (below_alloc (w.alloc (.cells #[.string x.kind, .string x.name, .int .i64 x.ver, .int .i64 x.born, .string x.text, .bool x.ending, .slice ad x.hn cap] 73)) (.cells #[.string z.kind, .string z.name, .int .i64 z.ver, .int .i64 z.born, .string z.text, .bool z.ending, .slice ad2 z.hn cap2] 73)) (by simp)
  have hZ0 := holds_new (w.alloc (.cells #[.string x.kind, .string x.name, .int .i64 x.ver, .int .i64 x.born, .string x.text, .bool x.ending, .slice ad x.hn cap] 73)) #[.string z.kind, .string z.name, .int .i64 z.ver, .int .i64 z.born, .string z.text, .bool z.ending, .slice ad2 z.hn cap2] 73
  obtain ⟨W1, hW1⟩ : ∃ W1, (w.alloc (.cells #[.string x.kind, .string x.name, .int .i64 x.ver, .int .i64 x.born, .string x.text, .bool x.ending, .slice ad x.hn cap] 73)).alloc (.cells #[.string z.kind, .string z.name, .int .i64 z.ver, .int .i64 z.born, .string z.text, .bool z.ending, .slice ad2 z.hn cap2] 73) = W1 := ⟨_, rfl⟩
  have hX1 : Holds W1 w.heap.size #[.string x.kind, .string x.name, .int .i64 x.ver, .int .i64 x.born, .string x.text, .bool x.ending, .slice ad x.hn cap] := by rw [← hW1]; exact hX0
  have hZ1 : Holds W1 (w.heap.size + 1) #[.string z.kind, .string z.name, .int .i64 z.ver, .int .i64 z.born, .string z.text, .bool z.ending, .slice ad2 z.hn cap2] := by
    rw [← hW1]
    have h := hZ0
    rw [World.size_alloc] at h
    exact h
  have G1 : Gr w W1 := by rw [← hW1]; exact ((Gr.refl _).alloc _).alloc _
  clear hX0 hZ0
  go_enter Tryz.func66, Tryz.ntmps66
  go_wp2
  refine wp_region_inv (by kernel_rfl) (KInvG (fun t : Nat → Value => #[.agg #[.string x.kind, .string x.name, .int .i64 x.ver, .int .i64 x.born, .string x.text, .bool x.ending, .slice ad x.hn cap], .agg #[.string z.kind, .string z.name, .int .i64 z.ver, .int .i64 z.born, .string z.text, .bool z.ending, .slice ad2 z.hn cap2], .pointer (some ⟨w.heap.size, 0, none⟩), .pointer (some ⟨w.heap.size + 1, 0, none⟩), t 5, t 0, t 1, t 2, t 3, t 4]) 6 W1 (fun i => [.agg #[.string x.kind, .string x.name, .int .i64 x.ver, .int .i64 x.born, .string x.text, .bool x.ending, .slice ad x.hn cap], .agg #[.string x.kind, .string x.name], .agg #[.string z.kind, .string z.name, .int .i64 z.ver, .int .i64 z.born, .string z.text, .bool z.ending, .slice ad2 z.hn cap2], .agg #[.string z.kind, .string z.name], .int .i64 (orI (cmpI x.kind z.kind) (cmpI x.name z.name)), .int .i64 (orI (cmpI x.kind z.kind) (cmpI x.name z.name))].getD i undef)) ?_ ?_ ?_ ?_
  · exact ⟨fun i => if i = 5 then .int .i64 0 else undef, rfl, by simp, fun i hi h => by simp [Array.getD, hi] at h, (Gr.refl _).drew⟩
  · intro l a w' hI
    obtain ⟨t, rfl, hls, _⟩ := hI
    exact hls
  · intro l a w' hI hr'
    obtain ⟨t, rfl, hls, ht, hb⟩ := hI
    have AL := all_listed (by kernel_rfl) (by rw [hls]; rfl) hr'
    have e5 : t 5 = .int .i64 (orI (cmpI x.kind z.kind) (cmpI x.name z.name)) := ht 5 (by decide) (AL 5 (by decide))
    clear AL ht hr'
    go_wp2
    go_ret
    exact ⟨congrArg Ending.returned e5, G1.trans hb⟩
  · intro l a w' i' hI hr'
    obtain ⟨t, rfl, hls, ht, bB⟩ := hI
    obtain ⟨hu', o', ho, hdep⟩ := mem_ready.1 hr'
    have hi16 : i' < 6 := by
      rcases Nat.lt_or_ge i' 6 with h | h
      · exact h
      · rw [Array.getElem?_eq_none (by simpa using h)] at ho
        cases ho
    clear hr' hu'
    rcases (show i' = 0 ∨ i' = 1 ∨ i' = 2 ∨ i' = 3 ∨ i' = 4 ∨ i' = 5 by omega) with rfl | rfl | rfl | rfl | rfl | rfl
    · simp only [List.getElem?_toArray, List.getElem?_cons_zero, Option.some.injEq] at ho
      subst ho
      clear hdep
      have hh := hX1.below bB.below (by rw [← hW1]; simp; omega)
      have x0 := hh 0; have x1 := hh 1; have x2 := hh 2; have x3 := hh 3; have x4 := hh 4; have x5 := hh 5; have x6 := hh 6
      simp only [List.getElem?_toArray, List.getElem?_cons_succ, List.getElem?_cons_zero] at x0 x1 x2 x3 x4 x5 x6
      refine wpOp_of rfl rfl ?_
      generalize hK : KInvG (fun t : Nat → Value => #[.agg #[.string x.kind, .string x.name, .int .i64 x.ver, .int .i64 x.born, .string x.text, .bool x.ending, .slice ad x.hn cap], .agg #[.string z.kind, .string z.name, .int .i64 z.ver, .int .i64 z.born, .string z.text, .bool z.ending, .slice ad2 z.hn cap2], .pointer (some ⟨w.heap.size, 0, none⟩), .pointer (some ⟨w.heap.size + 1, 0, none⟩), t 5, t 0, t 1, t 2, t 3, t 4]) 6 W1 (fun i => [.agg #[.string x.kind, .string x.name, .int .i64 x.ver, .int .i64 x.born, .string x.text, .bool x.ending, .slice ad x.hn cap], .agg #[.string x.kind, .string x.name], .agg #[.string z.kind, .string z.name, .int .i64 z.ver, .int .i64 z.born, .string z.text, .bool z.ending, .slice ad2 z.hn cap2], .agg #[.string z.kind, .string z.name], .int .i64 (orI (cmpI x.kind z.kind) (cmpI x.name z.name)), .int .i64 (orI (cmpI x.kind z.kind) (cmpI x.name z.name))].getD i undef) (l.setIfInBounds 0 true) = K
      go_simp
      rw [← hK]
      refine KInvG.step (t := t) hls ht bB 0 (by decide) ?_
      simp [upd]
    · simp only [List.getElem?_toArray, List.getElem?_cons_succ, List.getElem?_cons_zero, Option.some.injEq] at ho
      subst ho
      have e0 : t 0 = .agg #[.string x.kind, .string x.name, .int .i64 x.ver, .int .i64 x.born, .string x.text, .bool x.ending, .slice ad x.hn cap] := ht 0 (by decide) (hdep ⟨0, .data⟩ (by simp) rfl)
      clear hdep
      refine wpOp_of rfl rfl ?_
      generalize hK : KInvG (fun t : Nat → Value => #[.agg #[.string x.kind, .string x.name, .int .i64 x.ver, .int .i64 x.born, .string x.text, .bool x.ending, .slice ad x.hn cap], .agg #[.string z.kind, .string z.name, .int .i64 z.ver, .int .i64 z.born, .string z.text, .bool z.ending, .slice ad2 z.hn cap2], .pointer (some ⟨w.heap.size, 0, none⟩), .pointer (some ⟨w.heap.size + 1, 0, none⟩), t 5, t 0, t 1, t 2, t 3, t 4]) 6 W1 (fun i => [.agg #[.string x.kind, .string x.name, .int .i64 x.ver, .int .i64 x.born, .string x.text, .bool x.ending, .slice ad x.hn cap], .agg #[.string x.kind, .string x.name], .agg #[.string z.kind, .string z.name, .int .i64 z.ver, .int .i64 z.born, .string z.text, .bool z.ending, .slice ad2 z.hn cap2], .agg #[.string z.kind, .string z.name], .int .i64 (orI (cmpI x.kind z.kind) (cmpI x.name z.name)), .int .i64 (orI (cmpI x.kind z.kind) (cmpI x.name z.name))].getD i undef) (l.setIfInBounds 1 true) = K
      go_simp
      refine (keyOfG_any x ad cap _).mono ?_
      rintro e w5 ⟨rfl, k4⟩
      rw [← hK]
      refine KInvG.step (t := t) hls ht (bB.trans k4) 1 (by decide) ?_
      simp [upd, e0]
    · simp only [List.getElem?_toArray, List.getElem?_cons_succ, List.getElem?_cons_zero, Option.some.injEq] at ho
      subst ho
      clear hdep
      have hh := hZ1.below bB.below (by rw [← hW1]; simp)
      have x0 := hh 0; have x1 := hh 1; have x2 := hh 2; have x3 := hh 3; have x4 := hh 4; have x5 := hh 5; have x6 := hh 6
      simp only [List.getElem?_toArray, List.getElem?_cons_succ, List.getElem?_cons_zero] at x0 x1 x2 x3 x4 x5 x6
      refine wpOp_of rfl rfl ?_
      generalize hK : KInvG (fun t : Nat → Value => #[.agg #[.string x.kind, .string x.name, .int .i64 x.ver, .int .i64 x.born, .string x.text, .bool x.ending, .slice ad x.hn cap], .agg #[.string z.kind, .string z.name, .int .i64 z.ver, .int .i64 z.born, .string z.text, .bool z.ending, .slice ad2 z.hn cap2], .pointer (some ⟨w.heap.size, 0, none⟩), .pointer (some ⟨w.heap.size + 1, 0, none⟩), t 5, t 0, t 1, t 2, t 3, t 4]) 6 W1 (fun i => [.agg #[.string x.kind, .string x.name, .int .i64 x.ver, .int .i64 x.born, .string x.text, .bool x.ending, .slice ad x.hn cap], .agg #[.string x.kind, .string x.name], .agg #[.string z.kind, .string z.name, .int .i64 z.ver, .int .i64 z.born, .string z.text, .bool z.ending, .slice ad2 z.hn cap2], .agg #[.string z.kind, .string z.name], .int .i64 (orI (cmpI x.kind z.kind) (cmpI x.name z.name)), .int .i64 (orI (cmpI x.kind z.kind) (cmpI x.name z.name))].getD i undef) (l.setIfInBounds 2 true) = K
      go_simp
      rw [← hK]
      refine KInvG.step (t := t) hls ht bB 2 (by decide) ?_
      simp [upd]
    · simp only [List.getElem?_toArray, List.getElem?_cons_succ, List.getElem?_cons_zero, Option.some.injEq] at ho
      subst ho
      have e2 : t 2 = .agg #[.string z.kind, .string z.name, .int .i64 z.ver, .int .i64 z.born, .string z.text, .bool z.ending, .slice ad2 z.hn cap2] := ht 2 (by decide) (hdep ⟨2, .data⟩ (by simp) rfl)
      clear hdep
      refine wpOp_of rfl rfl ?_
      generalize hK : KInvG (fun t : Nat → Value => #[.agg #[.string x.kind, .string x.name, .int .i64 x.ver, .int .i64 x.born, .string x.text, .bool x.ending, .slice ad x.hn cap], .agg #[.string z.kind, .string z.name, .int .i64 z.ver, .int .i64 z.born, .string z.text, .bool z.ending, .slice ad2 z.hn cap2], .pointer (some ⟨w.heap.size, 0, none⟩), .pointer (some ⟨w.heap.size + 1, 0, none⟩), t 5, t 0, t 1, t 2, t 3, t 4]) 6 W1 (fun i => [.agg #[.string x.kind, .string x.name, .int .i64 x.ver, .int .i64 x.born, .string x.text, .bool x.ending, .slice ad x.hn cap], .agg #[.string x.kind, .string x.name], .agg #[.string z.kind, .string z.name, .int .i64 z.ver, .int .i64 z.born, .string z.text, .bool z.ending, .slice ad2 z.hn cap2], .agg #[.string z.kind, .string z.name], .int .i64 (orI (cmpI x.kind z.kind) (cmpI x.name z.name)), .int .i64 (orI (cmpI x.kind z.kind) (cmpI x.name z.name))].getD i undef) (l.setIfInBounds 3 true) = K
      go_simp
      refine (keyOfG_any z ad2 cap2 _).mono ?_
      rintro e w5 ⟨rfl, k4⟩
      rw [← hK]
      refine KInvG.step (t := t) hls ht (bB.trans k4) 3 (by decide) ?_
      simp [upd, e2]
    · simp only [List.getElem?_toArray, List.getElem?_cons_succ, List.getElem?_cons_zero, Option.some.injEq] at ho
      subst ho
      have e1 : t 1 = .agg #[.string x.kind, .string x.name] := ht 1 (by decide) (hdep ⟨1, .data⟩ (by simp) rfl)
      have e3 : t 3 = .agg #[.string z.kind, .string z.name] := ht 3 (by decide) (hdep ⟨3, .data⟩ (by simp) rfl)
      clear hdep
      refine wpOp_of rfl rfl ?_
      generalize hK : KInvG (fun t : Nat → Value => #[.agg #[.string x.kind, .string x.name, .int .i64 x.ver, .int .i64 x.born, .string x.text, .bool x.ending, .slice ad x.hn cap], .agg #[.string z.kind, .string z.name, .int .i64 z.ver, .int .i64 z.born, .string z.text, .bool z.ending, .slice ad2 z.hn cap2], .pointer (some ⟨w.heap.size, 0, none⟩), .pointer (some ⟨w.heap.size + 1, 0, none⟩), t 5, t 0, t 1, t 2, t 3, t 4]) 6 W1 (fun i => [.agg #[.string x.kind, .string x.name, .int .i64 x.ver, .int .i64 x.born, .string x.text, .bool x.ending, .slice ad x.hn cap], .agg #[.string x.kind, .string x.name], .agg #[.string z.kind, .string z.name, .int .i64 z.ver, .int .i64 z.born, .string z.text, .bool z.ending, .slice ad2 z.hn cap2], .agg #[.string z.kind, .string z.name], .int .i64 (orI (cmpI x.kind z.kind) (cmpI x.name z.name)), .int .i64 (orI (cmpI x.kind z.kind) (cmpI x.name z.name))].getD i undef) (l.setIfInBounds 4 true) = K
      go_simp
      refine (keyCmpG_any _ _ _ _ _).mono ?_
      rintro e w5 ⟨rfl, k4⟩
      rw [← hK]
      refine KInvG.step (t := t) hls ht (bB.trans k4) 4 (by decide) ?_
      simp [upd, e1, e3]
    · simp only [List.getElem?_toArray, List.getElem?_cons_succ, List.getElem?_cons_zero, Option.some.injEq] at ho
      subst ho
      have e4 : t 4 = .int .i64 (orI (cmpI x.kind z.kind) (cmpI x.name z.name)) := ht 4 (by decide) (hdep ⟨4, .data⟩ (by simp) rfl)
      clear hdep
      refine wpOp_of rfl rfl ?_
      generalize hK : KInvG (fun t : Nat → Value => #[.agg #[.string x.kind, .string x.name, .int .i64 x.ver, .int .i64 x.born, .string x.text, .bool x.ending, .slice ad x.hn cap], .agg #[.string z.kind, .string z.name, .int .i64 z.ver, .int .i64 z.born, .string z.text, .bool z.ending, .slice ad2 z.hn cap2], .pointer (some ⟨w.heap.size, 0, none⟩), .pointer (some ⟨w.heap.size + 1, 0, none⟩), t 5, t 0, t 1, t 2, t 3, t 4]) 6 W1 (fun i => [.agg #[.string x.kind, .string x.name, .int .i64 x.ver, .int .i64 x.born, .string x.text, .bool x.ending, .slice ad x.hn cap], .agg #[.string x.kind, .string x.name], .agg #[.string z.kind, .string z.name, .int .i64 z.ver, .int .i64 z.born, .string z.text, .bool z.ending, .slice ad2 z.hn cap2], .agg #[.string z.kind, .string z.name], .int .i64 (orI (cmpI x.kind z.kind) (cmpI x.name z.name)), .int .i64 (orI (cmpI x.kind z.kind) (cmpI x.name z.name))].getD i undef) (l.setIfInBounds 5 true) = K
      go_simp
      rw [← hK]
      refine KInvG.step (t := t) hls ht bB 5 (by decide) ?_
      simp [upd, e4]
end Go.Proofs.YtkecnaaacbckoaaGreat
namespace Go.Proofs
open Go.Shelf Go.RowKit Go.Sort
set_option maxRecDepth 100000 in
shelf_lay_g SlLaysF0.n6 Slsf 6 at Tryz 65 as YtkecnaaacbckoaaGreat.sortOb
namespace YtkecnaaacbckoaaGreat
instance : Inhabited Ob := ⟨⟨ByteArray.empty, ByteArray.empty, 0, 0, ByteArray.empty, false, 0, fun _ => ByteArray.empty⟩⟩
/-- an object and where its holds lie -/
abbrev OA := Ob × Option Addr × Nat
def encO (a : OA) : List Value := [.string a.1.kind, .string a.1.name, .int .i64 a.1.ver, .int .i64 a.1.born, .string a.1.text, .bool a.1.ending, .slice a.2.1 a.1.hn a.2.2]
def cfO (a b : OA) : Int := orI (cmpI a.1.kind b.1.kind) (cmpI a.1.name b.1.name)
theorem ltO (a b : OA) : ltOf cfO a b = befB a.1 b.1 := (befB_cmp a.1 b.1).symm
theorem swoO : SWO (ltOf cfO) where
  irrefl x := by rw [ltO]; exact befB_swo.irrefl _
  trans x y z h1 h2 := by rw [ltO] at *; exact befB_swo.trans _ _ _ h1 h2
  ntrans x y z h1 h2 := by rw [ltO] at *; exact befB_swo.ntrans _ _ _ h1 h2
theorem cmpO (blk off size : Nat) (w : World) : CmpLays Tryz.prog 66 #[] encO 7 cfO blk off size w :=
  fun _ _ _ _ x y => objCmpG_any x.1 y.1 x.2.1 y.2.1 x.2.2 y.2.2 _
/-- slices.SortFunc over objects -/
theorem sort_any (blk off cap : Nat) (d : Array OA) (w : World) (hH : HoldsK encO 7 w blk off d) (hblk : blk < w.heap.size) (hsz : d.size < 4611686018427387904) :
    Calls Tryz.prog 65 #[.slice (some ⟨blk, off, none⟩) d.size cap, .func (.func 66) #[] #[]] w fun e w' => e = .returned (.tuple #[]) ∧ ∃ d' n os, PermIn 0 d.size d d' ∧ SortedIn (ltOf cfO) 0 d.size d' ∧ w' = sortWorldK encO 7 w blk off n d' os := by
  have eg : ∀ args w, (callFunc 66 args).run Tryz.prog w = .ok (.enter 66 args) w := enters_of Tryz.func66 (by kernel_rfl) rfl
  exact AnyQ.slices_SortFunc sortOb 7 Tryz.isAgg73 Tryz.sizeOf73 encO (fun _ => rfl) (fun x v hv => by simp [encO] at hv; rcases hv with rfl | rfl | rfl | rfl | rfl | rfl | rfl <;> rfl) cfO swoO 66 #[] blk off cap d w eg (cmpO blk off d.size w) hH hblk hsz
end YtkecnaaacbckoaaGreat
end Go.Proofs
namespace Go.Proofs.YtkecnaaacbckoaaGreat
open Go.RowKit Go.Shelf Go.Sort
/-- the block where an object's holds lie -/
def blkA : Option Addr → Nat
  | some p => p.block
  | none => 0
theorem strsOwn_blk {w : World} {b : Nat} {ad : Option Addr} {n : Nat} {s : Nat → ByteArray} (h : StrsOwn w b (b + 1) ad n s) (h0 : n ≠ 0) : blkA ad = b := by
  obtain ⟨q, off, rfl, e2, e3, _⟩ := h 0 (by omega)
  show q = b
  omega
theorem strsOwn_re {w : World} {b b' : Nat} {ad : Option Addr} {n : Nat} {s : Nat → ByteArray} (h : StrsOwn w b (b + 1) ad n s) (hb : n ≠ 0 → b' = b) : StrsOwn w b' (b' + 1) ad n s := fun i hi => by
  obtain rfl := hb (by omega)
  exact h i hi
/-- what is known of one object in a row that is to be sorted -/
def okOA (w : World) (base g : Nat) (a : OA) : Prop := StrsOwn w (blkA a.2.1) (blkA a.2.1 + 1) a.2.1 a.1.hn a.1.hs ∧ (a.1.hn ≠ 0 → base ≤ blkA a.2.1 ∧ blkA a.2.1 < w.heap.size ∧ blkA a.2.1 ≠ g)
def difOA (a b : OA) : Prop := a.1.hn ≠ 0 → b.1.hn ≠ 0 → blkA a.2.1 ≠ blkA b.2.1
def rowO (n : Nat) (x : Nat → Ob) (A : Nat → Option Addr) (C : Nat → Nat) : Array OA := ((List.range n).map (fun i => (x i, A i, C i))).toArray
theorem rowO_size (n : Nat) (x : Nat → Ob) (A : Nat → Option Addr) (C : Nat → Nat) : (rowO n x A C).size = n := by simp [rowO]
theorem rowO_at {n : Nat} {x : Nat → Ob} {A : Nat → Option Addr} {C : Nat → Nat} {i : Nat} (hi : i < n) : (rowO n x A C)[i]! = (x i, A i, C i) := by
  rw [getElem!_pos _ i (by rw [rowO_size]; exact hi)]
  simp [rowO]
theorem encO_at (a : OA) : (encO a)[0]! = .string a.1.kind ∧ (encO a)[1]! = .string a.1.name ∧ (encO a)[2]! = .int .i64 a.1.ver ∧ (encO a)[3]! = .int .i64 a.1.born ∧ (encO a)[4]! = .string a.1.text ∧ (encO a)[5]! = .bool a.1.ending ∧ (encO a)[6]! = .slice a.2.1 a.1.hn a.2.2 := ⟨rfl, rfl, rfl, rfl, rfl, rfl, rfl⟩
theorem rowO_holds {w : World} {g n : Nat} {c : Nat → Value} {x : Nat → Ob} {A : Nat → Option Addr} {C : Nat → Nat} (hr : RowF w g (n * 7) c) (hat : ∀ i, i < n → atOb c i (x i) (A i) (C i)) : HoldsK encO 7 w g 0 (rowO n x A C) := by
  intro j hj
  rw [size_flatK, rowO_size] at hj
  have hd : j / 7 < n := by omega
  refine ⟨?_, by rw [Nat.zero_add]; exact hr.free j⟩
  rw [Nat.zero_add, hr.cell j hj, get_flatK _ _ _ _ (by rw [rowO_size]; exact hj), rowO_at hd]
  obtain ⟨e0, e1, e2, e3, e4, e5, e6⟩ := encO_at (x (j / 7), A (j / 7), C (j / 7))
  obtain ⟨a0, a1, a2, a3, a4, a5, a6⟩ := hat _ hd
  have hm : j = j / 7 * 7 + j % 7 := by omega
  congr 1
  rcases (show j % 7 = 0 ∨ j % 7 = 1 ∨ j % 7 = 2 ∨ j % 7 = 3 ∨ j % 7 = 4 ∨ j % 7 = 5 ∨ j % 7 = 6 by omega) with h | h | h | h | h | h | h <;> rw [h] at hm ⊢
  · exact (congrArg c hm).trans (a0.trans e0.symm)
  · exact (congrArg c hm).trans (a1.trans e1.symm)
  · exact (congrArg c hm).trans (a2.trans e2.symm)
  · exact (congrArg c hm).trans (a3.trans e3.symm)
  · exact (congrArg c hm).trans (a4.trans e4.symm)
  · exact (congrArg c hm).trans (a5.trans e5.symm)
  · exact (congrArg c hm).trans (a6.trans e6.symm)
theorem holds_rowO {w : World} {g n : Nat} {d : Array OA} (h : HoldsK encO 7 w g 0 d) (hn : d.size = n) (hf : ∀ j, w.frozen? ⟨g, j, none⟩ = false) (hl : g < w.heap.size) :
    ∃ c, RowF w g (n * 7) c ∧ ∀ i, i < n → atOb c i (d[i]!).1 (d[i]!).2.1 (d[i]!).2.2 := by
  subst hn
  refine ⟨fun j => (encO d[j / 7]!)[j % 7]!, ⟨hl, hf, fun j hj => ?_⟩, fun i hi => ?_⟩
  · have h1 := (h j (by rw [size_flatK]; exact hj)).1
    rw [Nat.zero_add, get_flatK _ _ _ _ hj] at h1
    exact h1
  · have q : ∀ c, c < 7 → (i * 7 + c) / 7 = i ∧ (i * 7 + c) % 7 = c := fun c hc => by omega
    obtain ⟨e0, e1, e2, e3, e4, e5, e6⟩ := encO_at d[i]!
    have z := q 0 (by omega)
    rw [Nat.add_zero] at z
    refine ⟨?_, ?_, ?_, ?_, ?_, ?_, ?_⟩
    · show (encO d[i * 7 / 7]!)[i * 7 % 7]! = _
      rw [z.1, z.2]; exact e0
    · show (encO d[(i * 7 + 1) / 7]!)[(i * 7 + 1) % 7]! = _
      rw [(q 1 (by omega)).1, (q 1 (by omega)).2]; exact e1
    · show (encO d[(i * 7 + 2) / 7]!)[(i * 7 + 2) % 7]! = _
      rw [(q 2 (by omega)).1, (q 2 (by omega)).2]; exact e2
    · show (encO d[(i * 7 + 3) / 7]!)[(i * 7 + 3) % 7]! = _
      rw [(q 3 (by omega)).1, (q 3 (by omega)).2]; exact e3
    · show (encO d[(i * 7 + 4) / 7]!)[(i * 7 + 4) % 7]! = _
      rw [(q 4 (by omega)).1, (q 4 (by omega)).2]; exact e4
    · show (encO d[(i * 7 + 5) / 7]!)[(i * 7 + 5) % 7]! = _
      rw [(q 5 (by omega)).1, (q 5 (by omega)).2]; exact e5
    · show (encO d[(i * 7 + 6) / 7]!)[(i * 7 + 6) % 7]! = _
      rw [(q 6 (by omega)).1, (q 6 (by omega)).2]; exact e6
theorem frP_sort (w : World) (g m : Nat) (d : Array OA) (os : Array Obj) : FrP (fun q => q = g) w (sortWorldK encO 7 w g 0 m d os) := by
  refine ⟨rfl, rfl, rfl, by unfold sortWorldK putRowK putRow mapBlock grow Go.Sort.ahead; simp, fun k hk hne => ?_⟩
  show (w.heap.modify g (onCells (putCells id 0 (flatK encO 7 d))) ++ os)[k]? = w.heap[k]?
  rw [Array.getElem?_append_left (by simpa using hk), Array.getElem?_modify, if_neg (fun e => hne e.symm)]
theorem frozen_sort (w : World) (g m : Nat) (d : Array OA) (os : Array Obj) (hg : g < w.heap.size) (j : Nat) : (sortWorldK encO 7 w g 0 m d os).frozen? ⟨g, j, none⟩ = w.frozen? ⟨g, j, none⟩ := by
  unfold sortWorldK putRowK
  rw [frozen?_grow _ _ _ (by simpa [putRow, mapBlock] using hg), frozen?_putRow]
  rfl
theorem perm_list {n : Nat} {d d' : Array OA} (h : PermIn 0 n d d') (hn : d.size = n) : d'.toList.Perm d.toList := by
  have e1 : d'.extract 0 n = d' := by rw [← hn, ← h.1]; simp
  have e2 : d.extract 0 n = d := by rw [← hn]; simp
  have := h.2.2
  rw [e1, e2] at this
  exact this
theorem list_at {d : Array OA} {i : Nat} (hi : i < d.size) : d[i]! ∈ d.toList := by
  rw [getElem!_pos _ i hi]
  exact Array.mem_toList_iff.2 (Array.getElem_mem hi)
/-- behind the sort the objects lie as they lay, in another order -/
theorem sort_after {w : World} {base g cap n m : Nat} {x : Nat → Ob} {A : Nat → Option Addr} {C hb : Nat → Nat} {d' : Array OA} {os : Array Obj} (h : BdOb w base (.slice (some ⟨g, 0, none⟩) n cap) n x A C hb) (hp : PermIn 0 n (rowO n x A C) d') :
    ∃ (y : Nat → Ob) (A' : Nat → Option Addr) (C' hb' : Nat → Nat), (∀ i, d'[i]! = (y i, A' i, C' i)) ∧ ObsAt (sortWorldK encO 7 w g 0 m d' os) (some ⟨g, 0, none⟩) g n y A' C' hb' ∧ (∀ q, blkH g n (fun i => (y i).hn) hb' q → base ≤ q ∧ ((Value.slice (some ⟨g, 0, none⟩) n cap).ownBlock = some q ∨ ∃ i, i < n ∧ (x i).hn ≠ 0 ∧ q = hb i)) ∧ (toL n y).Perm (toL n x) := by
  obtain ⟨c, r, hat⟩ := h.row
  have R := row_of_own r
  have hg : g < w.heap.size ∧ base ≤ g := ⟨(r.lt g rfl).2, (r.lt g rfl).1⟩
  have hsz := rowO_size n x A C
  have hd' : d'.size = n := by rw [hp.1, hsz]
  have HK := rowO_holds R hat
  have HK' := holdsK_sortWorldK_c encO 7 w g 0 (rowO n x A C) d' m os HK hg.1 (by rw [hd', hsz])
  have hpl := perm_list hp hsz
  have hok : ∀ a, a ∈ (rowO n x A C).toList → okOA w base g a := fun a ha => by
    simp only [rowO, List.mem_map, List.mem_range] at ha
    obtain ⟨i, hi, rfl⟩ := ha
    have hB := h.hold i hi
    refine ⟨strsOwn_re hB (fun h0 => strsOwn_blk hB h0), fun h0 => ?_⟩
    have e : blkA (A i) = hb i := strsOwn_blk hB h0
    show base ≤ blkA (A i) ∧ blkA (A i) < _ ∧ blkA (A i) ≠ g
    rw [e]
    exact ⟨(h.hlt i hi h0).1, (h.hlt i hi h0).2, fun e => h.ne i hi h0 (by rw [e]; rfl)⟩
  have hdf : (rowO n x A C).toList.Pairwise difOA := by
    simp only [rowO, List.pairwise_map]
    refine List.Pairwise.imp_of_mem ?_ (List.pairwise_lt_range (n := n))
    intro i j hi hj hij h0 h1 e
    rw [List.mem_range] at hi hj
    have e1 : blkA (A i) = hb i := strsOwn_blk (h.hold i hi) h0
    have e2 : blkA (A j) = hb j := strsOwn_blk (h.hold j hj) h1
    have e' : blkA (A i) = blkA (A j) := e
    rw [e1, e2] at e'
    have := h.inj i j hi hj h0 h1 e'
    omega
  have hok' : ∀ i, i < n → okOA w base g d'[i]! := fun i hi => hok _ (hpl.mem_iff.1 (list_at (by omega)))
  have hdf' : d'.toList.Pairwise difOA := (hpl.pairwise_iff (fun {a b} h h0 h1 e => h h1 h0 e.symm)).2 hdf
  obtain ⟨c', r', hat'⟩ := holds_rowO HK' hd' (fun j => (frozen_sort w g m d' os hg.1 j).trans (R.free j)) (Nat.lt_of_lt_of_le hg.1 (frP_sort w g m d' os).size)
  refine ⟨fun i => (d'[i]!).1, fun i => (d'[i]!).2.1, fun i => (d'[i]!).2.2, fun i => blkA (d'[i]!).2.1, fun i => rfl, ⟨fun _ => rfl, fun _ => ⟨c', r', hat'⟩, fun i hi => ?_, fun i hi h0 => ?_, ⟨fun i hi h0 => ((hok' i hi).2 h0).2.2, fun i j hi hj h0 h1 e => ?_⟩⟩, fun q hq => ?_, ?_⟩
  · exact (hok' i hi).1.frP (frP_sort w g m d' os) (fun h0 => ⟨((hok' i hi).2 h0).2.2, ((hok' i hi).2 h0).2.1⟩)
  · exact Nat.lt_of_lt_of_le ((hok' i hi).2 h0).2.1 (frP_sort w g m d' os).size
  · have hp2 := List.pairwise_iff_getElem.1 hdf'
    have gi : ∀ {k : Nat} (hk : k < n), d'[k]! = d'.toList[k]'(by simpa [hd'] using hk) := fun {k} hk => by
      rw [getElem!_pos _ k (by omega)]; simp
    rcases Nat.lt_trichotomy i j with hl | hl | hl
    · have := hp2 i j (by simpa [hd'] using hi) (by simpa [hd'] using hj) hl
      rw [← gi hi, ← gi hj] at this
      exact absurd e (this h0 h1)
    · exact hl
    · have := hp2 j i (by simpa [hd'] using hj) (by simpa [hd'] using hi) hl
      rw [← gi hi, ← gi hj] at this
      exact absurd e.symm (this h1 h0)
  · rcases hq with ⟨_, rfl⟩ | ⟨i, hi, h0, rfl⟩
    · exact ⟨hg.2, Or.inl rfl⟩
    · refine ⟨((hok' i hi).2 h0).1, Or.inr ?_⟩
      have hm := hpl.mem_iff.1 (list_at (d := d') (i := i) (by omega))
      simp only [rowO, List.mem_map, List.mem_range] at hm
      obtain ⟨j, hj, e⟩ := hm
      have e1 : (d'[i]!).1 = x j := by rw [← e]
      have e2 : (d'[i]!).2.1 = A j := by rw [← e]
      have h0' : (x j).hn ≠ 0 := by rw [← e1]; exact h0
      exact ⟨j, hj, h0', by show blkA (d'[i]!).2.1 = hb j; rw [e2]; exact strsOwn_blk (h.hold j hj) h0'⟩
  · have e1 : toL n (fun i => (d'[i]!).1) = d'.toList.map (·.1) := by
      apply List.ext_getElem
      · simp [toL, hd']
      · intro i h1 h2
        simp only [toL, List.length_map, List.length_range] at h1
        simp only [toL, List.getElem_map, List.getElem_range]
        rw [getElem!_pos _ i (by omega)]
        simp
    have e2 : toL n x = (rowO n x A C).toList.map (·.1) := by
      simp [toL, rowO, Function.comp_def]
    rw [e1, e2]
    exact hpl.map _
/-- .. and ascend -/
theorem sort_asc {n : Nat} {d' : Array OA} {y : Nat → Ob} {A : Nat → Option Addr} {C : Nat → Nat} (he : ∀ i, d'[i]! = (y i, A i, C i)) (hs : SortedIn (ltOf cfO) 0 n d') : (toL n y).Pairwise (fun a b => befB b a = false) := by
  rw [List.pairwise_iff_getElem]
  intro i j hi hj hij
  simp only [toL, List.length_map, List.length_range] at hi hj
  simp only [toL, List.getElem_map, List.getElem_range]
  have h := hs i j (Nat.zero_le _) hij hj
  rw [ltO, he i, he j] at h
  exact h
end Go.Proofs.YtkecnaaacbckoaaGreat
