import Derived.Test.YtmlphclhapkfcaaT
namespace Go.Proofs.Ytmlphclhapkfcaa
open Go.RowKit Go.Maps
theorem fnd_keep {x : Nat → Ob} {a b : ByteArray} {k i : Nat} (h : fnd x a b k = some i) : ∀ {n : Nat}, k ≤ n → fnd x a b n = some i := by
  intro n hn
  induction n with
  | zero => have : k = 0 := by omega
            subst this; exact h
  | succ m ih => rcases Nat.lt_or_ge m k with h1 | h1
                 · have : k = m + 1 := by omega
                   subst this; exact h
                 · exact fnd_some (ih h1)
theorem toList_inj' {a b : ByteArray} (h : a.toList = b.toList) : a = b := by
  have h1 : a.data.toList = b.data.toList := by simpa [ByteArray.toList_eq] using h
  cases a; cases b
  simp at h1
  exact congrArg ByteArray.mk h1
set_option maxHeartbeats 1000000 in
theorem specFind_any (now floor : Int) (n : Nat) (x : Nat → Ob) (a1 a2 a3 : Option Addr) (c1 n2 c2 n3 c3 : Nat) (ki na : ByteArray) (w : World) (lo hi : Nat) (hhi : hi ≤ w.heap.size) (hl : (n : Int) ≤ 1099511627776) (hf : ∀ i, i < n → ObFit (x i)) (hc : ObjsIn w lo hi a1 n x) :
    Calls Try.prog 5 #[.agg #[.int .i64 now, .int .i64 floor, .slice a1 n c1, .slice a2 n2 c2, .slice a3 n3 c3], .string ki, .string na] w fun e w' => ∃ ad' cap',
      e = .returned (.tuple #[.agg #[.string (fndOb x ki na n).kind, .string (fndOb x ki na n).name, .int .i64 (fndOb x ki na n).ver, .int .i64 (fndOb x ki na n).born, .string (fndOb x ki na n).text, .bool (fndOb x ki na n).ending, .slice ad' (fndOb x ki na n).hn cap'], .bool (fndIs x ki na n)]) ∧
      StrsOwn w' w.heap.size w'.heap.size ad' (fndOb x ki na n).hn (fndOb x ki na n).hs ∧ Below w.heap.size w w' := by
  have hB0 : ∀ o1 o2 : Obj, Below w.heap.size w ((w.alloc o1).alloc o2) := fun o1 o2 => ((Below.refl _ _).alloc (Nat.le_refl _) _).alloc (by simp) _
  have HB := hid hB0
  clear hB0
  go_enter Try.func5, Try.ntmps5
  go_wp2
  go_loopw [8] (fun i wr => ∃ k : Nat, k ≤ n ∧ i = .int .i64 k ∧ fnd x ki na k = none ∧ wr = (w.alloc (.cells #[.int .i64 now, .int .i64 floor, .slice a1 n c1, .slice a2 n2 c2, .slice a3 n3 c3] 37)).alloc (.cells #[.string ⟨#[]⟩, .string ⟨#[]⟩, .int .i64 0, .int .i64 0, .string ⟨#[]⟩, .bool false, .slice none 0 0] 30)) (fun i _ => n - (intOf i).toNat)
  case atStart => exact ⟨0, Nat.zero_le _, rfl, rfl, rfl⟩
  case round =>
    obtain ⟨k, hk, rfl, hfd, rfl⟩ := hrel
    by_cases hkn : k < n
    · obtain ⟨b, off, ah, ch, rfl, hlo, hbh, hcx, hsx⟩ := hc k hkn
      have hfi := (hf k hkn).h
      obtain ⟨d0, d1, d2, d3, d4, d5, d6⟩ := hcx.below (HB.out (.cells #[.int .i64 now, .int .i64 floor, .slice (some ⟨b, off, none⟩) n c1, .slice a2 n2 c2, .slice a3 n3 c3] 37) (.cells #[.string ⟨#[]⟩, .string ⟨#[]⟩, .int .i64 0, .int .i64 0, .string ⟨#[]⟩, .bool false, .slice none 0 0] 30)) (by omega)
      have HF := hid hfd
      clear hc hf hcx hfd
      go_wp2_with fail
      · have hh : (x k).kind = ki ∧ (x k).name = na := ⟨toList_inj' (by assumption), toList_inj' (by have h9 : ((x k).name.toList == na.toList) = true := (by assumption); exact eq_of_beq h9)⟩
        have HF2 := hid (fnd_hit HF.out hh)
        have HN := hid (fnd_keep HF2.out (show k + 1 ≤ n by omega))
        clear hh HF HF2
        refine (specOb_any (x k) ah ch _ lo hi (by simp; omega) hfi (hsx.below (HB.out _ _) hhi)).mono ?_
        rintro e w1 ⟨ah', ch', rfl, ho1, hb1⟩
        have hB1 : Below w.heap.size w w1 := (HB.out _ _).trans (hb1.mono (by simp; omega))
        obtain ⟨A0, A1, F0, F1⟩ := two_cell hb1
        have q0 := A1 0
        have q1 := A1 1
        have q2 := A1 2
        have q3 := A1 3
        have q4 := A1 4
        have q5 := A1 5
        have q6 := A1 6
        have hz := hb1.size
        simp only [List.getElem?_toArray, List.getElem?_cons_succ, List.getElem?_cons_zero] at q0 q1 q2 q3 q4 q5 q6
        simp only [World.size_alloc] at ho1 hz
        have HO := hid ho1
        clear A0 A1 F0 hb1 ho1 d0 d1 d2 d3 d4 d5 d6 hsx
        go_wp2
        have e1 : fndOb x ki na n = x k := by unfold fndOb; rw [HN.out]
        have e2 : fndIs x ki na n = true := by unfold fndIs; rw [HN.out]; rfl
        rw [e1, e2]
        refine bodyPost_ret (v := .tuple #[.agg #[.string (x k).kind, .string (x k).name, .int .i64 (x k).ver, .int .i64 (x k).born, .string (x k).text, .bool (x k).ending, .slice ah' (x k).hn ch'], .bool true]) (by simp [results, Try.results5, go_sem, q0, q1, q2, q3, q4, q5, q6]) rfl ⟨ah', ch', rfl, ?_, ?_⟩
        · simp only [World.size_setCell]
          refine (StrsOwn.fr HO.out (lo2 := w.heap.size) (hi2 := w.heap.size + 2) ?_ (Nat.le_refl _) (by omega)).mono (by omega) (Nat.le_refl _)
          iterate 7 refine Fr.setCell ?_ (by simp; try omega) (by simp; try omega) _
          exact Fr.refl _ _ _
        · refine hB1.trans (Fr.below (lo := w.heap.size) (hi := w.heap.size + 2) ?_ (Nat.le_refl _) hB1.size)
          iterate 7 refine Fr.setCell ?_ (by simp; try omega) (by simp; try omega) _
          exact Fr.refl _ _ _
      · have hh : ¬ ((x k).kind = ki ∧ (x k).name = na) := fun e => by
          have h9 : ((x k).name.toList == na.toList) = false := by assumption
          rw [e.2] at h9
          simp at h9
        go_roundw
        case rel => exact ⟨k + 1, by omega, by go_num, fnd_miss HF.out hh, by trivial⟩
        case measure => simp [intOf]; omega
      · have hh : ¬ ((x k).kind = ki ∧ (x k).name = na) := fun e => by
          have h9 : ¬ (x k).kind.toList = ki.toList := by assumption
          exact h9 (by rw [e.1])
        go_roundw
        case rel => exact ⟨k + 1, by omega, by go_num, fnd_miss HF.out hh, by trivial⟩
        case measure => simp [intOf]; omega
    · have : k = n := by omega
      subst this
      have HF := hid hfd
      clear hc hf hfd
      go_wp2
      have e1 : fndOb x ki na k = ob0 := by unfold fndOb; rw [HF.out]
      have e2 : fndIs x ki na k = false := by unfold fndIs; rw [HF.out]; rfl
      rw [e1, e2]
      refine bodyPost_ret (v := .tuple #[.agg #[.string ⟨#[]⟩, .string ⟨#[]⟩, .int .i64 0, .int .i64 0, .string ⟨#[]⟩, .bool false, .slice none 0 0], .bool false]) (by simp [results, Try.results5, go_sem]) rfl ⟨none, 0, rfl, ?_, ?_⟩
      · intro j hj; exact absurd hj (Nat.not_lt_zero _)
      · exact HB.out _ _
end Go.Proofs.Ytmlphclhapkfcaa
