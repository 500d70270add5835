import Derived.Test.YtmlphclhapkfcaaS
namespace Go.Proofs.Ytmlphclhapkfcaa
open Go.RowKit Go.Maps
theorem lit_int {a b : Int} (h : (DataW.lit (.int .i64 a) : DataW Unit) = .lit (.int .i64 b)) : a = b := by cases h; rfl
def ob0 : Ob := ⟨⟨#[]⟩, ⟨#[]⟩, 0, 0, ⟨#[]⟩, false, 0, fun _ => ⟨#[]⟩⟩
def fndOb (x : Nat → Ob) (a b : ByteArray) (n : Nat) : Ob := match fnd x a b n with | some i => x i | none => ob0
def fndIs (x : Nat → Ob) (a b : ByteArray) (n : Nat) : Bool := (fnd x a b n).isSome
set_option maxHeartbeats 1000000 in
theorem implFind_any (now floor : Int) (n : Nat) (x : Nat → Ob) (a1 a2 a3 : Option Addr) (c1 n2 c2 n3 c3 : Nat) (ki na : ByteArray) (hki : ki.size ≤ 1048576) (hna : na.size ≤ 1048576) (w : World) (lo hi : Nat) (hhi : hi ≤ w.heap.size) (hl : (n : Int) ≤ 1099511627776) (hf : ∀ i, i < n → ObFit (x i)) (hc : ObjsIn w lo hi a1 n x) :
    Calls Try.prog 7 #[.agg #[.int .i64 now, .int .i64 floor, .slice a1 n c1, .slice a2 n2 c2, .slice a3 n3 c3], .string ki, .string na] w fun e w' => ∃ ad' cap',
      e = .returned (.tuple #[.agg #[.string (fndOb x ki na n).kind, .string (fndOb x ki na n).name, .int .i64 (fndOb x ki na n).ver, .int .i64 (fndOb x ki na n).born, .string (fndOb x ki na n).text, .bool (fndOb x ki na n).ending, .slice ad' (fndOb x ki na n).hn cap'], .bool (fndIs x ki na n)]) ∧
      StrsOwn w' w.heap.size w'.heap.size ad' (fndOb x ki na n).hn (fndOb x ki na n).hs ∧ Below w.heap.size w w' := by
  have hsk : ki.size ≤ maxLen := by unfold maxLen; omega
  have hsn : na.size ≤ maxLen := by unfold maxLen; omega
  have hky := hkey ki na hsk hsn
  go_enter Try.func7, Try.ntmps7
  go_wp2_with fail
  refine (places_any n x a1 c1 _ lo hi (by simp; omega) hl hf (hc.below (B := w.heap.size) (((Below.refl _ _).alloc (Nat.le_refl _) _).alloc (by simp) _) hhi)).mono ?_
  rintro e w1 ⟨D, rfl, hown, htold, hb1⟩
  have hB1 : Below w.heap.size w w1 := (((Below.refl _ _).alloc (Nat.le_refl _) _).alloc (by simp) _).trans (hb1.mono (by simp; omega))
  obtain ⟨A0, A1, F0, F1⟩ := two_cell hb1
  have p2 := A0 2
  have q0 := A1 0
  have q1 := A1 1
  have q2 := A1 2
  have q3 := A1 3
  have q4 := A1 4
  have q5 := A1 5
  have q6 := A1 6
  simp only [List.getElem?_toArray, List.getElem?_cons_succ, List.getElem?_cons_zero] at p2 q0 q1 q2 q3 q4 q5 q6
  have hz := hown.lt
  simp only [World.size_alloc] at hown hz ⊢
  have HOW := hid hown
  clear A0 A1 hb1 hown
  cases hfd : fnd x ki na n with
  | none =>
    have hhas := (htold _ _ hsk hsn).2 hfd
    have HF : Hid (fnd x ki na n = none) := hfd
    clear hfd htold
    go_wp2_with (at_lookup; go_must (refine wpList_lookup_own_ok_int _ rfl _ _ 52 rfl 55 3 .i64 Try.law55 Try.underlying52 Try.underlying3 (zero3 _) (w.heap.size + 1 + 1) n D rfl HOW.out _ _ rfl hky ?_; intro c hat hwc))
    have e1 : fndOb x ki na n = ob0 := by unfold fndOb; rw [HF.out]
    have e2 : fndIs x ki na n = false := by unfold fndIs; rw [HF.out]; rfl
    rw [e1, e2]
    refine bodyPost_ret (v := .tuple #[.agg #[.string ⟨#[]⟩, .string ⟨#[]⟩, .int .i64 0, .int .i64 0, .string ⟨#[]⟩, .bool false, .slice none 0 0], .bool false]) (by simp [results, Try.results7, go_sem, q0, q1, q2, q3, q4, q5, q6]) rfl ⟨none, 0, rfl, ?_, ?_⟩
    · intro j hj; exact absurd hj (Nat.not_lt_zero _)
    · refine hB1.trans (Fr.below (lo := w.heap.size) (hi := w.heap.size + 2) ?_ (Nat.le_refl _) hB1.size)
      iterate 7 refine Fr.setCell ?_ (by simp; try omega) (by simp; try omega) _
      exact Fr.refl _ _ _
  | some i =>
    obtain ⟨hhas, hatk⟩ := (htold _ _ hsk hsn).1 i hfd
    have HF : Hid (fnd x ki na n = some i) := hfd
    have hin := (fnd_lt hfd).1
    clear hfd htold
    have HA := hid hatk
    clear hatk
    obtain ⟨b, off, ah, ch, rfl, hlo, hbh, hcx, hsx⟩ := hc i hin
    have hfi := (hf i hin).h
    obtain ⟨d0, d1, d2, d3, d4, d5, d6⟩ := hcx.below hB1 (by omega)
    have HS := hid (hsx.below hB1 hhi)
    clear hc hf hcx hsx
    go_wp2_with (at_lookup; go_must (refine wpList_lookup_own_ok_int _ rfl _ _ 52 rfl 55 3 .i64 Try.law55 Try.underlying52 Try.underlying3 (zero3 _) (w.heap.size + 1 + 1) n D rfl HOW.out _ _ rfl hky ?_; intro c hat hwc; have hci : c = (i : Int) := lit_int (hat.symm.trans HA.out); subst hci; clear hat hwc))
    refine (copyOb_any (x i) ah ch _ lo hi (by omega) hfi HS.out).mono ?_
    rintro e w2 ⟨ah', ch', rfl, ho2, hb2⟩
    have hB2 := hB1.trans (hb2.mono hB1.size)
    have r0 := (hb2.cell (p := ⟨w.heap.size + 1, 0, none⟩) (by show w.heap.size + 1 < _; omega)).trans q0
    have r1 := (hb2.cell (p := ⟨w.heap.size + 1, 1, none⟩) (by show w.heap.size + 1 < _; omega)).trans q1
    have r2 := (hb2.cell (p := ⟨w.heap.size + 1, 2, none⟩) (by show w.heap.size + 1 < _; omega)).trans q2
    have r3 := (hb2.cell (p := ⟨w.heap.size + 1, 3, none⟩) (by show w.heap.size + 1 < _; omega)).trans q3
    have r4 := (hb2.cell (p := ⟨w.heap.size + 1, 4, none⟩) (by show w.heap.size + 1 < _; omega)).trans q4
    have r5 := (hb2.cell (p := ⟨w.heap.size + 1, 5, none⟩) (by show w.heap.size + 1 < _; omega)).trans q5
    have r6 := (hb2.cell (p := ⟨w.heap.size + 1, 6, none⟩) (by show w.heap.size + 1 < _; omega)).trans q6
    have F1' : ∀ j, w2.frozen? ⟨w.heap.size + 1, j, none⟩ = false := fun j => (hb2.frozen (p := ⟨w.heap.size + 1, j, none⟩) (by show w.heap.size + 1 < _; omega)).trans (F1 j)
    have HO2 := hid ho2
    clear ho2 hb2 q0 q1 q2 q3 q4 q5 q6 F0 F1 d0 d1 d2 d3 d4 d5 d6 HS HOW p2
    go_wp2
    have e1 : fndOb x ki na n = x i := by unfold fndOb; rw [HF.out]
    have e2 : fndIs x ki na n = true := by unfold fndIs; rw [HF.out]; rfl
    rw [e1, e2]
    refine bodyPost_ret (v := .tuple #[.agg #[.string (x i).kind, .string (x i).name, .int .i64 (x i).ver, .int .i64 (x i).born, .string (x i).text, .bool (x i).ending, .slice ah' (x i).hn ch'], .bool true]) (by simp [results, Try.results7, go_sem, r0, r1, r2, r3, r4, r5, r6]) rfl ⟨ah', ch', rfl, ?_, ?_⟩
    · simp only [World.size_setCell]
      refine (StrsOwn.fr HO2.out (lo2 := w.heap.size) (hi2 := w.heap.size + 2) ?_ (Nat.le_refl _) (by omega)).mono hB1.size (Nat.le_refl _)
      iterate 7 refine Fr.setCell ?_ (by simp; try omega) (by simp; try omega) _
      exact Fr.refl _ _ _
    · refine hB2.trans (Fr.below (lo := w.heap.size) (hi := w.heap.size + 2) ?_ (Nat.le_refl _) hB2.size)
      iterate 7 refine Fr.setCell ?_ (by simp; try omega) (by simp; try omega) _
      exact Fr.refl _ _ _
end Go.Proofs.Ytmlphclhapkfcaa
