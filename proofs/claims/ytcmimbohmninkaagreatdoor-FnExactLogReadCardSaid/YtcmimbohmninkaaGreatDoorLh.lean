import Derived.Test.YtcmimbohmninkaaGreatDoorLg
namespace Go.Proofs.YtcmimbohmninkaaGreatDoor
open Go.RowKit
theorem ba_append (a b : ByteArray) : (a ++ b).data.toList = a.data.toList ++ b.data.toList := by simp
theorem ba_mk (l : List UInt8) : (⟨l.toArray⟩ : ByteArray).data.toList = l := by simp
theorem ba_ext {a b : ByteArray} (h : a.data.toList = b.data.toList) : a = b := by
  cases a; cases b
  simp only at h
  rw [Array.toList_inj.1 h]
theorem inter_cons (sep : List UInt8) : ∀ (a : List UInt8) (xs : List (List UInt8)), sep.intercalate (a :: xs) = a ++ xs.flatMap (fun s => sep ++ s)
  | a, [] => by simp [List.intercalate]
  | a, b :: xs => by
    have ih := inter_cons sep b xs
    unfold List.intercalate at ih ⊢
    rw [List.intersperse_cons_cons]
    simp only [List.flatten_cons, List.flatMap_cons]
    rw [ih]
    simp
theorem joinL_cons (a : ByteArray) (xs : List ByteArray) : joinL (a :: xs) = a.data.toList ++ xs.flatMap (fun s => 32 :: s.data.toList) := by
  unfold joinL Lib.join
  rw [List.map_cons, inter_cons, List.flatMap_map]
  rfl
/-- the fields, as texts -/
def fldL (cl ki na ho te : ByteArray) (nn oo ss : Nat) : List ByteArray := [cl, dS nn, dS oo, ki, na, dS ss, holdS ho, quS te]
theorem join_form (cl ki na ho te : ByteArray) (nn oo ss : Nat) : (⟨(joinL (fldL cl ki na ho te nn oo ss)).toArray⟩ : ByteArray) = formS cl ki na (holdS ho) te nn oo ss := by
  refine ba_ext ?_
  rw [ba_mk]
  unfold fldL formS
  rw [joinL_cons]
  simp only [ba_append, List.flatMap_cons, List.flatMap_nil, List.append_nil, List.append_assoc, List.cons_append, List.nil_append]
def sCH (l : List ByteArray) : List Value := l.map Value.string
theorem sC_snoc (l : List ByteArray) (s : ByteArray) : sCH (l ++ [s]) = sCH l ++ [.string s] := by simp [sCH]
theorem Tab.below' {w w' : World} (h : Tab w) (hb : Below w.heap.size w w') : Tab w' := h.below hb
theorem alloc_news (w : World) (l : List Value) (t : TypeId) : ∀ j u, l[j]? = some u → (w.alloc (.cells l.toArray t)).cell? ((⟨w.heap.size, 0, none⟩ : Addr).add j) = some u := news_alloc w l t
theorem formS_size {cl ki na ho te : ByteArray} {nn oo ss : Nat} (z0 : (cl.size : Int) ≤ 20) (z1 : (ki.size : Int) ≤ 20) (z2 : (na.size : Int) ≤ 20) (z3 : (ho.size : Int) ≤ 20) (z4 : (te.size : Int) ≤ 300) (n0 : (nn : Int) ≤ 1000000) (n1 : (oo : Int) ≤ 1000000) (n2 : (ss : Int) ≤ 1000000) : ((formS cl ki na ho te nn oo ss).size : Int) ≤ 10000000 := by
  have y0 := dS_size n0
  have y1 := dS_size n1
  have y2 := dS_size n2
  have y3 := quS_size (s := te) (by omega)
  have e1 : ((⟨#[32]⟩ : ByteArray)).size = 1 := rfl
  unfold formS
  simp only [ByteArray.size_append, e1]
  omega
set_option maxRecDepth 100000 in
set_option maxHeartbeats 8000000 in
theorem formOf_one (cl : ByteArray) (nn : Nat) (A1 : Option Addr) (A3 A4 b off : Nat) (ki na te ho : ByteArray) (oo ss : Nat) (w : World) (hT : Tab w) (hE : Ers w) (hb : b < w.heap.size) (hy : WrCells w b off ⟨oo, ki, na, ss, te, ho⟩) (z0 : (cl.size : Int) ≤ 20) (z1 : (ki.size : Int) ≤ 20) (z2 : (na.size : Int) ≤ 20) (z3 : (ho.size : Int) ≤ 20) (z4 : (te.size : Int) ≤ 300) (n0 : (nn : Int) ≤ 1000000) (n1 : (oo : Int) ≤ 1000000) (n2 : (ss : Int) ≤ 1000000)
    (hOK : ∀ W : World, Below w.heap.size w W → Calls Tryz.prog 34 #[.agg #[.string cl, .int .i64 nn, .slice A1 0 A3, .slice (some ⟨b, off, none⟩) 1 A4]] W fun e w' => e = .returned .nilIface ∧ Below W.heap.size W w') :
    Calls Tryz.prog 22 #[.agg #[.string cl, .int .i64 nn, .slice A1 0 A3, .slice (some ⟨b, off, none⟩) 1 A4]] w fun e w' => ((((formS cl ki na (holdS ho) te nn oo ss).size : Int) ≤ 100 ∧ e = .returned (.tuple #[.string (formS cl ki na (holdS ho) te nn oo ss), .nilIface])) ∨ (¬ ((formS cl ki na (holdS ho) te nn oo ss).size : Int) ≤ 100 ∧ ∃ t v, e = .returned (.tuple #[.string ⟨#[]⟩, .iface t v]))) ∧ Below w.heap.size w w' := by
  obtain ⟨i0, hi0, hi1, hi2, hi3⟩ := info_parts Tryz.info9
  have hB0 := below_alloc w (.cells #[.string cl, .int .i64 nn, .slice A1 0 A3, .slice (some ⟨b, off, none⟩) 1 A4] 27)
  have H0 := hid (holds_new w #[.string cl, .int .i64 nn, .slice A1 0 A3, .slice (some ⟨b, off, none⟩) 1 A4] 27)
  have hz0 : w.heap.size < (w.alloc (.cells #[.string cl, .int .i64 nn, .slice A1 0 A3, .slice (some ⟨b, off, none⟩) 1 A4] 27)).heap.size := by simp
  have HOK := hid (hOK _ hB0)
  have HY := hid hy
  have HT0 := hid hT
  have HER := hid hE
  clear hy hOK hT hE
  have z5 : ((holdS ho).size : Int) ≤ 20 := by
    unfold holdS
    split
    · decide
    · exact z3
  have hsz := formS_size (cl := cl) (ki := ki) (na := na) (ho := holdS ho) (te := te) z0 z1 z2 z5 z4 n0 n1 n2
  have HJ := hid (join_form cl ki na ho te nn oo ss)
  go_enter Tryz.func22, Tryz.ntmps22
  go_wp2_with (first | (go_at_call 34; go_must (refine HOK.out.mono ?_; rintro e w1 ⟨rfl, hb1⟩; have hB1 : Below w.heap.size w w1 := (hB0.trans (hb1.mono hB0.size)); have hz1 : w.heap.size < w1.heap.size := Nat.lt_of_lt_of_le hz0 hb1.size; obtain ⟨p0, p1, p2, p3⟩ := holds_four (H0.out.below hb1 hz0); obtain ⟨d0, d1, d2, d3, d4, d5⟩ := HY.out.below hB1 hb)) | (go_at_call 32; go_must (refine (logFields_any w.heap.size w1.heap.size _).mono ?_; rintro e w2 ⟨g, rfl, hF, hb2⟩; have HF := hid hF; have HB2 := hid hb2; clear hF hb2)))
  obtain ⟨U, hU⟩ : ∃ U, w1.alloc (.cells #[.int .i64 oo, .string ki, .string na, .int .i64 ss, .string te, .string ho] 40) = U := ⟨_, rfl⟩
  rw [hU] at HB2
  have hb2 := HB2.out
  have hUz : U.heap.size = w1.heap.size + 1 := by rw [← hU]; simp
  have hz2 := hb2.size
  have r0 := hid ((hb2.cell (p := ⟨w1.heap.size, 0, none⟩) (by show w1.heap.size < _; omega)).trans (show U.cell? ⟨w1.heap.size, 0, none⟩ = some (.int .i64 oo) by rw [← hU]; simp))
  have r1 := hid ((hb2.cell (p := ⟨w1.heap.size, 1, none⟩) (by show w1.heap.size < _; omega)).trans (show U.cell? ⟨w1.heap.size, 1, none⟩ = some (.string ki) by rw [← hU]; simp))
  have r2 := hid ((hb2.cell (p := ⟨w1.heap.size, 2, none⟩) (by show w1.heap.size < _; omega)).trans (show U.cell? ⟨w1.heap.size, 2, none⟩ = some (.string na) by rw [← hU]; simp))
  have r3 := hid ((hb2.cell (p := ⟨w1.heap.size, 3, none⟩) (by show w1.heap.size < _; omega)).trans (show U.cell? ⟨w1.heap.size, 3, none⟩ = some (.int .i64 ss) by rw [← hU]; simp))
  have r4 := hid ((hb2.cell (p := ⟨w1.heap.size, 4, none⟩) (by show w1.heap.size < _; omega)).trans (show U.cell? ⟨w1.heap.size, 4, none⟩ = some (.string te) by rw [← hU]; simp))
  have r5 := hid ((hb2.cell (p := ⟨w1.heap.size, 5, none⟩) (by show w1.heap.size < _; omega)).trans (show U.cell? ⟨w1.heap.size, 5, none⟩ = some (.string ho) by rw [← hU]; simp))
  have k0 := hid ((hb2.cell (p := ⟨w.heap.size, 0, none⟩) (by show w.heap.size < _; omega)).trans (show U.cell? ⟨w.heap.size, 0, none⟩ = some (.string cl) by rw [← hU]; exact (World.cell?_alloc_past _ _ _ hz1).trans p0))
  have k1 := hid ((hb2.cell (p := ⟨w.heap.size, 1, none⟩) (by show w.heap.size < _; omega)).trans (show U.cell? ⟨w.heap.size, 1, none⟩ = some (.int .i64 nn) by rw [← hU]; exact (World.cell?_alloc_past _ _ _ hz1).trans p1))
  have hBU : Below w.heap.size w U := by rw [← hU]; exact hB1.alloc hB1.size _
  have hB2 : Below w.heap.size w w2 := hBU.trans (hb2.mono hBU.size)
  have HT := hid (HT0.out.below hB2)
  have HER2 := hid (HER.out.below hB2)
  clear hU p0 p1 p2 p3 d0 d1 d2 d3 d4 d5 hb2 HB2 HT0 HER HY HOK H0 hB0 hz0 hBU
  obtain ⟨C, hC⟩ : ∃ C, w.heap.size = C := ⟨_, rfl⟩
  obtain ⟨R, hR⟩ : ∃ R, w1.heap.size = R := ⟨_, rfl⟩
  rw [hC] at HF k0 k1 ⊢
  rw [hR] at HF r0 r1 r2 r3 r4 r5 ⊢
  have hCl : C < w2.heap.size := by omega
  have hRl : R < w2.heap.size := by omega
  go_loopw [6, 22] (fun v i wr => ∃ k : Nat, k ≤ 8 ∧ i = .int .i64 k ∧ Below w2.heap.size w2 wr ∧ wr.ownsRow w2.heap.size 9 1 v k (sCH ((fldL cl ki na ho te nn oo ss).take k))) (fun _ i _ => 8 - (intOf i).toNat)
  case atStart => exact ⟨0, Nat.zero_le _, rfl, Below.refl _ _, World.ownsRow_nil _ _ _ _⟩
  case round =>
    obtain ⟨k, hk, rfl, hb, own⟩ := hrel
    have OWN := hid own
    clear own
    by_cases hk8 : k < 8
    · obtain ⟨gk, fb, c0', c1', hgl, hgc'⟩ := HF.out.2 k hk8
      have c0 := (hb.cell (p := ⟨g, k * 2, none⟩) HF.out.1).trans c0'
      have c1 := (hb.cell (p := ⟨g, k * 2 + 1, none⟩) HF.out.1).trans c1'
      have hgc : w2.cell? ⟨gk, 0, none⟩ = some (.pointer (some (prt C R k))) := hgc'
      clear c0' c1' hgc'
      have HGC := hid hgc
      clear hgc
      rcases (show k = 0 ∨ k = 1 ∨ k = 2 ∨ k = 3 ∨ k = 4 ∨ k = 5 ∨ k = 6 ∨ k = 7 by omega) with rfl | rfl | rfl | rfl | rfl | rfl | rfl | rfl
      · have HFK := hid (fun (W : World) (hB : Below w2.heap.size w2 W) => word1_any gk C 0 cl W ((hB.cell (p := ⟨gk, 0, none⟩) hgl).trans HGC.out) ((hB.cell (p := ⟨C, 0, none⟩) (by show C < _; omega)).trans k0.out))
        have hsn : (fldL cl ki na ho te nn oo ss).take (0 + 1) = (fldL cl ki na ho te nn oo ss).take 0 ++ [cl] := rfl
        simp only [wrt, Nat.reduceMul, Nat.reduceAdd] at c0 c1
        have HSN := hid hsn
        clear hsn
        go_wp2_with (first | (go_at_call 50; go_must (refine (HFK.out _ (hb.trans ((below_alloc _ _).mono hb.size))).mono ?_; rintro e w3 ⟨rfl, hb3⟩; have hB3 : Below w2.heap.size w2 w3 := (hb.trans ((below_alloc _ _).mono hb.size)).trans (hb3.mono (by simp; have := hb.size; omega)); have own5 := (((OWN.out.alloc (.cells #[.func (.func 50) #[] #[.pointer (some ⟨gk, 0, none⟩)], .func (.func fb) #[] #[.pointer (some ⟨gk, 0, none⟩)]] 69)).kept (grown_of_below hb3) (Classical.em _)).alloc (.cells #[.string (cl)] 9)); have NW := alloc_news w3 [.string (cl)] 9)) | (at_builtin; go_must (refine wpList_append_own_at _ rfl _ _ 33 rfl w2.heap.size 9 i0 _ 1 16 Tryz.underlying33 hi0 hi1 hi2 hi3 rfl (by decide) _ 0 _ rfl own5 ⟨w3.heap.size, 0, none⟩ 1 1 [.string (cl)] rfl rfl NW (by simp [Value.oneCell']) (by unfold maxLen; omega) (by omega) (by simp; have := hB3.size; omega) ?_; intro v6 w6 own6 grow6 nil6 at6)))
        have HO6 := hid own6
        have HG6 := hid grow6
        have HO5 := hid own5
        clear own6 grow6 nil6 at6 own5 NW
        go_roundw
        case rel =>
          refine ⟨0 + 1, by omega, by go_num, (hB3.alloc hB3.size _).grown HG6.out (by simp; have := hB3.size; omega) (fun r e => (HO5.out.lt r e).1), ?_⟩
          rw [HSN.out, sC_snoc]
          exact HO6.out
        case measure => simp [intOf]
      · have HFK := hid (fun (W : World) (hB : Below w2.heap.size w2 W) => number1_any gk C 1 nn (by omega) W (HT.out.below' hB) ((hB.cell (p := ⟨gk, 0, none⟩) hgl).trans HGC.out) ((hB.cell (p := ⟨C, 1, none⟩) (by show C < _; omega)).trans k1.out))
        have hsn : (fldL cl ki na ho te nn oo ss).take (1 + 1) = (fldL cl ki na ho te nn oo ss).take 1 ++ [dS nn] := rfl
        simp only [wrt, Nat.reduceMul, Nat.reduceAdd] at c0 c1
        have HSN := hid hsn
        clear hsn
        go_wp2_with (first | (go_at_call 52; go_must (refine (HFK.out _ (hb.trans ((below_alloc _ _).mono hb.size))).mono ?_; rintro e w3 ⟨rfl, hb3⟩; have hB3 : Below w2.heap.size w2 w3 := (hb.trans ((below_alloc _ _).mono hb.size)).trans (hb3.mono (by simp; have := hb.size; omega)); have own5 := (((OWN.out.alloc (.cells #[.func (.func 52) #[] #[.pointer (some ⟨gk, 0, none⟩)], .func (.func fb) #[] #[.pointer (some ⟨gk, 0, none⟩)]] 69)).kept (grown_of_below hb3) (Classical.em _)).alloc (.cells #[.string (dS nn)] 9)); have NW := alloc_news w3 [.string (dS nn)] 9)) | (at_builtin; go_must (refine wpList_append_own_at _ rfl _ _ 33 rfl w2.heap.size 9 i0 _ 1 16 Tryz.underlying33 hi0 hi1 hi2 hi3 rfl (by decide) _ 1 _ rfl own5 ⟨w3.heap.size, 0, none⟩ 1 1 [.string (dS nn)] rfl rfl NW (by simp [Value.oneCell']) (by unfold maxLen; omega) (by omega) (by simp; have := hB3.size; omega) ?_; intro v6 w6 own6 grow6 nil6 at6)))
        have HO6 := hid own6
        have HG6 := hid grow6
        have HO5 := hid own5
        clear own6 grow6 nil6 at6 own5 NW
        go_roundw
        case rel =>
          refine ⟨1 + 1, by omega, by go_num, (hB3.alloc hB3.size _).grown HG6.out (by simp; have := hB3.size; omega) (fun r e => (HO5.out.lt r e).1), ?_⟩
          rw [HSN.out, sC_snoc]
          exact HO6.out
        case measure => simp [intOf]
      · have HFK := hid (fun (W : World) (hB : Below w2.heap.size w2 W) => number1_any gk R 0 oo (by omega) W (HT.out.below' hB) ((hB.cell (p := ⟨gk, 0, none⟩) hgl).trans HGC.out) ((hB.cell (p := ⟨R, 0, none⟩) (by show R < _; omega)).trans r0.out))
        have hsn : (fldL cl ki na ho te nn oo ss).take (2 + 1) = (fldL cl ki na ho te nn oo ss).take 2 ++ [dS oo] := rfl
        simp only [wrt, Nat.reduceMul, Nat.reduceAdd] at c0 c1
        have HSN := hid hsn
        clear hsn
        go_wp2_with (first | (go_at_call 52; go_must (refine (HFK.out _ (hb.trans ((below_alloc _ _).mono hb.size))).mono ?_; rintro e w3 ⟨rfl, hb3⟩; have hB3 : Below w2.heap.size w2 w3 := (hb.trans ((below_alloc _ _).mono hb.size)).trans (hb3.mono (by simp; have := hb.size; omega)); have own5 := (((OWN.out.alloc (.cells #[.func (.func 52) #[] #[.pointer (some ⟨gk, 0, none⟩)], .func (.func fb) #[] #[.pointer (some ⟨gk, 0, none⟩)]] 69)).kept (grown_of_below hb3) (Classical.em _)).alloc (.cells #[.string (dS oo)] 9)); have NW := alloc_news w3 [.string (dS oo)] 9)) | (at_builtin; go_must (refine wpList_append_own_at _ rfl _ _ 33 rfl w2.heap.size 9 i0 _ 1 16 Tryz.underlying33 hi0 hi1 hi2 hi3 rfl (by decide) _ 2 _ rfl own5 ⟨w3.heap.size, 0, none⟩ 1 1 [.string (dS oo)] rfl rfl NW (by simp [Value.oneCell']) (by unfold maxLen; omega) (by omega) (by simp; have := hB3.size; omega) ?_; intro v6 w6 own6 grow6 nil6 at6)))
        have HO6 := hid own6
        have HG6 := hid grow6
        have HO5 := hid own5
        clear own6 grow6 nil6 at6 own5 NW
        go_roundw
        case rel =>
          refine ⟨2 + 1, by omega, by go_num, (hB3.alloc hB3.size _).grown HG6.out (by simp; have := hB3.size; omega) (fun r e => (HO5.out.lt r e).1), ?_⟩
          rw [HSN.out, sC_snoc]
          exact HO6.out
        case measure => simp [intOf]
      · have HFK := hid (fun (W : World) (hB : Below w2.heap.size w2 W) => word1_any gk R 1 ki W ((hB.cell (p := ⟨gk, 0, none⟩) hgl).trans HGC.out) ((hB.cell (p := ⟨R, 1, none⟩) (by show R < _; omega)).trans r1.out))
        have hsn : (fldL cl ki na ho te nn oo ss).take (3 + 1) = (fldL cl ki na ho te nn oo ss).take 3 ++ [ki] := rfl
        simp only [wrt, Nat.reduceMul, Nat.reduceAdd] at c0 c1
        have HSN := hid hsn
        clear hsn
        go_wp2_with (first | (go_at_call 50; go_must (refine (HFK.out _ (hb.trans ((below_alloc _ _).mono hb.size))).mono ?_; rintro e w3 ⟨rfl, hb3⟩; have hB3 : Below w2.heap.size w2 w3 := (hb.trans ((below_alloc _ _).mono hb.size)).trans (hb3.mono (by simp; have := hb.size; omega)); have own5 := (((OWN.out.alloc (.cells #[.func (.func 50) #[] #[.pointer (some ⟨gk, 0, none⟩)], .func (.func fb) #[] #[.pointer (some ⟨gk, 0, none⟩)]] 69)).kept (grown_of_below hb3) (Classical.em _)).alloc (.cells #[.string (ki)] 9)); have NW := alloc_news w3 [.string (ki)] 9)) | (at_builtin; go_must (refine wpList_append_own_at _ rfl _ _ 33 rfl w2.heap.size 9 i0 _ 1 16 Tryz.underlying33 hi0 hi1 hi2 hi3 rfl (by decide) _ 3 _ rfl own5 ⟨w3.heap.size, 0, none⟩ 1 1 [.string (ki)] rfl rfl NW (by simp [Value.oneCell']) (by unfold maxLen; omega) (by omega) (by simp; have := hB3.size; omega) ?_; intro v6 w6 own6 grow6 nil6 at6)))
        have HO6 := hid own6
        have HG6 := hid grow6
        have HO5 := hid own5
        clear own6 grow6 nil6 at6 own5 NW
        go_roundw
        case rel =>
          refine ⟨3 + 1, by omega, by go_num, (hB3.alloc hB3.size _).grown HG6.out (by simp; have := hB3.size; omega) (fun r e => (HO5.out.lt r e).1), ?_⟩
          rw [HSN.out, sC_snoc]
          exact HO6.out
        case measure => simp [intOf]
      · have HFK := hid (fun (W : World) (hB : Below w2.heap.size w2 W) => word1_any gk R 2 na W ((hB.cell (p := ⟨gk, 0, none⟩) hgl).trans HGC.out) ((hB.cell (p := ⟨R, 2, none⟩) (by show R < _; omega)).trans r2.out))
        have hsn : (fldL cl ki na ho te nn oo ss).take (4 + 1) = (fldL cl ki na ho te nn oo ss).take 4 ++ [na] := rfl
        simp only [wrt, Nat.reduceMul, Nat.reduceAdd] at c0 c1
        have HSN := hid hsn
        clear hsn
        go_wp2_with (first | (go_at_call 50; go_must (refine (HFK.out _ (hb.trans ((below_alloc _ _).mono hb.size))).mono ?_; rintro e w3 ⟨rfl, hb3⟩; have hB3 : Below w2.heap.size w2 w3 := (hb.trans ((below_alloc _ _).mono hb.size)).trans (hb3.mono (by simp; have := hb.size; omega)); have own5 := (((OWN.out.alloc (.cells #[.func (.func 50) #[] #[.pointer (some ⟨gk, 0, none⟩)], .func (.func fb) #[] #[.pointer (some ⟨gk, 0, none⟩)]] 69)).kept (grown_of_below hb3) (Classical.em _)).alloc (.cells #[.string (na)] 9)); have NW := alloc_news w3 [.string (na)] 9)) | (at_builtin; go_must (refine wpList_append_own_at _ rfl _ _ 33 rfl w2.heap.size 9 i0 _ 1 16 Tryz.underlying33 hi0 hi1 hi2 hi3 rfl (by decide) _ 4 _ rfl own5 ⟨w3.heap.size, 0, none⟩ 1 1 [.string (na)] rfl rfl NW (by simp [Value.oneCell']) (by unfold maxLen; omega) (by omega) (by simp; have := hB3.size; omega) ?_; intro v6 w6 own6 grow6 nil6 at6)))
        have HO6 := hid own6
        have HG6 := hid grow6
        have HO5 := hid own5
        clear own6 grow6 nil6 at6 own5 NW
        go_roundw
        case rel =>
          refine ⟨4 + 1, by omega, by go_num, (hB3.alloc hB3.size _).grown HG6.out (by simp; have := hB3.size; omega) (fun r e => (HO5.out.lt r e).1), ?_⟩
          rw [HSN.out, sC_snoc]
          exact HO6.out
        case measure => simp [intOf]
      · have HFK := hid (fun (W : World) (hB : Below w2.heap.size w2 W) => number1_any gk R 3 ss (by omega) W (HT.out.below' hB) ((hB.cell (p := ⟨gk, 0, none⟩) hgl).trans HGC.out) ((hB.cell (p := ⟨R, 3, none⟩) (by show R < _; omega)).trans r3.out))
        have hsn : (fldL cl ki na ho te nn oo ss).take (5 + 1) = (fldL cl ki na ho te nn oo ss).take 5 ++ [dS ss] := rfl
        simp only [wrt, Nat.reduceMul, Nat.reduceAdd] at c0 c1
        have HSN := hid hsn
        clear hsn
        go_wp2_with (first | (go_at_call 52; go_must (refine (HFK.out _ (hb.trans ((below_alloc _ _).mono hb.size))).mono ?_; rintro e w3 ⟨rfl, hb3⟩; have hB3 : Below w2.heap.size w2 w3 := (hb.trans ((below_alloc _ _).mono hb.size)).trans (hb3.mono (by simp; have := hb.size; omega)); have own5 := (((OWN.out.alloc (.cells #[.func (.func 52) #[] #[.pointer (some ⟨gk, 0, none⟩)], .func (.func fb) #[] #[.pointer (some ⟨gk, 0, none⟩)]] 69)).kept (grown_of_below hb3) (Classical.em _)).alloc (.cells #[.string (dS ss)] 9)); have NW := alloc_news w3 [.string (dS ss)] 9)) | (at_builtin; go_must (refine wpList_append_own_at _ rfl _ _ 33 rfl w2.heap.size 9 i0 _ 1 16 Tryz.underlying33 hi0 hi1 hi2 hi3 rfl (by decide) _ 5 _ rfl own5 ⟨w3.heap.size, 0, none⟩ 1 1 [.string (dS ss)] rfl rfl NW (by simp [Value.oneCell']) (by unfold maxLen; omega) (by omega) (by simp; have := hB3.size; omega) ?_; intro v6 w6 own6 grow6 nil6 at6)))
        have HO6 := hid own6
        have HG6 := hid grow6
        have HO5 := hid own5
        clear own6 grow6 nil6 at6 own5 NW
        go_roundw
        case rel =>
          refine ⟨5 + 1, by omega, by go_num, (hB3.alloc hB3.size _).grown HG6.out (by simp; have := hB3.size; omega) (fun r e => (HO5.out.lt r e).1), ?_⟩
          rw [HSN.out, sC_snoc]
          exact HO6.out
        case measure => simp [intOf]
      · have HFK := hid (fun (W : World) (hB : Below w2.heap.size w2 W) => hold1_any gk R 5 ho W ((hB.cell (p := ⟨gk, 0, none⟩) hgl).trans HGC.out) ((hB.cell (p := ⟨R, 5, none⟩) (by show R < _; omega)).trans r5.out))
        have hsn : (fldL cl ki na ho te nn oo ss).take (6 + 1) = (fldL cl ki na ho te nn oo ss).take 6 ++ [holdS ho] := rfl
        simp only [wrt, Nat.reduceMul, Nat.reduceAdd] at c0 c1
        have HSN := hid hsn
        clear hsn
        go_wp2_with (first | (go_at_call 56; go_must (refine (HFK.out _ (hb.trans ((below_alloc _ _).mono hb.size))).mono ?_; rintro e w3 ⟨rfl, hb3⟩; have hB3 : Below w2.heap.size w2 w3 := (hb.trans ((below_alloc _ _).mono hb.size)).trans (hb3.mono (by simp; have := hb.size; omega)); have own5 := (((OWN.out.alloc (.cells #[.func (.func 56) #[] #[.pointer (some ⟨gk, 0, none⟩)], .func (.func fb) #[] #[.pointer (some ⟨gk, 0, none⟩)]] 69)).kept (grown_of_below hb3) (Classical.em _)).alloc (.cells #[.string (holdS ho)] 9)); have NW := alloc_news w3 [.string (holdS ho)] 9)) | (at_builtin; go_must (refine wpList_append_own_at _ rfl _ _ 33 rfl w2.heap.size 9 i0 _ 1 16 Tryz.underlying33 hi0 hi1 hi2 hi3 rfl (by decide) _ 6 _ rfl own5 ⟨w3.heap.size, 0, none⟩ 1 1 [.string (holdS ho)] rfl rfl NW (by simp [Value.oneCell']) (by unfold maxLen; omega) (by omega) (by simp; have := hB3.size; omega) ?_; intro v6 w6 own6 grow6 nil6 at6)))
        have HO6 := hid own6
        have HG6 := hid grow6
        have HO5 := hid own5
        clear own6 grow6 nil6 at6 own5 NW
        go_roundw
        case rel =>
          refine ⟨6 + 1, by omega, by go_num, (hB3.alloc hB3.size _).grown HG6.out (by simp; have := hB3.size; omega) (fun r e => (HO5.out.lt r e).1), ?_⟩
          rw [HSN.out, sC_snoc]
          exact HO6.out
        case measure => simp [intOf]
      · have HFK := hid (fun (W : World) (hB : Below w2.heap.size w2 W) => quoted1_any gk R 4 te (by omega) W ((hB.cell (p := ⟨gk, 0, none⟩) hgl).trans HGC.out) ((hB.cell (p := ⟨R, 4, none⟩) (by show R < _; omega)).trans r4.out))
        have hsn : (fldL cl ki na ho te nn oo ss).take (7 + 1) = (fldL cl ki na ho te nn oo ss).take 7 ++ [quS te] := rfl
        simp only [wrt, Nat.reduceMul, Nat.reduceAdd] at c0 c1
        have HSN := hid hsn
        clear hsn
        go_wp2_with (first | (go_at_call 58; go_must (refine (HFK.out _ (hb.trans ((below_alloc _ _).mono hb.size))).mono ?_; rintro e w3 ⟨rfl, hb3⟩; have hB3 : Below w2.heap.size w2 w3 := (hb.trans ((below_alloc _ _).mono hb.size)).trans (hb3.mono (by simp; have := hb.size; omega)); have own5 := (((OWN.out.alloc (.cells #[.func (.func 58) #[] #[.pointer (some ⟨gk, 0, none⟩)], .func (.func fb) #[] #[.pointer (some ⟨gk, 0, none⟩)]] 69)).kept (grown_of_below hb3) (Classical.em _)).alloc (.cells #[.string (quS te)] 9)); have NW := alloc_news w3 [.string (quS te)] 9)) | (at_builtin; go_must (refine wpList_append_own_at _ rfl _ _ 33 rfl w2.heap.size 9 i0 _ 1 16 Tryz.underlying33 hi0 hi1 hi2 hi3 rfl (by decide) _ 7 _ rfl own5 ⟨w3.heap.size, 0, none⟩ 1 1 [.string (quS te)] rfl rfl NW (by simp [Value.oneCell']) (by unfold maxLen; omega) (by omega) (by simp; have := hB3.size; omega) ?_; intro v6 w6 own6 grow6 nil6 at6)))
        have HO6 := hid own6
        have HG6 := hid grow6
        have HO5 := hid own5
        clear own6 grow6 nil6 at6 own5 NW
        go_roundw
        case rel =>
          refine ⟨7 + 1, by omega, by go_num, (hB3.alloc hB3.size _).grown HG6.out (by simp; have := hB3.size; omega) (fun r e => (HO5.out.lt r e).1), ?_⟩
          rw [HSN.out, sC_snoc]
          exact HO6.out
        case measure => simp [intOf]
    · obtain rfl : k = 8 := by omega
      obtain ⟨g', cap', cur, e', l1, l2, l3, _⟩ := OWN.out.2.resolve_left (fun h => by omega)
      subst e'
      have hle : g' < wr.heap.size := (OWN.out.lt g' rfl).2
      have hjn := hid (join_any g' 0 cap' (fldL cl ki na ho te nn oo ss) wr (fun j x hx => by
        have hj : j < 8 := by
          rcases Nat.lt_or_ge j 8 with h | h
          · exact h
          · rw [List.getElem?_eq_none (by simpa [fldL] using h)] at hx; cases hx
        rw [Nat.zero_add, OWN.out.cellAt j (by omega)]
        have e8 : (fldL cl ki na ho te nn oo ss).take 8 = fldL cl ki na ho te nn oo ss := rfl
        rw [e8]
        simp [sCH, hx]) hle (by simp [fldL]) l3 (by
          have e := congrArg ByteArray.size HJ.out
          have e2 : (⟨(joinL (fldL cl ki na ho te nn oo ss)).toArray⟩ : ByteArray).size = (joinL (fldL cl ki na ho te nn oo ss)).length := by simp [ByteArray.size]
          omega))
      rw [HJ.out] at hjn
      have hBr : Below C w wr := by rw [← hC]; exact hB2.trans (hb.mono (by omega))
      have HER3 := hid (HER2.out.below hb)
      obtain ⟨g0l, t0, v0, g0⟩ := HER3.out 0 (by omega)
      have G0 := hid g0
      clear g0 l1 l2
      obtain ⟨fo, hfo⟩ : ∃ fo, formS cl ki na (holdS ho) te nn oo ss = fo := ⟨_, rfl⟩
      rw [hfo] at hjn hsz
      have HFO := hid hfo
      clear hfo HJ
      have e8 : (fldL cl ki na ho te nn oo ss).length = 8 := rfl
      rw [e8] at hjn
      by_cases hl : (fo.size : Int) ≤ 100
      · go_wp2_with (go_at_call 35; go_must (refine hjn.out.mono ?_; rintro e w3 ⟨rfl, hb3⟩))
        refine bodyPost_ret (v := .tuple #[.string fo, .nilIface]) (by simp [results, Tryz.results22, go_sem]) rfl ?_
        refine ⟨.inl ⟨by rw [HFO.out]; exact hl, by rw [HFO.out]⟩, ?_⟩
        exact hBr.trans (hb3.mono (by have := hBr.size; omega))
      · have HL := hid hl
        go_wp2_with (go_at_call 35; go_must (refine hjn.out.mono ?_; rintro e w3 ⟨rfl, hb3⟩; have q0 := (hb3.cell (p := ⟨0, 0, none⟩) g0l).trans G0.out))
        have HB3 := hid hb3
        clear hb3
        go_region_with fail
        all_goals
          go_wp2
          refine bodyPost_ret (v := .tuple #[.string ⟨#[]⟩, .iface t0 v0]) (by simp [results, Tryz.results22, go_sem]) rfl ?_
          refine ⟨.inr ⟨by rw [HFO.out]; exact HL.out, t0, v0, rfl⟩, ?_⟩
          exact (hBr.trans (HB3.out.mono (by have := hBr.size; omega))).drew
set_option maxRecDepth 100000 in
set_option maxHeartbeats 2000000 in
theorem formOf_any (c : Bc) (A : BcA) (w : World) (lo hi : Nat) (hhi : hi ≤ w.heap.size) (hf : BcFit c) (hc : BcIn w lo hi c A) (hT : Tab w) (hE : Ers w) :
    Calls Tryz.prog 22 #[bcV c A] w fun e w' => (((okB c = true ∧ ((formC c).size : Int) ≤ 100) ∧ e = .returned (.tuple #[.string (formC c), .nilIface])) ∨ (¬ (okB c = true ∧ ((formC c).size : Int) ≤ 100) ∧ ∃ t v, e = .returned (.tuple #[.string ⟨#[]⟩, .iface t v]))) ∧ Below w.heap.size w w' := by
  have HOK := hid (fun (W : World) (hB : Below w.heap.size w W) => mayBe_any c A W lo hi (Nat.le_trans hhi hB.size) hf (hc.below hB hhi) (hE.below hB))
  cases hk : okB c with
  | false =>
    have HN := hid (show ¬ (false = true ∧ ((formC c).size : Int) ≤ 100) from fun h => by cases h.1)
    have HM := hid (fun (W : World) (hB : Below w.heap.size w W) => (show Calls Tryz.prog 34 #[bcV c A] W fun e w' => (∃ t v, e = .returned (.iface t v)) ∧ Below W.heap.size W w' from (HOK.out W hB).mono fun e w' h => ⟨h.1.elim (fun x => by rw [hk] at x; cases x.1) (fun x => x.2), h.2⟩))
    clear hf hc hT hE HOK
    go_enter Tryz.func22, Tryz.ntmps22
    go_wp2_with (go_at_call 34; go_must (refine (HM.out _ (below_alloc _ _)).mono ?_; rintro e w1 ⟨⟨t, v, rfl⟩, hb1⟩))
    refine bodyPost_ret (v := .tuple #[.string ⟨#[]⟩, .iface t v]) (by simp [results, Tryz.results22, go_sem]) rfl ?_
    exact ⟨.inr ⟨HN.out, t, v, rfl⟩, (below_alloc _ _).trans (hb1.mono (by simp))⟩
  | true =>
    have o := okC_of hk
    have HM : ∀ (W : World), Below w.heap.size w W → Calls Tryz.prog 34 #[bcV c A] W fun e w' => e = .returned .nilIface ∧ Below W.heap.size W w' := fun W hB => (HOK.out W hB).mono (fun e w' h => ⟨h.1.elim (fun x => x.2) (fun x => by rw [hk] at x; cases x.1), h.2⟩)
    obtain ⟨b, off, e, hlo, hbh, hcx⟩ := hc.rs 0 (by rw [o.rn]; omega)
    simp only [Nat.zero_mul, Nat.add_zero] at hcx
    have en : c.num = (c.num.toNat : Int) := by have := o.n0; omega
    have eo : (c.rs 0).op = ((c.rs 0).op.toNat : Int) := by have := o.o0; omega
    have es : (c.rs 0).seen = ((c.rs 0).seen.toNat : Int) := by have := o.s0; omega
    have e1 : bcV c A = .agg #[.string c.client, .int .i64 (c.num.toNat : Int), .slice A.wa 0 A.wc, .slice (some ⟨b, off, none⟩) 1 A.rc] := by
      unfold bcV
      rw [o.wn, o.rn, e, ← en]
    rw [e1] at HM ⊢
    have ey : c.rs 0 = ⟨((c.rs 0).op.toNat : Int), (c.rs 0).kind, (c.rs 0).name, ((c.rs 0).seen.toNat : Int), (c.rs 0).text, (c.rs 0).hold⟩ := by
      rw [← eo, ← es]
    have hcy : WrCells w b off ⟨((c.rs 0).op.toNat : Int), (c.rs 0).kind, (c.rs 0).name, ((c.rs 0).seen.toNat : Int), (c.rs 0).text, (c.rs 0).hold⟩ := by
      rw [← ey]; exact hcx
    refine (formOf_one c.client c.num.toNat A.wa A.wc A.rc b off (c.rs 0).kind (c.rs 0).name (c.rs 0).text (c.rs 0).hold (c.rs 0).op.toNat (c.rs 0).seen.toNat w hT hE (by omega) hcy o.cl o.ki o.na o.ho o.te (by have := o.n1; omega) (by have := o.o1; omega) (by have := o.s1; omega) HM).mono ?_
    rintro e w' ⟨h | h, hb⟩
    · exact ⟨.inl ⟨⟨rfl, h.1⟩, h.2⟩, hb⟩
    · exact ⟨.inr ⟨fun x => h.1 x.2, h.2⟩, hb⟩
end Go.Proofs.YtcmimbohmninkaaGreatDoor
