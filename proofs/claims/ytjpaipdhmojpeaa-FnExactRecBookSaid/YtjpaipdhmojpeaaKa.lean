import Derived.Test.YtjpaipdhmojpeaaSb
import Derived.Test.YtjpaipdhmojpeaaWz
import Derived.Test.YtjpaipdhmojpeaaYsz
import Derived.OwnWalk
namespace Go.Proofs.Ytjpaipdhmojpeaa
open Go.RowKit
/-- a list of texts that is being built by appends -/
structure BdS (w : World) (base : Nat) (v : Value) (k : Nat) (x : Nat → ByteArray) : Prop where
  row : ∃ c, w.ownsRow base 9 1 v k (rowCells (k * 1) c) ∧ ∀ i, i < k → c i = .string (x i)
theorem BdS.grow {w w' : World} {base : Nat} {v : Value} {k : Nat} {x : Nat → ByteArray} (h : BdS w base v k x) (hf : Below w.heap.size w w') : BdS w' base v k x :=
  ⟨by obtain ⟨c, r, e⟩ := h.row; exact ⟨c, ownsRow_fr r (FrP.of_below (P := fun _ => False) hf) (fun _ _ h => h), e⟩⟩
theorem BdS.app {w' : World} {base : Nat} {v' : Value} {k : Nat} {x : Nat → ByteArray} {c : Nat → Value} (hat : ∀ i, i < k → c i = .string (x i)) (ho : w'.ownsRow base 9 1 v' (k + 1) (rowCells (k * 1) c ++ [.string (x k)])) : BdS w' base v' (k + 1) x := by
  refine ⟨⟨appF c (k * 1) [.string (x k)], ?_, fun i hi => ?_⟩⟩
  · rw [rowCells_append] at ho
    have e : k * 1 + ([.string (x k)] : List Value).length = (k + 1) * 1 := by show k * 1 + 1 = _; omega
    rw [e] at ho
    exact ho
  · by_cases e : i = k
    · subst e
      have := appF_zero c (i * 1) [.string (x i)]
      simpa using this
    · exact (if_pos (by omega)).trans (hat i (by omega))
theorem BdS.own {w : World} {base : Nat} {v : Value} {n : Nat} {x : Nat → ByteArray} (h : BdS w base v n x) : ∃ ad cap g, v = .slice ad n cap ∧ StrsOwn w g (g + 1) ad n x ∧ (n ≠ 0 → base ≤ g ∧ g < w.heap.size) := by
  obtain ⟨c, ho, hat⟩ := h.row
  by_cases hn : 0 < n
  · obtain ⟨g, cap, cur, rfl, h1, h2⟩ := ho.2.resolve_left (fun e => by omega)
    have hr := row_of_own ho
    refine ⟨_, cap, g, rfl, fun i hi => ⟨g, 0, rfl, Nat.le_refl _, Nat.lt_succ_self _, ?_, hr.free _⟩, fun _ => ho.lt g rfl⟩
    rw [Nat.zero_add]
    exact (hr.cell i (by omega)).trans (congrArg some (hat i hi))
  · obtain rfl : n = 0 := by omega
    rcases ho.2 with ⟨rfl, _⟩ | ⟨g, cap, cur, rfl, h1, h2⟩
    · exact ⟨none, 0, 0, rfl, fun i hi => absurd hi (Nat.not_lt_zero _), fun h => absurd rfl h⟩
    · exact ⟨_, cap, 0, rfl, fun i hi => absurd hi (Nat.not_lt_zero _), fun h => absurd rfl h⟩
/-- what RecBook answers -/
def bkN (r : Rc) : Nat := if rcB r then r.dk.kn.toNat else 0
def bkX (r : Rc) (i : Nat) : ByteArray := (r.dk.s i).text
set_option maxRecDepth 100000 in
set_option maxHeartbeats 8000000 in
theorem bookImplH (r : Rc) (sa ha wa ya ba aa : Option Addr) (gd sc dc hc0 wc yc bc ac : Nat) (w : World) (lo hi : Nat) (hhi : hi ≤ w.heap.size) (hm : RcSmall r) (hf : RcFit r) (hn : RcNew r (RcA.mk sa (some ⟨gd, 0, none⟩) ha wa ya ba aa sc dc hc0 wc yc bc ac)) (hc : RcIn w lo hi r (RcA.mk sa (some ⟨gd, 0, none⟩) ha wa ya ba aa sc dc hc0 wc yc bc ac)) :
    Calls Try.prog 7 #[rcV r (RcA.mk sa (some ⟨gd, 0, none⟩) ha wa ya ba aa sc dc hc0 wc yc bc ac)] w fun e w' => ∃ ad cap g, e = .returned (.slice ad (bkN r) cap) ∧ StrsOwn w' g (g + 1) ad (bkN r) (bkX r) ∧ (bkN r ≠ 0 → w.heap.size ≤ g ∧ g < w'.heap.size) ∧ Below w.heap.size w w' := by
  have HM := hid hm
  have HF := hid hf
  have HN := hid hn
  have HC := hid hc
  have hV := hid (implValid_any r (RcA.mk sa (some ⟨gd, 0, none⟩) ha wa ya ba aa sc dc hc0 wc yc bc ac))
  clear hm hf hn hc
  have mark : Nat := 0
  obtain ⟨bv, hbv⟩ : ∃ b, rcB r = b := ⟨_, rfl⟩
  rw [hbv] at hV
  have HBV0 := hid hbv
  clear hbv
  cases bv
  · have OUT := hid (show bkN r = 0 by simp [bkN, HBV0.out])
    generalize bkN r = O at *
    go_enter Try.func7, Try.ntmps7
    go_wp2_with (first | ((with_reducible show wpList _ _ _ (⟨some 6, _, _, _, _, _⟩ :: _) _ _); clear mark; have Q0 := hid (Bx.new w (rcC r (RcA.mk sa (some ⟨gd, 0, none⟩) ha wa ya ba aa sc dc hc0 wc yc bc ac)) 39); have hB0 : Below w.heap.size w (w.alloc (.cells (rcC r (RcA.mk sa (some ⟨gd, 0, none⟩) ha wa ya ba aa sc dc hc0 wc yc bc ac)) 39)) := below_alloc _ _; (generalize w.alloc (.cells (rcC r (RcA.mk sa (some ⟨gd, 0, none⟩) ha wa ya ba aa sc dc hc0 wc yc bc ac)) 39) = W at *)) | ((with_reducible show wpList _ _ _ (⟨some 6, Op.load 39 _, _, _, _, _⟩ :: _) _ _); refine wpList_load_mid rfl 39 _ rfl w.heap.size 0 rfl (rcC r (RcA.mk sa (some ⟨gd, 0, none⟩) ha wa ya ba aa sc dc hc0 wc yc bc ac)).toList _ (Holds.range (cs := (rcC r (RcA.mk sa (some ⟨gd, 0, none⟩) ha wa ya ba aa sc dc hc0 wc yc bc ac)).toList) Q0.out.cell) Try.underlying39 rfl Try.sz39 ?_) | (go_at_call 26; refine (hV.out W lo hi (Nat.le_trans hhi hB0.size) HF.out HN.out (HC.out.below hB0 hhi)).mono ?_; rintro e w1 ⟨rfl, hb1⟩; have hB1 : Below w.heap.size w w1 := hB0.trans (hb1.mono hB0.size); have Q1 := hid (Q0.out.below hb1 Q0.out.lt); clear hb1 Q0 hB0))
    go_ret
    rw [OUT.out]
    exact ⟨none, 0, 0, rfl, fun i hi => absurd hi (Nat.not_lt_zero _), fun h => absurd rfl h, hB1⟩
  obtain ⟨hk0, hk1⟩ := dkB_known (rcB_disk HBV0.out)
  obtain ⟨k, hk⟩ : ∃ k : Nat, r.dk.kn = k := ⟨r.dk.kn.toNat, by omega⟩
  have hkn : k ≤ r.dk.n := by omega
  have HK := hid hk
  have HK0 := hid hk0
  have HK1 := hid hk1
  have HKN := hid (show r.dk.kn.toNat = k by omega)

  have HDC := hid HN.out.dc
  obtain ⟨i0, hi0, hi1, hi2, hi3⟩ := info_parts Try.info9
  have OUT := hid (show bkN r = k by simp [bkN, HBV0.out, hk])
  have hdn := HM.out.dk
  clear hk hk0 hk1
  generalize bkN r = O at *
  have mark2 : Nat := 0
  go_enter Try.func7, Try.ntmps7
  go_wp2_with (first | ((with_reducible show wpList _ _ _ (⟨some 6, _, _, _, _, _⟩ :: _) _ _); clear mark; have Q0 := hid (Bx.new w (rcC r (RcA.mk sa (some ⟨gd, 0, none⟩) ha wa ya ba aa sc dc hc0 wc yc bc ac)) 39); have hB0 : Below w.heap.size w (w.alloc (.cells (rcC r (RcA.mk sa (some ⟨gd, 0, none⟩) ha wa ya ba aa sc dc hc0 wc yc bc ac)) 39)) := below_alloc _ _; (generalize w.alloc (.cells (rcC r (RcA.mk sa (some ⟨gd, 0, none⟩) ha wa ya ba aa sc dc hc0 wc yc bc ac)) 39) = W at *)) | ((with_reducible show wpList _ _ _ (⟨some 6, Op.load 39 _, _, _, _, _⟩ :: _) _ _); refine wpList_load_mid rfl 39 _ rfl w.heap.size 0 rfl (rcC r (RcA.mk sa (some ⟨gd, 0, none⟩) ha wa ya ba aa sc dc hc0 wc yc bc ac)).toList _ (Holds.range (cs := (rcC r (RcA.mk sa (some ⟨gd, 0, none⟩) ha wa ya ba aa sc dc hc0 wc yc bc ac)).toList) Q0.out.cell) Try.underlying39 rfl Try.sz39 ?_) | (go_at_call 26; refine (hV.out W lo hi (Nat.le_trans hhi hB0.size) HF.out HN.out (HC.out.below hB0 hhi)).mono ?_; rintro e w1 ⟨rfl, hb1⟩; have hB1 : Below w.heap.size w w1 := hB0.trans (hb1.mono hB0.size); have Q1 := hid (Q0.out.below hb1 Q0.out.lt); clear hb1 Q0 hB0) | ((with_reducible show wpList _ _ _ (⟨some 9, _, _, _, _, _⟩ :: _) _ _); clear mark2; obtain ⟨q0, q1, q2, q3, q4, q5, q6, q7, q8, q9, q10, q11, q12, q13, q14, q15, q16, q17⟩ := holds18 Q1.out.cell; have hz1 := Q1.out.lt; (try rw [HK.out] at q7)) | (at_make; go_must (refine wpList_make_own _ rfl _ _ 26 rfl w.heap.size 9 i0 (.string ByteArray.empty) 1 Try.underlying26 hi0 hi1 hi2 .i64 .i64 _ k rfl rfl rfl (by rw [hi3]; omega) (by unfold maxLen; omega) hB1.size ?_; intro w2 own2 grow2; have OWN := hid own2; have hb2 : Below w1.heap.size w1 w2 := (Below.refl _ _).grown grow2 (Nat.le_refl _) (by simp); have hB2 : Below w.heap.size w w2 := hB1.trans (hb2.mono hB1.size); have Q2 := hid (Q1.out.below hb2 hz1); clear q0 q1 q2 q3 q4 q5 q6 q7 q8 q9 q10 q11 q12 q13 q14 q15 q16 q17 Q1 hB1 own2 grow2 hb2; obtain ⟨q0, q1, q2, q3, q4, q5, q6, q7, q8, q9, q10, q11, q12, q13, q14, q15, q16, q17⟩ := holds18 Q2.out.cell; have hz2w := Q2.out.lt; have mark4 : Nat := 0)) | (go_at_call 27; go_loud (refine (known_any r.dk (RcA.mk sa (some ⟨gd, 0, none⟩) ha wa ya ba aa sc dc hc0 wc yc bc ac).da (RcA.mk sa (some ⟨gd, 0, none⟩) ha wa ya ba aa sc dc hc0 wc yc bc ac).dc w2 HK0.out HK1.out (Nat.le_of_eq HDC.out.symm) ⟨gd, Or.inl rfl⟩).mono ?_; rintro e w3 ⟨cap3, rfl, hb3⟩; rw [HKN.out]; have hB3 : Below w.heap.size w w3 := hB2.trans (hb3.mono hB2.size); have own3 := ownsRow_fr OWN.out (FrP.of_below (P := fun _ => False) hb3) (fun _ _ h => h); have BD : Hid (BdS w3 w.heap.size (.slice (some ⟨w1.heap.size, 0, none⟩) 0 k) 0 (bkX r)) := ⟨⟨fun _ => .int .i64 0, by simpa [rowCells] using own3, fun i hi => absurd hi (Nat.not_lt_zero _)⟩⟩; clear own3; clear q0 q1 q2 q3 q4 q5 q6 q7 q8 q9 q10 q11 q12 q13 q14 q15 q16 q17 Q2 OWN hB2 hb3)))
  have mark5 : Nat := 0
  go_loopw [3, 17] (fun v i wr => ∃ j : Nat, j ≤ k ∧ i = .int .i64 j ∧ Below w.heap.size w wr ∧ BdS wr w.heap.size v j (bkX r)) (fun _ i _ => k - (intOf i).toNat)
  case atStart => exact ⟨0, Nat.zero_le _, rfl, hB3, BD.out⟩
  case round =>
    obtain ⟨j, hj, rfl, b0, bd⟩ := hrel
    clear BD hB3
    by_cases hjk : j < k
    · obtain ⟨b, off, hda, hlo, hbh, hcx⟩ := (HC.out.below b0 hhi).dk j (by omega)
      obtain ⟨rfl, rfl⟩ : gd = b ∧ 0 = off := by simpa using hda
      clear hda
      obtain ⟨d0, d1⟩ := hcx
      have d2 : wr.cell? ⟨gd, 0 + j * 2 + 1, none⟩ = some (.string (bkX r j)) := d1
      clear d1
      simp only [Nat.zero_add] at d0 d2
      have hbw : gd < wr.heap.size := by have := b0.size; omega
      have BDH := hid bd
      have hsz := b0.size
      clear bd
      have BD5 := hid ((BDH.out.grow (below_alloc wr (.cells #[.int .i64 (r.dk.s j).bal, .string (bkX r j)] 53))).grow (below_alloc _ (.cells #[.string (bkX r j)] 9)))
      obtain ⟨c, own5, hat⟩ := BD5.out.row
      have HAT := hid hat
      have NW := alloc_news (wr.alloc (.cells #[.int .i64 (r.dk.s j).bal, .string (bkX r j)] 53)) [.string (bkX r j)] 9
      have OB := hid own5.lt
      simp only [World.size_alloc] at NW
      clear hat
      go_wp2_with (at_builtin; go_must (refine wpList_append_own_at _ rfl _ _ 26 rfl w.heap.size 9 i0 _ 1 16 Try.underlying26 hi0 hi1 hi2 hi3 rfl (by decide) _ j (rowCells (j * 1) c) rfl own5 ⟨wr.heap.size + 1, 0, none⟩ 1 1 [.string (bkX r j)] rfl rfl NW (by simp [Value.oneCell']) (by unfold maxLen; omega) (by omega) (by simp; omega) ?_; intro v6 w6 own6 grow6 nil6 at6; clear nil6 at6))
      have BD6 := hid (BdS.app HAT.out own6)
      have HB6 : Hid (Below w.heap.size w w6) := ((b0.alloc b0.size _).alloc (by simp; omega) _).grown grow6 (by simp; omega) (fun k hk => (OB.out k hk).1)
      clear own6 grow6 own5 NW BD5 BDH OB
      go_roundw
      case rel => exact ⟨j + 1, by omega, by go_num, HB6.out, BD6.out⟩
      case measure => simp [intOf]; omega
    · obtain rfl : j = k := by omega
      obtain ⟨ad, cap, g, rfl, so, sl⟩ := bd.own
      have SO := hid so
      have SL := hid sl
      clear so sl bd
      go_wp2
      go_ret
      rw [OUT.out]
      exact ⟨ad, cap, g, rfl, SO.out, SL.out, b0⟩
theorem bookImpl_any (r : Rc) (A : RcA) (w : World) (lo hi : Nat) (hhi : hi ≤ w.heap.size) (hm : RcSmall r) (hf : RcFit r) (hn : RcNew r A) (hc : RcIn w lo hi r A) :
    Calls Try.prog 7 #[rcV r A] w fun e w' => ∃ ad cap g, e = .returned (.slice ad (bkN r) cap) ∧ StrsOwn w' g (g + 1) ad (bkN r) (bkX r) ∧ (bkN r ≠ 0 → w.heap.size ≤ g ∧ g < w'.heap.size) ∧ Below w.heap.size w w' := by
  obtain ⟨sa, da, ha, wa, ya, ba, aa, sc, dc, hc0, wc, yc, bc, ac⟩ := A
  obtain ⟨gd, hda⟩ := hn.da
  have e : da = some ⟨gd, 0, none⟩ := hda
  subst e
  exact bookImplH r sa ha wa ya ba aa gd sc dc hc0 wc yc bc ac w lo hi hhi hm hf hn hc
end Go.Proofs.Ytjpaipdhmojpeaa
