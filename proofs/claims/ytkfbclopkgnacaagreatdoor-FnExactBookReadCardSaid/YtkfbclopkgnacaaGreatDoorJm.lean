import Derived.Test.YtkfbclopkgnacaaGreatDoorJk
namespace Go.Proofs.YtkfbclopkgnacaaGreatDoor
open Go.RowKit Go.Shelf
theorem any_listed {ops : Array Oper} {l : Array Bool} (hord : ((List.range ops.size).all fun i => match ops[i]? with | some o => o.after.all (fun e => !Region.binds .any e || decide (e.on < i)) | none => true) = true) (hs : l.size = ops.size) (hr : Region.ready .any ops l = []) : ∀ i, i < ops.size → l.getD i false = true := by
  have conv : ∀ i, i < ops.size → l.getD i true = l.getD i false := fun i hi => by simp [Array.getD, hs, hi]
  intro i
  induction i using Nat.strongRecOn with
  | _ i ih =>
    intro hi
    cases hg : l.getD i false with
    | true => rfl
    | false =>
      exfalso
      have hmem : i ∈ Region.ready .any ops l := by
        unfold Region.ready
        refine List.mem_filter.2 ⟨List.mem_range.2 hi, ?_⟩
        rw [conv i hi, hg]
        have ho := List.all_eq_true.1 hord i (List.mem_range.2 hi)
        rw [Array.getElem?_eq_getElem hi] at ho ⊢
        simp only [Bool.not_false, Bool.true_and, Option.map_some, Option.getD_some]
        refine Array.all_eq_true'.2 fun e he => ?_
        have h1 := Array.all_eq_true'.1 ho e he
        cases hb : Region.binds .any e with
        | false => rfl
        | true =>
          rw [hb] at h1
          have h2 : e.on < i := by simpa using h1
          rw [ih e.on h2 (by omega)]
          rfl
      rw [hr] at hmem
      cases hmem
/-- a drawn region, by an invariant that knows which operations are done -/
theorem regionF {P : Program} {id : Nat} {ops : Array Oper} {Q : Exit → Act → World → Prop} {a0 : Act} {W : World} (hm : P.follows .mixedOrders = true) (n : Nat)
    (mk : (Nat → Value) → Array Value) (t0 : Nat → Value) (I : (Nat → Bool) → (Nat → Value) → World → Prop)
    (hn : ops.size = n) (hord : ((List.range ops.size).all fun i => match ops[i]? with | some o => o.after.all (fun e => !Region.binds .any e || decide (e.on < i)) | none => true) = true)
    (h0 : a0 = ⟨mk t0, []⟩) (hI : ∀ f : Nat → Bool, (∀ i, f i = false) → I f t0 W.drew)
    (sg : ∀ i, i < n → ∀ (f : Nat → Bool) (t : Nat → Value) X K, I f t X → f i = false → (∀ j, Waits ops i j → f j = true) → (∀ t' Y, (∀ g : Nat → Bool, g i = true → (∀ j, ¬ j = i → g j = f j) → I g t' Y) → K ⟨mk t', []⟩ Y) → wpOp P ops Q i K ⟨mk t, []⟩ X)
    (hfin : ∀ f t X, I f t X → (∀ i, i < n → f i = true) → Q .normal ⟨mk t, []⟩ X) : (Code.region id ops true).wp P Q a0 W := by
  refine wp_region_inv hm (fun l a X => l.size = n ∧ ∃ t : Nat → Value, a = ⟨mk t, []⟩ ∧ I (fun i => l.getD i false) t X) ?_ ?_ ?_ ?_
  · exact ⟨by simp [hn], t0, h0, hI _ (fun i => by simp [Array.getD])⟩
  · rintro l a X ⟨hs, _⟩
    rw [hs, hn]
  · rintro l a X ⟨hs, t, rfl, hIt⟩ hr
    exact hfin _ t X hIt (fun i hi => any_listed hord (by rw [hs, hn]) hr i (by omega))
  · rintro l a X i ⟨hs, t, rfl, hIt⟩ hr
    obtain ⟨hu, o, ho, hall⟩ := mem_ready.1 hr
    have di : ∀ j, Waits ops i j → l.getD j false = true := by
      rintro j ⟨o', ho', e, he, hb, rfl⟩
      rw [ho] at ho'
      obtain rfl : o = o' := by simpa using ho'
      exact hall e he hb
    have hi7 : i < n := by
      rcases Nat.lt_or_ge i n with h | h
      · exact h
      · rw [Array.getElem?_eq_none (by omega)] at ho
        cases ho
    have hui : l.getD i false = false := by
      have : l.getD i true = false := hu
      simpa [Array.getD, hs, hi7] using this
    clear hr hu ho
    refine sg i hi7 _ t X _ hIt hui di (fun t' Y hv => ⟨by simp [hs], t', rfl, hv _ ?_ (fun j hj => ?_)⟩)
    · rw [getD_set (by omega), if_pos rfl]
    · rw [getD_set (by omega), if_neg hj]
theorem range_set5b {W : World} {B : Nat} {a0 a1 a2 a3 a4 : Value} (h : W.there B 0 5) : (((((W.setCell ⟨B, 0, none⟩ a0).setCell ⟨B, 1, none⟩ a1).setCell ⟨B, 2, none⟩ a2).setCell ⟨B, 3, none⟩ a3).setCell ⟨B, 4, none⟩ a4).rangeAt B 0 [a0, a1, a2, a3, a4] := by
  obtain ⟨u0, e0⟩ := Option.isSome_iff_exists.1 (h 0 (by omega)).1
  obtain ⟨u1, e1⟩ := Option.isSome_iff_exists.1 (h 1 (by omega)).1
  obtain ⟨u2, e2⟩ := Option.isSome_iff_exists.1 (h 2 (by omega)).1
  obtain ⟨u3, e3⟩ := Option.isSome_iff_exists.1 (h 3 (by omega)).1
  obtain ⟨u4, e4⟩ := Option.isSome_iff_exists.1 (h 4 (by omega)).1
  have r : W.rangeAt B 0 [u0, u1, u2, u3, u4] := fun j v hv => by
    rcases j with _ | _ | _ | _ | _ | j
    · cases hv; exact e0
    · cases hv; exact e1
    · cases hv; exact e2
    · cases hv; exact e3
    · cases hv; exact e4
    · simp at hv
  exact range_set5 (range_set5 (range_set5 (range_set5 (range_set5 r 0 (by omega) a0) 1 (by omega) a1) 2 (by omega) a2) 3 (by omega) a3) 4 (by omega) a4
set_option maxRecDepth 100000 in
set_option maxHeartbeats 4000000 in
theorem rlReg15 (p0 p1 p3 p6 p7 p8 p9 p10 p11 p12 p13 p14 p15 p16 p17 p18 p19 p20 p21 p22 p23 p24 p25 p26 p27 p28 p29 p30 p31 p32 p33 p34 p35 p36 p37 p38 p39 p40 p41 p42 p43 p44 p45 p46 p47 p48 p49 p50 p51 p52 : Value) (w W : World) (x : Bk) (q : ByteArray) (d : Bool) (a1 a2 a3 : Option Addr) (n1 c1 n2 c2 n3 c3 : Nat) (S : RlS w W x q d (.slice a1 n1 c1) (.slice a2 n2 c2) (.slice a3 n3 c3)) (Q : Exit → Act → World → Prop)
    (hQ : ∀ X, X.rangeAt w.heap.size 0 [.int .i64 x.now, .int .i64 x.floor, .slice a1 n1 c1, .slice a2 n2 c2, .slice a3 n3 c3] → BdE X (w.heap.size + 3) x (.slice a1 n1 c1) (.slice a2 n2 c2) (.slice a3 n3 c3) → Below w.heap.size w X → w.heap.size + 3 ≤ X.heap.size → Q .normal ⟨#[p0, p1, (.pointer (some ⟨w.heap.size, 0, none⟩)), (.bool (!d)), (.pointer (some ⟨w.heap.size + 1, 0, none⟩)), (.pointer (some ⟨w.heap.size + 2, 0, none⟩)), p6, p7, p8, p9, p10, p11, p12, p13, p14, p15, p16, p17, p18, p19, p20, p21, p22, p23, p24, p25, p26, p27, p28, p29, p30, p31, p32, p33, p34, p35, p36, p37, p38, p39, p40, p41, p42, p43, p44, p45, p46, p47, p48, (.agg #[.int .i64 x.now, .int .i64 x.floor, .slice a1 n1 c1, .slice a2 n2 c2, .slice a3 n3 c3]), (.pointer (some ⟨w.heap.size + 2, 1, none⟩)), (.bool d), (.bool (!d))], []⟩ X) :
    Code.wp Tryz.prog (Code.region 15 #[{ dst := some 49, op := Op.load 26 (Operand.tmp 4), type := 26, pos := "l9_book_form.go:110", after := #[], guard := none }, { dst := some 50, op := Op.fieldAddr 60 (Operand.tmp 5) 1, type := 0, pos := "l9_book_form.go:110", after := #[{ on := 4, ground := Ground.gcOnly Departure.lateStores }], guard := none }, { dst := some 51, op := Op.load 4 (Operand.tmp 50), type := 4, pos := "l9_book_form.go:110", after := #[{ on := 1, ground := Ground.data }, { on := 4, ground := Ground.gcOnly Departure.lateStores }], guard := none }, { dst := some 52, op := Op.unOp UnOp.not 4 (Operand.tmp 51), type := 4, pos := "l9_book_form.go:110", after := #[{ on := 2, ground := Ground.data }, { on := 4, ground := Ground.gcOnly Departure.lateStores }], guard := none }, { dst := none, op := Op.store 26 (Operand.tmp 2) (Operand.tmp 49), type := 0, pos := "l9_book_form.go:110", after := #[{ on := 0, ground := Ground.data }, { on := 0, ground := Ground.phase }, { on := 1, ground := Ground.textOnly Departure.lateStores }, { on := 2, ground := Ground.textOnly Departure.lateStores }, { on := 3, ground := Ground.textOnly Departure.lateStores }], guard := none }, { dst := some 3, op := Op.assign (Operand.tmp 52), type := 4, pos := "l9_book_form.go:110", after := #[{ on := 3, ground := Ground.data }, { on := 4, ground := Ground.chain }, { on := 0, ground := Ground.phase }, { on := 1, ground := Ground.phase }, { on := 2, ground := Ground.phase }, { on := 3, ground := Ground.phase }, { on := 4, ground := Ground.phase }], guard := none }] true) Q ⟨#[p0, p1, (.pointer (some ⟨w.heap.size, 0, none⟩)), p3, (.pointer (some ⟨w.heap.size + 1, 0, none⟩)), (.pointer (some ⟨w.heap.size + 2, 0, none⟩)), p6, p7, p8, p9, p10, p11, p12, p13, p14, p15, p16, p17, p18, p19, p20, p21, p22, p23, p24, p25, p26, p27, p28, p29, p30, p31, p32, p33, p34, p35, p36, p37, p38, p39, p40, p41, p42, p43, p44, p45, p46, p47, p48, p49, p50, p51, p52], []⟩ W := by
  have hz := S.sz
  have S0 : RlS w W.drew x q d (.slice a1 n1 c1) (.slice a2 n2 c2) (.slice a3 n3 c3) := S.below ⟨rfl, rfl, rfl, Nat.le_refl _, fun _ _ => rfl⟩
  have hF : Fr w.heap.size (w.heap.size + 1) W.drew (((((W.drew.setCell ⟨w.heap.size, 0, none⟩ (.int .i64 x.now)).setCell ⟨w.heap.size, 1, none⟩ (.int .i64 x.floor)).setCell ⟨w.heap.size, 2, none⟩ (.slice a1 n1 c1)).setCell ⟨w.heap.size, 3, none⟩ (.slice a2 n2 c2)).setCell ⟨w.heap.size, 4, none⟩ (.slice a3 n3 c3)) :=
    (((((Fr.refl _ _ W.drew).setCell (p := ⟨w.heap.size, 0, none⟩) (Nat.le_refl _) (Nat.lt_succ_self _) _).setCell (p := ⟨w.heap.size, 1, none⟩) (Nat.le_refl _) (Nat.lt_succ_self _) _).setCell (p := ⟨w.heap.size, 2, none⟩) (Nat.le_refl _) (Nat.lt_succ_self _) _).setCell (p := ⟨w.heap.size, 3, none⟩) (Nat.le_refl _) (Nat.lt_succ_self _) _).setCell (p := ⟨w.heap.size, 4, none⟩) (Nat.le_refl _) (Nat.lt_succ_self _) _
  have hzd : W.drew.heap.size = W.heap.size := rfl
  refine regionF (by kernel_rfl) 6 (fun t : Nat → Value => #[p0, p1, (.pointer (some ⟨w.heap.size, 0, none⟩)), t 5, (.pointer (some ⟨w.heap.size + 1, 0, none⟩)), (.pointer (some ⟨w.heap.size + 2, 0, none⟩)), p6, p7, p8, p9, p10, p11, p12, p13, p14, p15, p16, p17, p18, p19, p20, p21, p22, p23, p24, p25, p26, p27, p28, p29, p30, p31, p32, p33, p34, p35, p36, p37, p38, p39, p40, p41, p42, p43, p44, p45, p46, p47, p48, t 0, t 1, t 2, t 3]) (fun i => match i with | 0 => p49 | 1 => p50 | 2 => p51 | 3 => p52 | _ => p3)
    (fun (f : Nat → Bool) (t : Nat → Value) (X : World) => (f 0 = true → t 0 = .agg #[.int .i64 x.now, .int .i64 x.floor, .slice a1 n1 c1, .slice a2 n2 c2, .slice a3 n3 c3]) ∧ (f 1 = true → t 1 = (.pointer (some ⟨w.heap.size + 2, 1, none⟩))) ∧ (f 2 = true → t 2 = .bool d) ∧ (f 3 = true → t 3 = .bool (!d)) ∧ (f 5 = true → t 5 = .bool (!d)) ∧ (f 4 = false → X = W.drew) ∧ (f 4 = true → X = (((((W.drew.setCell ⟨w.heap.size, 0, none⟩ (.int .i64 x.now)).setCell ⟨w.heap.size, 1, none⟩ (.int .i64 x.floor)).setCell ⟨w.heap.size, 2, none⟩ (.slice a1 n1 c1)).setCell ⟨w.heap.size, 3, none⟩ (.slice a2 n2 c2)).setCell ⟨w.heap.size, 4, none⟩ (.slice a3 n3 c3)))) rfl (by kernel_rfl) rfl ?_ ?_ ?_
  · intro f hf
    exact ⟨fun h => (by rw [hf] at h; cases h), fun h => (by rw [hf] at h; cases h), fun h => (by rw [hf] at h; cases h), fun h => (by rw [hf] at h; cases h), fun h => (by rw [hf] at h; cases h), fun _ => rfl, fun h => (by rw [hf] at h; cases h)⟩
  · intro i hi f t X K hI hfi hwt hK
    rcases (show i = 0 ∨ i = 1 ∨ i = 2 ∨ i = 3 ∨ i = 4 ∨ i = 5 by omega) with rfl | rfl | rfl | rfl | rfl | rfl
    · have h := hK (updT t 0 (.agg #[.int .i64 x.now, .int .i64 x.floor, .slice a1 n1 c1, .slice a2 n2 c2, .slice a3 n3 c3])) X (fun g hg hk => ⟨fun _ => updT_same, fun e => (updT_ne (by omega)).trans (hI.2.1 (by rw [← hk 1 (by omega)]; exact e)), fun e => (updT_ne (by omega)).trans (hI.2.2.1 (by rw [← hk 2 (by omega)]; exact e)), fun e => (updT_ne (by omega)).trans (hI.2.2.2.1 (by rw [← hk 3 (by omega)]; exact e)), fun e => (updT_ne (by omega)).trans (hI.2.2.2.2.1 (by rw [← hk 5 (by omega)]; exact e)), fun e => hI.2.2.2.2.2.1 (by rw [← hk 4 (by omega)]; exact e), fun e => hI.2.2.2.2.2.2 (by rw [← hk 4 (by omega)]; exact e)⟩)
      have SX : X.rangeAt (w.heap.size + 1) 0 [.int .i64 x.now, .int .i64 x.floor, .slice a1 n1 c1, .slice a2 n2 c2, .slice a3 n3 c3] := by
        cases h4 : f 4 with
        | false => rw [hI.2.2.2.2.2.1 h4]; exact S0.bk
        | true => rw [hI.2.2.2.2.2.2 h4]; exact range_fr S0.bk hF (by omega) (by omega)
      refine wpOp_of rfl rfl (wp_load_mid 26 _ rfl (w.heap.size + 1) 0 rfl [.int .i64 x.now, .int .i64 x.floor, .slice a1 n1 c1, .slice a2 n2 c2, .slice a3 n3 c3] _ SX Tryz.underlying26 rfl sz26 ?_)
      simpa [updT, Act.put] using h
    · have h := hK (updT t 1 (.pointer (some ⟨w.heap.size + 2, 1, none⟩))) X (fun g hg hk => ⟨fun e => (updT_ne (by omega)).trans (hI.1 (by rw [← hk 0 (by omega)]; exact e)), fun _ => updT_same, fun e => (updT_ne (by omega)).trans (hI.2.2.1 (by rw [← hk 2 (by omega)]; exact e)), fun e => (updT_ne (by omega)).trans (hI.2.2.2.1 (by rw [← hk 3 (by omega)]; exact e)), fun e => (updT_ne (by omega)).trans (hI.2.2.2.2.1 (by rw [← hk 5 (by omega)]; exact e)), fun e => hI.2.2.2.2.2.1 (by rw [← hk 4 (by omega)]; exact e), fun e => hI.2.2.2.2.2.2 (by rw [← hk 4 (by omega)]; exact e)⟩)
      refine wpOp_of rfl rfl ?_
      clear hK hI
      go_simp
      simpa [updT] using h
    · have e1 : t 1 = (.pointer (some ⟨w.heap.size + 2, 1, none⟩)) := hI.2.1 (hwt 1 ⟨_, rfl, ⟨1, .data⟩, by simp, rfl, rfl⟩)
      have kd : X.cell? ⟨w.heap.size + 2, 1, none⟩ = some (.bool d) := by
        cases h4 : f 4 with
        | false => rw [hI.2.2.2.2.2.1 h4]; exact S0.rd.c1
        | true => rw [hI.2.2.2.2.2.2 h4]; exact (S0.rd.fr hF (by omega) (by omega)).c1
      have h := hK (updT t 2 (.bool d)) X (fun g hg hk => ⟨fun e => (updT_ne (by omega)).trans (hI.1 (by rw [← hk 0 (by omega)]; exact e)), fun e => (updT_ne (by omega)).trans (hI.2.1 (by rw [← hk 1 (by omega)]; exact e)), fun _ => updT_same, fun e => (updT_ne (by omega)).trans (hI.2.2.2.1 (by rw [← hk 3 (by omega)]; exact e)), fun e => (updT_ne (by omega)).trans (hI.2.2.2.2.1 (by rw [← hk 5 (by omega)]; exact e)), fun e => hI.2.2.2.2.2.1 (by rw [← hk 4 (by omega)]; exact e), fun e => hI.2.2.2.2.2.2 (by rw [← hk 4 (by omega)]; exact e)⟩)
      refine wpOp_of rfl rfl ?_
      clear hK hI
      go_simp
      simpa [updT, e1] using h
    · have e2 : t 2 = .bool d := hI.2.2.1 (hwt 2 ⟨_, rfl, ⟨2, .data⟩, by simp, rfl, rfl⟩)
      have h := hK (updT t 3 (.bool (!d))) X (fun g hg hk => ⟨fun e => (updT_ne (by omega)).trans (hI.1 (by rw [← hk 0 (by omega)]; exact e)), fun e => (updT_ne (by omega)).trans (hI.2.1 (by rw [← hk 1 (by omega)]; exact e)), fun e => (updT_ne (by omega)).trans (hI.2.2.1 (by rw [← hk 2 (by omega)]; exact e)), fun _ => updT_same, fun e => (updT_ne (by omega)).trans (hI.2.2.2.2.1 (by rw [← hk 5 (by omega)]; exact e)), fun e => hI.2.2.2.2.2.1 (by rw [← hk 4 (by omega)]; exact e), fun e => hI.2.2.2.2.2.2 (by rw [← hk 4 (by omega)]; exact e)⟩)
      refine wpOp_of rfl rfl ?_
      clear hK hI
      go_simp
      simpa [updT, e2] using h
    · have e0 : t 0 = .agg #[.int .i64 x.now, .int .i64 x.floor, .slice a1 n1 c1, .slice a2 n2 c2, .slice a3 n3 c3] := hI.1 (hwt 0 ⟨_, rfl, ⟨0, .data⟩, by simp, rfl, rfl⟩)
      obtain rfl := hI.2.2.2.2.2.1 hfi
      have h := hK t (((((W.drew.setCell ⟨w.heap.size, 0, none⟩ (.int .i64 x.now)).setCell ⟨w.heap.size, 1, none⟩ (.int .i64 x.floor)).setCell ⟨w.heap.size, 2, none⟩ (.slice a1 n1 c1)).setCell ⟨w.heap.size, 3, none⟩ (.slice a2 n2 c2)).setCell ⟨w.heap.size, 4, none⟩ (.slice a3 n3 c3)) (fun g hg hk => ⟨fun e => hI.1 (by rw [← hk 0 (by omega)]; exact e), fun e => hI.2.1 (by rw [← hk 1 (by omega)]; exact e), fun e => hI.2.2.1 (by rw [← hk 2 (by omega)]; exact e), fun e => hI.2.2.2.1 (by rw [← hk 3 (by omega)]; exact e), fun e => hI.2.2.2.2.1 (by rw [← hk 5 (by omega)]; exact e), fun e => (by rw [hg] at e; cases e), fun _ => rfl⟩)
      exact wpOp_of rfl rfl (wp_store_mid 26 _ _ rfl w.heap.size 0 #[.int .i64 x.now, .int .i64 x.floor, .slice a1 n1 c1, .slice a2 n2 c2, .slice a3 n3 c3] rfl e0 S0.rs sz26 (by simp [Value.oneCell']) h)
    · have e3 : t 3 = .bool (!d) := hI.2.2.2.1 (hwt 3 ⟨_, rfl, ⟨3, .data⟩, by simp, rfl, rfl⟩)
      have h := hK (updT t 5 (.bool (!d))) X (fun g hg hk => ⟨fun e => (updT_ne (by omega)).trans (hI.1 (by rw [← hk 0 (by omega)]; exact e)), fun e => (updT_ne (by omega)).trans (hI.2.1 (by rw [← hk 1 (by omega)]; exact e)), fun e => (updT_ne (by omega)).trans (hI.2.2.1 (by rw [← hk 2 (by omega)]; exact e)), fun e => (updT_ne (by omega)).trans (hI.2.2.2.1 (by rw [← hk 3 (by omega)]; exact e)), fun _ => updT_same, fun e => hI.2.2.2.2.2.1 (by rw [← hk 4 (by omega)]; exact e), fun e => hI.2.2.2.2.2.2 (by rw [← hk 4 (by omega)]; exact e)⟩)
      refine wpOp_of rfl rfl ?_
      clear hK hI
      go_simp
      simpa [updT, e3] using h
  · intro f t X hI hall
    have e0 := hI.1 (hall 0 (by omega))
    have e1 := hI.2.1 (hall 1 (by omega))
    have e2 := hI.2.2.1 (hall 2 (by omega))
    have e3 := hI.2.2.2.1 (hall 3 (by omega))
    have e5 := hI.2.2.2.2.1 (hall 5 (by omega))
    obtain rfl := hI.2.2.2.2.2.2 (hall 4 (by omega))
    rw [e0, e1, e2, e3, e5]
    exact hQ _ (range_set5b S0.rs) (S0.bd.frR hF (by omega)) (S0.be.trans (hF.below (Nat.le_refl _) (by omega))) (by have := hF.size; omega)
end Go.Proofs.YtkfbclopkgnacaaGreatDoor
namespace Go.Proofs.YtkfbclopkgnacaaGreatDoor
open Go.RowKit Go.Shelf
/-- a book whose lists can be walked -/
structure FitB (x : Bk) : Prop where
  os : ∀ i, i < x.on → ObFit (x.os i)
  hs : ∀ i, i < x.hn → ObFit (x.hs i).ob
  ts : ∀ i, i < x.tn → TiFit (x.ts i)
theorem FitB.start : FitB bk0 := ⟨fun _i hi => absurd hi (Nat.not_lt_zero _), fun _i hi => absurd hi (Nat.not_lt_zero _), fun _i hi => absurd hi (Nat.not_lt_zero _)⟩
theorem FitB.addO {x : Bk} (h : FitB x) {o : Ob} (ho : ObFit o) : FitB { x with on := x.on + 1, os := updF x.os x.on o } :=
  ⟨fun i hi => by
    show ObFit (updF x.os x.on o i)
    by_cases e : i = x.on
    · subst e; rw [updF_same]; exact ho
    · rw [updF_ne _ _ e]; exact h.os i (by have : i < x.on + 1 := hi; omega), h.hs, h.ts⟩
theorem FitB.addC {x : Bk} (h : FitB x) {o : Ch} (ho : ObFit o.ob) : FitB { x with hn := x.hn + 1, hs := updF x.hs x.hn o } :=
  ⟨h.os, fun i hi => by
    show ObFit (updF x.hs x.hn o i).ob
    by_cases e : i = x.hn
    · subst e; rw [updF_same]; exact ho
    · rw [updF_ne _ _ e]; exact h.hs i (by have : i < x.hn + 1 := hi; omega), h.ts⟩
theorem FitB.addT {x : Bk} (h : FitB x) {o : Ti} (ho : TiFit o) : FitB { x with tn := x.tn + 1, ts := updF x.ts x.tn o } :=
  ⟨h.os, h.hs, fun i hi => by
    show TiFit (updF x.ts x.tn o i)
    by_cases e : i = x.tn
    · subst e; rw [updF_same]; exact ho
    · rw [updF_ne _ _ e]; exact h.ts i (by have : i < x.tn + 1 := hi; omega)⟩
theorem BdE.slices {w : World} {base : Nat} {x : Bk} {v1 v2 v3 : Value} (h : BdE w base x v1 v2 v3) : (∃ a n c, v1 = .slice a n c) ∧ (∃ a n c, v2 = .slice a n c) ∧ (∃ a n c, v3 = .slice a n c) := by
  obtain ⟨A1, C1, h1, A2, C2, h2, hB⟩ := h
  obtain ⟨c, r, _⟩ := hB.o.row
  obtain ⟨c', r', _⟩ := hB.h.row
  obtain ⟨c'', r'', _⟩ := hB.t
  exact ⟨own_slice r, own_slice r', own_slice r''⟩
/-- what reading lines gives back -/
def RlR (s : ByteArray) (w : World) (e : Ending) (w' : World) : Prop :=
  ∃ (x : Bk) (d : Bool) (v1 v2 v3 : Value), e = .returned (.tuple #[.agg #[.int .i64 x.now, .int .i64 x.floor, v1, v2, v3], .bool (!d)]) ∧ BdE w' (w.heap.size + 3) x v1 v2 v3 ∧ Below w.heap.size w w' ∧ w.heap.size + 3 ≤ w'.heap.size ∧ FitB x ∧ (x.on + x.hn + x.tn ≤ s.size + 1) ∧ (∀ B, TolB s B → d = false ∧ BkE x B) ∧ (s = ⟨#[]⟩ → x = bk0)
theorem grown_refl (w : World) : w.grownBy w none := ⟨rfl, rfl, rfl, Nat.le_refl _, fun _ _ _ => rfl⟩
theorem RlS.nums {w W : World} {x : Bk} {q : ByteArray} {d : Bool} {v1 v2 v3 : Value} (S : RlS w W x q d v1 v2 v3) (a f : Int) : RlS w ((W.setCell ⟨w.heap.size + 1, 0, none⟩ (.int .i64 a)).setCell ⟨w.heap.size + 1, 1, none⟩ (.int .i64 f)) { x with now := a, floor := f } q d v1 v2 v3 := by
  have bd' : ∀ (y : Bk) W', BdE W' (w.heap.size + 3) x v1 v2 v3 → y.on = x.on → y.os = x.os → y.hn = x.hn → y.hs = x.hs → y.tn = x.tn → y.ts = x.ts → BdE W' (w.heap.size + 3) y v1 v2 v3 := by
    rintro ⟨n1, n2, on, os, hn, hs, tn, ts⟩ W' ⟨A1, C1, h1, A2, C2, h2, hB⟩ e1 e2 e3 e4 e5 e6
    simp only at e1 e2 e3 e4 e5 e6
    subst e1 e2 e3 e4 e5 e6
    exact ⟨A1, C1, h1, A2, C2, h2, hB.o, hB.h, hB.t, hB.d12, hB.d13, hB.d23⟩
  have S1 : RlS w (W.setCell ⟨w.heap.size + 1, 0, none⟩ (.int .i64 a)) { x with now := a } q d v1 v2 v3 := S.grown (grown_refl W) (fun g hg => by cases hg) 0 (by omega) _ rfl (bd' _ _ S.bd rfl rfl rfl rfl rfl rfl)
  have S1b : BdE (W.setCell ⟨w.heap.size + 1, 0, none⟩ (.int .i64 a)) (w.heap.size + 3) x v1 v2 v3 := S.bd.frR ((Fr.refl (w.heap.size + 1) (w.heap.size + 1 + 1) W).setCell (p := ⟨w.heap.size + 1, 0, none⟩) (Nat.le_refl _) (Nat.lt_succ_self _) _) (by omega)
  exact S1.grown (grown_refl _) (fun g hg => by cases hg) 1 (by omega) _ rfl (bd' _ _ S1b rfl rfl rfl rfl rfl rfl)
theorem RlS.miss {w W : World} {x : Bk} {q : ByteArray} {d : Bool} {v1 v2 v3 : Value} (S : RlS w W x q d v1 v2 v3) : RlS w (W.setCell ⟨w.heap.size + 2, 1, none⟩ (.bool true)) x q true v1 v2 v3 :=
  S.step ((Fr.refl (w.heap.size + 2) (w.heap.size + 2 + 1) W).setCell (p := ⟨w.heap.size + 2, 1, none⟩) (Nat.le_refl _) (Nat.lt_succ_self _) _) (S.rd.amiss true)
theorem rlS_start (s : ByteArray) (w : World) : RlS w (((w.alloc (.cells #[.int .i64 0, .int .i64 0, .slice none 0 0, .slice none 0 0, .slice none 0 0] 26)).alloc (.cells #[.int .i64 0, .int .i64 0, .slice none 0 0, .slice none 0 0, .slice none 0 0] 26)).alloc (.cells #[.string s, .bool false] 60)) bk0 s false (.slice none 0 0) (.slice none 0 0) (.slice none 0 0) := by
  have cc : ∀ (a b c : Obj) j, (((w.alloc a).alloc b).alloc c).cell? ⟨w.heap.size + 1, j, none⟩ = ((w.alloc a).alloc b).cell? ⟨w.heap.size + 1, j, none⟩ := fun a b c j => (below_alloc' _ c).cell (p := ⟨w.heap.size + 1, j, none⟩) (by simp)
  have cf : ∀ (a b c : Obj) j, (((w.alloc a).alloc b).alloc c).frozen? ⟨w.heap.size + 1, j, none⟩ = ((w.alloc a).alloc b).frozen? ⟨w.heap.size + 1, j, none⟩ := fun a b c j => (below_alloc' _ c).frozen (p := ⟨w.heap.size + 1, j, none⟩) (by simp)
  have t1 := there_new (w.alloc (.cells #[.int .i64 0, .int .i64 0, .slice none 0 0, .slice none 0 0, .slice none 0 0] 26)) #[.int .i64 0, .int .i64 0, .slice none 0 0, .slice none 0 0, .slice none 0 0] 26
  have t0 := there_new w #[.int .i64 0, .int .i64 0, .slice none 0 0, .slice none 0 0, .slice none 0 0] 26
  have e1 : (w.alloc (.cells #[.int .i64 0, .int .i64 0, .slice none 0 0, .slice none 0 0, .slice none 0 0] 26)).heap.size = w.heap.size + 1 := by simp
  rw [e1] at t1
  have hB : ∀ (a b c : Obj), Below w.heap.size w (((w.alloc a).alloc b).alloc c) := fun a b c => (((Below.refl _ _).alloc (Nat.le_refl _) _).alloc (by simp) _).alloc (by simp; omega) _
  refine ⟨⟨?_, ?_, ?_, ?_⟩, ?_, fun j hj => ?_, fun j hj => ?_, ⟨_, _, _, _, _, _, BdB.start _ _⟩, hB _ _ _, by simp⟩
  · show World.cell? _ ⟨w.heap.size + 1 + 1, 0, none⟩ = _; go_simp
  · show World.cell? _ ⟨w.heap.size + 1 + 1, 1, none⟩ = _; go_simp
  · show World.frozen? _ ⟨w.heap.size + 1 + 1, 0, none⟩ = _; go_simp
  · show World.frozen? _ ⟨w.heap.size + 1 + 1, 1, none⟩ = _; go_simp
  · intro j v hv
    rw [Nat.zero_add, cc]
    have e2 : ∀ k, ((w.alloc (.cells #[.int .i64 0, .int .i64 0, .slice none 0 0, .slice none 0 0, .slice none 0 0] 26)).alloc (.cells #[.int .i64 0, .int .i64 0, .slice none 0 0, .slice none 0 0, .slice none 0 0] 26)).cell? ⟨w.heap.size + 1, k, none⟩ = (#[.int .i64 0, .int .i64 0, .slice none 0 0, .slice none 0 0, .slice none 0 0] : Array Value)[k]? := fun k => by rw [← e1]; exact World.cell?_alloc_new _ _ _ _
    rw [e2, ← hv]
    simp [bk0]
  · exact ⟨by rw [cc]; exact (t1 j hj).1, by rw [cf]; exact (t1 j hj).2⟩
  · have hB2 : ∀ (b c : Obj), Below (w.heap.size + 1) (w.alloc (.cells #[.int .i64 0, .int .i64 0, .slice none 0 0, .slice none 0 0, .slice none 0 0] 26)) (((w.alloc (.cells #[.int .i64 0, .int .i64 0, .slice none 0 0, .slice none 0 0, .slice none 0 0] 26)).alloc b).alloc c) := fun b c => ((Below.refl _ _).alloc (by simp) _).alloc (by simp) _
    exact ⟨by rw [(hB2 _ _).cell (p := ⟨w.heap.size, 0 + j, none⟩) (by show w.heap.size < _; omega)]; exact (t0 j hj).1, by rw [(hB2 _ _).frozen (p := ⟨w.heap.size, 0 + j, none⟩) (by show w.heap.size < _; omega)]; exact (t0 j hj).2⟩
theorem toList_nonempty {s : ByteArray} (h : ¬ s = ⟨#[]⟩) : s.toList.isEmpty = false := by
  cases hq : s.toList.isEmpty with
  | false => rfl
  | true =>
    refine absurd (toList_inj0 ?_) h
    rw [List.isEmpty_iff.1 hq]
    simp
theorem eqB {t : ByteArray} {l : List UInt8} (h : t = ⟨l.toArray⟩) : (t.toList == l) = true := by
  subst h
  simp [ByteArray.toList_eq]
theorem neB {t : ByteArray} {l : List UInt8} (h : ¬ t = ⟨l.toArray⟩) : (t.toList == l) = false := by
  have := toListNe h
  simpa [ByteArray.toList_eq] using this
theorem word5 (t : ByteArray) : (t = ⟨#[98, 111, 111, 107]⟩ ∧ (t.toList == [98, 111, 111, 107]) = true) ∨ (t = ⟨#[111, 98, 106, 101, 99, 116]⟩ ∧ (t.toList == [98, 111, 111, 107]) = false ∧ (t.toList == [111, 98, 106, 101, 99, 116]) = true) ∨ (t = ⟨#[99, 104, 97, 110, 103, 101]⟩ ∧ (t.toList == [98, 111, 111, 107]) = false ∧ (t.toList == [111, 98, 106, 101, 99, 116]) = false ∧ (t.toList == [99, 104, 97, 110, 103, 101]) = true) ∨ (t = ⟨#[116, 105, 99, 107, 101, 116]⟩ ∧ (t.toList == [98, 111, 111, 107]) = false ∧ (t.toList == [111, 98, 106, 101, 99, 116]) = false ∧ (t.toList == [99, 104, 97, 110, 103, 101]) = false ∧ (t.toList == [116, 105, 99, 107, 101, 116]) = true) ∨ ((¬ t = ⟨#[98, 111, 111, 107]⟩ ∧ ¬ t = ⟨#[111, 98, 106, 101, 99, 116]⟩ ∧ ¬ t = ⟨#[99, 104, 97, 110, 103, 101]⟩ ∧ ¬ t = ⟨#[116, 105, 99, 107, 101, 116]⟩) ∧ (t.toList == [98, 111, 111, 107]) = false ∧ (t.toList == [111, 98, 106, 101, 99, 116]) = false ∧ (t.toList == [99, 104, 97, 110, 103, 101]) = false ∧ (t.toList == [116, 105, 99, 107, 101, 116]) = false) := by
  by_cases h0 : t = ⟨#[98, 111, 111, 107]⟩
  · exact Or.inl ⟨h0, eqB h0⟩
  · by_cases h1 : t = ⟨#[111, 98, 106, 101, 99, 116]⟩
    · exact Or.inr (Or.inl ⟨h1, neB h0, eqB h1⟩)
    · by_cases h2 : t = ⟨#[99, 104, 97, 110, 103, 101]⟩
      · exact Or.inr (Or.inr (Or.inl ⟨h2, neB h0, neB h1, eqB h2⟩))
      · by_cases h3 : t = ⟨#[116, 105, 99, 107, 101, 116]⟩
        · exact Or.inr (Or.inr (Or.inr (Or.inl ⟨h3, neB h0, neB h1, neB h2, eqB h3⟩)))
        · exact Or.inr (Or.inr (Or.inr (Or.inr ⟨⟨h0, h1, h2, h3⟩, neB h0, neB h1, neB h2, neB h3⟩)))
theorem take_lt (d : Bool) (q : ByteArray) : (d || !qpB 10 q) = true ∨ (qpR 10 q).size < q.size := by
  cases h : qpB 10 q with
  | false => left; cases d <;> rfl
  | true => right; have := qpR_lt h; omega
theorem count_any {a n : Nat} {d : Bool} {q2 : ByteArray} (h1 : a + q2.size ≤ n) (hq : (qpR 10 q2).size ≤ q2.size) (hl : (d || !qpB 10 q2) = true ∨ (qpR 10 q2).size < q2.size) : a + 1 + (qpR 10 q2).size ≤ n + (if (d || !qpB 10 q2) = true then 1 else 0) := by
  rcases hl with hl | hl
  · rw [if_pos hl]; omega
  · omega
theorem rl_done {s : ByteArray} {w X : World} {x : Bk} {q : ByteArray} {d : Bool} {v1 v2 v3 : Value} (hb : BdE X (w.heap.size + 3) x v1 v2 v3) (hB : Below w.heap.size w X) (hz : w.heap.size + 3 ≤ X.heap.size) (hf : FitB x) (hc : x.on + x.hn + x.tn + q.size ≤ s.size + 1) (hl : ∀ B, TolB s B → d = false ∧ BkE x B) (h0 : s = ⟨#[]⟩ → x = bk0) : RlR s w (.returned (.tuple #[.agg #[.int .i64 x.now, .int .i64 x.floor, v1, v2, v3], .bool (!d)])) X :=
  ⟨x, d, v1, v2, v3, rfl, hb, hB, hz, hf, by omega, hl, h0⟩
set_option maxRecDepth 100000 in
set_option maxHeartbeats 8000000 in
theorem readLines_any (s : ByteArray) (hs : (s.size : Int) ≤ 200000) (w : World) (hE : ErC w) : Calls Tryz.prog 15 #[.string s] w fun e w' => RlR s w e w' := by
  have hE2 : 2 < w.heap.size := by obtain ⟨_, _, _, _, _, _, h⟩ := hE; exact h
  have HE := hid hE
  clear hE
  have S0 := hid (rlS_start s w)
  go_enter Tryz.func15, Tryz.ntmps15
  go_wp2
  go_step3
  go_wp2
  go_step3
  go_wp2
  have MEM := hid (show LnI s bk0 s false from LnI.start s)
  have FT0 := hid FitB.start
  go_loopw [] (fun wr => ∃ (x : Bk) (q : ByteArray) (d : Bool) (v1 v2 v3 : Value), Hid (RlS w wr x q d v1 v2 v3) ∧ Hid (LnI s x q d) ∧ Hid (FitB x) ∧ Hid (s = ⟨#[]⟩ → x = bk0 ∧ q = ⟨#[]⟩) ∧ x.on + x.hn + x.tn + q.size ≤ s.size + (if d = true then 1 else 0)) (fun wr => mQ wr (w.heap.size + 2))
  case atStart => exact ⟨bk0, s, false, _, _, _, S0, MEM, FT0, hid (fun h => ⟨rfl, h⟩), by simp [bk0]⟩
  case round =>
    obtain ⟨x, q, d, v1, v2, v3, SS, HL, HFT, HS0, hct⟩ := hrel
    clear S0 MEM FT0
    have c0 : wr.cell? ⟨w.heap.size + 1 + 1, 0, none⟩ = some (.string q) := SS.out.rd.c0
    have c1 : wr.cell? ⟨w.heap.size + 1 + 1, 1, none⟩ = some (.bool d) := SS.out.rd.c1
    have hct1 : x.on + x.hn + x.tn + q.size ≤ s.size + 1 := by
      cases d
      · rw [if_neg (by decide)] at hct; omega
      · rw [if_pos rfl] at hct; exact hct
    by_cases hq0 : q = ⟨#[]⟩
    · have HLD : Hid (∀ B, TolB s B → d = false ∧ BkE x B) := hid fun B hB => LnI.done (hq0 ▸ HL.out) hB
      subst hq0
      clear hct
      go_wp2
      obtain ⟨⟨a1, n1, c1, rfl⟩, ⟨a2, n2, c2, rfl⟩, ⟨a3, n3, c3, rfl⟩⟩ := SS.out.bd.slices
      refine rlReg15 _ _ _ _ _ _ _ _ _ _ _ _ _ _ _ _ _ _ _ _ _ _ _ _ _ _ _ _ _ _ _ _ _ _ _ _ _ _ _ _ _ _ _ _ _ _ _ _ _ _ w _ x ⟨#[]⟩ d a1 a2 a3 n1 c1 n2 c2 n3 c3 SS.out _ ?_
      intro X hr hb hB hzX
      have HRR := hid hr
      have HBB := hid (rl_done (q := ⟨#[]⟩) (d := d) hb hB hzX HFT.out (by omega) HLD.out (fun h => (HS0.out h).1))
      clear hr hb hB
      go_wp2
      simp only [Exit.noGoto]
      refine bodyPost_ret (v := .tuple #[.agg #[.int .i64 x.now, .int .i64 x.floor, .slice a1 n1 c1, .slice a2 n2 c2, .slice a3 n3 c3], .bool (!d)]) (results_cell_tmp (p := 2) (u := 3) rfl _ _ w.heap.size [.int .i64 x.now, .int .i64 x.floor, .slice a1 n1 c1, .slice a2 n2 c2, .slice a3 n3 c3] _ rfl HRR.out Tryz.underlying26 rfl sz26) rfl ?_
      exact HBB.out
    · have hne := toList_nonempty hq0
      have HQ0 := hid hq0
      have HN0 : Hid (¬ s = ⟨#[]⟩) := hid fun h => hq0 (HS0.out h).2
      clear hq0
      cases d with
      | true =>
        have HLD : Hid (∀ B, TolB s B → true = false ∧ BkE x B) := hid fun B hB => absurd (HL.out B hB).1 (by decide)
        clear hct
        go_wp2
        obtain ⟨⟨a1, n1, c1, rfl⟩, ⟨a2, n2, c2, rfl⟩, ⟨a3, n3, c3, rfl⟩⟩ := SS.out.bd.slices
        refine rlReg15 _ _ _ _ _ _ _ _ _ _ _ _ _ _ _ _ _ _ _ _ _ _ _ _ _ _ _ _ _ _ _ _ _ _ _ _ _ _ _ _ _ _ _ _ _ _ _ _ _ _ w _ x q true a1 a2 a3 n1 c1 n2 c2 n3 c3 SS.out _ ?_
        intro X hr hb hB hzX
        have HRR := hid hr
        have HBB := hid (rl_done (q := q) (d := true) hb hB hzX HFT.out (by omega) HLD.out (fun h => (HS0.out h).1))
        clear hr hb hB
        go_wp2
        simp only [Exit.noGoto]
        refine bodyPost_ret (v := .tuple #[.agg #[.int .i64 x.now, .int .i64 x.floor, .slice a1 n1 c1, .slice a2 n2 c2, .slice a3 n3 c3], .bool (!true)]) (results_cell_tmp (p := 2) (u := 3) rfl _ _ w.heap.size [.int .i64 x.now, .int .i64 x.floor, .slice a1 n1 c1, .slice a2 n2 c2, .slice a3 n3 c3] _ rfl HRR.out Tryz.underlying26 rfl sz26) rfl ?_
        exact HBB.out
      | false =>
        rw [if_neg (by decide)] at hct
        have hzz := SS.out.sz
        have HW := hid (word_any (w.heap.size + 2) q false (by omega) wr SS.out.rd (by omega))
        have M0 := hid (mQ_no SS.out.rd)
        clear hct1
        go_wp2_with (first
          | (go_at_call 31; have _q := HW; go_must (refine HW.out.mono ?_; rintro e w1 ⟨t, q1, d1, rfl, hr1, hf1, hw1⟩; have S1 := hid (SS.out.step hf1 hr1); have HM := hid (HL.out.word HQ0.out hw1); have hq1 := hw1.1.2; have d1c : w1.cell? ⟨w.heap.size + 1 + 1, 1, none⟩ = some (.bool d1) := hr1.c1; have d1f : w1.frozen? ⟨w.heap.size + 1 + 1, 1, none⟩ = false := hr1.f1; have hz1 := S1.out.sz; clear hr1 hf1 hw1 HW; rcases word5 t with ⟨hb, E1⟩ | ⟨hb, E1, E2⟩ | ⟨hb, E1, E2, E3⟩ | ⟨hb, E1, E2, E3, E4⟩ | ⟨hb, E1, E2, E3, E4⟩ <;> (have HT := hid hb; clear hb)))
          | (go_at_call 32; have _q := S1; go_must (refine (numR_any (w.heap.size + 2) q1 d1 (by omega) _ S1.out.rd (by omega) (S1.out.er HE.out) (by omega)).mono ?_; rintro e w2 ⟨a, q2, d2, rfl, hr2, hf2, hn2⟩; have S2 := hid (S1.out.step hf2 hr2); have HN2 := hid hn2; have hq2 := hn2.1.2; have hz2 := S2.out.sz; clear hr2 hf2 hn2 S1))
          | (go_at_call 32; have _q := S2; go_must (refine (numR_any (w.heap.size + 2) q2 d2 (by omega) _ S2.out.rd (by omega) (S2.out.er HE.out) (by omega)).mono ?_; rintro e w3 ⟨f, q3, d3, rfl, hr3, hf3, hn3⟩; have S3 := hid (S2.out.step hf3 hr3); have HEd := hid (LnM.book (HT.out ▸ HM.out) HN2.out hn3); have hq3 := hn3.1.2; have hz3 := S3.out.sz; have k0 : w3.cell? ⟨w.heap.size + 1, 0, none⟩ = some (.int .i64 x.now) := S3.out.bk 0 _ rfl; have g0 : w3.frozen? ⟨w.heap.size + 1, 0, none⟩ = false := (S3.out.bt 0 (by omega)).2; have k1 : w3.cell? ⟨w.heap.size + 1, 1, none⟩ = some (.int .i64 x.floor) := S3.out.bk 1 _ rfl; have g1 : w3.frozen? ⟨w.heap.size + 1, 1, none⟩ = false := (S3.out.bt 1 (by omega)).2; clear hr3 hf3 hn3 S2))
          | (go_at_call 36; have _q := S3; go_must (refine (take_any (w.heap.size + 2) 10 q3 d3 (by omega) _ (S3.out.nums a f).rd).mono ?_; rintro e w4 ⟨rfl, hr4, hf4⟩; have S4 := hid ((S3.out.nums a f).step hf4 hr4); clear hr4 hf4)))
        · have hqr := qpR_size 10 q3
          have h2 := take_lt d3 q3
          go_roundw
          case rel => exact ⟨_, _, _, _, _, _, S4, hid HEd.out.line, hid ⟨HFT.out.os, HFT.out.hs, HFT.out.ts⟩, hid (fun h => absurd h HN0.out), by have h4 := count_any (a := x.on + x.hn + x.tn) (n := s.size) (d := d3) (by omega) hqr h2; simp only [] at h4 ⊢; omega⟩
          case measure =>
            rw [M0.out]
            have h1 := mQ_le S4.out.rd
            rcases h2 with h2 | h2
            · have S5 := S4.out.rd
              rw [h2] at S5
              rw [mQ_yes S5]
              omega
            · omega
        · refine rlReg9 _ _ _ _ _ _ _ _ _ _ _ _ _ _ _ _ _ _ _ _ _ _ _ _ _ _ _ _ _ _ _ _ _ _ _ _ _ _ _ _ _ _ _ _ _ _ _ _ _ _ _ w _ x q1 d1 v1 v2 v3 S1.out HE.out (by omega) (by omega) (by omega) _ ?_
          intro u1 u2 u3 o q2 d2 X hS hO
          rw [show w.heap.size + 2 = w.heap.size + 1 + 1 from rfl]
          have S3 := hid hS
          have HEd := hid (LnM.obj (HT.out ▸ HM.out) hO)
          have hq2 : q2.size ≤ q1.size := hO.1.2.1
          have HFT2 := hid (HFT.out.addO hO.1.1)
          have HTk := hid (take_any (w.heap.size + 2) 10 q2 d2 (by omega) X hS.rd)
          clear hS hO
          go_wp2_with (go_at_call 36; go_must (refine HTk.out.mono ?_; rintro e w4 ⟨rfl, hr4, hf4⟩; have S4 := hid (S3.out.step hf4 hr4); clear hr4 hf4))
          have hqr := qpR_size 10 q2
          go_roundw
          case rel => exact ⟨_, _, _, _, _, _, S4, hid HEd.out.line, HFT2, hid (fun h => absurd h HN0.out), by have h2 := take_lt d2 q2; have h3 : x.on + x.hn + x.tn + q2.size ≤ s.size := (by omega); have h4 := count_any (d := d2) h3 hqr h2; simp only [] at h4 ⊢; omega⟩
          case measure =>
            rw [M0.out]
            have h1 := mQ_le S4.out.rd
            have h2 : (d2 || !qpB 10 q2) = true ∨ (qpR 10 q2).size < q2.size := take_lt d2 q2
            rcases h2 with h2 | h2
            · have S5 := S4.out.rd
              rw [h2] at S5
              rw [mQ_yes S5]
              omega
            · omega
        · refine rlReg11 _ _ _ _ _ _ _ _ _ _ _ _ _ _ _ _ _ _ _ _ _ _ _ _ _ _ _ _ _ _ _ _ _ _ _ _ _ _ _ _ _ _ _ _ _ _ _ _ _ _ _ w _ x q1 d1 v1 v2 v3 S1.out HE.out (by omega) (by omega) (by omega) _ ?_
          intro u1 u2 u3 o q2 d2 X hS hO
          rw [show w.heap.size + 2 = w.heap.size + 1 + 1 from rfl]
          have S3 := hid hS
          have HEd := hid (LnM.chg (HT.out ▸ HM.out) hO)
          have hq2 : q2.size ≤ q1.size := hO.1.2.1
          have HFT2 := hid (HFT.out.addC hO.1.1)
          have HTk := hid (take_any (w.heap.size + 2) 10 q2 d2 (by omega) X hS.rd)
          clear hS hO
          go_wp2_with (go_at_call 36; go_must (refine HTk.out.mono ?_; rintro e w4 ⟨rfl, hr4, hf4⟩; have S4 := hid (S3.out.step hf4 hr4); clear hr4 hf4))
          have hqr := qpR_size 10 q2
          go_roundw
          case rel => exact ⟨_, _, _, _, _, _, S4, hid HEd.out.line, HFT2, hid (fun h => absurd h HN0.out), by have h2 := take_lt d2 q2; have h3 : x.on + x.hn + x.tn + q2.size ≤ s.size := (by omega); have h4 := count_any (d := d2) h3 hqr h2; simp only [] at h4 ⊢; omega⟩
          case measure =>
            rw [M0.out]
            have h1 := mQ_le S4.out.rd
            have h2 : (d2 || !qpB 10 q2) = true ∨ (qpR 10 q2).size < q2.size := take_lt d2 q2
            rcases h2 with h2 | h2
            · have S5 := S4.out.rd
              rw [h2] at S5
              rw [mQ_yes S5]
              omega
            · omega
        · refine rlReg13 _ _ _ _ _ _ _ _ _ _ _ _ _ _ _ _ _ _ _ _ _ _ _ _ _ _ _ _ _ _ _ _ _ _ _ _ _ _ _ _ _ _ _ _ _ _ _ _ _ _ _ w _ x q1 d1 v1 v2 v3 S1.out HE.out (by omega) (by omega) (by omega) _ ?_
          intro u1 u2 u3 o q2 d2 X hS hO
          rw [show w.heap.size + 2 = w.heap.size + 1 + 1 from rfl]
          have S3 := hid hS
          have HEd := hid (LnM.tic (HT.out ▸ HM.out) hO)
          have hq2 : q2.size ≤ q1.size := hO.1.2
          have HFT2 := hid (HFT.out.addT hO.1.1)
          have HTk := hid (take_any (w.heap.size + 2) 10 q2 d2 (by omega) X hS.rd)
          clear hS hO
          go_wp2_with (go_at_call 36; go_must (refine HTk.out.mono ?_; rintro e w4 ⟨rfl, hr4, hf4⟩; have S4 := hid (S3.out.step hf4 hr4); clear hr4 hf4))
          have hqr := qpR_size 10 q2
          go_roundw
          case rel => exact ⟨_, _, _, _, _, _, S4, hid HEd.out.line, HFT2, hid (fun h => absurd h HN0.out), by have h2 := take_lt d2 q2; have h3 : x.on + x.hn + x.tn + q2.size ≤ s.size := (by omega); have h4 := count_any (d := d2) h3 hqr h2; simp only [] at h4 ⊢; omega⟩
          case measure =>
            rw [M0.out]
            have h1 := mQ_le S4.out.rd
            have h2 : (d2 || !qpB 10 q2) = true ∨ (qpR 10 q2).size < q2.size := take_lt d2 q2
            rcases h2 with h2 | h2
            · have S5 := S4.out.rd
              rw [h2] at S5
              rw [mQ_yes S5]
              omega
            · omega
        · have HLD : Hid (∀ B, TolB s B → true = false ∧ BkE x B) := hid fun B hB => absurd hB (HM.out.none HT.out.1 HT.out.2.1 HT.out.2.2.1 HT.out.2.2.2 B)
          have S5 := hid S1.out.miss
          clear S1
          obtain ⟨⟨a1, n1, c1, rfl⟩, ⟨a2, n2, c2, rfl⟩, ⟨a3, n3, c3, rfl⟩⟩ := S5.out.bd.slices
          refine rlReg15 _ _ _ _ _ _ _ _ _ _ _ _ _ _ _ _ _ _ _ _ _ _ _ _ _ _ _ _ _ _ _ _ _ _ _ _ _ _ _ _ _ _ _ _ _ _ _ _ _ _ w _ x q1 true a1 a2 a3 n1 c1 n2 c2 n3 c3 S5.out _ ?_
          intro X hr hb hB hzX
          have HRR := hid hr
          have HBB := hid (rl_done (q := q1) (d := true) hb hB hzX HFT.out (by omega) HLD.out (fun h => (HS0.out h).1))
          clear hr hb hB
          go_wp2
          simp only [Exit.noGoto]
          refine bodyPost_ret (v := .tuple #[.agg #[.int .i64 x.now, .int .i64 x.floor, .slice a1 n1 c1, .slice a2 n2 c2, .slice a3 n3 c3], .bool (!true)]) (results_cell_tmp (p := 2) (u := 3) rfl _ _ w.heap.size [.int .i64 x.now, .int .i64 x.floor, .slice a1 n1 c1, .slice a2 n2 c2, .slice a3 n3 c3] _ rfl HRR.out Tryz.underlying26 rfl sz26) rfl ?_
          exact HBB.out
end Go.Proofs.YtkfbclopkgnacaaGreatDoor
