import Derived.Test.YtkfbclopkgnacaaGreatDoorBm
import Derived.Test.YtkfbclopkgnacaaGreatDoorGj
import Derived.Test.YtkfbclopkgnacaaGreatDoorFl
import Derived.Deep.MidRow
import Derived.Test.YtkfbclopkgnacaaGreatDoorGe
namespace Go.Proofs.YtkfbclopkgnacaaGreatDoor
open Go.RowKit Go.Shelf
theorem sz38 : (Tryz.prog.info? 38).map (·.size) = some 7 := by kernel_rfl
theorem sz41 : (Tryz.prog.info? 41).map (·.size) = some 9 := by kernel_rfl
theorem sz45 : (Tryz.prog.info? 45).map (·.size) = some 5 := by kernel_rfl
theorem sz26 : (Tryz.prog.info? 26).map (·.size) = some 5 := by kernel_rfl
theorem results_cell_mid {P : Program} {fn : Func} {p : Tmp} {ty : TypeId} (h : fn.results = #[.cell p ty]) (tmps : Array Value) (w : World) (g : Nat) (cs : List Value) (d : TypeDesc)
    (hp : tmps.getD p undef = .pointer (some ⟨g, 0, none⟩)) (hc : w.rangeAt g 0 cs)
    (hu : P.underlying ty = some d) (hd : d.isRow = true) (hi : (P.info? ty).map (·.size) = some cs.length) :
    (results fn tmps).run P w = .ok (.agg cs.toArray) w := by
  have hp' : tmps[p]?.getD undef = .pointer (some ⟨g, 0, none⟩) := by simpa using hp
  simp [results, h, hp', asAddr, run_loadVar_mid w g 0 ty cs d hc hu hd hi]
theorem results_cell_tmp {P : Program} {fn : Func} {p u : Tmp} {ty : TypeId} (h : fn.results = #[.cell p ty, .tmp u]) (tmps : Array Value) (w : World) (g : Nat) (cs : List Value) (d : TypeDesc)
    (hp : tmps.getD p undef = .pointer (some ⟨g, 0, none⟩)) (hc : w.rangeAt g 0 cs)
    (hu : P.underlying ty = some d) (hd : d.isRow = true) (hi : (P.info? ty).map (·.size) = some cs.length) :
    (results fn tmps).run P w = .ok (.tuple #[.agg cs.toArray, tmps.getD u undef]) w := by
  have hp' : tmps[p]?.getD undef = .pointer (some ⟨g, 0, none⟩) := by simpa using hp
  simp [results, h, hp', asAddr, run_loadVar_mid w g 0 ty cs d hc hu hd hi]
theorem wpList_store_new {P : Program} {ops : Array Oper} {rest : List Oper} {op : Oper} {a : Act} {w : World} {Q : Exit → Act → World → Prop} (hgd : op.guard = none) (ty : TypeId) (x y : Operand) (ho : op.op = .store ty x y)
    (b : Nat) (cs : List Value) (hx : a.eval x = .pointer (some ⟨b, 0, none⟩)) (hy : a.eval y = .agg cs.toArray)
    (ht : w.there b 0 cs.length) (hi : (P.info? ty).map (·.size) = some cs.length) (h1 : ∀ v ∈ cs, v.oneCell' = true)
    (h : ∀ W2 : World, W2.rangeAt b 0 cs → Fr b (b + 1) w W2 → W2.heap.size = w.heap.size → wpList P ops Q rest (a.put op.dst undef) W2) : wpList P ops Q (op :: rest) a w :=
  wpList_store_mid hgd ty x y ho b 0 cs.toArray hx hy (by simpa using ht) (by simpa using hi) (all_oneCell_toArray h1) (h _ (World.rangeAt_setCells_same _ _ _ _ ht) (fr_setCells _ _ _ _) (size_setCells _ _ _ _))
theorem there_new (w : World) (c : Array Value) (t : TypeId) : (w.alloc (.cells c t)).there w.heap.size 0 c.size := fun j hj => ⟨by rw [Nat.zero_add, World.cell?_alloc_new]; simp [hj], by simp⟩
theorem there_fr {w w' : World} {b o n R : Nat} (h : w.there b o n) (hf : Fr R (R + 1) w w') (hB : b < w.heap.size) (hR : R < b) : w'.there b o n := fun j hj =>
  ⟨by rw [hf.cell (p := ⟨b, o + j, none⟩) hB (by show b < R ∨ R + 1 ≤ b; omega)]; exact (h j hj).1, (hf.frozen (p := ⟨b, o + j, none⟩) hB (by show b < R ∨ R + 1 ≤ b; omega)).trans (h j hj).2⟩
theorem Fr.toBelow {w w' : World} {R : Nat} (h : Fr R (R + 1) w w') {B : Nat} (hB : B ≤ R) (hs : B ≤ w.heap.size) : Below B w w' := h.below hB hs
theorem RdAt.fr {w w' : World} {R b : Nat} {s : ByteArray} {d : Bool} (h : RdAt w R s d) (hf : Fr b (b + 1) w w') (hR : R < w.heap.size) (hb : R ≠ b) : RdAt w' R s d :=
  ⟨(hf.cell (p := ⟨R, 0, none⟩) hR (by show R < b ∨ b + 1 ≤ R; omega)).trans h.c0, (hf.cell (p := ⟨R, 1, none⟩) hR (by show R < b ∨ b + 1 ≤ R; omega)).trans h.c1, (hf.frozen (p := ⟨R, 0, none⟩) hR (by show R < b ∨ b + 1 ≤ R; omega)).trans h.f0, (hf.frozen (p := ⟨R, 1, none⟩) hR (by show R < b ∨ b + 1 ≤ R; omega)).trans h.f1⟩
/-- two objects that no book can tell apart -/
structure ObE (o p : Ob) : Prop where
  k : o.kind = p.kind
  n : o.name = p.name
  v : o.ver = p.ver
  b : o.born = p.born
  t : o.text = p.text
  e : o.ending = p.ending
  hn : o.hn = p.hn
  hs : ∀ i, i < o.hn → o.hs i = p.hs i
/-- the object that was read -/
def obOf (k n : ByteArray) (v b : Int) (e t : ByteArray) (xs : List ByteArray) : Ob := ⟨k, n, v, b, t, e.toList == [101, 110, 100, 105, 110, 103], xs.length, fun i => xs.getD i ⟨#[]⟩⟩
theorem strs_of_row {w : World} {base : Nat} {v : Value} {xs : List ByteArray} (h : w.ownsRow base 9 1 v xs.length (sC xs)) :
    ∃ ad cap b', v = .slice ad xs.length cap ∧ StrsOwn w b' (b' + 1) ad xs.length (fun i => xs.getD i ⟨#[]⟩) ∧ (xs.length ≠ 0 → base ≤ b' ∧ b' < w.heap.size) := by
  rcases h.2 with ⟨rfl, e0⟩ | ⟨g, cap, cur, rfl, h1, _⟩
  · have e0 : xs.length = 0 := by simpa using e0
    exact ⟨none, 0, 0, by rw [e0], fun i hi => by omega, fun h => absurd e0 h⟩
  · refine ⟨_, cap, g, rfl, fun i hi => ⟨g, 0, rfl, Nat.le_refl _, Nat.lt_succ_self _, ?_, h.frozenAt _⟩, fun _ => h.lt g rfl⟩
    rw [Nat.zero_add, h.cellAt i (by rw [Nat.mul_one]; exact hi)]
    simp [sC, hi]
theorem sp_next (zs : List ByteArray) (l : List UInt8) : ∃ c l2, spL zs ++ 10 :: l = c :: l2 ∧ (c = 32 ∨ c = 10) := by
  cases zs with
  | nil => exact ⟨10, l, rfl, Or.inr rfl⟩
  | cons y zs => exact ⟨32, _, by rw [spL_cons]; rfl, Or.inl rfl⟩
theorem sp_asc {s q : ByteArray} {x : ByteArray} {zs : List ByteArray} {l : List UInt8} (ha : Asc s.data.toList) (e : s.data.toList = spL (x :: zs) ++ 10 :: l) (eq : q.data.toList = spL zs ++ 10 :: l) : Asc q.data.toList := by
  rw [e, spL_cons] at ha
  rw [eq]
  have h2 : Asc (x.data.toList ++ (spL zs ++ 10 :: l)) := by
    rw [← List.append_assoc]
    exact ha.tail
  exact h2.right
theorem FdT.step {s t q : ByteArray} {b d : Bool} (h : FdT s b t q d) {x : ByteArray} {zs : List ByteArray} {l : List UInt8} (hb : b = false) (ha : Asc s.data.toList) (e : s.data.toList = spL (x :: zs) ++ 10 :: l) (hx : Wrd x.data.toList) : t = x ∧ d = false ∧ q.data.toList = spL zs ++ 10 :: l ∧ Asc q.data.toList := by
  obtain ⟨c, l2, k1, k2⟩ := sp_next zs l
  obtain ⟨m1, m2, m3⟩ := h.2 x.data.toList c l2 hb ha (by rw [e, spL_cons, ← k1]; simp) hx k2
  have m4 : q.data.toList = spL zs ++ 10 :: l := by rw [m3, k1]
  exact ⟨pa_ext m1, m2, m4, sp_asc ha e m4⟩
theorem NmT.step {s q : ByteArray} {v : Int} {b d : Bool} (h : NmT s b v q d) {m : Nat} {zs : List ByteArray} {l : List UInt8} (hb : b = false) (ha : Asc s.data.toList) (e : s.data.toList = spL (dS m :: zs) ++ 10 :: l) (hm : m ≤ 1000000) : v = m ∧ d = false ∧ q.data.toList = spL zs ++ 10 :: l ∧ Asc q.data.toList := by
  obtain ⟨c, l2, k1, k2⟩ := sp_next zs l
  obtain ⟨m1, m2, m3⟩ := h.2 m c l2 hb ha (by rw [e, spL_cons, ← k1]; simp) hm k2
  have m4 : q.data.toList = spL zs ++ 10 :: l := by rw [m3, k1]
  exact ⟨m1, m2, m4, sp_asc ha e m4⟩
theorem QuT.step {s t q : ByteArray} {b d : Bool} (h : QuT s b t q d) {te : ByteArray} {zs : List ByteArray} {l : List UInt8} (hb : b = false) (ha : Asc s.data.toList) (e : s.data.toList = spL (quS te :: zs) ++ 10 :: l) : t = te ∧ d = false ∧ q.data.toList = spL zs ++ 10 :: l ∧ Asc q.data.toList := by
  obtain ⟨m1, m2, m3⟩ := h.2 te (spL zs ++ 10 :: l) hb (by rw [e, spL_cons]; simp)
  exact ⟨m1, m2, m3, sp_asc ha e m3⟩
theorem ending_is (b : Bool) : ((wrdS b endW).toList == [101, 110, 100, 105, 110, 103]) = b := by cases b <;> simp [ByteArray.toList_eq, wrdS, endW]
theorem gone_is (b : Bool) : ((wrdS b goneW).toList == [103, 111, 110, 101]) = b := by cases b <;> simp [ByteArray.toList_eq, wrdS, goneW]
/-- what reading an object comes to -/
def ObR (s : ByteArray) (b : Bool) (o : Ob) (q : ByteArray) (d : Bool) : Prop :=
  (ObFit o ∧ q.size ≤ s.size ∧ o.hn ≤ s.size) ∧ ∀ o0 l, b = false → Asc s.data.toList → ObT o0 → s.data.toList = spL (obW o0) ++ 10 :: l → ObE o o0 ∧ d = false ∧ q.data.toList = 10 :: l
theorem wf_of {v : Int} (h : -9223372036854775808 ≤ v ∧ v ≤ 9223372036854775807) : (Lit.int .i64 v).wf = true := by
  have e1 : IntKind.i64.min = -9223372036854775808 := rfl
  have e2 : IntKind.i64.max = 9223372036854775807 := rfl
  simp only [Lit.wf, Bool.and_eq_true, decide_eq_true_eq, e1, e2]
  exact h
theorem obR_of {s q1 q2 q3 q4 q5 q6 q7 k n e t : ByteArray} {v bo : Int} {xs : List ByteArray} {b d1 d2 d3 d4 d5 d6 d7 : Bool} (hs : (s.size : Int) ≤ 1048576) (h1 : FdT s b k q1 d1) (h2 : FdT q1 d1 n q2 d2) (h3 : NmT q2 d2 v q3 d3) (h4 : NmT q3 d3 bo q4 d4) (h5 : FdT q4 d4 e q5 d5) (h6 : QuT q5 d5 t q6 d6) (h7 : FsT q6 d6 xs q7 d7) :
    ObR s b (obOf k n v bo e t xs) q7 d7 := by
  have z1 := h1.1; have z2 := h2.1; have z3 := h3.1; have z4 := h4.1; have z5 := h5.1; have z6 := h6.1; have z7 := h7.1
  have y1 := z1.2.1; have y2 := z2.2.1; have y3 := z3.2; have y4 := z4.2; have y5 := z5.2.1; have y6 := z6.2; have y7 := z7.1
  refine ⟨⟨⟨?_, ?_, ?_, ?_, fun i hi => ?_, wf_of z3.1⟩, ?_, ?_⟩, fun o0 l hb ha ho e0 => ?_⟩
  · show (k.size : Int) ≤ _; have := z1.1; omega
  · show (n.size : Int) ≤ _; have := z2.1; omega
  · show (t.size : Int) ≤ _; have := z6.1; omega
  · show (xs.length : Int) ≤ _; omega
  · have hi' : i < xs.length := hi
    show ((xs.getD i ⟨#[]⟩).size : Int) ≤ _
    have := z7.2 xs[i] (List.getElem_mem hi')
    rw [List.getD_eq_getElem?_getD, List.getElem?_eq_getElem hi']
    simp only [Option.getD_some]
    omega
  · omega
  · show xs.length ≤ _; omega
  · obtain ⟨a1, b1, c1, f1⟩ := h1.step hb ha e0 (wrd_name ho.k)
    obtain ⟨a2, b2, c2, f2⟩ := h2.step b1 f1 c1 (wrd_name ho.n)
    obtain ⟨a3, b3, c3, f3⟩ := h3.step b2 f2 c2 ho.lv
    obtain ⟨a4, b4, c4, f4⟩ := h4.step b3 f3 c3 ho.lb
    obtain ⟨a5, b5, c5, f5⟩ := h5.step b4 f4 c4 (wrd_end o0.ending)
    obtain ⟨a6, b6, c6, f6⟩ := h6.step b5 f5 c5
    obtain ⟨a7, b7, c7⟩ := h7.2 (hol o0) l b6 f6 c6 (fun y hy => by
      obtain ⟨i, hi, rfl⟩ := List.mem_map.1 hy
      exact wrd_name (ho.h i (List.mem_range.1 hi)))
    refine ⟨⟨a1, a2, by rw [ho.v]; exact a3, by rw [ho.b]; exact a4, a6, by show (e.toList == [101, 110, 100, 105, 110, 103]) = _; rw [a5]; exact ending_is _, by show xs.length = _; rw [a7]; simp [hol], fun i hi => ?_⟩, b7, c7⟩
    have hi' : i < o0.hn := by
      have : i < xs.length := hi
      rw [a7] at this
      simpa [hol] using this
    show xs.getD i ⟨#[]⟩ = _
    rw [a7]
    simp [hol, hi']
/-- what a function that reads an object gives back -/
def ObG (R : Nat) (s : ByteArray) (b : Bool) (w : World) (e : Ending) (w' : World) : Prop :=
  ∃ (o : Ob) (ad : Option Addr) (cap b' : Nat) (q : ByteArray) (d : Bool), e = .returned (.agg #[.string o.kind, .string o.name, .int .i64 o.ver, .int .i64 o.born, .string o.text, .bool o.ending, .slice ad o.hn cap]) ∧ StrsOwn w' b' (b' + 1) ad o.hn o.hs ∧ (o.hn ≠ 0 → w.heap.size ≤ b' ∧ b' < w'.heap.size) ∧ RdAt w' R q d ∧ Fr R (R + 1) w w' ∧ ObR s b o q d
theorem StrsOwn.frR {w w' : World} {b R : Nat} {ad : Option Addr} {n : Nat} {s : Nat → ByteArray} (h : StrsOwn w b (b + 1) ad n s) (hf : Fr R (R + 1) w w') (hb : n ≠ 0 → b < w.heap.size ∧ b ≠ R) : StrsOwn w' b (b + 1) ad n s := fun i hi => by
  obtain ⟨q, off, e1, e2, e3, e4, e5⟩ := h i hi
  obtain ⟨h1, h2⟩ := hb (by omega)
  have hq : q = b := by omega
  subst hq
  exact ⟨q, off, e1, e2, e3, (hf.cell (p := ⟨q, off + i, none⟩) h1 (by show q < R ∨ R + 1 ≤ q; omega)).trans e4, (hf.frozen (p := ⟨q, off + i, none⟩) h1 (by show q < R ∨ R + 1 ≤ q; omega)).trans e5⟩
/-- a frame that leaves out one block more, which is new -/
theorem Fr.past {w a b : World} {R B : Nat} (h : Fr R (R + 1) w a) (k : Fr B (B + 1) a b) (hB : w.heap.size ≤ B) : Fr R (R + 1) w b :=
  ⟨k.os.trans h.os, k.tape.trans h.tape, k.output.trans h.output, Nat.le_trans h.size k.size, fun i hi ho => (k.block i (Nat.lt_of_lt_of_le hi h.size) (Or.inl (by omega))).trans (h.block i hi ho)⟩
set_option maxRecDepth 100000 in
set_option maxHeartbeats 4000000 in
theorem object_any (R : Nat) (s : ByteArray) (b : Bool) (hs : (s.size : Int) ≤ 1048576) (w : World) (h : RdAt w R s b) (hR : R < w.heap.size) (hE : ErC w) (hR2 : 2 < R) :
    Calls Tryz.prog 33 #[.pointer (some ⟨R, 0, none⟩)] w fun e w' => ObG R s b w e w' := by
  have HB0 : Hid (∀ o, Below w.heap.size w (w.alloc o)) := hid fun o => below_alloc' w o
  have HT1 : Hid (∀ o, Calls Tryz.prog 59 #[.pointer (some ⟨R, 0, none⟩)] (w.alloc o) fun e w' => ∃ (t q : ByteArray) (d : Bool), e = .returned (.string t) ∧ RdAt w' R q d ∧ Fr R (R + 1) w w' ∧ (w.heap.size + 1 ≤ w'.heap.size ∧ ∀ n, (w.alloc o).there w.heap.size 0 n → w'.there w.heap.size 0 n) ∧ FdT s b t q d) := hid fun o => by
    refine (field_any R s b hs (w.alloc o) (h.below (below_alloc' w o) hR) (by simp; omega)).mono ?_
    rintro e w' ⟨t, q, d, rfl, h1, h2, h3⟩
    exact ⟨t, q, d, rfl, h1, (Fr.of_below (below_alloc' w o)).trans h2, ⟨by have := h2.size; simpa using this, fun n hn => there_fr hn h2 (by simp) hR⟩, h3⟩
  have HE := hid hE
  clear hE h
  go_enter Tryz.func33, Tryz.ntmps33
  go_wp2_with (first
    | (go_at_call 59; have _q := HT1; go_must (refine (HT1.out _).mono ?_; rintro e w1 ⟨t1, q1, d1, rfl, hr1, hf1, ⟨hz1, hth1⟩, ht1⟩; have HR1 := hid hr1; have HF1 := hid hf1; have HW1 := hid ht1; have HTH1 := hid (hth1 7 (there_new w _ _)); have HZ1 := hid hz1; clear hr1 hf1 ht1 HT1 hz1 hth1))
    | (go_at_call 59; have _q := HR1; go_must (refine (field_any R q1 d1 (by have := HW1.out.1.2.1; omega) _ HR1.out (Nat.lt_of_lt_of_le hR HF1.out.size)).mono ?_; rintro e w2 ⟨t2, q2, d2, rfl, hr2, hf2, ht2⟩; have HR2 := hid hr2; have HF2 := hid (HF1.out.trans hf2); have HW2 := hid ht2; have HTH2 := hid (there_fr HTH1.out hf2 HZ1.out hR); have HZ2 := hid (Nat.le_trans HZ1.out hf2.size); clear hr2 hf2 ht2 HR1))
    | (go_at_call 32; have _q := HR2; go_must (refine (numR_any R q2 d2 (by have := HW1.out.1.2.1; have := HW2.out.1.2.1; omega) _ HR2.out (Nat.lt_of_lt_of_le hR HF2.out.size) (HE.out.fr HF2.out hR2) hR2).mono ?_; rintro e w3 ⟨v3, q3, d3, rfl, hr3, hf3, ht3⟩; have HR3 := hid hr3; have HF3 := hid (HF2.out.trans hf3); have HW3 := hid ht3; have HTH3 := hid (there_fr HTH2.out hf3 HZ2.out hR); have HZ3 := hid (Nat.le_trans HZ2.out hf3.size); clear hr3 hf3 ht3 HR2))
    | (go_at_call 32; have _q := HR3; go_must (refine (numR_any R q3 d3 (by have := HW1.out.1.2.1; have := HW2.out.1.2.1; have := HW3.out.1.2; omega) _ HR3.out (Nat.lt_of_lt_of_le hR HF3.out.size) (HE.out.fr HF3.out hR2) hR2).mono ?_; rintro e w4 ⟨v4, q4, d4, rfl, hr4, hf4, ht4⟩; have HR4 := hid hr4; have HF4 := hid (HF3.out.trans hf4); have HW4 := hid ht4; have HTH4 := hid (there_fr HTH3.out hf4 HZ3.out hR); have HZ4 := hid (Nat.le_trans HZ3.out hf4.size); clear hr4 hf4 ht4 HR3))
    | (go_at_call 59; have _q := HR4; go_must (refine (field_any R q4 d4 (by have := HW1.out.1.2.1; have := HW2.out.1.2.1; have := HW3.out.1.2; have := HW4.out.1.2; omega) _ HR4.out (Nat.lt_of_lt_of_le hR HF4.out.size)).mono ?_; rintro e w5 ⟨t5, q5, d5, rfl, hr5, hf5, ht5⟩; have HR5 := hid hr5; have HF5 := hid (HF4.out.trans hf5); have HW5 := hid ht5; have HTH5 := hid (there_fr HTH4.out hf5 HZ4.out hR); have HZ5 := hid (Nat.le_trans HZ4.out hf5.size); clear hr5 hf5 ht5 HR4))
    | (go_at_call 60; have _q := HR5; go_must (refine (quoted_any R q5 d5 (by have := HW1.out.1.2.1; have := HW2.out.1.2.1; have := HW3.out.1.2; have := HW4.out.1.2; have := HW5.out.1.2.1; omega) _ HR5.out (Nat.lt_of_lt_of_le hR HF5.out.size) (HE.out.fr HF5.out hR2) hR2).mono ?_; rintro e w6 ⟨t6, q6, d6, rfl, hr6, hf6, ht6⟩; have HR6 := hid hr6; have HF6 := hid (HF5.out.trans hf6); have HW6 := hid ht6; have HTH6 := hid (there_fr HTH5.out hf6 HZ5.out hR); have HZ6 := hid (Nat.le_trans HZ5.out hf6.size); clear hr6 hf6 ht6 HR5))
    | (go_at_call 61; have _q := HR6; go_must (refine (fields_any R q6 d6 (by have := HW1.out.1.2.1; have := HW2.out.1.2.1; have := HW3.out.1.2; have := HW4.out.1.2; have := HW5.out.1.2.1; have := HW6.out.1.2; omega) _ HR6.out (Nat.lt_of_lt_of_le hR HF6.out.size)).mono ?_; rintro e w7 ⟨v7, xs, q7, d7, rfl, ho7, hr7, hf7, ht7⟩; obtain ⟨ad, cap, b7, rfl, hs7, hl7⟩ := strs_of_row ho7; have HR7 := hid hr7; have HF7 := hid (HF6.out.trans hf7); have HW7 := hid ht7; have HS7 := hid hs7; have HL7 := hid hl7; have HTH7 := hid (there_fr HTH6.out hf7 HZ6.out hR); have HZ7 := hid (Nat.le_trans HZ6.out hf7.size); clear hr7 hf7 ht7 ho7 hs7 hl7 HR6))
    | ((with_reducible show wpList _ _ _ (⟨none, Op.store 38 (Operand.tmp 2) _, _, _, _, _⟩ :: _) _ _); go_must (refine wpList_store_new rfl 38 _ _ rfl w.heap.size [.string t1, .string t2, .int .i64 v3, .int .i64 v4, .string t6, .bool (t5.toList == [101, 110, 100, 105, 110, 103]), .slice ad xs.length cap] (by simp [go_sem]) rfl HTH7.out sz38 (by simp [Value.oneCell']) ?_; intro W8 hr8 hf8 hz8; have HR8 := hid hr8; have HF8 := hid hf8; have HZ8 := hid hz8; clear hr8 hf8 hz8)))
  have hz1 := HZ1.out
  have hz6 := HZ6.out
  have hz7 := HZ7.out
  have hS : StrsOwn W8 b7 (b7 + 1) ad xs.length (fun i => xs.getD i ⟨#[]⟩) := HS7.out.frR HF8.out (fun h0 => ⟨(HL7.out h0).2, by have := (HL7.out h0).1; omega⟩)
  refine bodyPost_ret (v := .agg #[.string t1, .string t2, .int .i64 v3, .int .i64 v4, .string t6, .bool (t5.toList == [101, 110, 100, 105, 110, 103]), .slice ad xs.length cap]) (results_cell_mid (p := 2) rfl _ _ w.heap.size [.string t1, .string t2, .int .i64 v3, .int .i64 v4, .string t6, .bool (t5.toList == [101, 110, 100, 105, 110, 103]), .slice ad xs.length cap] _ rfl HR8.out Tryz.underlying38 rfl sz38) rfl ?_
  exact ⟨obOf t1 t2 v3 v4 t5 t6 xs, ad, cap, b7, q7, d7, rfl, hS, fun h0 => ⟨by have := (HL7.out h0).1; omega, by rw [HZ8.out]; exact (HL7.out h0).2⟩, HR7.out.fr HF8.out (by omega) (by omega), HF7.out.past HF8.out (Nat.le_refl _), obR_of hs HW1.out HW2.out HW3.out HW4.out HW5.out HW6.out HW7.out⟩
end Go.Proofs.YtkfbclopkgnacaaGreatDoor
namespace Go.Proofs.YtkfbclopkgnacaaGreatDoor
open Go.RowKit Go.Shelf
theorem there_lo {w w' : World} {b o n B : Nat} (h : w.there b o n) (hf : Fr B (B + 1) w w') (hb : b < w.heap.size) (hB : b < B) : w'.there b o n := fun j hj =>
  ⟨by rw [hf.cell (p := ⟨b, o + j, none⟩) hb (by show b < B ∨ B + 1 ≤ b; omega)]; exact (h j hj).1, (hf.frozen (p := ⟨b, o + j, none⟩) hb (by show b < B ∨ B + 1 ≤ b; omega)).trans (h j hj).2⟩
/-- what reading a change comes to -/
def ChR (s : ByteArray) (b : Bool) (c : Ch) (q : ByteArray) (d : Bool) : Prop :=
  (ObFit c.ob ∧ q.size ≤ s.size ∧ c.ob.hn ≤ s.size ∧ c.ver = c.ob.ver) ∧ ∀ c0 l, b = false → Asc s.data.toList → ObT c0.ob → s.data.toList = spL (chW c0) ++ 10 :: l → (c.gone = c0.gone ∧ ObE c.ob c0.ob) ∧ d = false ∧ q.data.toList = 10 :: l
def ChG (R : Nat) (s : ByteArray) (b : Bool) (w : World) (e : Ending) (w' : World) : Prop :=
  ∃ (c : Ch) (ad : Option Addr) (cap b' : Nat) (q : ByteArray) (d : Bool), e = .returned (.agg #[.int .i64 c.ver, .bool c.gone, .string c.ob.kind, .string c.ob.name, .int .i64 c.ob.ver, .int .i64 c.ob.born, .string c.ob.text, .bool c.ob.ending, .slice ad c.ob.hn cap]) ∧ StrsOwn w' b' (b' + 1) ad c.ob.hn c.ob.hs ∧ (c.ob.hn ≠ 0 → w.heap.size ≤ b' ∧ b' < w'.heap.size) ∧ RdAt w' R q d ∧ Fr R (R + 1) w w' ∧ ChR s b c q d
theorem chR_of {s q1 q2 g : ByteArray} {o : Ob} {b d1 d2 : Bool} (h1 : FdT s b g q1 d1) (h2 : ObR q1 d1 o q2 d2) : ChR s b ⟨o.ver, g.toList == [103, 111, 110, 101], o⟩ q2 d2 := by
  have z1 := h1.1.2.1
  refine ⟨⟨h2.1.1, Nat.le_trans h2.1.2.1 z1, Nat.le_trans h2.1.2.2 z1, rfl⟩, fun c0 l hb ha ho e0 => ?_⟩
  obtain ⟨a1, b1, c1, f1⟩ := h1.step hb ha e0 (wrd_gone c0.gone)
  obtain ⟨k1, k2, k3⟩ := h2.2 c0.ob l b1 f1 ho c1
  exact ⟨⟨by show (g.toList == [103, 111, 110, 101]) = _; rw [a1]; exact gone_is _, k1⟩, k2, k3⟩
set_option maxRecDepth 100000 in
set_option maxHeartbeats 4000000 in
theorem change_any (R : Nat) (s : ByteArray) (b : Bool) (hs : (s.size : Int) ≤ 1048576) (w : World) (h : RdAt w R s b) (hR : R < w.heap.size) (hE : ErC w) (hR2 : 2 < R) :
    Calls Tryz.prog 34 #[.pointer (some ⟨R, 0, none⟩)] w fun e w' => ChG R s b w e w' := by
  have HT1 : Hid (∀ o, Calls Tryz.prog 59 #[.pointer (some ⟨R, 0, none⟩)] (w.alloc o) fun e w' => ∃ (t q : ByteArray) (d : Bool), e = .returned (.string t) ∧ RdAt w' R q d ∧ Fr R (R + 1) w w' ∧ (w.heap.size + 1 ≤ w'.heap.size ∧ ∀ n, (w.alloc o).there w.heap.size 0 n → w'.there w.heap.size 0 n) ∧ FdT s b t q d) := hid fun o => by
    refine (field_any R s b hs (w.alloc o) (h.below (below_alloc' w o) hR) (by simp; omega)).mono ?_
    rintro e w' ⟨t, q, d, rfl, h1, h2, h3⟩
    exact ⟨t, q, d, rfl, h1, (Fr.of_below (below_alloc' w o)).trans h2, ⟨by have := h2.size; simpa using this, fun n hn => there_fr hn h2 (by simp) hR⟩, h3⟩
  have HE := hid hE
  clear hE h
  go_enter Tryz.func34, Tryz.ntmps34
  go_wp2_with (first
    | (go_at_call 59; have _q := HT1; go_must (refine (HT1.out _).mono ?_; rintro e w1 ⟨t1, q1, d1, rfl, hr1, hf1, ⟨hz1, hth1⟩, ht1⟩; have HR1 := hid hr1; have HF1 := hid hf1; have HW1 := hid ht1; have HTH1 := hid (hth1 9 (there_new w _ _)); have HZ1 := hid hz1; clear hr1 hf1 ht1 HT1 hz1 hth1))
    | (go_at_call 33; have _q := HR1; go_must (refine (object_any R q1 d1 (by have := HW1.out.1.2.1; omega) _ HR1.out (Nat.lt_of_lt_of_le hR HF1.out.size) (HE.out.fr HF1.out hR2) hR2).mono ?_; rintro e w2 ⟨o, ad, cap, b2, q2, d2, rfl, hs2, hl2, hr2, hf2, ho2⟩; have HR2 := hid hr2; have HF2 := hid (HF1.out.trans hf2); have HW2 := hid ho2; have HS2 := hid hs2; have HL2 := hid hl2; have HTH2 := hid (there_fr HTH1.out hf2 HZ1.out hR); have HZ2 := hid (Nat.le_trans HZ1.out hf2.size); have HZ12 := hid hf2.size; have HNW := hid (fun cs => there_new w2 cs 38); clear hr2 hf2 ho2 hs2 hl2 HR1))
    | ((with_reducible show wpList _ _ _ (⟨none, Op.store 38 (Operand.tmp 4) _, _, _, _, _⟩ :: _) _ _); go_must (refine wpList_store_new rfl 38 _ _ rfl w2.heap.size [.string o.kind, .string o.name, .int .i64 o.ver, .int .i64 o.born, .string o.text, .bool o.ending, .slice ad o.hn cap] (by simp [go_sem]) rfl (HNW.out _) sz38 (by simp [Value.oneCell']) ?_; intro W3 hr3 hf3 hz3; have HR3 := hid hr3; have HF3 := hid ((Fr.of_below (lo := w2.heap.size) (hi := w2.heap.size + 1) (below_alloc' w2 _)).trans hf3); have HZ3 := hid hz3; have HTH3 := hid (there_lo HTH2.out HF3.out HZ2.out HZ2.out); have c2 := (hr3 2 _ rfl); clear hr3 hf3 hz3))
    | ((with_reducible show wpList _ _ _ (⟨_, Op.load 38 (Operand.tmp 4), _, _, _, _⟩ :: _) _ _); go_must (refine wpList_load_mid rfl 38 _ rfl w2.heap.size 0 (by simp [go_sem]) [.string o.kind, .string o.name, .int .i64 o.ver, .int .i64 o.born, .string o.text, .bool o.ending, .slice ad o.hn cap] _ HR3.out Tryz.underlying38 rfl sz38 ?_))
    | ((with_reducible show wpList _ _ _ (⟨none, Op.store 41 (Operand.tmp 2) _, _, _, _, _⟩ :: _) _ _); go_must (refine wpList_store_new rfl 41 _ _ rfl w.heap.size [.int .i64 o.ver, .bool (t1.toList == [103, 111, 110, 101]), .string o.kind, .string o.name, .int .i64 o.ver, .int .i64 o.born, .string o.text, .bool o.ending, .slice ad o.hn cap] (by simp [go_sem]) rfl HTH3.out sz41 (by simp [Value.oneCell']) ?_; intro W4 hr4 hf4 hz4; have HR4 := hid hr4; have HF4 := hid hf4; have HZ4 := hid hz4; clear hr4 hf4 hz4)))
  have hz1 := HZ1.out
  have hz2 := HZ2.out
  have hz12 := HZ12.out
  have hz3 := HF3.out.size
  have hS : StrsOwn W4 b2 (b2 + 1) ad o.hn o.hs := (HS2.out.frR HF3.out (fun h0 => ⟨(HL2.out h0).2, by have := (HL2.out h0).2; omega⟩)).frR HF4.out (fun h0 => ⟨by have := (HL2.out h0).2; omega, by have := (HL2.out h0).1; omega⟩)
  refine bodyPost_ret (v := .agg #[.int .i64 o.ver, .bool (t1.toList == [103, 111, 110, 101]), .string o.kind, .string o.name, .int .i64 o.ver, .int .i64 o.born, .string o.text, .bool o.ending, .slice ad o.hn cap]) (results_cell_mid (p := 2) rfl _ _ w.heap.size [.int .i64 o.ver, .bool (t1.toList == [103, 111, 110, 101]), .string o.kind, .string o.name, .int .i64 o.ver, .int .i64 o.born, .string o.text, .bool o.ending, .slice ad o.hn cap] _ rfl HR4.out Tryz.underlying41 rfl sz41) rfl ?_
  exact ⟨⟨o.ver, t1.toList == [103, 111, 110, 101], o⟩, ad, cap, b2, q2, d2, rfl, hS, fun h0 => ⟨by have := (HL2.out h0).1; omega, by have := (HL2.out h0).2; have := HZ4.out; omega⟩, (HR2.out.fr HF3.out (by omega) (by omega)).fr HF4.out (by omega) (by omega), (HF2.out.past HF3.out (by omega)).past HF4.out (Nat.le_refl _), chR_of HW1.out HW2.out⟩
/-- two tickets that no book can tell apart are the same -/
def TiR (s : ByteArray) (b : Bool) (t : Ti) (q : ByteArray) (d : Bool) : Prop :=
  (TiFit t ∧ q.size ≤ s.size) ∧ ∀ t0 l, b = false → Asc s.data.toList → TiT t0 → s.data.toList = spL (tiW t0) ++ 10 :: l → t = t0 ∧ d = false ∧ q.data.toList = 10 :: l
theorem tiR_of {s q1 q2 q3 q4 q5 c p : ByteArray} {n k v : Int} {b d1 d2 d3 d4 d5 : Bool} (hs : (s.size : Int) ≤ 1048576) (h1 : FdT s b c q1 d1) (h2 : NmT q1 d1 n q2 d2) (h3 : NmT q2 d2 k q3 d3) (h4 : NmT q3 d3 v q4 d4) (h5 : QuT q4 d4 p q5 d5) : TiR s b ⟨c, n, p, k, v⟩ q5 d5 := by
  have z1 := h1.1; have z2 := h2.1; have z3 := h3.1; have z4 := h4.1; have z5 := h5.1
  have y1 := z1.2.1; have y2 := z2.2; have y3 := z3.2; have y4 := z4.2; have y5 := z5.2
  refine ⟨⟨⟨?_, ?_⟩, by omega⟩, fun t0 l hb ha ho e0 => ?_⟩
  · show (c.size : Int) ≤ _; have := z1.1; omega
  · show (p.size : Int) ≤ _; have := z5.1; omega
  · obtain ⟨a1, b1, c1, f1⟩ := h1.step hb ha e0 (wrd_name ho.c)
    obtain ⟨a2, b2, c2, f2⟩ := h2.step b1 f1 c1 ho.ln
    obtain ⟨a3, b3, c3, f3⟩ := h3.step b2 f2 c2 ho.ld
    obtain ⟨a4, b4, c4, f4⟩ := h4.step b3 f3 c3 ho.lv
    obtain ⟨a5, b5, c5, f5⟩ := h5.step b4 f4 c4
    rw [← ho.n] at a2
    rw [← ho.d] at a3
    rw [← ho.v] at a4
    exact ⟨by rw [a1, a2, a3, a4, a5], b5, c5⟩
def TiG (R : Nat) (s : ByteArray) (b : Bool) (w : World) (e : Ending) (w' : World) : Prop :=
  ∃ (t : Ti) (q : ByteArray) (d : Bool), e = .returned (.agg #[.string t.client, .int .i64 t.num, .string t.print, .int .i64 t.code, .int .i64 t.ver]) ∧ RdAt w' R q d ∧ Fr R (R + 1) w w' ∧ TiR s b t q d
set_option maxRecDepth 100000 in
set_option maxHeartbeats 4000000 in
theorem ticketR_any (R : Nat) (s : ByteArray) (b : Bool) (hs : (s.size : Int) ≤ 1048576) (w : World) (h : RdAt w R s b) (hR : R < w.heap.size) (hE : ErC w) (hR2 : 2 < R) :
    Calls Tryz.prog 35 #[.pointer (some ⟨R, 0, none⟩)] w fun e w' => TiG R s b w e w' := by
  have HT1 : Hid (∀ o, Calls Tryz.prog 59 #[.pointer (some ⟨R, 0, none⟩)] (w.alloc o) fun e w' => ∃ (t q : ByteArray) (d : Bool), e = .returned (.string t) ∧ RdAt w' R q d ∧ Fr R (R + 1) w w' ∧ (w.heap.size + 1 ≤ w'.heap.size ∧ ∀ n, (w.alloc o).there w.heap.size 0 n → w'.there w.heap.size 0 n) ∧ FdT s b t q d) := hid fun o => by
    refine (field_any R s b hs (w.alloc o) (h.below (below_alloc' w o) hR) (by simp; omega)).mono ?_
    rintro e w' ⟨t, q, d, rfl, h1, h2, h3⟩
    exact ⟨t, q, d, rfl, h1, (Fr.of_below (below_alloc' w o)).trans h2, ⟨by have := h2.size; simpa using this, fun n hn => there_fr hn h2 (by simp) hR⟩, h3⟩
  have HE := hid hE
  clear hE h
  go_enter Tryz.func35, Tryz.ntmps35
  go_wp2_with (first
    | (go_at_call 59; have _q := HT1; go_must (refine (HT1.out _).mono ?_; rintro e w1 ⟨t1, q1, d1, rfl, hr1, hf1, ⟨hz1, hth1⟩, ht1⟩; have HR1 := hid hr1; have HF1 := hid hf1; have HW1 := hid ht1; have HTH1 := hid (hth1 5 (there_new w _ _)); have HZ1 := hid hz1; clear hr1 hf1 ht1 HT1 hz1 hth1))
    | (go_at_call 32; have _q := HR1; go_must (refine (numR_any R q1 d1 (by have := HW1.out.1.2.1; omega) _ HR1.out (Nat.lt_of_lt_of_le hR HF1.out.size) (HE.out.fr HF1.out hR2) hR2).mono ?_; rintro e w2 ⟨v2, q2, d2, rfl, hr2, hf2, ht2⟩; have HR2 := hid hr2; have HF2 := hid (HF1.out.trans hf2); have HW2 := hid ht2; have HTH2 := hid (there_fr HTH1.out hf2 HZ1.out hR); have HZ2 := hid (Nat.le_trans HZ1.out hf2.size); clear hr2 hf2 ht2 HR1))
    | (go_at_call 32; have _q := HR2; go_must (refine (numR_any R q2 d2 (by have := HW1.out.1.2.1; have := HW2.out.1.2; omega) _ HR2.out (Nat.lt_of_lt_of_le hR HF2.out.size) (HE.out.fr HF2.out hR2) hR2).mono ?_; rintro e w3 ⟨v3, q3, d3, rfl, hr3, hf3, ht3⟩; have HR3 := hid hr3; have HF3 := hid (HF2.out.trans hf3); have HW3 := hid ht3; have HTH3 := hid (there_fr HTH2.out hf3 HZ2.out hR); have HZ3 := hid (Nat.le_trans HZ2.out hf3.size); clear hr3 hf3 ht3 HR2))
    | (go_at_call 32; have _q := HR3; go_must (refine (numR_any R q3 d3 (by have := HW1.out.1.2.1; have := HW2.out.1.2; have := HW3.out.1.2; omega) _ HR3.out (Nat.lt_of_lt_of_le hR HF3.out.size) (HE.out.fr HF3.out hR2) hR2).mono ?_; rintro e w4 ⟨v4, q4, d4, rfl, hr4, hf4, ht4⟩; have HR4 := hid hr4; have HF4 := hid (HF3.out.trans hf4); have HW4 := hid ht4; have HTH4 := hid (there_fr HTH3.out hf4 HZ3.out hR); have HZ4 := hid (Nat.le_trans HZ3.out hf4.size); clear hr4 hf4 ht4 HR3))
    | (go_at_call 60; have _q := HR4; go_must (refine (quoted_any R q4 d4 (by have := HW1.out.1.2.1; have := HW2.out.1.2; have := HW3.out.1.2; have := HW4.out.1.2; omega) _ HR4.out (Nat.lt_of_lt_of_le hR HF4.out.size) (HE.out.fr HF4.out hR2) hR2).mono ?_; rintro e w5 ⟨t5, q5, d5, rfl, hr5, hf5, ht5⟩; have HR5 := hid hr5; have HF5 := hid (HF4.out.trans hf5); have HW5 := hid ht5; have HTH5 := hid (there_fr HTH4.out hf5 HZ4.out hR); have HZ5 := hid (Nat.le_trans HZ4.out hf5.size); clear hr5 hf5 ht5 HR4))
    | ((with_reducible show wpList _ _ _ (⟨none, Op.store 45 (Operand.tmp 2) _, _, _, _, _⟩ :: _) _ _); go_must (refine wpList_store_new rfl 45 _ _ rfl w.heap.size [.string t1, .int .i64 v2, .string t5, .int .i64 v3, .int .i64 v4] (by simp [go_sem]) rfl HTH5.out sz45 (by simp [Value.oneCell']) ?_; intro W8 hr8 hf8 hz8; have HR8 := hid hr8; have HF8 := hid hf8; clear hr8 hf8 hz8)))
  have hz5 := HZ5.out
  refine bodyPost_ret (v := .agg #[.string t1, .int .i64 v2, .string t5, .int .i64 v3, .int .i64 v4]) (results_cell_mid (p := 2) rfl _ _ w.heap.size [.string t1, .int .i64 v2, .string t5, .int .i64 v3, .int .i64 v4] _ rfl HR8.out Tryz.underlying45 rfl sz45) rfl ?_
  exact ⟨⟨t1, v2, t5, v3, v4⟩, q5, d5, rfl, HR5.out.fr HF8.out (by omega) (by omega), HF5.out.past HF8.out (Nat.le_refl _), tiR_of hs HW1.out HW2.out HW3.out HW4.out HW5.out⟩
end Go.Proofs.YtkfbclopkgnacaaGreatDoor
namespace Go.Proofs.YtkfbclopkgnacaaGreatDoor
open Go.RowKit Go.Shelf
/-- tickets that are being built by appends -/
def BdTi (w : World) (base : Nat) (v : Value) (k : Nat) (x : Nat → Ti) : Prop := ∃ c, w.ownsRow base 45 5 v k (rowCells (k * 5) c) ∧ ∀ i, i < k → atTi c i (x i)
theorem BdTi.fr {w w' : World} {base : Nat} {v : Value} {k : Nat} {x : Nat → Ti} {P : Nat → Prop} (h : BdTi w base v k x) (hf : FrP P w w') (hp : ∀ g, v.ownBlock = some g → ¬ P g) : BdTi w' base v k x := by
  obtain ⟨c, r, e⟩ := h
  exact ⟨c, ownsRow_fr r hf hp, e⟩
theorem BdTi.congr {w : World} {base : Nat} {v : Value} {k : Nat} {x y : Nat → Ti} (h : BdTi w base v k x) (e : ∀ i, i < k → x i = y i) : BdTi w base v k y := by
  obtain ⟨c, r, a⟩ := h
  exact ⟨c, r, fun i hi => by rw [← e i hi]; exact a i hi⟩
theorem BdTi.app {w' : World} {base : Nat} {v' : Value} {k : Nat} {x : Nat → Ti} {c : Nat → Value} (hat : ∀ i, i < k → atTi c i (x i))
    (ho : w'.ownsRow base 45 5 v' (k + 1) (rowCells (k * 5) c ++ [.string (x k).client, .int .i64 (x k).num, .string (x k).print, .int .i64 (x k).code, .int .i64 (x k).ver])) : BdTi w' base v' (k + 1) x := by
  refine ⟨appF c (k * 5) [.string (x k).client, .int .i64 (x k).num, .string (x k).print, .int .i64 (x k).code, .int .i64 (x k).ver], ?_, fun i hi => ?_⟩
  · rw [rowCells_append] at ho
    have e : k * 5 + ([.string (x k).client, .int .i64 (x k).num, .string (x k).print, .int .i64 (x k).code, .int .i64 (x k).ver] : List Value).length = (k + 1) * 5 := by show k * 5 + 5 = _; omega
    rw [e] at ho
    exact ho
  · by_cases hk : i = k
    · subst hk
      exact ⟨appF_zero _ _ _, appF_at _ _ _ 1, appF_at _ _ _ 2, appF_at _ _ _ 3, appF_at _ _ _ 4⟩
    · have hi2 : i < k := by omega
      obtain ⟨a0, a1, a2, a3, a4⟩ := hat i hi2
      exact ⟨(if_pos (by omega)).trans a0, (if_pos (by omega)).trans a1, (if_pos (by omega)).trans a2, (if_pos (by omega)).trans a3, (if_pos (by omega)).trans a4⟩
/-- the blocks of a list: its own, and those of the lists in it -/
def owB (v : Value) (n : Nat) (M hb : Nat → Nat) (q : Nat) : Prop := v.ownBlock = some q ∨ ∃ i, i < n ∧ M i ≠ 0 ∧ q = hb i
theorem BdOb.frO {w w' : World} {base : Nat} {v : Value} {k : Nat} {x : Nat → Ob} {A : Nat → Option Addr} {C hb : Nat → Nat} {P : Nat → Prop} (h : BdOb w base v k x A C hb) (hf : FrP P w w') (hp : ∀ q, owB v k (fun i => (x i).hn) hb q → ¬ P q) : BdOb w' base v k x A C hb :=
  ⟨by obtain ⟨c, r, e⟩ := h.row; exact ⟨c, ownsRow_fr r hf (fun g hg => hp g (Or.inl hg)), e⟩, fun i hi => (h.hold i hi).frP hf (fun h0 => ⟨hp _ (Or.inr ⟨i, hi, h0, rfl⟩), (h.hlt i hi h0).2⟩), fun i hi h0 => ⟨(h.hlt i hi h0).1, Nat.lt_of_lt_of_le (h.hlt i hi h0).2 hf.size⟩, h.ne, h.inj⟩
theorem BdCh.frO {w w' : World} {base : Nat} {v : Value} {k : Nat} {x : Nat → Ch} {A : Nat → Option Addr} {C hb : Nat → Nat} {P : Nat → Prop} (h : BdCh w base v k x A C hb) (hf : FrP P w w') (hp : ∀ q, owB v k (fun i => (x i).ob.hn) hb q → ¬ P q) : BdCh w' base v k x A C hb :=
  ⟨by obtain ⟨c, r, e⟩ := h.row; exact ⟨c, ownsRow_fr r hf (fun g hg => hp g (Or.inl hg)), e⟩, fun i hi => (h.hold i hi).frP hf (fun h0 => ⟨hp _ (Or.inr ⟨i, hi, h0, rfl⟩), (h.hlt i hi h0).2⟩), fun i hi h0 => ⟨(h.hlt i hi h0).1, Nat.lt_of_lt_of_le (h.hlt i hi h0).2 hf.size⟩, h.ne, h.inj⟩
theorem BdOb.congr {w : World} {base : Nat} {v : Value} {k : Nat} {x y : Nat → Ob} {A : Nat → Option Addr} {C hb : Nat → Nat} (h : BdOb w base v k x A C hb) (e : ∀ i, i < k → x i = y i) : BdOb w base v k y A C hb :=
  ⟨by obtain ⟨c, r, a⟩ := h.row; exact ⟨c, r, fun i hi => by rw [← e i hi]; exact a i hi⟩, fun i hi => by rw [← e i hi]; exact h.hold i hi, fun i hi h0 => h.hlt i hi (by rw [e i hi]; exact h0), fun i hi h0 => h.ne i hi (by rw [e i hi]; exact h0), fun i j hi hj h0 h1 => h.inj i j hi hj (by rw [e i hi]; exact h0) (by rw [e j hj]; exact h1)⟩
theorem BdCh.congr {w : World} {base : Nat} {v : Value} {k : Nat} {x y : Nat → Ch} {A : Nat → Option Addr} {C hb : Nat → Nat} (h : BdCh w base v k x A C hb) (e : ∀ i, i < k → x i = y i) : BdCh w base v k y A C hb :=
  ⟨by obtain ⟨c, r, a⟩ := h.row; exact ⟨c, r, fun i hi => by rw [← e i hi]; exact a i hi⟩, fun i hi => by rw [← e i hi]; exact h.hold i hi, fun i hi h0 => h.hlt i hi (by rw [e i hi]; exact h0), fun i hi h0 => h.ne i hi (by rw [e i hi]; exact h0), fun i j hi hj h0 h1 => h.inj i j hi hj (by rw [e i hi]; exact h0) (by rw [e j hj]; exact h1)⟩
/-- a book that is being built -/
structure BdB (w : World) (base : Nat) (x : Bk) (v1 v2 v3 : Value) (A1 : Nat → Option Addr) (C1 h1 : Nat → Nat) (A2 : Nat → Option Addr) (C2 h2 : Nat → Nat) : Prop where
  o : BdOb w base v1 x.on x.os A1 C1 h1
  h : BdCh w base v2 x.hn x.hs A2 C2 h2
  t : BdTi w base v3 x.tn x.ts
  d12 : ∀ q, owB v1 x.on (fun i => (x.os i).hn) h1 q → ¬ owB v2 x.hn (fun i => (x.hs i).ob.hn) h2 q
  d13 : ∀ q, owB v1 x.on (fun i => (x.os i).hn) h1 q → v3.ownBlock ≠ some q
  d23 : ∀ q, owB v2 x.hn (fun i => (x.hs i).ob.hn) h2 q → v3.ownBlock ≠ some q
def BdE (w : World) (base : Nat) (x : Bk) (v1 v2 v3 : Value) : Prop := ∃ A1 C1 h1 A2 C2 h2, BdB w base x v1 v2 v3 A1 C1 h1 A2 C2 h2
theorem BdOb.own {w : World} {base : Nat} {v : Value} {k : Nat} {x : Nat → Ob} {A : Nat → Option Addr} {C hb : Nat → Nat} (h : BdOb w base v k x A C hb) {q : Nat} (hq : owB v k (fun i => (x i).hn) hb q) : base ≤ q ∧ q < w.heap.size := by
  rcases hq with hq | ⟨i, hi, h0, rfl⟩
  · obtain ⟨c, r, _⟩ := h.row
    exact r.lt q hq
  · exact h.hlt i hi h0
theorem BdCh.own {w : World} {base : Nat} {v : Value} {k : Nat} {x : Nat → Ch} {A : Nat → Option Addr} {C hb : Nat → Nat} (h : BdCh w base v k x A C hb) {q : Nat} (hq : owB v k (fun i => (x i).ob.hn) hb q) : base ≤ q ∧ q < w.heap.size := by
  rcases hq with hq | ⟨i, hi, h0, rfl⟩
  · obtain ⟨c, r, _⟩ := h.row
    exact r.lt q hq
  · exact h.hlt i hi h0
theorem BdTi.own {w : World} {base : Nat} {v : Value} {k : Nat} {x : Nat → Ti} (h : BdTi w base v k x) {q : Nat} (hq : v.ownBlock = some q) : base ≤ q ∧ q < w.heap.size := by
  obtain ⟨c, r, _⟩ := h
  exact r.lt q hq
theorem BdB.fr {w w' : World} {base : Nat} {x : Bk} {v1 v2 v3 : Value} {A1 : Nat → Option Addr} {C1 h1 : Nat → Nat} {A2 : Nat → Option Addr} {C2 h2 : Nat → Nat} {P : Nat → Prop} (h : BdB w base x v1 v2 v3 A1 C1 h1 A2 C2 h2) (hf : FrP P w w') (hp : ∀ q, base ≤ q → ¬ P q) : BdB w' base x v1 v2 v3 A1 C1 h1 A2 C2 h2 :=
  ⟨h.o.fr hf (fun q h1 _ => hp q h1), h.h.fr hf (fun q h1 _ => hp q h1), h.t.fr hf (fun g hg => hp g (h.t.own hg).1), h.d12, h.d13, h.d23⟩
/-- one object more -/
theorem BdB.addO {w0 w w' : World} {base : Nat} {x : Bk} {v1 v2 v3 v' : Value} {A1 : Nat → Option Addr} {C1 h1 : Nat → Nat} {A2 : Nat → Option Addr} {C2 h2 : Nat → Nat} {P : Nat → Prop} {o : Ob} {ad : Option Addr} {cap b' : Nat} {c : Nat → Value}
    (h0 : BdB w0 base x v1 v2 v3 A1 C1 h1 A2 C2 h2) (hf : FrP P w0 w) (hp : ∀ q, base ≤ q → ¬ P q) (hb0 : base ≤ w0.heap.size) (hs : StrsOwn w b' (b' + 1) ad o.hn o.hs) (hl : o.hn ≠ 0 → w0.heap.size ≤ b' ∧ b' < w.heap.size) (hc : ∀ i, i < x.on → atOb c i (x.os i) (A1 i) (C1 i))
    (ho : w'.ownsRow base 38 7 v' (x.on + 1) (rowCells (x.on * 7) c ++ [.string o.kind, .string o.name, .int .i64 o.ver, .int .i64 o.born, .string o.text, .bool o.ending, .slice ad o.hn cap])) (hg : w.grownBy w' v1.ownBlock) (hw : v'.ownBlock = v1.ownBlock ∨ v'.ownBlock = some w.heap.size) :
    BdB w' base { x with on := x.on + 1, os := updF x.os x.on o } v' v2 v3 (updF A1 x.on ad) (updF C1 x.on cap) (updF h1 x.on b') A2 C2 h2 := by
  have hB := h0.fr hf hp
  have F := FrP.of_grown hg
  have hsz := hf.size
  have e1 : ∀ i, i < x.on → x.os i = updF x.os x.on o i := fun i hi => (updF_ne _ _ (by omega)).symm
  have es : updF x.os x.on o x.on = o := updF_same _ _ _
  have own0 : ∀ q, owB v1 x.on (fun i => (x.os i).hn) h1 q → q < w0.heap.size := fun q hq => (h0.o.own hq).2
  have own0h : ∀ q, owB v2 x.hn (fun i => (x.hs i).ob.hn) h2 q → q < w0.heap.size := fun q hq => (h0.h.own hq).2
  have own0t : ∀ q, v3.ownBlock = some q → q < w0.heap.size := fun q hq => (h0.t.own hq).2
  have new : ∀ q, owB v' (x.on + 1) (fun i => (updF x.os x.on o i).hn) (updF h1 x.on b') q → owB v1 x.on (fun i => (x.os i).hn) h1 q ∨ w0.heap.size ≤ q := by
    intro q hq
    rcases hq with hq | ⟨i, hi, hn0, rfl⟩
    · rcases hw with e | e
      · rw [e] at hq; exact Or.inl (Or.inl hq)
      · rw [e] at hq; cases hq; exact Or.inr hsz
    · by_cases hik : i = x.on
      · subst hik
        have hn1 : o.hn ≠ 0 := by have := hn0; simp only [updF_same] at this; exact this
        rw [updF_same]
        exact Or.inr (hl hn1).1
      · have hi2 : i < x.on := by omega
        have hn1 : (x.os i).hn ≠ 0 := by have := hn0; simp only [updF_ne _ _ hik] at this; exact this
        rw [updF_ne _ _ hik]
        exact Or.inl (Or.inr ⟨i, hi2, hn1, rfl⟩)
  refine ⟨?_, hB.h.frO F (fun q hq hP => ?_), hB.t.fr F (fun g hg2 hP => ?_), fun q hq hq2 => ?_, fun q hq hq2 => ?_, h0.d23⟩
  · refine BdOb.app (x := updF x.os x.on o) (hB.o.congr e1) (fun i hi => by rw [← e1 i hi]; exact hc i hi) (by rw [es]; exact ho) hg hw (by rw [es]; exact hs) (fun hn => ?_) (fun hn e => ?_) (fun i hi hn hn2 e => ?_)
    · rw [es] at hn
      exact ⟨by have := (hl hn).1; omega, (hl hn).2⟩
    · rw [es] at hn
      have := own0 b' (Or.inl e)
      have := (hl hn).1
      omega
    · rw [es] at hn2
      rw [← e1 i hi] at hn
      have := own0 (h1 i) (Or.inr ⟨i, hi, hn, rfl⟩)
      have := (hl hn2).1
      omega
  · exact h0.d12 q (Or.inl hP) hq
  · exact h0.d13 g (Or.inl hP) hg2
  · rcases new q hq with h | h
    · exact h0.d12 q h hq2
    · have := own0h q hq2; omega
  · rcases new q hq with h | h
    · exact h0.d13 q h hq2
    · have := own0t q hq2; omega
/-- one change more -/
theorem BdB.addC {w0 w w' : World} {base : Nat} {x : Bk} {v1 v2 v3 v' : Value} {A1 : Nat → Option Addr} {C1 h1 : Nat → Nat} {A2 : Nat → Option Addr} {C2 h2 : Nat → Nat} {P : Nat → Prop} {o : Ch} {ad : Option Addr} {cap b' : Nat} {c : Nat → Value}
    (h0 : BdB w0 base x v1 v2 v3 A1 C1 h1 A2 C2 h2) (hf : FrP P w0 w) (hp : ∀ q, base ≤ q → ¬ P q) (hb0 : base ≤ w0.heap.size) (hs : StrsOwn w b' (b' + 1) ad o.ob.hn o.ob.hs) (hl : o.ob.hn ≠ 0 → w0.heap.size ≤ b' ∧ b' < w.heap.size) (hc : ∀ i, i < x.hn → atCh c i (x.hs i) (A2 i) (C2 i))
    (ho : w'.ownsRow base 41 9 v' (x.hn + 1) (rowCells (x.hn * 9) c ++ [.int .i64 o.ver, .bool o.gone, .string o.ob.kind, .string o.ob.name, .int .i64 o.ob.ver, .int .i64 o.ob.born, .string o.ob.text, .bool o.ob.ending, .slice ad o.ob.hn cap])) (hg : w.grownBy w' v2.ownBlock) (hw : v'.ownBlock = v2.ownBlock ∨ v'.ownBlock = some w.heap.size) :
    BdB w' base { x with hn := x.hn + 1, hs := updF x.hs x.hn o } v1 v' v3 A1 C1 h1 (updF A2 x.hn ad) (updF C2 x.hn cap) (updF h2 x.hn b') := by
  have hB := h0.fr hf hp
  have F := FrP.of_grown hg
  have hsz := hf.size
  have e1 : ∀ i, i < x.hn → x.hs i = updF x.hs x.hn o i := fun i hi => (updF_ne _ _ (by omega)).symm
  have es : updF x.hs x.hn o x.hn = o := updF_same _ _ _
  have own0 : ∀ q, owB v2 x.hn (fun i => (x.hs i).ob.hn) h2 q → q < w0.heap.size := fun q hq => (h0.h.own hq).2
  have own0o : ∀ q, owB v1 x.on (fun i => (x.os i).hn) h1 q → q < w0.heap.size := fun q hq => (h0.o.own hq).2
  have own0t : ∀ q, v3.ownBlock = some q → q < w0.heap.size := fun q hq => (h0.t.own hq).2
  have new : ∀ q, owB v' (x.hn + 1) (fun i => (updF x.hs x.hn o i).ob.hn) (updF h2 x.hn b') q → owB v2 x.hn (fun i => (x.hs i).ob.hn) h2 q ∨ w0.heap.size ≤ q := by
    intro q hq
    rcases hq with hq | ⟨i, hi, hn0, rfl⟩
    · rcases hw with e | e
      · rw [e] at hq; exact Or.inl (Or.inl hq)
      · rw [e] at hq; cases hq; exact Or.inr hsz
    · by_cases hik : i = x.hn
      · subst hik
        have hn1 : o.ob.hn ≠ 0 := by have := hn0; simp only [updF_same] at this; exact this
        rw [updF_same]
        exact Or.inr (hl hn1).1
      · have hi2 : i < x.hn := by omega
        have hn1 : (x.hs i).ob.hn ≠ 0 := by have := hn0; simp only [updF_ne _ _ hik] at this; exact this
        rw [updF_ne _ _ hik]
        exact Or.inl (Or.inr ⟨i, hi2, hn1, rfl⟩)
  refine ⟨hB.o.frO F (fun q hq hP => ?_), ?_, hB.t.fr F (fun g hg2 hP => ?_), fun q hq hq2 => ?_, h0.d13, fun q hq hq2 => ?_⟩
  · exact h0.d12 q hq (Or.inl hP)
  · refine BdCh.app (x := updF x.hs x.hn o) (hB.h.congr e1) (fun i hi => by rw [← e1 i hi]; exact hc i hi) (by rw [es]; exact ho) hg hw (by rw [es]; exact hs) (fun hn => ?_) (fun hn e => ?_) (fun i hi hn hn2 e => ?_)
    · rw [es] at hn
      exact ⟨by have := (hl hn).1; omega, (hl hn).2⟩
    · rw [es] at hn
      have := own0 b' (Or.inl e)
      have := (hl hn).1
      omega
    · rw [es] at hn2
      rw [← e1 i hi] at hn
      have := own0 (h2 i) (Or.inr ⟨i, hi, hn, rfl⟩)
      have := (hl hn2).1
      omega
  · exact h0.d23 g (Or.inl hP) hg2
  · rcases new q hq2 with h | h
    · exact h0.d12 q hq h
    · have := own0o q hq; omega
  · rcases new q hq with h | h
    · exact h0.d23 q h hq2
    · have := own0t q hq2; omega
/-- one ticket more -/
theorem BdB.addT {w0 w w' : World} {base : Nat} {x : Bk} {v1 v2 v3 v' : Value} {A1 : Nat → Option Addr} {C1 h1 : Nat → Nat} {A2 : Nat → Option Addr} {C2 h2 : Nat → Nat} {P : Nat → Prop} {o : Ti} {c : Nat → Value}
    (h0 : BdB w0 base x v1 v2 v3 A1 C1 h1 A2 C2 h2) (hf : FrP P w0 w) (hp : ∀ q, base ≤ q → ¬ P q) (hc : ∀ i, i < x.tn → atTi c i (x.ts i))
    (ho : w'.ownsRow base 45 5 v' (x.tn + 1) (rowCells (x.tn * 5) c ++ [.string o.client, .int .i64 o.num, .string o.print, .int .i64 o.code, .int .i64 o.ver])) (hg : w.grownBy w' v3.ownBlock) (hw : v'.ownBlock = v3.ownBlock ∨ v'.ownBlock = some w.heap.size) :
    BdB w' base { x with tn := x.tn + 1, ts := updF x.ts x.tn o } v1 v2 v' A1 C1 h1 A2 C2 h2 := by
  have hB := h0.fr hf hp
  have F := FrP.of_grown hg
  have hsz := hf.size
  have e1 : ∀ i, i < x.tn → x.ts i = updF x.ts x.tn o i := fun i hi => (updF_ne _ _ (by omega)).symm
  have es : updF x.ts x.tn o x.tn = o := updF_same _ _ _
  refine ⟨hB.o.frO F (fun q hq hP => h0.d13 q hq hP), hB.h.frO F (fun q hq hP => h0.d23 q hq hP), BdTi.app (x := updF x.ts x.tn o) (fun i hi => by rw [← e1 i hi]; exact hc i hi) (by rw [es]; exact ho), h0.d12, fun q hq hq2 => ?_, fun q hq hq2 => ?_⟩
  · rcases hw with e | e
    · rw [e] at hq2; exact h0.d13 q hq hq2
    · rw [e] at hq2; cases hq2; have := (h0.o.own hq).2; omega
  · rcases hw with e | e
    · rw [e] at hq2; exact h0.d23 q hq hq2
    · rw [e] at hq2; cases hq2; have := (h0.h.own hq).2; omega
def bk0 : Bk := ⟨0, 0, 0, fun _ => ob0, 0, fun _ => ⟨0, false, ob0⟩, 0, fun _ => ⟨⟨#[]⟩, 0, ⟨#[]⟩, 0, 0⟩⟩
theorem BdB.start (w : World) (base : Nat) : BdB w base bk0 (.slice none 0 0) (.slice none 0 0) (.slice none 0 0) (fun _ => none) (fun _ => 0) (fun _ => 0) (fun _ => none) (fun _ => 0) (fun _ => 0) := by
  have no : ∀ q M, ¬ owB (.slice none 0 0) 0 M (fun _ => 0) q := fun q M hq => by
    rcases hq with hq | ⟨i, hi, _⟩
    · simp [Value.ownBlock] at hq
    · exact absurd hi (Nat.not_lt_zero _)
  exact ⟨⟨⟨fun _ => .int .i64 0, ⟨rfl, .inl ⟨rfl, rfl⟩⟩, fun i hi => absurd hi (Nat.not_lt_zero _)⟩, fun i hi => absurd hi (Nat.not_lt_zero _), fun i hi => absurd hi (Nat.not_lt_zero _), fun i hi => absurd hi (Nat.not_lt_zero _), fun i j hi => absurd hi (Nat.not_lt_zero _)⟩,
    ⟨⟨fun _ => .int .i64 0, ⟨rfl, .inl ⟨rfl, rfl⟩⟩, fun i hi => absurd hi (Nat.not_lt_zero _)⟩, fun i hi => absurd hi (Nat.not_lt_zero _), fun i hi => absurd hi (Nat.not_lt_zero _), fun i hi => absurd hi (Nat.not_lt_zero _), fun i j hi => absurd hi (Nat.not_lt_zero _)⟩,
    ⟨fun _ => .int .i64 0, ⟨rfl, .inl ⟨rfl, rfl⟩⟩, fun i hi => absurd hi (Nat.not_lt_zero _)⟩, fun q hq => absurd hq (no q _), fun q hq => absurd hq (no q _), fun q hq => absurd hq (no q _)⟩
end Go.Proofs.YtkfbclopkgnacaaGreatDoor
