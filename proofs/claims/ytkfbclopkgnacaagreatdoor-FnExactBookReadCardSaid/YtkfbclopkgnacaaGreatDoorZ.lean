import Derived.Test.YtkfbclopkgnacaaGreatDoorK
import Derived.Deep.AppendSrc
namespace Go.Proofs.YtkfbclopkgnacaaGreatDoor
open Go.RowKit
theorem two_cell {w w1 : World} {c0 c1 : Array Value} {t0 t1 : TypeId} (hb : Below ((w.alloc (.cells c0 t0)).alloc (.cells c1 t1)).heap.size ((w.alloc (.cells c0 t0)).alloc (.cells c1 t1)) w1) :
    (∀ i, w1.cell? ⟨w.heap.size, i, none⟩ = c0[i]?) ∧ (∀ i, w1.cell? ⟨w.heap.size + 1, i, none⟩ = c1[i]?) ∧ (∀ i, w1.frozen? ⟨w.heap.size, i, none⟩ = false) ∧ (∀ i, w1.frozen? ⟨w.heap.size + 1, i, none⟩ = false) := by
  refine ⟨fun i => ?_, fun i => ?_, fun i => ?_, fun i => ?_⟩
  · rw [hb.cell (p := ⟨w.heap.size, i, none⟩) (by simp; omega)]
    rw [World.cell?_alloc_past _ _ _ (by simp), World.cell?_alloc_at _ _ _ _ rfl]
  · rw [hb.cell (p := ⟨w.heap.size + 1, i, none⟩) (by simp)]
    rw [World.cell?_alloc_at _ _ _ _ (by simp)]
  · rw [hb.frozen (p := ⟨w.heap.size, i, none⟩) (by simp; omega)]
    rw [World.frozen?_alloc_past _ _ _ (by simp), World.frozen?_alloc_at _ _ _ _ rfl]
  · rw [hb.frozen (p := ⟨w.heap.size + 1, i, none⟩) (by simp)]
    rw [World.frozen?_alloc_at _ _ _ _ (by simp)]
set_option maxRecDepth 100000 in
set_option maxHeartbeats 800000 in
theorem eqBk_any (x : Bk) (a1 a2 a3 b1 b2 b3 : Option Addr) (c1 c2 c3 d1 d2 d3 : Nat) (w : World) (lo hi lo2 hi2 : Nat) (hh : hi ≤ w.heap.size) (hh2 : hi2 ≤ w.heap.size) (hf : BkFit x) (hc : BkIn w lo hi x a1 a2 a3) (hc2 : BkIn w lo2 hi2 x b1 b2 b3) :
    Calls Tryz.prog 6 #[.agg #[.int .i64 x.now, .int .i64 x.floor, .slice a1 x.on c1, .slice a2 x.hn c2, .slice a3 x.tn c3], .agg #[.int .i64 x.now, .int .i64 x.floor, .slice b1 x.on d1, .slice b2 x.hn d2, .slice b3 x.tn d3]] w fun e w' => e = .returned (.bool true) ∧ Below w.heap.size w w' := by
  obtain ⟨f1, f2, f3, f4, f5, f6⟩ := hf
  have f4' : ∀ i, i < x.on → ((x.os i).hn : Int) ≤ 140737488355328 := fun i h => by have := (f4 i h).h; omega
  have f5' : ∀ i, i < x.hn → ((x.hs i).ob.hn : Int) ≤ 140737488355328 := fun i h => by have := (f5 i h).h; omega
  clear f4 f5 f6
  go_enter Tryz.func6, Tryz.ntmps6
  go_wp2_with fail
  refine (eqObs_any x.on x.os a1 b1 c1 d1 _ lo hi lo2 hi2 (by simp; omega) (by simp; omega) (by omega) f4' (hc.o.below (B := w.heap.size) ((below_alloc _ _).alloc (by simp) _) hh) (hc2.o.below (B := w.heap.size) ((below_alloc _ _).alloc (by simp) _) hh2)).mono ?_
  rintro e w1 ⟨rfl, hb1⟩
  have hB1 : Below w.heap.size w w1 := ((below_alloc _ _).alloc (by simp) _).trans (hb1.mono (by simp; omega))
  have hz := hb1.size
  obtain ⟨A0, A1, _, _⟩ := two_cell hb1
  have u3 := A0 3
  have u4 := A0 4
  have v3 := A1 3
  have v4 := A1 4
  simp only [World.size_alloc] at hz
  simp only [List.getElem?_toArray, List.getElem?_cons_succ, List.getElem?_cons_zero] at u3 u4 v3 v4
  clear A0 A1 hb1
  go_wp2_with fail
  refine (eqChs_any x.hn x.hs a2 b2 c2 d2 _ lo hi lo2 hi2 (by omega) (by omega) (by omega) f5' (hc.h.below hB1 hh) (hc2.h.below hB1 hh2)).mono ?_
  rintro e w2 ⟨rfl, hb2⟩
  have hB2 : Below w.heap.size w w2 := hB1.trans (hb2.mono hB1.size)
  have u4' := (hb2.cell (p := ⟨w.heap.size, 4, none⟩) (by show w.heap.size < _; omega)).trans u4
  have v4' := (hb2.cell (p := ⟨w.heap.size + 1, 4, none⟩) (by show w.heap.size + 1 < _; omega)).trans v4
  clear u3 u4 v3 v4
  go_wp2_with fail
  refine (eqTis_any x.tn x.ts a3 b3 c3 d3 _ lo hi lo2 hi2 (by have := hB2.size; omega) (by have := hB2.size; omega) (by omega) (hc.t.below hB2 hh) (hc2.t.below hB2 hh2)).mono ?_
  rintro e w3 ⟨rfl, hb3⟩
  go_wp2
  go_ret
  exact ⟨rfl, hB2.trans (hb3.mono hB2.size)⟩
end Go.Proofs.YtkfbclopkgnacaaGreatDoor
namespace Go.Proofs.YtkfbclopkgnacaaGreatDoor
open Go.RowKit Go.Maps
theorem wpList_append_zero {P : Program} {w : World} {ops : Array Oper} {rest : List Oper} {o : Oper} {a : Act} {Q : Exit → Act → World → Prop} (hgd : o.guard = none) (s x : Operand) (t : TypeId)
    (ho : o.op = .call { callee := .builtin .append, args := #[s, x], argTypes := #[t, t] })
    (e : TypeId) (i : TypeInfo) (ht : P.underlying t = some (.slice e)) (hi : P.info? e = some i)
    (b off sLen sCap : Nat) (hle : sLen ≤ sCap) (hs : a.eval s = .slice (some ⟨b, off, none⟩) sLen sCap) (ad : Option Addr) (c : Nat) (hx : a.eval x = .slice ad 0 c)
    (h : wpList P ops Q rest (a.put o.dst (.slice (some ⟨b, off, none⟩) sLen sCap)) w) : wpList P ops Q (o :: rest) a w := by
  refine wpList_plain hgd fun K hK => ?_
  have hsrc : Src P i.size t (.slice ad 0 c) 0 [] w := by
    cases ad with
    | none => exact Src.ofNil w ht c
    | some a0 => exact Src.ofSlice w ht a0 0 c [] (by simp) (fun j u hj => by simp at hj) (fun u hu => by cases hu)
  have hrun := run_append_room_src (P := P) w t t o.type e i ht hi b off sLen sCap _ 0 [] hsrc (by omega) (fun j hj => by simp at hj) (fun j hj => by simp at hj)
  simp only [Nat.add_zero, World.setCells] at hrun
  unfold Oper.wp
  simp [execOp, ho, resolve, invoke, builtin, hs, hx, hrun, Result.andThen]
  exact hK _ _ h
/-- the strings as cells -/
def strCells (n : Nat) (s : Nat → ByteArray) : List Value := (List.range n).map fun i => .string (s i)
theorem strCells_get {n : Nat} {s : Nat → ByteArray} {j : Nat} {u : Value} (h : (strCells n s)[j]? = some u) : j < n ∧ u = .string (s j) := by
  simp only [strCells, List.getElem?_map] at h
  rcases Nat.lt_or_ge j n with h1 | h1
  · rw [List.getElem?_eq_getElem (by simpa using h1)] at h
    simp at h
    exact ⟨h1, h.symm⟩
  · rw [List.getElem?_eq_none (by simpa using h1)] at h
    cases h
theorem strCells_at {n : Nat} {s : Nat → ByteArray} {j : Nat} (h : j < n) : (strCells n s)[j]? = some (.string (s j)) := by
  simp [strCells, h]
theorem strCells_len (n : Nat) (s : Nat → ByteArray) : (strCells n s).length = n := by simp [strCells]
theorem strCells_one (n : Nat) (s : Nat → ByteArray) : ∀ u ∈ strCells n s, u.oneCell' = true := by
  intro u hu
  obtain ⟨i, _, rfl⟩ := List.mem_map.1 hu
  rfl
theorem strsOwn_of_row {w : World} {base n : Nat} {v : Value} {s : Nat → ByteArray} (h : w.ownsRow base 9 1 v n (strCells n s)) (hn : 0 < n) : ∃ g cap, v = .slice (some ⟨g, 0, none⟩) n cap ∧ StrsOwn w base w.heap.size (some ⟨g, 0, none⟩) n s := by
  rcases h.2 with ⟨_, h0⟩ | ⟨g, cap, cur, rfl, hg, hh, hr⟩
  · omega
  · refine ⟨g, cap, rfl, fun i hi => ⟨g, 0, rfl, hg, (Array.getElem?_eq_some_iff.1 hh).1, ?_, ?_⟩⟩
    · have := World.ownsRow.cellAt (g := g) (cap := cap) h i (by omega)
      simpa [strCells_at hi] using this
    · simpa using World.ownsRow.frozenAt (g := g) (cap := cap) h i
theorem three_grown {w w1 : World} {c0 c1 : Array Value} {t0 t1 : TypeId} {o2 : Obj} (hg : (((w.alloc (.cells c0 t0)).alloc (.cells c1 t1)).alloc o2).grownBy w1 (some (w.heap.size + 1 + 1))) :
    (∀ i, w1.cell? ⟨w.heap.size, i, none⟩ = c0[i]?) ∧ (∀ i, w1.cell? ⟨w.heap.size + 1, i, none⟩ = c1[i]?) ∧ (∀ i, w1.frozen? ⟨w.heap.size, i, none⟩ = false) ∧ (∀ i, w1.frozen? ⟨w.heap.size + 1, i, none⟩ = false) ∧ Below w.heap.size w w1 ∧ w.heap.size + 2 < w1.heap.size := by
  have hB2 : Below (w.heap.size + 1 + 1) ((w.alloc (.cells c0 t0)).alloc (.cells c1 t1)) w1 :=
    ((Below.refl _ _).alloc (by simp) o2).grown hg (by simp) (fun k hk => by cases hk; exact Nat.le_refl _)
  have hB2' : Below ((w.alloc (.cells c0 t0)).alloc (.cells c1 t1)).heap.size ((w.alloc (.cells c0 t0)).alloc (.cells c1 t1)) w1 := by simpa using hB2
  obtain ⟨A0, A1, F0, F1⟩ := two_cell hB2'
  refine ⟨A0, A1, F0, F1, ((below_alloc _ _).alloc (by simp) _).trans (hB2.mono (by omega)), ?_⟩
  have := hg.size; simp at this; omega
set_option maxRecDepth 100000 in
set_option maxHeartbeats 400000 in
theorem specOb_any (x : Ob) (ad : Option Addr) (cap : Nat) (w : World) (lo hi : Nat) (hhi : hi ≤ w.heap.size) (hl : (x.hn : Int) ≤ 8796093022208) (hc : StrsIn w lo hi ad x.hn x.hs) :
    Calls Tryz.prog 111 #[.agg #[.string x.kind, .string x.name, .int .i64 x.ver, .int .i64 x.born, .string x.text, .bool x.ending, .slice ad x.hn cap]] w fun e w' => ∃ ad' cap', e = .returned (.agg #[.string x.kind, .string x.name, .int .i64 x.ver, .int .i64 x.born, .string x.text, .bool x.ending, .slice ad' x.hn cap']) ∧ StrsOwn w' w.heap.size w'.heap.size ad' x.hn x.hs ∧ Below w.heap.size w w' := by
  obtain ⟨i0, hi0, hz0, hz1, hz2⟩ := info_parts Tryz.info9
  rcases Nat.eq_zero_or_pos x.hn with h0 | hpos
  · obtain ⟨ki, na, ve, bo, te, en, hn, hs⟩ := x
    dsimp only at h0 hc hl ⊢
    subst h0
    go_enter Tryz.func111, Tryz.ntmps111
    go_wp2_with (at_builtin; refine wpList_append_zero rfl _ _ 32 rfl 9 i0 Tryz.underlying32 hi0 _ _ _ _ (Nat.le_refl _) rfl _ _ rfl ?_)
    refine bodyPost_ret (v := .agg #[.string ki, .string na, .int .i64 ve, .int .i64 bo, .string te, .bool en, .slice (some ⟨w.heap.size + 1 + 1, 0, none⟩) 0 0]) (by simp [results, Tryz.results111, go_sem]) rfl ⟨_, 0, rfl, ?_, ?_⟩
    · intro i hi'; exact absurd hi' (Nat.not_lt_zero _)
    · exact (((Below.refl _ _).alloc (Nat.le_refl _) _).alloc (by simp) _).alloc (by simp; omega) _
  · obtain ⟨b, off, rfl, hlo, hbh, _⟩ := hc 0 hpos
    have hown0 : ∀ (o1 o2 : Obj), (((w.alloc o1).alloc o2).alloc (.cells #[] 9)).ownsRow (w.heap.size + 1 + 1) 9 1 (.slice (some ⟨w.heap.size + 1 + 1, 0, none⟩) 0 0) 0 [] := fun o1 o2 => by
      have := World.ownsRow_made (base := w.heap.size + 1 + 1) (e := 9) (size := 1) ((w.alloc o1).alloc o2) #[] 0 (by simp) (Nat.zero_le _) rfl
      simpa using this
    have hb0 : ∀ (o1 o2 o3 : Obj), Below w.heap.size w (((w.alloc o1).alloc o2).alloc o3) := fun o1 o2 o3 => (((Below.refl _ _).alloc (Nat.le_refl _) _).alloc (by simp) _).alloc (by simp; omega) _
    have hnews : ∀ (o1 o2 o3 : Obj), ∀ j u, (strCells x.hn x.hs)[j]? = some u → (((w.alloc o1).alloc o2).alloc o3).cell? ((⟨b, off, none⟩ : Addr).add j) = some u := fun o1 o2 o3 j u hj => by
      obtain ⟨h1, rfl⟩ := strCells_get hj
      obtain ⟨b', off', e, _, _, e4⟩ := hc j h1
      cases e
      have ea : ((⟨b, off, none⟩ : Addr).add j) = ⟨b, off + j, none⟩ := by simp [Addr.add]
      rw [ea, (hb0 o1 o2 o3).cell (p := ⟨b, off + j, none⟩) (by show b < _; omega)]
      exact e4
    have HB := hid hb0
    clear hb0
    go_enter Tryz.func111, Tryz.ntmps111
    go_wp2_with (at_builtin; go_must (refine wpList_append_own _ rfl _ _ 32 rfl (w.heap.size + 1 + 1) 9 i0 (.string ByteArray.empty) 1 16 Tryz.underlying32 hi0 hz0 hz1 hz2 rfl (by decide) _ 0 [] rfl (hown0 _ _) ⟨b, off, none⟩ x.hn cap (strCells x.hn x.hs) rfl (by rw [strCells_len]; omega) (hnews _ _ _) (strCells_one _ _) (by unfold maxLen; omega) (by omega) (by simp) ?_; intro v1 w1 hown1 hgrow1 _; obtain ⟨g', cap', rfl, hS⟩ := strsOwn_of_row (by simpa only [Nat.zero_add, List.nil_append] using hown1) hpos; clear hown1; obtain ⟨A0, A1, F0, F1, hB, hz⟩ := three_grown hgrow1; clear hgrow1; have p0 := A0 0; have p1 := A0 1; have p2 := A0 2; have p3 := A0 3; have p4 := A0 4; have p5 := A0 5; have p6 := A0 6; have q0 := A1 0; have q1 := A1 1; have q2 := A1 2; have q3 := A1 3; have q4 := A1 4; have q5 := A1 5; have q6 := A1 6; simp only [List.getElem?_toArray, List.getElem?_cons_succ, List.getElem?_cons_zero] at p0 p1 p2 p3 p4 p5 p6 q0 q1 q2 q3 q4 q5 q6; clear A0 A1; have HS := hid hS; clear hS hown0 hnews hc))
    refine bodyPost_ret (v := .agg #[.string x.kind, .string x.name, .int .i64 x.ver, .int .i64 x.born, .string x.text, .bool x.ending, .slice (some ⟨g', 0, none⟩) x.hn cap']) (by simp [results, Tryz.results111, go_sem, q0, q1, q2, q3, q4, q5, q6]) rfl ⟨_, _, rfl, ?_, ?_⟩
    · simp only [World.size_setCell]
      refine (StrsOwn.fr HS.out (lo2 := w.heap.size) (hi2 := w.heap.size + 2) ?_ (Nat.le_refl _) (by omega)).mono (by omega) (Nat.le_refl _)
      iterate 8 refine Fr.setCell ?_ (by simp; try omega) (by simp; try omega) _
      exact Fr.refl _ _ _
    · refine hB.trans (Fr.below (lo := w.heap.size) (hi := w.heap.size + 2) ?_ (Nat.le_refl _) hB.size)
      iterate 8 refine Fr.setCell ?_ (by simp; try omega) (by simp; try omega) _
      exact Fr.refl _ _ _
theorem lit_int {a b : Int} (h : (DataW.lit (.int .i64 a) : DataW Unit) = .lit (.int .i64 b)) : a = b := by cases h; rfl
def ob0 : Ob := ⟨⟨#[]⟩, ⟨#[]⟩, 0, 0, ⟨#[]⟩, false, 0, fun _ => ⟨#[]⟩⟩
def fndOb (x : Nat → Ob) (a b : ByteArray) (n : Nat) : Ob := match fnd x a b n with | some i => x i | none => ob0
def fndIs (x : Nat → Ob) (a b : ByteArray) (n : Nat) : Bool := (fnd x a b n).isSome
theorem fnd_keep {x : Nat → Ob} {a b : ByteArray} {k i : Nat} (h : fnd x a b k = some i) : ∀ {n : Nat}, k ≤ n → fnd x a b n = some i := by
  intro n hn
  induction n with
  | zero => have : k = 0 := by omega
            subst this; exact h
  | succ m ih => rcases Nat.lt_or_ge m k with h1 | h1
                 · have : k = m + 1 := by omega
                   subst this; exact h
                 · exact fnd_some (ih h1)
theorem toList_inj' {a b : ByteArray} (h : a.toList = b.toList) : a = b := by
  have h1 : a.data.toList = b.data.toList := by simpa [ByteArray.toList_eq] using h
  cases a; cases b
  simp at h1
  exact congrArg ByteArray.mk h1
set_option maxRecDepth 100000 in
set_option maxHeartbeats 1000000 in
theorem specFind_any (now floor : Int) (n : Nat) (x : Nat → Ob) (a1 a2 a3 : Option Addr) (c1 n2 c2 n3 c3 : Nat) (ki na : ByteArray) (w : World) (lo hi : Nat) (hhi : hi ≤ w.heap.size) (hl : (n : Int) ≤ 1099511627776) (hf : ∀ i, i < n → ObFit (x i)) (hc : ObjsIn w lo hi a1 n x) :
    Calls Tryz.prog 80 #[.agg #[.int .i64 now, .int .i64 floor, .slice a1 n c1, .slice a2 n2 c2, .slice a3 n3 c3], .string ki, .string na] w fun e w' => ∃ ad' cap',
      e = .returned (.tuple #[.agg #[.string (fndOb x ki na n).kind, .string (fndOb x ki na n).name, .int .i64 (fndOb x ki na n).ver, .int .i64 (fndOb x ki na n).born, .string (fndOb x ki na n).text, .bool (fndOb x ki na n).ending, .slice ad' (fndOb x ki na n).hn cap'], .bool (fndIs x ki na n)]) ∧
      StrsOwn w' w.heap.size w'.heap.size ad' (fndOb x ki na n).hn (fndOb x ki na n).hs ∧ Below w.heap.size w w' := by
  have hB0 : ∀ o1 o2 : Obj, Below w.heap.size w ((w.alloc o1).alloc o2) := fun o1 o2 => ((Below.refl _ _).alloc (Nat.le_refl _) _).alloc (by simp) _
  have HB := hid hB0
  clear hB0
  go_enter Tryz.func80, Tryz.ntmps80
  go_wp2
  go_loopw [8] (fun i wr => ∃ k : Nat, k ≤ n ∧ i = .int .i64 k ∧ fnd x ki na k = none ∧ wr = (w.alloc (.cells #[.int .i64 now, .int .i64 floor, .slice a1 n c1, .slice a2 n2 c2, .slice a3 n3 c3] 26)).alloc (.cells #[.string ⟨#[]⟩, .string ⟨#[]⟩, .int .i64 0, .int .i64 0, .string ⟨#[]⟩, .bool false, .slice none 0 0] 38)) (fun i _ => n - (intOf i).toNat)
  case atStart => exact ⟨0, Nat.zero_le _, rfl, rfl, rfl⟩
  case round =>
    obtain ⟨k, hk, rfl, hfd, rfl⟩ := hrel
    by_cases hkn : k < n
    · obtain ⟨b, off, ah, ch, rfl, hlo, hbh, hcx, hsx⟩ := hc k hkn
      have hfi := (hf k hkn).h
      obtain ⟨d0, d1, d2, d3, d4, d5, d6⟩ := hcx.below (HB.out (.cells #[.int .i64 now, .int .i64 floor, .slice (some ⟨b, off, none⟩) n c1, .slice a2 n2 c2, .slice a3 n3 c3] 26) (.cells #[.string ⟨#[]⟩, .string ⟨#[]⟩, .int .i64 0, .int .i64 0, .string ⟨#[]⟩, .bool false, .slice none 0 0] 38)) (by omega)
      have HF := hid hfd
      clear hc hf hcx hfd
      go_wp2_with fail
      · have hh : (x k).kind = ki ∧ (x k).name = na := ⟨toList_inj' (by assumption), toList_inj' (by have h9 : ((x k).name.toList == na.toList) = true := (by assumption); exact eq_of_beq h9)⟩
        have HF2 := hid (fnd_hit HF.out hh)
        have HN := hid (fnd_keep HF2.out (show k + 1 ≤ n by omega))
        clear hh HF HF2
        refine (specOb_any (x k) ah ch _ lo hi (by simp; omega) hfi (hsx.below (HB.out _ _) hhi)).mono ?_
        rintro e w1 ⟨ah', ch', rfl, ho1, hb1⟩
        have hB1 : Below w.heap.size w w1 := (HB.out _ _).trans (hb1.mono (by simp; omega))
        obtain ⟨A0, A1, F0, F1⟩ := two_cell hb1
        have q0 := A1 0
        have q1 := A1 1
        have q2 := A1 2
        have q3 := A1 3
        have q4 := A1 4
        have q5 := A1 5
        have q6 := A1 6
        have hz := hb1.size
        simp only [List.getElem?_toArray, List.getElem?_cons_succ, List.getElem?_cons_zero] at q0 q1 q2 q3 q4 q5 q6
        simp only [World.size_alloc] at ho1 hz
        have HO := hid ho1
        clear A0 A1 F0 hb1 ho1 d0 d1 d2 d3 d4 d5 d6 hsx
        go_wp2
        have e1 : fndOb x ki na n = x k := by unfold fndOb; rw [HN.out]
        have e2 : fndIs x ki na n = true := by unfold fndIs; rw [HN.out]; rfl
        rw [e1, e2]
        refine bodyPost_ret (v := .tuple #[.agg #[.string (x k).kind, .string (x k).name, .int .i64 (x k).ver, .int .i64 (x k).born, .string (x k).text, .bool (x k).ending, .slice ah' (x k).hn ch'], .bool true]) (by simp [results, Tryz.results80, go_sem, q0, q1, q2, q3, q4, q5, q6]) rfl ⟨ah', ch', rfl, ?_, ?_⟩
        · simp only [World.size_setCell]
          refine (StrsOwn.fr HO.out (lo2 := w.heap.size) (hi2 := w.heap.size + 2) ?_ (Nat.le_refl _) (by omega)).mono (by omega) (Nat.le_refl _)
          iterate 7 refine Fr.setCell ?_ (by simp; try omega) (by simp; try omega) _
          exact Fr.refl _ _ _
        · refine hB1.trans (Fr.below (lo := w.heap.size) (hi := w.heap.size + 2) ?_ (Nat.le_refl _) hB1.size)
          iterate 7 refine Fr.setCell ?_ (by simp; try omega) (by simp; try omega) _
          exact Fr.refl _ _ _
      · have hh : ¬ ((x k).kind = ki ∧ (x k).name = na) := fun e => by
          have h9 : ((x k).name.toList == na.toList) = false := by assumption
          rw [e.2] at h9
          simp at h9
        go_roundw
        case rel => exact ⟨k + 1, by omega, by go_num, fnd_miss HF.out hh, by trivial⟩
        case measure => simp [intOf]; omega
      · have hh : ¬ ((x k).kind = ki ∧ (x k).name = na) := fun e => by
          have h9 : ¬ (x k).kind.toList = ki.toList := by assumption
          exact h9 (by rw [e.1])
        go_roundw
        case rel => exact ⟨k + 1, by omega, by go_num, fnd_miss HF.out hh, by trivial⟩
        case measure => simp [intOf]; omega
    · have : k = n := by omega
      subst this
      have HF := hid hfd
      clear hc hf hfd
      go_wp2
      have e1 : fndOb x ki na k = ob0 := by unfold fndOb; rw [HF.out]
      have e2 : fndIs x ki na k = false := by unfold fndIs; rw [HF.out]; rfl
      rw [e1, e2]
      refine bodyPost_ret (v := .tuple #[.agg #[.string ⟨#[]⟩, .string ⟨#[]⟩, .int .i64 0, .int .i64 0, .string ⟨#[]⟩, .bool false, .slice none 0 0], .bool false]) (by simp [results, Tryz.results80, go_sem]) rfl ⟨none, 0, rfl, ?_, ?_⟩
      · intro j hj; exact absurd hj (Nat.not_lt_zero _)
      · exact HB.out _ _
end Go.Proofs.YtkfbclopkgnacaaGreatDoor
namespace Go.Proofs.YtkfbclopkgnacaaGreatDoor
open Go.RowKit Go.Maps
/-- the last of the first n changes of this kind and name -/
def lst (h : Nat → Ch) (a b : ByteArray) : Nat → Option Nat
  | 0 => none
  | n + 1 => if (h n).ob.kind = a ∧ (h n).ob.name = b then some n else lst h a b n
theorem lst_hit {h : Nat → Ch} {a b : ByteArray} {n : Nat} (h2 : (h n).ob.kind = a ∧ (h n).ob.name = b) : lst h a b (n + 1) = some n := by unfold lst; exact if_pos h2
theorem lst_miss {h : Nat → Ch} {a b : ByteArray} {n : Nat} (h2 : ¬ ((h n).ob.kind = a ∧ (h n).ob.name = b)) : lst h a b (n + 1) = lst h a b n := by simp only [lst]; exact if_neg h2
theorem lst_lt {h : Nat → Ch} {a b : ByteArray} : ∀ {n i : Nat}, lst h a b n = some i → i < n ∧ (h i).ob.kind = a ∧ (h i).ob.name = b
  | 0, _, e => by cases e
  | n + 1, i, e => by
    by_cases h2 : (h n).ob.kind = a ∧ (h n).ob.name = b
    · rw [lst_hit h2] at e; cases e; exact ⟨Nat.lt_succ_self _, h2⟩
    · rw [lst_miss h2] at e; have := lst_lt e; exact ⟨by omega, this.2⟩
/-- the map D tells where each kind and name stands last, among the first n -/
def LTold (h : Nat → Ch) (n : Nat) (D : DataW Unit) : Prop := ∀ a b : ByteArray, a.size ≤ maxLen → b.size ≤ maxLen →
  (∀ i, lst h a b n = some i → Maps.has D (kl a b) = true ∧ D.atKey (kl a b) (.lit (.int .i64 0)) = .lit (.int .i64 i)) ∧ (lst h a b n = none → Maps.has D (kl a b) = false)
theorem ltold_start (h : Nat → Ch) : LTold h 0 (.map []) := fun a b _ _ => ⟨fun i h => (by cases h), fun _ => rfl⟩
theorem ltold_put {h : Nat → Ch} {n : Nat} {D : DataW Unit} (ht : LTold h n D) (hD : IsMap D) (hk : (h n).ob.kind.size ≤ maxLen) (hn : (h n).ob.name.size ≤ maxLen) : LTold h (n + 1) (D.put (kl (h n).ob.kind (h n).ob.name) (.lit (.int .i64 n))) := fun a b ha hb => by
  by_cases hh : (h n).ob.kind = a ∧ (h n).ob.name = b
  · obtain ⟨rfl, rfl⟩ := hh
    refine ⟨fun j hj => ?_, fun hj => ?_⟩
    · rw [lst_hit ⟨rfl, rfl⟩] at hj
      cases hj
      exact ⟨has_put_same hD (kl_key _ _ hk hn) _, atKey_put_same hD (kl_key _ _ hk hn) _ _⟩
    · rw [lst_hit ⟨rfl, rfl⟩] at hj; cases hj
  · have hne : kl a b ≠ kl (h n).ob.kind (h n).ob.name := kl_ne ha hb hk hn (fun e => hh ⟨e.1.symm, e.2.symm⟩)
    rw [has_put_other hne, atKey_put_other hne, lst_miss hh]
    exact ht a b ha hb
set_option maxRecDepth 100000 in
set_option maxHeartbeats 1000000 in
theorem lastChg_any (n : Nat) (h : Nat → Ch) (ad : Option Addr) (cap : Nat) (w : World) (lo hi : Nat) (hhi : hi ≤ w.heap.size) (hl : (n : Int) ≤ 1099511627776) (hf : ∀ i, i < n → ObFit (h i).ob) (hc : ChgsIn w lo hi ad n h) :
    Calls Tryz.prog 101 #[.slice ad n cap] w fun e w' => ∃ D : DataW Unit, e = .returned (.map (some w.heap.size)) ∧ w'.ownsMap Tryz.prog 118 (plainElem Tryz.prog 3) w.heap.size n D ∧ LTold h n D ∧ Below w.heap.size w w' := by
  have hmm := run_makeMap_hint n w
  go_enter Tryz.func101, Tryz.ntmps101
  go_wp2_with fail
  go_loopw [11] (fun i wr => ∃ (k : Nat) (D : DataW Unit), k ≤ n ∧ i = .int .i64 k ∧ Below w.heap.size w wr ∧ wr.ownsMap Tryz.prog 118 (plainElem Tryz.prog 3) w.heap.size k D ∧ LTold h k D) (fun i _ => n - (intOf i).toNat)
  case atStart => exact ⟨0, .map [], Nat.zero_le _, rfl, below_alloc _ _, World.ownsMap_made _ _ _ _, ltold_start h⟩
  case round =>
    obtain ⟨k, D, hk, rfl, hb, hown, htold⟩ := hrel
    clear hmm
    by_cases hkn : k < n
    · obtain ⟨b, off, ah, ch, rfl, hlo, hbh, hcx, hsx⟩ := hc k hkn
      obtain ⟨fk, fn, _, _, _⟩ := hf k hkn
      have hsk : (h k).ob.kind.size ≤ maxLen := by unfold maxLen; omega
      have hsn : (h k).ob.name.size ≤ maxLen := by unfold maxLen; omega
      obtain ⟨d0, d1, d2, d3, d4, d5, d6, d7, d8⟩ := hcx.below hb (by omega)
      clear hc hf hcx hsx
      have hky := hkey (h k).ob.kind (h k).ob.name hsk hsn
      have HT := hid (ltold_put htold hown.isMap hsk hsn)
      have HOW := hid hown
      clear htold hown
      go_wp2_with fail
      refine (keyOf_any (h k).ob ah ch _).mono ?_
      rintro e w1 ⟨rfl, hb1⟩
      have hown1 := hid (ownsMap_below (HOW.out.alloc _) hb1 (by simp; have := HOW.out.lt; omega))
      have hB1 := (hb.alloc hb.size (.cells #[.int .i64 (h k).ver, .bool (h k).gone, .string (h k).ob.kind, .string (h k).ob.name, .int .i64 (h k).ob.ver, .int .i64 (h k).ob.born, .string (h k).ob.text, .bool (h k).ob.ending, .slice ah (h k).ob.hn ch] 41)).trans (hb1.mono (by simp; have := hb.size; omega))
      clear hb1 d0 d1 d2 d3 d4 d5 d6 d7 d8 HOW
      go_wp2_with (at_mapUpdate; go_must (refine wpList_mapUpdate_own _ rfl _ _ _ 116 rfl 118 3 Tryz.law118 Tryz.underlying116 _ w.heap.size k D rfl hown1.out (by unfold maxLen; omega) _ _ _ rfl rfl hky _ [] (plainElem_int Tryz.underlying3 (WalkArith.wf_i64 (by omega))) ?_; intro w3 hown3 hgrow3))
      go_roundw
      case rel => exact ⟨k + 1, _, by omega, by go_num, hB1.grown hgrow3 hB1.size (fun j hj => by cases hj; exact Nat.le_refl _), hown3, HT.out⟩
      case measure => simp [intOf]; omega
    · have : k = n := by omega
      subst this
      have HR := hid (And.intro hown htold)
      clear hc hf hown htold
      go_wp2
      go_ret
      exact ⟨D, rfl, HR.out.1, HR.out.2, hb⟩
end Go.Proofs.YtkfbclopkgnacaaGreatDoor
namespace Go.Proofs.YtkfbclopkgnacaaGreatDoor
open Go.RowKit Go.Maps
def livB (floor : Int) (h : Nat → Ch) (j : Nat) : Bool := match lst h (h j).ob.kind (h j).ob.name j with | none => begB (h j) floor | some i => folB (h i) (h j)
set_option maxRecDepth 100000 in
set_option maxHeartbeats 1000000 in
theorem livesFit_any (now floor : Int) (n : Nat) (h : Nat → Ch) (a1 a2 a3 : Option Addr) (n1 c1 c2 n3 c3 : Nat) (w : World) (lo hi : Nat) (hhi : hi ≤ w.heap.size) (hl : (n : Int) ≤ 1099511627776) (hf : ∀ i, i < n → ObFit (h i).ob) (hc : ChgsIn w lo hi a2 n h) :
    Calls Tryz.prog 67 #[.agg #[.int .i64 now, .int .i64 floor, .slice a1 n1 c1, .slice a2 n c2, .slice a3 n3 c3]] w fun e w' => e = .returned (.bool (allTo (livB floor h) n)) ∧ Below w.heap.size w w' := by
  have hmm := run_makeMap_hint n
  go_enter Tryz.func67, Tryz.ntmps67
  go_wp2_with fail
  go_loopw [16] (fun i wr => ∃ (k : Nat) (D : DataW Unit), k ≤ n ∧ i = .int .i64 k ∧ Below (w.heap.size + 1) (w.alloc (.cells #[.int .i64 now, .int .i64 floor, .slice a1 n1 c1, .slice a2 n c2, .slice a3 n3 c3] 26)) wr ∧ wr.ownsMap Tryz.prog 118 (plainElem Tryz.prog 3) (w.heap.size + 1) k D ∧ LTold h k D ∧ ∀ j, j < k → livB floor h j = true) (fun i _ => n - (intOf i).toNat)
  case atStart =>
    have h9 := World.ownsMap_made (H := Unit) (w.alloc (.cells #[.int .i64 now, .int .i64 floor, .slice a1 n1 c1, .slice a2 n c2, .slice a3 n3 c3] 26)) Tryz.prog 118 (plainElem Tryz.prog 3)
    rw [World.size_alloc] at h9
    exact ⟨0, .map [], Nat.zero_le _, rfl, by simpa using below_alloc' (w.alloc _) _, h9, ltold_start h, fun j hj => absurd hj (Nat.not_lt_zero _)⟩
  case round =>
    obtain ⟨k, D, hk, rfl, hb, hown, htold, hall⟩ := hrel
    clear hmm
    have hBw : Below w.heap.size w wr := (below_alloc' _ _).trans (hb.mono (by omega))
    have hsz : w.heap.size + 1 ≤ wr.heap.size := by have := hb.size; simpa using this
    have hlt := hown.lt
    by_cases hkn : k < n
    · obtain ⟨b, off, ah, ch, rfl, hlo, hbh, hcx, hsx⟩ := hc k hkn
      obtain ⟨fk, fn, _, _, _⟩ := hf k hkn
      have hsk : (h k).ob.kind.size ≤ maxLen := by unfold maxLen; omega
      have hsn : (h k).ob.name.size ≤ maxLen := by unfold maxLen; omega
      obtain ⟨d0, d1, d2, d3, d4, d5, d6, d7, d8⟩ := hcx.below hBw (by omega)
      have HC := hid hc
      have HA := hid hall
      have hky := hkey (h k).ob.kind (h k).ob.name hsk hsn
      have HT := hid (ltold_put htold hown.isMap hsk hsn)
      have HOW := hid hown
      clear hc hf hcx hsx hall hown
      cases hfd : lst h (h k).ob.kind (h k).ob.name k with
      | none =>
        have hhas := (htold _ _ hsk hsn).2 hfd
        have HL := hid (show livB floor h k = begB (h k) floor by unfold livB; rw [hfd])
        clear htold hfd
        go_wp2_with fail
        refine (keyOf_any (h k).ob ah ch _).mono ?_
        rintro e w1 ⟨rfl, hb1⟩
        have hown1 := hid (ownsMap_below (HOW.out.alloc _) hb1 (by simp; have := HOW.out.lt; omega))
        have hB1 : Below (w.heap.size + 1) (w.alloc (.cells #[.int .i64 now, .int .i64 floor, .slice a1 n1 c1, .slice (some ⟨b, off, none⟩) n c2, .slice a3 n3 c3] 26)) w1 := (hb.alloc hsz (.cells #[.int .i64 (h k).ver, .bool (h k).gone, .string (h k).ob.kind, .string (h k).ob.name, .int .i64 (h k).ob.ver, .int .i64 (h k).ob.born, .string (h k).ob.text, .bool (h k).ob.ending, .slice ah (h k).ob.hn ch] 41)).trans (hb1.mono (by simp; omega))
        have hz1 : wr.heap.size < w1.heap.size := by have := hb1.size; simp at this; omega
        have p0 := box_cell hb1 0
        have p1 := box_cell hb1 1
        have p2 := box_cell hb1 2
        have p3 := box_cell hb1 3
        have p4 := box_cell hb1 4
        have p5 := box_cell hb1 5
        have p6 := box_cell hb1 6
        have p7 := box_cell hb1 7
        have p8 := box_cell hb1 8
        simp only [List.getElem?_toArray, List.getElem?_cons_succ, List.getElem?_cons_zero] at p0 p1 p2 p3 p4 p5 p6 p7 p8
        have o1 := box_cell (by simpa using hB1) 1
        have o3 := box_cell (by simpa using hB1) 3
        simp only [List.getElem?_toArray, List.getElem?_cons_succ, List.getElem?_cons_zero] at o1 o3
        clear hb1 d0 d1 d2 d3 d4 d5 d6 d7 d8 HOW
        go_wp2_with (at_lookup; go_must (refine wpList_lookup_own_ok_int _ rfl _ _ 116 rfl 118 3 .i64 Tryz.law118 Tryz.underlying116 Tryz.underlying3 (zero3 _) (w.heap.size + 1) k D rfl (hown1.out.alloc _) _ _ rfl hky ?_; intro c hat hwc))
        have hne : Nonempty (GW (w1.alloc (.cells #[.string (h k).ob.kind, .string (h k).ob.name] 118))) := ⟨⟨_, Below.refl _ _⟩⟩
        refine wp_region_grow (by kernel_rfl) (by kernel_rfl) ?_
        repeat (go_big_quiet_step (fail))
        refine wpQuiet_nil ?_
        rintro w2 ⟨u, hu⟩
        have hw2 : Below (w1.heap.size + 1) (w1.alloc (.cells #[.string (h k).ob.kind, .string (h k).ob.name] 118)) w2 := by have h9 := hu ▸ u.prop; simpa using h9
        clear hu u hne
        have hz2 : w1.heap.size + 1 ≤ w2.heap.size := by have := hw2.size; simpa using this
        have hB2 : Below (w.heap.size + 1) (w.alloc (.cells #[.int .i64 now, .int .i64 floor, .slice a1 n1 c1, .slice (some ⟨b, off, none⟩) n c2, .slice a3 n3 c3] 26)) w2 := (hB1.alloc (by omega) _).trans (hw2.mono (by omega))
        have hown2 := hid (ownsMap_below (hown1.out.alloc _) hw2 (by omega))
        have r0 := (hw2.cell (p := ⟨wr.heap.size, 0, none⟩) (by show wr.heap.size < _; omega)).trans ((World.cell?_alloc_past _ _ _ hz1).trans p0)
        have r1 := (hw2.cell (p := ⟨wr.heap.size, 1, none⟩) (by show wr.heap.size < _; omega)).trans ((World.cell?_alloc_past _ _ _ hz1).trans p1)
        have r2 := (hw2.cell (p := ⟨wr.heap.size, 2, none⟩) (by show wr.heap.size < _; omega)).trans ((World.cell?_alloc_past _ _ _ hz1).trans p2)
        have r3 := (hw2.cell (p := ⟨wr.heap.size, 3, none⟩) (by show wr.heap.size < _; omega)).trans ((World.cell?_alloc_past _ _ _ hz1).trans p3)
        have r4 := (hw2.cell (p := ⟨wr.heap.size, 4, none⟩) (by show wr.heap.size < _; omega)).trans ((World.cell?_alloc_past _ _ _ hz1).trans p4)
        have r5 := (hw2.cell (p := ⟨wr.heap.size, 5, none⟩) (by show wr.heap.size < _; omega)).trans ((World.cell?_alloc_past _ _ _ hz1).trans p5)
        have r6 := (hw2.cell (p := ⟨wr.heap.size, 6, none⟩) (by show wr.heap.size < _; omega)).trans ((World.cell?_alloc_past _ _ _ hz1).trans p6)
        have r7 := (hw2.cell (p := ⟨wr.heap.size, 7, none⟩) (by show wr.heap.size < _; omega)).trans ((World.cell?_alloc_past _ _ _ hz1).trans p7)
        have r8 := (hw2.cell (p := ⟨wr.heap.size, 8, none⟩) (by show wr.heap.size < _; omega)).trans ((World.cell?_alloc_past _ _ _ hz1).trans p8)
        have q0 : w2.cell? ⟨w1.heap.size, 0, none⟩ = some (.string (h k).ob.kind) := (hw2.cell (p := ⟨w1.heap.size, 0, none⟩) (by show w1.heap.size < _; omega)).trans (World.cell?_alloc_new _ _ _ _)
        have q1 : w2.cell? ⟨w1.heap.size, 1, none⟩ = some (.string (h k).ob.name) := (hw2.cell (p := ⟨w1.heap.size, 1, none⟩) (by show w1.heap.size < _; omega)).trans (World.cell?_alloc_new _ _ _ _)
        have o12 : w2.cell? ⟨w.heap.size, 1, none⟩ = some (.int .i64 floor) := (hw2.cell (p := ⟨w.heap.size, 1, none⟩) (by show w.heap.size < _; omega)).trans ((World.cell?_alloc_past _ _ _ (by show w.heap.size < _; omega)).trans o1)
        clear p0 p1 p2 p3 p4 p5 p6 p7 p8 o1 o3 hw2 hat hwc hown1
        cases hbg : begB (h k) floor with
        | false =>
          have HE := hid (show allTo (livB floor h) n = false from allTo_no hkn (HL.out.trans hbg))
          go_wp2_with (go_at_call 100; refine (begin_any (h k) floor ah ch _).mono ?_; rintro e w3 ⟨rfl, hb3⟩; rw [hbg])
          go_ret
          exact ⟨ret_bool HE.out.symm, (below_alloc' _ _).trans ((hB2.mono (by omega)).trans (hb3.mono (by omega)))⟩
        | true =>
          have HN := hid (HL.out.trans hbg)
          go_wp2_with (first | (go_at_call 100; refine (begin_any (h k) floor ah ch _).mono ?_; rintro e w3 ⟨rfl, hb3⟩; rw [hbg]; have s0 := (hb3.cell (p := ⟨w1.heap.size, 0, none⟩) (by show w1.heap.size < _; omega)).trans q0; have s1 := (hb3.cell (p := ⟨w1.heap.size, 1, none⟩) (by show w1.heap.size < _; omega)).trans q1; have hown3 := hid (ownsMap_below hown2.out hb3 (by omega)); have hB3 := hB2.trans (hb3.mono (by omega)); have hz3 := hb3.size; clear hb3) | (at_mapUpdate; go_must (refine wpList_mapUpdate_own _ rfl _ _ _ 116 rfl 118 3 Tryz.law118 Tryz.underlying116 _ (w.heap.size + 1) k D rfl hown3.out (by unfold maxLen; omega) _ _ _ rfl rfl hky _ [] (plainElem_int Tryz.underlying3 (WalkArith.wf_i64 (by omega))) ?_; intro w4 hown4 hgrow4)))
          go_roundw
          case rel => exact ⟨k + 1, _, by omega, by go_num, hB3.grown hgrow4 (by omega) (fun j hj => by cases hj; omega), hown4, HT.out, fun j hj => (by
            rcases Nat.lt_or_ge j k with h3 | h3
            · exact HA.out j h3
            · have : j = k := by omega
              subst this; exact HN.out)⟩
          case measure => simp [intOf]; omega
      | some i =>
        obtain ⟨hhas, hatk⟩ := (htold _ _ hsk hsn).1 i hfd
        have HL := hid (show livB floor h k = folB (h i) (h k) by unfold livB; rw [hfd])
        have hik := (lst_lt hfd).1
        have HAT := hid hatk
        clear htold hfd hatk
        obtain ⟨b', off', ah', ch', e, hlo', hbh', hcx', _⟩ := HC.out i (by omega)
        cases e
        have hin : (i : Int) < n := by omega
        go_wp2_with fail
        refine (keyOf_any (h k).ob ah ch _).mono ?_
        rintro e w1 ⟨rfl, hb1⟩
        have hown1 := hid (ownsMap_below (HOW.out.alloc _) hb1 (by simp; have := HOW.out.lt; omega))
        have hB1 : Below (w.heap.size + 1) (w.alloc (.cells #[.int .i64 now, .int .i64 floor, .slice a1 n1 c1, .slice (some ⟨b, off, none⟩) n c2, .slice a3 n3 c3] 26)) w1 := (hb.alloc hsz (.cells #[.int .i64 (h k).ver, .bool (h k).gone, .string (h k).ob.kind, .string (h k).ob.name, .int .i64 (h k).ob.ver, .int .i64 (h k).ob.born, .string (h k).ob.text, .bool (h k).ob.ending, .slice ah (h k).ob.hn ch] 41)).trans (hb1.mono (by simp; omega))
        have hz1 : wr.heap.size < w1.heap.size := by have := hb1.size; simp at this; omega
        have p0 := box_cell hb1 0
        have p1 := box_cell hb1 1
        have p2 := box_cell hb1 2
        have p3 := box_cell hb1 3
        have p4 := box_cell hb1 4
        have p5 := box_cell hb1 5
        have p6 := box_cell hb1 6
        have p7 := box_cell hb1 7
        have p8 := box_cell hb1 8
        simp only [List.getElem?_toArray, List.getElem?_cons_succ, List.getElem?_cons_zero] at p0 p1 p2 p3 p4 p5 p6 p7 p8
        have o1 := box_cell (by simpa using hB1) 1
        have o3 := box_cell (by simpa using hB1) 3
        simp only [List.getElem?_toArray, List.getElem?_cons_succ, List.getElem?_cons_zero] at o1 o3
        clear hb1 d0 d1 d2 d3 d4 d5 d6 d7 d8 HOW
        go_wp2_with (at_lookup; go_must (refine wpList_lookup_own_ok_int _ rfl _ _ 116 rfl 118 3 .i64 Tryz.law118 Tryz.underlying116 Tryz.underlying3 (zero3 _) (w.heap.size + 1) k D rfl (hown1.out.alloc _) _ _ rfl hky ?_; intro c hat hwc; have hci : c = (i : Int) := lit_int (hat.symm.trans HAT.out); subst hci; clear hat hwc))
        have hBw1 : Below w.heap.size w (w1.alloc (.cells #[.string (h k).ob.kind, .string (h k).ob.name] 118)) := (below_alloc' _ _).trans ((hB1.alloc (by omega) _).mono (by omega))
        obtain ⟨f0, f1, f2, f3, f4, f5, f6, f7, f8⟩ := hcx'.below hBw1 (by omega)
        have y0 := subcell f0 (by simp; omega)
        have y1 := subcell f1 (by simp; omega)
        have y2 := subcell f2 (by simp; omega)
        have y3 := subcell f3 (by simp; omega)
        have y4 := subcell f4 (by simp; omega)
        have y5 := subcell f5 (by simp; omega)
        have y6 := subcell f6 (by simp; omega)
        have y7 := subcell f7 (by simp; omega)
        have y8 := subcell f8 (by simp; omega)
        have x0 := subcell ((World.cell?_alloc_past (w := w1) (.cells #[.string (h k).ob.kind, .string (h k).ob.name] 118) _ _ hz1).trans p0) (by simp; omega)
        have x1 := subcell ((World.cell?_alloc_past (w := w1) (.cells #[.string (h k).ob.kind, .string (h k).ob.name] 118) _ _ hz1).trans p1) (by simp; omega)
        have x2 := subcell ((World.cell?_alloc_past (w := w1) (.cells #[.string (h k).ob.kind, .string (h k).ob.name] 118) _ _ hz1).trans p2) (by simp; omega)
        have x3 := subcell ((World.cell?_alloc_past (w := w1) (.cells #[.string (h k).ob.kind, .string (h k).ob.name] 118) _ _ hz1).trans p3) (by simp; omega)
        have x4 := subcell ((World.cell?_alloc_past (w := w1) (.cells #[.string (h k).ob.kind, .string (h k).ob.name] 118) _ _ hz1).trans p4) (by simp; omega)
        have x5 := subcell ((World.cell?_alloc_past (w := w1) (.cells #[.string (h k).ob.kind, .string (h k).ob.name] 118) _ _ hz1).trans p5) (by simp; omega)
        have x6 := subcell ((World.cell?_alloc_past (w := w1) (.cells #[.string (h k).ob.kind, .string (h k).ob.name] 118) _ _ hz1).trans p6) (by simp; omega)
        have x7 := subcell ((World.cell?_alloc_past (w := w1) (.cells #[.string (h k).ob.kind, .string (h k).ob.name] 118) _ _ hz1).trans p7) (by simp; omega)
        have x8 := subcell ((World.cell?_alloc_past (w := w1) (.cells #[.string (h k).ob.kind, .string (h k).ob.name] 118) _ _ hz1).trans p8) (by simp; omega)
        have z3 := subcell ((World.cell?_alloc_past (w := w1) (.cells #[.string (h k).ob.kind, .string (h k).ob.name] 118) _ _ (by show w.heap.size < _; omega)).trans o3) (by simp; omega)
        have hne : Nonempty (GW (w1.alloc (.cells #[.string (h k).ob.kind, .string (h k).ob.name] 118))) := ⟨⟨_, Below.refl _ _⟩⟩
        clear f0 f1 f2 f3 f4 f5 f6 f7 f8 hcx'
        cases hfo : folB (h i) (h k) with
        | false =>
          have HE := hid (show allTo (livB floor h) n = false from allTo_no hkn (HL.out.trans hfo))
          refine wp_region_grow (by kernel_rfl) (by kernel_rfl) ?_
          repeat (go_big_quiet_step ((go_at_call 99; go_must (exact grow_of (follow_any (h i) (h k) ah' ah ch' ch _)))))
          refine wpQuiet_nil ?_
          rintro w2 ⟨u, hu⟩
          have hw2 : Below (w1.heap.size + 1) (w1.alloc (.cells #[.string (h k).ob.kind, .string (h k).ob.name] 118)) w2 := by have h9 := hu ▸ u.prop; simpa using h9
          clear hu u hne
          have hz2 : w1.heap.size + 1 ≤ w2.heap.size := by have := hw2.size; simpa using this
          have hB2 : Below (w.heap.size + 1) (w.alloc (.cells #[.int .i64 now, .int .i64 floor, .slice a1 n1 c1, .slice (some ⟨b, off, none⟩) n c2, .slice a3 n3 c3] 26)) w2 := (hB1.alloc (by omega) _).trans (hw2.mono (by omega))
          have hown2 := hid (ownsMap_below (hown1.out.alloc _) hw2 (by omega))
          clear p0 p1 p2 p3 p4 p5 p6 p7 p8 o1 o3 hw2 hown1
          go_wp2
          go_ret
          exact ⟨ret_bool HE.out.symm, (below_alloc' _ _).trans (hB2.mono (by omega))⟩
        | true =>
          have HN := hid (HL.out.trans hfo)
          refine wp_region_grow (by kernel_rfl) (by kernel_rfl) ?_
          repeat (go_big_quiet_step ((go_at_call 99; go_must (exact grow_of (follow_any (h i) (h k) ah' ah ch' ch _)))))
          refine wpQuiet_nil ?_
          rintro w2 ⟨u, hu⟩
          have hw2 : Below (w1.heap.size + 1) (w1.alloc (.cells #[.string (h k).ob.kind, .string (h k).ob.name] 118)) w2 := by have h9 := hu ▸ u.prop; simpa using h9
          clear hu u hne
          have hz2 : w1.heap.size + 1 ≤ w2.heap.size := by have := hw2.size; simpa using this
          have hB2 : Below (w.heap.size + 1) (w.alloc (.cells #[.int .i64 now, .int .i64 floor, .slice a1 n1 c1, .slice (some ⟨b, off, none⟩) n c2, .slice a3 n3 c3] 26)) w2 := (hB1.alloc (by omega) _).trans (hw2.mono (by omega))
          have hown2 := hid (ownsMap_below (hown1.out.alloc _) hw2 (by omega))
          have q0 : w2.cell? ⟨w1.heap.size, 0, none⟩ = some (.string (h k).ob.kind) := (hw2.cell (p := ⟨w1.heap.size, 0, none⟩) (by show w1.heap.size < _; omega)).trans (World.cell?_alloc_new _ _ _ _)
          have q1 : w2.cell? ⟨w1.heap.size, 1, none⟩ = some (.string (h k).ob.name) := (hw2.cell (p := ⟨w1.heap.size, 1, none⟩) (by show w1.heap.size < _; omega)).trans (World.cell?_alloc_new _ _ _ _)
          clear p0 p1 p2 p3 p4 p5 p6 p7 p8 o1 o3 hw2 hown1
          go_wp2_with (at_mapUpdate; go_must (refine wpList_mapUpdate_own _ rfl _ _ _ 116 rfl 118 3 Tryz.law118 Tryz.underlying116 _ (w.heap.size + 1) k D rfl hown2.out (by unfold maxLen; omega) _ _ _ rfl rfl hky _ [] (plainElem_int Tryz.underlying3 (WalkArith.wf_i64 (by omega))) ?_; intro w4 hown4 hgrow4))
          go_roundw
          case rel => exact ⟨k + 1, _, by omega, by go_num, hB2.grown hgrow4 (by omega) (fun j hj => by cases hj; omega), hown4, HT.out, fun j hj => (by
            rcases Nat.lt_or_ge j k with h3 | h3
            · exact HA.out j h3
            · have : j = k := by omega
              subst this; exact HN.out)⟩
          case measure => simp [intOf]; omega
    · have HE := hid (show allTo (livB floor h) n = true from allTo_iff.2 (fun i hi => hall i (by omega)))
      clear hc hf hown htold hall
      go_wp2
      go_ret
      exact ⟨ret_bool HE.out.symm, hBw⟩
end Go.Proofs.YtkfbclopkgnacaaGreatDoor
