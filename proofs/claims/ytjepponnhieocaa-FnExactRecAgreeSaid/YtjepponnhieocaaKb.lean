import Derived.RangeFuncNested
import Derived.RangeFuncBound
import Derived.RangeFuncCalls
import Derived.RangeFuncLeaves
import Derived.RangeFuncBox
import Derived.Shelf.Abstract
import Derived.Shelf.RegionOpen
import Derived.WalkKit
import Derived.OwnWalkIn
import Derived.TacticsInMore
import Derived.LoopNIn
import Derived.LoopIn
import Derived.Maps.AppendAt
import Derived.Test.YtjepponnhieocaaCg
import Derived.Test.YtjepponnhieocaaWz
import Derived.Test.YtjepponnhieocaaYsz
import Derived.OwnWalk
namespace Go.Proofs.Ytjepponnhieocaa
open Go.RowKit Go.Shelf
attribute [local go_sem] Oper.semAt_some
theorem grown_of_below {w w' : World} (h : Below w.heap.size w w') : w.grownBy w' none := ⟨h.os, h.tape, h.output, h.size, fun k hk _ => h.block k hk⟩
/-- an index of a list -/
abbrev Ix (n : Nat) := { k : Nat // k < n }
def ixs {n : Nat} (l : List (Ix n)) : List Nat := l.map (·.1)
theorem ixs_snoc {n : Nat} (l : List (Ix n)) (k : Ix n) : ixs (l ++ [k]) = ixs l ++ [k.1] := by simp [ixs]
theorem ixs_len {n : Nat} (l : List (Ix n)) : (ixs l).length = l.length := by simp [ixs]
set_option maxRecDepth 100000 in
set_option maxHeartbeats 2000000 in
theorem knownTexts_in (F : Fence) (m : Nat) (hf : F.fn 58) (hro : F.round = none) (d : Dk) (ad : Option Addr) (cap : Nat) (w : World) :
    CallsIn F m Try.prog 58 #[dkV d ad cap] w fun e w' => e = .returned (.func (.func 102) #[] #[.pointer (some ⟨w.heap.size, 0, none⟩)]) ∧ w' = w.alloc (.cells #[.int .i64 d.pr, .int .i64 d.kn, .slice ad d.n cap] 55) := by
  refine callsIn_of_wp Try.func58 rfl hf ?_ hro
  simp only [Try.ntmps58, List.size_toArray, List.length_cons, List.length_nil, Nat.reduceAdd, Nat.reduceSub, Array.replicate_succ, Array.replicate_zero, List.push_toArray, List.append_toArray, List.nil_append, List.cons_append]
  gi_wp2
  go_ret
  exact ⟨rfl, rfl⟩
set_option maxRecDepth 100000 in
set_option maxHeartbeats 4000000 in
theorem knownWalk_in (F : Fence) (m : Nat) (hcv : ∀ (k f : Nat) (args : Array Value) (w : World) (R : Ending → World → Prop), Calls Try.prog f args w R → CallsIn F k Try.prog f args w R) (hcl : F.fn 102) (hks : F.fn 103) (hro : F.round = none) (hm : 1 ≤ m) (l Bd hi : Nat) (Pk : Nat → Prop) (d : Dk) (gd cap k0 : Nat) (hk0 : d.kn = k0) (hkn : k0 ≤ d.n) (hcap : d.n ≤ cap) (hl : (d.n : Int) ≤ 1048576) (J Jx : List (Ix k0) → World → Prop)
    (W : World) (hJ : AbidesFrom W.heap.size J)
    (hY : ∀ pre x' W1, J pre W1 → pre.length < k0 → YieldAt F (m - 1) Try.prog l #[.int .i64 ((x'.1 : Int) + 1), .string (d.s x'.1).text] W1 fun e W' =>
      (e = .returned (.bool true) ∧ J (pre ++ [x']) W' ∧ FrP Pk W1 W') ∨ (e = .returned (.bool false) ∧ Jx (pre ++ [x']) W'))
    (b0 : W.cell? ⟨Bd, 0, none⟩ = some (.int .i64 d.pr)) (b1 : W.cell? ⟨Bd, 1, none⟩ = some (.int .i64 d.kn)) (b2 : W.cell? ⟨Bd, 2, none⟩ = some (.slice (some ⟨gd, 0, none⟩) d.n cap))
    (hhi : hi ≤ W.heap.size) (hPk : ∀ q, q < hi → ¬ Pk q) (hs : SlsIn W 0 hi (some ⟨gd, 0, none⟩) d.n d.s) (h0 : J [] W) :
    CallsIn F m Try.prog 102 #[.func (.yield l) #[] #[], .pointer (some ⟨Bd, 0, none⟩)] W fun e W' => (∃ v, e = .returned v) ∧
      ((∃ ys, ixs ys = List.range k0 ∧ J ys W') ∨ (∃ pre, True ∧ Jx pre W')) := by
  refine callsIn_of_wp Try.func102 rfl hcl ?_ hro
  simp only [Try.ntmps102, List.size_toArray, List.length_cons, List.length_nil, Nat.reduceAdd, Nat.reduceSub, Array.replicate_succ, Array.replicate_zero, List.push_toArray, List.append_toArray, List.nil_append, List.cons_append]
  have HS := hid hs
  have HY := hid hY
  have HK0 := hid hk0
  have hKN := hid (hcv (m - 1) _ _ _ _ (known_any d (some ⟨gd, 0, none⟩) cap W (by omega) (by omega) hcap ⟨gd, Or.inl rfl⟩))
  have hkt : d.kn.toNat = k0 := by omega
  rw [hkt] at hKN
  clear hs hY hk0 hkt
  gi_wp2_with (gi_at_call 103; go_must (refine hKN.out.mono ?_; rintro e w1 ⟨cap', rfl, hb1⟩))
  clear b0 b1 b2 hKN
  have hJ1 := hJ [] W w1 none h0 (grown_of_below hb1) (fun r e => by cases e)
  gi_loopw [8] (fun i wr => ∃ (k : Nat) (pre : List (Ix k0)), k ≤ k0 ∧ i = .int .i64 k ∧ ixs pre = List.range k ∧ J pre wr ∧ FrP Pk W wr)
    (fun i _ => k0 - (intOf i).toNat)
  case atStart => exact ⟨0, [], Nat.zero_le _, rfl, rfl, hJ1, FrP.of_below hb1⟩
  case round =>
    obtain ⟨k, pre, hkn', rfl, hpre, hJs, hf⟩ := hrel
    by_cases hlt : k < k0
    · obtain ⟨b, off, e, _, hbh, hcx⟩ := HS.out k (by omega)
      obtain ⟨rfl, rfl⟩ : gd = b ∧ 0 = off := by simpa using e
      clear e
      have hbw : Below hi W wr := hf.below hPk hhi
      obtain ⟨e0, e1⟩ := hcx.below hbw hbh
      simp only [Nat.zero_add] at e0 e1
      have hpl : pre.length < k0 := by
        have h1 := ixs_len pre
        rw [hpre, List.length_range] at h1
        omega
      have HN := hid (show ixs (pre ++ [⟨k, hlt⟩]) = List.range (k + 1) by rw [ixs_snoc, hpre, List.range_succ])
      have hgw : gd < wr.heap.size := by have := hf.size; omega
      obtain ⟨fn, tmps, assign, body, hy, hR⟩ := HY.out pre ⟨k, hlt⟩ (wr.alloc (.cells #[.int .i64 (d.s k).bal, .string (d.s k).text] 100)) (hJ pre wr _ none hJs (grown_of_below (below_alloc _ _)) (fun r e => by cases e)) hpl
      dsimp only at hy
      have HF := hid (hf.trans (FrP.of_below (P := Pk) (below_alloc wr (.cells #[.int .i64 (d.s k).bal, .string (d.s k).text] 100))))
      clear hJs hpre hcx
      gi_wp2
      refine hR.mono ?_
      rintro e W3 (⟨rfl, hJ3, hk3⟩ | ⟨rfl, hJx3⟩)
      · gi_wp2
        go_roundw
        case rel => exact ⟨k + 1, pre ++ [⟨k, hlt⟩], by omega, by go_num, HN.out, hJ3, HF.out.trans hk3⟩
        case measure => simp [intOf]; omega
      · gi_wp2
        refine bodyPost_ret (results_none rfl _ _ _) rfl ?_
        exact ⟨⟨_, rfl⟩, .inr ⟨pre ++ [⟨k, hlt⟩], trivial, hJx3⟩⟩
    · obtain rfl : k = k0 := by omega
      gi_wp2
      go_end0
      exact ⟨⟨_, rfl⟩, .inl ⟨_, hpre, hJs⟩⟩
end Go.Proofs.Ytjepponnhieocaa
namespace Go.Proofs.Ytjepponnhieocaa
open Go.RowKit Go.Shelf
attribute [local go_sem] Oper.semAt_some
/-- a list of texts that is being built by appends -/
structure BdS (w : World) (base : Nat) (v : Value) (k : Nat) (x : Nat → ByteArray) : Prop where
  row : ∃ c, w.ownsRow base 9 1 v k (rowCells (k * 1) c) ∧ ∀ i, i < k → c i = .string (x i)
theorem BdS.grow {w w' : World} {base : Nat} {v : Value} {k : Nat} {x : Nat → ByteArray} (h : BdS w base v k x) (hf : Below w.heap.size w w') : BdS w' base v k x :=
  ⟨by obtain ⟨c, r, e⟩ := h.row; exact ⟨c, ownsRow_fr r (FrP.of_below (P := fun _ => False) hf) (fun _ _ h => h), e⟩⟩
theorem BdS.app {w' : World} {base : Nat} {v' : Value} {k : Nat} {x : Nat → ByteArray} {c : Nat → Value} (hat : ∀ i, i < k → c i = .string (x i)) (ho : w'.ownsRow base 9 1 v' (k + 1) (rowCells (k * 1) c ++ [.string (x k)])) : BdS w' base v' (k + 1) x := by
  refine ⟨⟨appF c (k * 1) [.string (x k)], ?_, fun i hi => ?_⟩⟩
  · rw [rowCells_append] at ho
    have e : k * 1 + ([.string (x k)] : List Value).length = (k + 1) * 1 := by show k * 1 + 1 = _; omega
    rw [e] at ho
    exact ho
  · by_cases e : i = k
    · subst e
      have := appF_zero c (i * 1) [.string (x i)]
      simpa using this
    · exact (if_pos (by omega)).trans (hat i (by omega))
theorem BdS.own {w : World} {base : Nat} {v : Value} {n : Nat} {x : Nat → ByteArray} (h : BdS w base v n x) : ∃ ad cap g, v = .slice ad n cap ∧ StrsOwn w g (g + 1) ad n x ∧ (n ≠ 0 → base ≤ g ∧ g < w.heap.size) := by
  obtain ⟨c, ho, hat⟩ := h.row
  by_cases hn : 0 < n
  · obtain ⟨g, cap, cur, rfl, h1, h2⟩ := ho.2.resolve_left (fun e => by omega)
    have hr := row_of_own ho
    refine ⟨_, cap, g, rfl, fun i hi => ⟨g, 0, rfl, Nat.le_refl _, Nat.lt_succ_self _, ?_, hr.free _⟩, fun _ => ho.lt g rfl⟩
    rw [Nat.zero_add]
    exact (hr.cell i (by omega)).trans (congrArg some (hat i hi))
  · obtain rfl : n = 0 := by omega
    rcases ho.2 with ⟨rfl, _⟩ | ⟨g, cap, cur, rfl, h1, h2⟩
    · exact ⟨none, 0, 0, rfl, fun i hi => absurd hi (Nat.not_lt_zero _), fun h => absurd rfl h⟩
    · exact ⟨_, cap, 0, rfl, fun i hi => absurd hi (Nat.not_lt_zero _), fun h => absurd rfl h⟩
/-- what RecBook answers -/
def bkN (r : Rc) : Nat := if rcB r then r.dk.kn.toNat else 0
def bkX (r : Rc) (i : Nat) : ByteArray := (r.dk.s i).text
theorem getD_snoc_lt {l : List Nat} {a i : Nat} (h : i < l.length) : (l ++ [a]).getD i 0 = l.getD i 0 := by simp [List.getD_eq_getElem?_getD, List.getElem?_append_left h]
theorem getD_snoc_eq {l : List Nat} {a : Nat} : (l ++ [a]).getD l.length 0 = a := by simp [List.getD_eq_getElem?_getD]
theorem BdS.congr {w : World} {base : Nat} {v : Value} {k : Nat} {x y : Nat → ByteArray} (h : BdS w base v k x) (e : ∀ i, i < k → x i = y i) : BdS w base v k y :=
  ⟨by obtain ⟨c, r, f⟩ := h.row; exact ⟨c, r, fun i hi => (f i hi).trans (by rw [e i hi])⟩⟩
theorem not_cells {w : World} {b off : Nat} {v : Value} (h : w.cell? ⟨b, off, none⟩ = some v) {o : Obj} (ho : w.heap[b]? = some o) : o.isCells = true := by
  unfold World.cell? at h
  simp only [ho] at h
  cases o <;> first | rfl | (simp at h)
theorem BdS.turn {w w' : World} {base : Nat} {v : Value} {k : Nat} {x : Nat → ByteArray} {row : Option Nat} (h : BdS w base v k x) (hg : w.grownBy w' row) (hr : ∀ r, row = some r → ∃ o : Obj, w.heap[r]? = some o ∧ o.isCells = false) : BdS w' base v k x := by
  have F : FrP (fun q => row = some q) w w' := FrP.of_grown hg
  obtain ⟨c, r, e⟩ := h.row
  refine ⟨⟨c, ownsRow_fr r F (fun g hgb e2 => ?_), e⟩⟩
  rcases r.2 with ⟨h1, _⟩ | ⟨g', cap, cur, h1, h2, h3, h4⟩
  · rw [h1] at hgb; cases hgb
  · rw [h1] at hgb
    cases hgb
    obtain ⟨o, ho, hc⟩ := hr _ e2
    rw [h3] at ho
    cases ho
    cases hc
theorem BdS.fr {w w' : World} {base : Nat} {v : Value} {k : Nat} {x : Nat → ByteArray} {P : Nat → Prop} (h : BdS w base v k x) (hf : FrP P w w') (hp : ∀ g, v.ownBlock = some g → ¬ P g) : BdS w' base v k x :=
  ⟨by obtain ⟨c, r, e⟩ := h.row; exact ⟨c, ownsRow_fr r hf hp, e⟩⟩
theorem keepsO_of_below {w w' : World} (h : Below w.heap.size w w') : KeepsOthers w w' := ⟨h.size, fun k _o hk _ => (h.block k (Array.getElem?_eq_some_iff.1 hk).1).trans hk⟩
theorem wpListIn_load_mid {F : Fence} {n : Nat} {P : Program} {ops : Array Oper} {rest : List Oper} {op : Oper} {a : Act} {w : World} {Q : Exit → Act → World → Prop} (hgd : op.guard = none) (ty : TypeId) (x : Operand) (ho : op.op = .load ty x)
    (b o : Nat) (hx : a.eval x = .pointer (some ⟨b, o, none⟩)) (cs : List Value) (d : TypeDesc) (hc : w.rangeAt b o cs)
    (hu : P.underlying ty = some d) (hd : d.isRow = true) (hi : (P.info? ty).map (·.size) = some cs.length)
    (h : wpListIn F n P ops Q rest (a.put op.dst (.agg cs.toArray)) w) : wpListIn F n P ops Q (op :: rest) a w := by
  refine wpListIn_plain hgd fun K hK => ?_
  unfold Oper.wpIn
  refine ⟨by simp [Oper.about, ho], ?_⟩
  rw [Oper.semAt_plain F _ _ (by rw [ho]; intro c hc'; cases hc')]
  simp only [execOp, ho, hx, Instr.loadAt, Instr.sureAddr, Sem.run_bind, Sem.run_pure, Result.andThen_ok, run_loadVar_mid w b o ty cs d hc hu hd hi]
  exact hK _ _ h
theorem wpListIn_append_at {F : Fence} {nF : Nat} {P : Program} {ops : Array Oper} {rest : List Oper} {o : Oper} {a : Act} {w : World} {Q : Exit → Act → World → Prop} (hg : o.guard = none)
    (s x : Operand) (t : TypeId) (ho : o.op = Op.call { callee := Callee.builtin Builtin.append, args := #[s, x], argTypes := #[t, t] })
    (base : Nat) (e : TypeId) (i : TypeInfo) (z : Value) (size bytes : Nat) (ht : P.underlying t = some (.slice e)) (hi : P.info? e = some i) (hz : i.zero = some z)
    (hsize : i.size = size) (hby : i.bytes = bytes) (hzs : z.cells.size = size) (hsz : 0 < size)
    (v : Value) (n : Nat) (xs : List Value) (hs : a.eval s = v) (hown : w.ownsRow base e size v n xs)
    (ad : Addr) (m c : Nat) (news : List Value) (hx : a.eval x = .slice (some ad) m c) (hl : news.length = m * size) (hnews : ∀ j u, news[j]? = some u → w.cell? (ad.add j) = some u) (h1 : ∀ u ∈ news, u.oneCell' = true)
    (h63 : n + m ≤ maxLen) (hbytes : (n + m) * bytes ≤ 140737488355328) (hbase : base ≤ w.heap.size)
    (hK : ∀ v' w', w'.ownsRow base e size v' (n + m) (xs ++ news) → w.grownBy w' v.ownBlock → (v'.ownBlock = v.ownBlock ∨ v'.ownBlock = some w.heap.size) → wpListIn F nF P ops Q rest (a.put o.dst v') w') : wpListIn F nF P ops Q (o :: rest) a w := by
  refine wpListIn_plain hg fun K hK' => ?_
  obtain ⟨v', w', hr, h2, h3, h4, h5⟩ := run_append_own_at (P := P) w base t o.type e i z size bytes ht hi hz hsize hby hzs hsz v n xs hown ad m c news hl hnews h1 h63 hbytes hbase
  unfold Oper.wpIn
  refine ⟨by simp [Oper.about, ho, resolve, Target.leads, Sem.run_pure], ?_⟩
  rw [Oper.semAt_plain F _ _ (by rw [ho]; intro c hc'; cases hc')]
  simp [execOp, ho, resolve, invoke, builtin, hs, hx, hr, Result.andThen]
  exact hK' _ _ (hK v' w' h2 h3 h5)
set_option maxRecDepth 100000 in
set_option maxHeartbeats 8000000 in
theorem bookYes_in (F : Fence) (m : Nat) (hcv : ∀ (k f : Nat) (args : Array Value) (w : World) (R : Ending → World → Prop), Calls Try.prog f args w R → CallsIn F k Try.prog f args w R) (h24 : F.fn 24) (h58 : F.fn 58) (h70 : F.fn 70) (h102 : F.fn 102) (h103 : F.fn 103) (hro : F.round = none) (hm : 4 ≤ m)
    (r : Rc) (sa ha wa ya ba aa : Option Addr) (gd sc dc hc0 wc yc bc ac : Nat) (w : World) (lo hi : Nat) (hhi : hi ≤ w.heap.size) (hms : RcSmall r) (hf : RcFit r) (hn : RcNew r (RcA.mk sa (some ⟨gd, 0, none⟩) ha wa ya ba aa sc dc hc0 wc yc bc ac)) (hc : RcIn w lo hi r (RcA.mk sa (some ⟨gd, 0, none⟩) ha wa ya ba aa sc dc hc0 wc yc bc ac)) (hv : rcB r = true) (k : Nat) (hk : r.dk.kn = k) (hkn : k ≤ r.dk.n) :
    CallsIn F m Try.prog 24 #[rcV r (RcA.mk sa (some ⟨gd, 0, none⟩) ha wa ya ba aa sc dc hc0 wc yc bc ac)] w fun e w' => ∃ ad cap g, e = .returned (.slice ad k cap) ∧ StrsOwn w' g (g + 1) ad k (bkX r) ∧ (k ≠ 0 → w.heap.size ≤ g ∧ g < w'.heap.size) ∧ Below w.heap.size w w' := by
  have h1m : 1 ≤ m := by omega
  have hdn := hms.dk
  have HDC := hid (show dc = r.dk.n from hn.dc)
  obtain ⟨i0, hi0, hi1, hi2, hi3⟩ := info_parts Try.info9
  have HC := hid hc
  have HK := hid hk
  have hV := hid (fun (W : World) (hB : Below w.heap.size w W) => hcv (m - 1) _ _ _ _ (implValid_any r (RcA.mk sa (some ⟨gd, 0, none⟩) ha wa ya ba aa sc dc hc0 wc yc bc ac) W lo hi (Nat.le_trans hhi hB.size) hf hn (hc.below hB hhi)))
  rw [hv] at hV
  clear hf hn hc hv hms hk
  have Q0 := hid (Bx.new w (rcC r (RcA.mk sa (some ⟨gd, 0, none⟩) ha wa ya ba aa sc dc hc0 wc yc bc ac)) 58)
  have hB0 : Below w.heap.size w (w.alloc (.cells (rcC r (RcA.mk sa (some ⟨gd, 0, none⟩) ha wa ya ba aa sc dc hc0 wc yc bc ac)) 58)) := below_alloc _ _
  have mark : Nat := 0
  refine callsIn_of_wp_marks Try.func24 rfl h24 ?_ hro
  simp only [Try.ntmps24, List.size_toArray, List.length_cons, List.length_nil, Nat.reduceAdd, Nat.reduceSub, Array.replicate_succ, Array.replicate_zero, List.push_toArray, List.append_toArray, List.nil_append, List.cons_append]
  gi_wp2_with (first
    | ((with_reducible show wpListIn _ _ _ _ _ (⟨some 6, Op.load 58 _, _, _, _, _⟩ :: _) _ _); go_must (clear mark; generalize w.alloc (.cells (rcC r (RcA.mk sa (some ⟨gd, 0, none⟩) ha wa ya ba aa sc dc hc0 wc yc bc ac)) 58) = W at *; refine wpListIn_load_mid rfl 58 _ rfl w.heap.size 0 rfl (rcC r (RcA.mk sa (some ⟨gd, 0, none⟩) ha wa ya ba aa sc dc hc0 wc yc bc ac)).toList _ (Holds.range Q0.out.cell) Try.underlying58 rfl Try.sz58 ?_))
    | (gi_at_call 70; go_must (refine (hV.out W hB0).mono ?_; rintro e w1 ⟨rfl, hb1⟩; have hB1 : Below w.heap.size w w1 := hB0.trans (hb1.mono hB0.size); have hz1 : w.heap.size < w1.heap.size := Nat.lt_of_lt_of_le Q0.out.lt hb1.size; have p6 : w1.cell? ⟨w.heap.size, 6, none⟩ = some (.int .i64 r.dk.pr) := (hb1.cell (p := ⟨w.heap.size, 6, none⟩) Q0.out.lt).trans (Q0.out.cell 6); have p7 : w1.cell? ⟨w.heap.size, 7, none⟩ = some (.int .i64 r.dk.kn) := (hb1.cell (p := ⟨w.heap.size, 7, none⟩) Q0.out.lt).trans (Q0.out.cell 7); have p8 : w1.cell? ⟨w.heap.size, 8, none⟩ = some (.slice (some ⟨gd, 0, none⟩) r.dk.n dc) := (hb1.cell (p := ⟨w.heap.size, 8, none⟩) Q0.out.lt).trans (Q0.out.cell 8)))
    | ((with_reducible show wpListIn _ _ _ _ _ (⟨some 12, Op.makeSlice _ _ _, _, _, _, _⟩ :: _) _ _); go_must (refine wpListIn_make_own w1 rfl _ _ 46 rfl w1.heap.size 9 i0 _ 1 Try.underlying46 hi0 hi1 hi2 .i64 .i64 r.dk.kn k rfl rfl HK.out (by rw [hi3]; omega) (by unfold maxLen; omega) (by omega) ?_; intro w2 own2 grow2; have hB12 : Below w1.heap.size w1 w2 := (Below.refl _ _).grown grow2 (Nat.le_refl _) (by simp); have hz2 : w1.heap.size < w2.heap.size := (own2.lt _ rfl).2; replace p6 := (hB12.cell (p := ⟨w.heap.size, 6, none⟩) hz1).trans p6; replace p7 := (hB12.cell (p := ⟨w.heap.size, 7, none⟩) hz1).trans p7; replace p8 := (hB12.cell (p := ⟨w.heap.size, 8, none⟩) hz1).trans p8; have hw2 : w.heap.size < w2.heap.size := Nat.lt_trans hz1 hz2; have r6 : ∀ o, (w2.alloc o).cell? ⟨w.heap.size, 6, none⟩ = some (.int .i64 r.dk.pr) := (fun o => (World.cell?_alloc_past _ _ _ (by (try simp); omega)).trans p6); have r7 : ∀ o, (w2.alloc o).cell? ⟨w.heap.size, 7, none⟩ = some (.int .i64 r.dk.kn) := (fun o => (World.cell?_alloc_past _ _ _ (by (try simp); omega)).trans p7); have r8 : ∀ o, (w2.alloc o).cell? ⟨w.heap.size, 8, none⟩ = some (.slice (some ⟨gd, 0, none⟩) r.dk.n dc) := (fun o => (World.cell?_alloc_past _ _ _ (by (try simp); omega)).trans p8); have O2 := hid own2; clear own2 grow2))
    | (gi_at_call 58; go_must (refine (knownTexts_in F (m - 1) h58 hro r.dk (some ⟨gd, 0, none⟩) dc _).mono ?_; rintro e w4 ⟨rfl, rfl⟩)))
  obtain ⟨W0, hW0⟩ : ∃ W0, (w2.alloc (.cells #[.slice (some ⟨w1.heap.size, 0, none⟩) 0 k] 46)).alloc (.cells #[.int .i64 r.dk.pr, .int .i64 r.dk.kn, .slice (some ⟨gd, 0, none⟩) r.dk.n dc] 55) = W0 := ⟨_, rfl⟩
  have hsz0 : W0.heap.size = w2.heap.size + 2 := by rw [← hW0]; simp
  have hB20 : Below w2.heap.size w2 W0 := by rw [← hW0]; exact (below_alloc _ _).alloc (by simp) _
  have bT : Boxed W0 w2.heap.size 46 (.slice (some ⟨w1.heap.size, 0, none⟩) 0 k) := by rw [← hW0]; exact (Boxed.new w2 46 _).alloc _
  have bD : W0.heap[w2.heap.size + 1]? = some (.cells #[.int .i64 r.dk.pr, .int .i64 r.dk.kn, .slice (some ⟨gd, 0, none⟩) r.dk.n dc] 55 (0, 0)) := by
    rw [← hW0]
    have := World.alloc_heap_new (w2.alloc (.cells #[.slice (some ⟨w1.heap.size, 0, none⟩) 0 k] 46)) (.cells #[.int .i64 r.dk.pr, .int .i64 r.dk.kn, .slice (some ⟨gd, 0, none⟩) r.dk.n dc] 55)
    rwa [World.size_alloc] at this
  have hBW : Below w.heap.size w W0 := (hB1.trans (hB12.mono (by omega))).trans (hB20.mono (by omega))
  have own0 : BdS W0 w1.heap.size (.slice (some ⟨w1.heap.size, 0, none⟩) 0 k) 0 (fun i => bkX r (([] : List Nat).getD i 0)) :=
    BdS.grow (w := w2) ⟨⟨fun _ => .int .i64 0, by simpa [rowCells] using O2.out, fun i h => absurd h (Nat.not_lt_zero _)⟩⟩ hB20
  have hz12 : w1.heap.size ≤ w2.heap.size := Nat.le_of_lt hz2
  rw [hW0]
  clear hW0 p6 p7 p8 r6 r7 r8 hV Q0 hB0 O2 hb1
  obtain ⟨Pk, hPk⟩ : ∃ Pk : Nat → Prop, Pk = fun q => w1.heap.size ≤ q ∧ q ≠ w2.heap.size + 1 := ⟨_, rfl⟩
  have hPkI : ∀ q, Pk q ↔ (w1.heap.size ≤ q ∧ q ≠ w2.heap.size + 1) := fun q => by rw [hPk]
  clear hPk
  have hPkB : ∀ {X Y : World}, Below (w2.heap.size + 2) X Y → FrP Pk X Y := fun {X Y} h => ⟨h.os, h.tape, h.output, h.size, fun q _ hq => h.block q (by
    have := (not_congr (hPkI q)).1 hq
    omega)⟩
  have bdObj : ∀ {X : World}, FrP Pk W0 X → X.heap[w2.heap.size + 1]? = some (.cells #[.int .i64 r.dk.pr, .int .i64 r.dk.kn, .slice (some ⟨gd, 0, none⟩) r.dk.n dc] 55 (0, 0)) := fun {X} h => (h.block _ (by omega) ((not_congr (hPkI _)).2 (by omega))).trans bD
  refine wpIn_rangeFunc_ownH (α := Ix k) hro h1m (gf := 102) (lb := #[.pointer (some ⟨w2.heap.size + 1, 0, none⟩)]) (encs := fun x => #[.int .i64 ((x.1 : Int) + 1), .string (r.dk.s x.1).text]) (Kp := FrP Pk) (S := fun ys => ixs ys = List.range k) (Sp := fun _ => True) (N := k) (w0 := W0) rfl h102 (enters_of Try.func102 (by kernel_rfl) rfl)
    ?seq (fun h1 h2 => h1.trans h2) (fun X l o o' hl ho1 ho2 ho3 => hPkB (belowK_b (w := W0) (n₀ := w2.heap.size + 2) (by omega) X l o o' hl ho1 ho2 ho3)) (Below.refl _ _) (fun _ => rfl)
    (fun pre W => (∃ v, Boxed W w2.heap.size 46 v ∧ BdS W w1.heap.size v (ixs pre).length (fun i => bkX r ((ixs pre).getD i 0))) ∧ FrP Pk W0 W)
    (fun _ _ _ => False) ?own (fun _ _ _ _ _ hs _ _ => hs) ?start
    (fun x a' _ => ∃ p0 p1 p2 p4 p6 p7 p8 p9 p10 p11 p12 p13 p14 p15 p16 p17 p18 p19 p20 p21 p22 : Value, a' = ⟨#[p0, p1, p2, .pointer (some ⟨w2.heap.size, 0, none⟩), p4, .string (bkX r x.1), p6, p7, p8, p9, p10, p11, p12, p13, p14, p15, p16, p17, p18, p19, p20, p21, p22], []⟩)
    (fun _ _ _ _ _ _ hs _ _ => hs)
    ?assign ?body ?done ?stop
  case seq =>
    exact fun l J Jx W hW hJ _ hY h0 => knownWalk_in F (m - 1) hcv h102 h103 hro (by omega) l (w2.heap.size + 1) hi Pk r.dk gd dc k HK.out hkn (Nat.le_of_eq HDC.out.symm) hdn J Jx W hJ hY
      ((hW.cell (p := ⟨w2.heap.size + 1, 0, none⟩) (by show w2.heap.size + 1 < _; omega)).trans (by simp [World.cell?, bD])) ((hW.cell (p := ⟨w2.heap.size + 1, 1, none⟩) (by show w2.heap.size + 1 < _; omega)).trans (by simp [World.cell?, bD])) ((hW.cell (p := ⟨w2.heap.size + 1, 2, none⟩) (by show w2.heap.size + 1 < _; omega)).trans (by simp [World.cell?, bD]))
      (by have := hW.size; have := hBW.size; omega) (fun q hq => (not_congr (hPkI q)).2 (by omega)) (((HC.out.below hBW hhi).below hW (by have := hBW.size; omega)).dk.mono (Nat.zero_le _) (Nat.le_refl _)) h0
  case own =>
    intro pre X Y row hs hg hr
    obtain ⟨⟨v, e1, e2⟩, e3⟩ := hs
    exact ⟨⟨v, e1.kept hg (fun e => by have := (hr _ e.symm).1; omega), e2.turn hg (fun r e => (hr r e).2)⟩, e3.trans ((FrP.of_grown hg).mono (fun q hq => (hPkI q).2 (by have := (hr _ hq).1; omega)))⟩
  case start => exact ⟨⟨_, bT, own0⟩, FrP.refl _ _⟩
  case assign =>
    rintro l pre x W K hI hK
    gi_wp2
    exact hK _ _ ((KeepsOthers.refl _).from _) (FrP.refl _ _) hI ⟨_, _, _, _, _, _, _, _, _, _, _, _, _, _, _, _, _, _, _, _, _, rfl⟩
  case body =>
    rintro l0 pre x a' W hl ⟨rr, hr⟩ ⟨⟨v, bV, bd⟩, hf⟩ ⟨p0, p1, p2, p4, p6, p7, p8, p9, p10, p11, p12, p13, p14, p15, p16, p17, p18, p19, p20, p21, p22, rfl⟩ hlt
    have cV := bV.cell
    have zW := hf.size
    obtain ⟨c, own, hat⟩ := (bd.grow (below_alloc W (.cells #[.string (bkX r x.1)] 9))).row
    have NW := alloc_news W [.string (bkX r x.1)] 9
    have hpl : (ixs pre).length < 1048576 := by rw [ixs_len]; omega
    have hrow : ∀ g, v.ownBlock = some g → w1.heap.size ≤ g ∧ g ≠ w2.heap.size + 1 ∧ g ≠ w2.heap.size := fun g hg => by
      obtain ⟨c0, o0, _⟩ := bd.row
      refine ⟨(o0.lt g hg).1, fun e => ?_, fun e => ?_⟩
      · rcases o0.2 with ⟨h1, _⟩ | ⟨g', cap, cur, h1, h2, h3, h4⟩
        · rw [h1] at hg; cases hg
        · rw [h1] at hg
          cases hg
          have e' : g' = w2.heap.size + 1 := e
          rw [e', bdObj hf] at h3
          cases h3
      · exact Boxed.not_row bV (by decide) o0 (by rw [hg, e])
    have HAT := hid hat
    have HF := hid hf
    have BV := hid bV
    have BD := hid bd
    clear hat bd bdObj
    gi_wp2_with ((with_reducible show wpListIn _ _ _ _ _ (⟨some 21, _, _, _, _, _⟩ :: _) _ _); go_must (refine wpListIn_append_at rfl _ _ 46 rfl w1.heap.size 9 i0 _ 1 16 Try.underlying46 hi0 hi1 hi2 hi3 rfl (by decide) _ (ixs pre).length (rowCells ((ixs pre).length * 1) c) rfl own ⟨W.heap.size, 0, none⟩ 1 1 [.string (bkX r x.1)] rfl rfl NW (by simp [Value.oneCell']) (by unfold maxLen; omega) (by omega) (by simp; omega) ?_; intro v6 w6 own6 grow6 at6; obtain ⟨g6, cap6, cur6, e6, _⟩ := own6.2.resolve_left (fun e => by omega); subst e6; have bx6 : Boxed w6 w2.heap.size 46 v := (BV.out.alloc _).kept grow6 (fun e => (hrow _ e.symm).2.2 rfl); have c6 := bx6.cell; have f6 := bx6.frozen; have O6 := hid own6; have G6 := hid grow6; have A6 := hid at6; have B6 := hid bx6; have OWN := hid own; clear own6 grow6 at6 bx6 own NW cV bV hf))
    have app6 := BdS.app (x := fun i => bkX r ((ixs (pre ++ [x])).getD i 0)) (c := c) (k := (ixs pre).length) (fun i hi => (HAT.out i hi).trans (by rw [ixs_snoc, getD_snoc_lt hi])) (by
      have e : bkX r ((ixs (pre ++ [x])).getD (ixs pre).length 0) = bkX r x.1 := by rw [ixs_snoc, getD_snoc_eq]
      rw [e]
      exact O6.out)
    have hl6 : (ixs (pre ++ [x])).length = (ixs pre).length + 1 := by rw [ixs_snoc]; simp
    have fr6 : FrP Pk W w6 := (FrP.of_below (below_alloc W _)).trans ((FrP.of_grown G6.out).mono (fun q hq => (hPkI q).2 ⟨(hrow q hq).1, (hrow q hq).2.1⟩))
    have hPT : Pk w2.heap.size := (hPkI _).2 (by omega)
    have fr7 : FrP Pk W (w6.setCell ⟨w2.heap.size, 0, none⟩ (.slice (some ⟨g6, 0, none⟩) ((ixs pre).length + 1) cap6)) := fr6.trans ((FrP.refl _ _).setCell hPT _)
    have ko6 : KeepsOthers W w6 := (KeepsOthers.alloc _ _).trans (KeepsOthers.of_grownBy G6.out (fun j o e hj => by
      rcases OWN.out.2 with ⟨h1, _⟩ | ⟨g', cap, cur, h1, h2', h3, h4⟩
      · rw [h1] at e; cases e
      · rw [h1] at e
        cases e
        rw [h3] at hj
        cases hj
        rfl))
    refine ⟨(ko6.trans (KeepsOthers.setCell _ _ _)).from _, fr7, ⟨⟨_, B6.out.set _, ?_⟩, HF.out.trans fr7⟩⟩
    rw [hl6]
    refine app6.fr (P := fun q => q = w2.heap.size) ((FrP.refl _ _).setCell (by rfl) _) (fun g hg e => ?_)
    rcases A6.out with h | h
    · exact (hrow g (h ▸ hg)).2.2 e
    · rw [h] at hg
      cases hg
      simp at e
      omega
  case done =>
    rintro D ys W hD hS ⟨⟨v, bV, bd⟩, hf⟩ hK
    have bdf : BdS (W.putObj D (.deferred none)) w1.heap.size v (ixs ys).length (fun i => bkX r ((ixs ys).getD i 0)) := bd.turn (grownBy_putObj' W D (.deferred none)) (fun r e => by cases e; exact ⟨_, hK, rfl⟩)
    rw [hS, List.length_range] at bdf
    have bd2 : BdS (W.putObj D (.deferred none)) w1.heap.size v k (bkX r) := bdf.congr (fun i hi => by simp [hi])
    obtain ⟨ad', cap', g, rfl, so, sl⟩ := bd2.own
    have SO := hid so
    have SL := hid sl
    have zW := hf.size
    have cV := bV.cell
    have hBX : Below w.heap.size w W := hBW.trans (hf.below (fun q hq => (not_congr (hPkI q)).2 (by omega)) (by have := hBW.size; omega))
    have hBf : Below w.heap.size w (W.putObj D (.deferred none)) := hBX.trans (belowK_b (w := W0) (n₀ := w.heap.size) (by have := hBW.size; omega) W D _ _ hD hK rfl rfl)
    clear so sl bd bdf bd2 bV hS bdObj
    gi_wp2
    refine ⟨by simp, .inl ⟨_, _, rfl, run_takeDeferred hK, ?_⟩⟩
    exact ⟨.slice ad' k cap', by simp [results, Try.results24, go_sem], ad', cap', g, rfl, SO.out, fun h => ⟨Nat.le_trans (by omega) (SL.out h).1, (SL.out h).2⟩, hBf⟩
  case stop =>
    rintro D c pre W _ _ h _
    exact h.elim
set_option maxRecDepth 100000 in
set_option maxHeartbeats 2000000 in
theorem bookNo_any (r : Rc) (A : RcA) (w : World) (lo hi : Nat) (hhi : hi ≤ w.heap.size) (hf : RcFit r) (hn : RcNew r A) (hc : RcIn w lo hi r A) (hv : rcB r = false) :
    Calls Try.prog 24 #[rcV r A] w fun e w' => e = .returned (.slice none 0 0) ∧ Below w.heap.size w w' := by
  have hV := hid (fun (W : World) (hB : Below w.heap.size w W) => implValid_any r A W lo hi (Nat.le_trans hhi hB.size) hf hn (hc.below hB hhi))
  rw [hv] at hV
  clear hf hn hc hv
  have Q0 := hid (Bx.new w (rcC r A) 58)
  have hB0 : Below w.heap.size w (w.alloc (.cells (rcC r A) 58)) := below_alloc _ _
  have mark : Nat := 0
  go_enter Try.func24, Try.ntmps24
  go_wp2_with (first
    | ((with_reducible show wpList _ _ _ (⟨some 6, Op.load 58 _, _, _, _, _⟩ :: _) _ _); go_must (clear mark; generalize w.alloc (.cells (rcC r A) 58) = W at *; refine wpList_load_mid rfl 58 _ rfl w.heap.size 0 rfl (rcC r A).toList _ (Holds.range Q0.out.cell) Try.underlying58 rfl Try.sz58 ?_))
    | (go_at_call 70; go_must (refine (hV.out W hB0).mono ?_; rintro e w1 ⟨rfl, hb1⟩; have hB1 : Below w.heap.size w w1 := hB0.trans (hb1.mono hB0.size))))
  go_ret
  exact ⟨rfl, hB1⟩
theorem bookImpl_any (r : Rc) (A : RcA) (w : World) (lo hi : Nat) (hhi : hi ≤ w.heap.size) (hm : RcSmall r) (hf : RcFit r) (hn : RcNew r A) (hc : RcIn w lo hi r A) :
    Calls Try.prog 24 #[rcV r A] w fun e w' => ∃ ad cap g, e = .returned (.slice ad (bkN r) cap) ∧ StrsOwn w' g (g + 1) ad (bkN r) (bkX r) ∧ (bkN r ≠ 0 → w.heap.size ≤ g ∧ g < w'.heap.size) ∧ Below w.heap.size w w' := by
  cases hv : rcB r with
  | false =>
    have e : bkN r = 0 := by simp [bkN, hv]
    rw [e]
    refine (bookNo_any r A w lo hi hhi hf hn hc hv).mono ?_
    rintro e w' ⟨rfl, hb⟩
    exact ⟨none, 0, 0, rfl, fun i hi => absurd hi (Nat.not_lt_zero _), fun h => absurd rfl h, hb⟩
  | true =>
    obtain ⟨hk0, hk1⟩ := dkB_known (rcB_disk hv)
    have e : bkN r = r.dk.kn.toNat := by simp [bkN, hv]
    rw [e]
    obtain ⟨sa, da, ha, wa, ya, ba, aa, sc, dc, hc0, wc, yc, bc, ac⟩ := A
    obtain ⟨gd, hda⟩ := hn.da
    have e2 : da = some ⟨gd, 0, none⟩ := hda
    subst e2
    exact callsIn_wide.1 (bookYes_in Fence.wide 9 (fun _ _ _ _ _ h => callsIn_wide.2 h) trivial trivial trivial trivial trivial rfl (by decide) r sa ha wa ya ba aa gd sc dc hc0 wc yc bc ac w lo hi hhi hm hf hn hc hv r.dk.kn.toNat (by omega) (by omega))
end Go.Proofs.Ytjepponnhieocaa
namespace Go.Proofs.Ytjepponnhieocaa
open Go.RowKit
set_option maxRecDepth 100000 in
set_option maxHeartbeats 8000000 in
theorem bookSpecH (r : Rc) (sa ha wa ya ba aa : Option Addr) (gd sc dc hc0 wc yc bc ac : Nat) (w : World) (lo hi : Nat) (hhi : hi ≤ w.heap.size) (hm : RcSmall r) (hf : RcFit r) (hc : RcIn w lo hi r (RcA.mk sa (some ⟨gd, 0, none⟩) ha wa ya ba aa sc dc hc0 wc yc bc ac)) :
    Calls Try.prog 22 #[rcV r (RcA.mk sa (some ⟨gd, 0, none⟩) ha wa ya ba aa sc dc hc0 wc yc bc ac)] w fun e w' => ∃ ad cap, e = .returned (.slice ad (bkN r) cap) ∧ StrsIn w' w.heap.size w'.heap.size ad (bkN r) (bkX r) ∧ Below w.heap.size w w' := by
  have HM := hid hm
  have HF := hid hf
  have HC := hid hc
  have hV := hid (specValid_any r (RcA.mk sa (some ⟨gd, 0, none⟩) ha wa ya ba aa sc dc hc0 wc yc bc ac))
  clear hm hf hc
  have mark : Nat := 0
  obtain ⟨bv, hbv⟩ : ∃ b, rcB r = b := ⟨_, rfl⟩
  rw [hbv] at hV
  have HBV0 := hid hbv
  clear hbv
  cases bv
  · have OUT := hid (show bkN r = 0 by simp [bkN, HBV0.out])
    generalize bkN r = O at *
    go_enter Try.func22, Try.ntmps22
    go_wp2_with (first | ((with_reducible show wpList _ _ _ (⟨some 6, _, _, _, _, _⟩ :: _) _ _); clear mark; have Q0 := hid (Bx.new2 w (rcC r (RcA.mk sa (some ⟨gd, 0, none⟩) ha wa ya ba aa sc dc hc0 wc yc bc ac)) #[] 58 9).1; have OW0 := hid (World.ownsRow_made (base := w.heap.size + 1) (e := 9) (size := 1) (w.alloc (.cells (rcC r (RcA.mk sa (some ⟨gd, 0, none⟩) ha wa ya ba aa sc dc hc0 wc yc bc ac)) 58)) #[] 0 (by simp) (Nat.zero_le _) rfl); have hB0 : Below w.heap.size w ((w.alloc (.cells (rcC r (RcA.mk sa (some ⟨gd, 0, none⟩) ha wa ya ba aa sc dc hc0 wc yc bc ac)) 58)).alloc (.cells #[] 9)) := (below_alloc _ _).alloc (by simp) _; (simp only [World.size_alloc] at OW0); (generalize (w.alloc (.cells (rcC r (RcA.mk sa (some ⟨gd, 0, none⟩) ha wa ya ba aa sc dc hc0 wc yc bc ac)) 58)).alloc (.cells #[] 9) = W at *)) | ((with_reducible show wpList _ _ _ (⟨some 6, Op.load 58 _, _, _, _, _⟩ :: _) _ _); refine wpList_load_mid rfl 58 _ rfl w.heap.size 0 rfl (rcC r (RcA.mk sa (some ⟨gd, 0, none⟩) ha wa ya ba aa sc dc hc0 wc yc bc ac)).toList _ (Holds.range (cs := (rcC r (RcA.mk sa (some ⟨gd, 0, none⟩) ha wa ya ba aa sc dc hc0 wc yc bc ac)).toList) Q0.out.cell) Try.underlying58 rfl Try.sz58 ?_) | (go_at_call 46; refine (hV.out W lo hi (Nat.le_trans hhi hB0.size) HF.out (HC.out.below hB0 hhi)).mono ?_; rintro e w1 ⟨rfl, hb1⟩; have hB1 : Below w.heap.size w w1 := hB0.trans (hb1.mono hB0.size); have Q1 := hid (Q0.out.below hb1 Q0.out.lt); have own1 := ownsRow_fr OW0.out (FrP.of_below (P := fun _ => False) hb1) (fun _ _ h => h); have BD : Hid (BdS w1 (w.heap.size + 1) (.slice (some ⟨w.heap.size + 1, 0, none⟩) 0 0) 0 (bkX r)) := ⟨⟨fun _ => .int .i64 0, by simpa [rowCells] using own1, fun i hi => absurd hi (Nat.not_lt_zero _)⟩⟩; clear hb1 Q0 hB0 OW0 own1))
    go_ret
    rw [OUT.out]
    exact ⟨_, _, rfl, fun i hi => absurd hi (Nat.not_lt_zero _), hB1⟩
  obtain ⟨hk0, hk1⟩ := dkB_known (rcB_disk HBV0.out)
  obtain ⟨k, hk⟩ : ∃ k : Nat, r.dk.kn = k := ⟨r.dk.kn.toNat, by omega⟩
  have hkn : k ≤ r.dk.n := by omega
  have HK := hid hk
  have OUT := hid (show bkN r = k by simp [bkN, HBV0.out, hk])
  have hdn := HM.out.dk
  obtain ⟨i0, hi0, hi1, hi2, hi3⟩ := info_parts Try.info9
  clear hk hk0 hk1
  generalize bkN r = O at *
  go_enter Try.func22, Try.ntmps22
  go_wp2_with (first | ((with_reducible show wpList _ _ _ (⟨some 6, _, _, _, _, _⟩ :: _) _ _); clear mark; have Q0 := hid (Bx.new2 w (rcC r (RcA.mk sa (some ⟨gd, 0, none⟩) ha wa ya ba aa sc dc hc0 wc yc bc ac)) #[] 58 9).1; have OW0 := hid (World.ownsRow_made (base := w.heap.size + 1) (e := 9) (size := 1) (w.alloc (.cells (rcC r (RcA.mk sa (some ⟨gd, 0, none⟩) ha wa ya ba aa sc dc hc0 wc yc bc ac)) 58)) #[] 0 (by simp) (Nat.zero_le _) rfl); have hB0 : Below w.heap.size w ((w.alloc (.cells (rcC r (RcA.mk sa (some ⟨gd, 0, none⟩) ha wa ya ba aa sc dc hc0 wc yc bc ac)) 58)).alloc (.cells #[] 9)) := (below_alloc _ _).alloc (by simp) _; (simp only [World.size_alloc] at OW0); (generalize (w.alloc (.cells (rcC r (RcA.mk sa (some ⟨gd, 0, none⟩) ha wa ya ba aa sc dc hc0 wc yc bc ac)) 58)).alloc (.cells #[] 9) = W at *)) | ((with_reducible show wpList _ _ _ (⟨some 6, Op.load 58 _, _, _, _, _⟩ :: _) _ _); refine wpList_load_mid rfl 58 _ rfl w.heap.size 0 rfl (rcC r (RcA.mk sa (some ⟨gd, 0, none⟩) ha wa ya ba aa sc dc hc0 wc yc bc ac)).toList _ (Holds.range (cs := (rcC r (RcA.mk sa (some ⟨gd, 0, none⟩) ha wa ya ba aa sc dc hc0 wc yc bc ac)).toList) Q0.out.cell) Try.underlying58 rfl Try.sz58 ?_) | (go_at_call 46; refine (hV.out W lo hi (Nat.le_trans hhi hB0.size) HF.out (HC.out.below hB0 hhi)).mono ?_; rintro e w1 ⟨rfl, hb1⟩; have hB1 : Below w.heap.size w w1 := hB0.trans (hb1.mono hB0.size); have Q1 := hid (Q0.out.below hb1 Q0.out.lt); have own1 := ownsRow_fr OW0.out (FrP.of_below (P := fun _ => False) hb1) (fun _ _ h => h); have BD : Hid (BdS w1 (w.heap.size + 1) (.slice (some ⟨w.heap.size + 1, 0, none⟩) 0 0) 0 (bkX r)) := ⟨⟨fun _ => .int .i64 0, by simpa [rowCells] using own1, fun i hi => absurd hi (Nat.not_lt_zero _)⟩⟩; clear hb1 Q0 hB0 OW0 own1))
  go_loopw [3, 4] (fun v i wr => ∃ j : Nat, j ≤ k ∧ i = .int .i64 j ∧ Below w.heap.size w wr ∧ Bx wr w.heap.size (rcC r (RcA.mk sa (some ⟨gd, 0, none⟩) ha wa ya ba aa sc dc hc0 wc yc bc ac)) ∧ BdS wr (w.heap.size + 1) v j (bkX r)) (fun _ i _ => k - (intOf i).toNat)
  case atStart => exact ⟨0, Nat.zero_le _, rfl, hB1, Q1.out, BD.out⟩
  case round =>
    obtain ⟨j, hj, rfl, b0, bx, bd⟩ := hrel
    clear BD hB1 Q1
    obtain ⟨q0, q1, q2, q3, q4, q5, q6, q7, q8, q9, q10, q11, q12, q13, q14, q15, q16, q17⟩ := holds18 bx.cell
    rw [HK.out] at q7
    have BXH := hid bx
    have hsz := bx.lt
    clear bx
    by_cases hjk : j < k
    · obtain ⟨b, off, hda, hlo, hbh, hcx⟩ := (HC.out.below b0 hhi).dk j (by omega)
      obtain ⟨rfl, rfl⟩ : gd = b ∧ 0 = off := by simpa using hda
      clear hda
      obtain ⟨d0, d1⟩ := hcx
      have d2 : wr.cell? ⟨gd, 0 + j * 2 + 1, none⟩ = some (.string (bkX r j)) := d1
      clear d1
      simp only [Nat.zero_add] at d0 d2
      have hbw : gd < wr.heap.size := by omega
      have BDH := hid bd
      clear bd
      have BD5 := hid (BDH.out.grow (below_alloc wr (.cells #[.string (bkX r j)] 9)))
      obtain ⟨c, own5, hat⟩ := BD5.out.row
      have HAT := hid hat
      have NW := alloc_news wr [.string (bkX r j)] 9
      have OB := hid own5.lt
      clear hat
      go_wp2_with (at_builtin; go_must (refine wpList_append_own_at _ rfl _ _ 46 rfl (w.heap.size + 1) 9 i0 _ 1 16 Try.underlying46 hi0 hi1 hi2 hi3 rfl (by decide) _ j (rowCells (j * 1) c) rfl own5 ⟨wr.heap.size, 0, none⟩ 1 1 [.string (bkX r j)] rfl rfl NW (by simp [Value.oneCell']) (by unfold maxLen; omega) (by omega) (by simp; omega) ?_; intro v6 w6 own6 grow6 nil6 at6; clear nil6 at6))
      have BD6 := hid (BdS.app HAT.out own6)
      have HB6 : Hid (Below w.heap.size w w6) := (b0.alloc b0.size _).grown grow6 (by simp; omega) (fun k hk => by have := (OB.out k hk).1; omega)
      have BX6 : Hid (Bx w6 w.heap.size (rcC r (RcA.mk sa (some ⟨gd, 0, none⟩) ha wa ya ba aa sc dc hc0 wc yc bc ac))) := (BXH.out.below (below_alloc wr (.cells #[.string (bkX r j)] 9)) hsz).frP (FrP.of_grown grow6) (fun e => by have := (OB.out _ e).1; omega)
      clear own6 grow6 own5 NW BD5 BDH OB BXH q0 q1 q2 q3 q4 q5 q6 q7 q8 q9 q10 q11 q12 q13 q14 q15 q16 q17 d0 d2
      go_wp2
      go_roundw
      case rel => exact ⟨j + 1, by omega, by go_num, HB6.out, BX6.out, BD6.out⟩
      case measure => simp [intOf]; omega
    · obtain rfl : j = k := by omega
      obtain ⟨ad, cap, g, rfl, so, sl⟩ := bd.own
      have SO := hid so
      have SL := hid sl
      clear so sl bd
      go_wp2
      go_ret
      rw [OUT.out]
      exact ⟨ad, ⟨cap, rfl⟩, SO.out.in0 (fun h0 => ⟨by have := SL.out h0; omega, (SL.out h0).2⟩), b0⟩
theorem bookSpec_any (r : Rc) (A : RcA) (w : World) (lo hi : Nat) (hhi : hi ≤ w.heap.size) (hm : RcSmall r) (hf : RcFit r) (hn : RcNew r A) (hc : RcIn w lo hi r A) :
    Calls Try.prog 22 #[rcV r A] w fun e w' => ∃ ad cap, e = .returned (.slice ad (bkN r) cap) ∧ StrsIn w' w.heap.size w'.heap.size ad (bkN r) (bkX r) ∧ Below w.heap.size w w' := by
  obtain ⟨sa, da, ha, wa, ya, ba, aa, sc, dc, hc0, wc, yc, bc, ac⟩ := A
  obtain ⟨gd, hda⟩ := hn.da
  have e : da = some ⟨gd, 0, none⟩ := hda
  subst e
  exact bookSpecH r sa ha wa ya ba aa gd sc dc hc0 wc yc bc ac w lo hi hhi hm hf hc
end Go.Proofs.Ytjepponnhieocaa
