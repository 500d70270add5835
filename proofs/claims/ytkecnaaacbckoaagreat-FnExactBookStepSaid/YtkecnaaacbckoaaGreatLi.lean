import Derived.RangeFuncNested
import Derived.RangeFuncBound
import Derived.RangeFuncCalls
import Derived.RangeFuncLeaves
import Derived.Shelf.Abstract
import Derived.Shelf.RegionOpen
import Derived.WalkKit
import Derived.OwnWalkIn
import Derived.TacticsInMore
import Derived.LoopNIn
import Derived.LoopIn
import Derived.Test.YtkecnaaacbckoaaGreatLb
import Derived.OrdersIn
import Derived.Maps.OwnIn
import Derived.Maps.AppendAt
namespace Go.Proofs.YtkecnaaacbckoaaGreat
open Go.RowKit Go.Shelf
attribute [local go_sem] Oper.semAt_some
theorem grown_of_below {w w' : World} (h : Below w.heap.size w w') : w.grownBy w' none := ⟨h.os, h.tape, h.output, h.size, fun k hk _ => h.block k hk⟩
/-- the objects of a list, with the slices of their holds told -/
structure ObSrc (w : World) (hi : Nat) (ad : Option Addr) (n : Nat) (x : Nat → Ob) (A : Nat → Option Addr) (C : Nat → Nat) : Prop where
  cells : ∀ i, i < n → ∃ b off, ad = some ⟨b, off, none⟩ ∧ b < hi ∧ ObCells w b (off + i * 7) (x i) (A i) (C i)
  holds : ∀ i, i < n → StrsIn w 0 hi (A i) (x i).hn (x i).hs
theorem ObjsIn.choose {w : World} {lo hi : Nat} {ad : Option Addr} {n : Nat} {x : Nat → Ob} (h : ObjsIn w lo hi ad n x) : ∃ A C, ObSrc w hi ad n x A C := by
  have h1 : ∀ i, ∃ q : Option Addr × Nat, i < n → ∃ b off, ad = some ⟨b, off, none⟩ ∧ b < hi ∧ ObCells w b (off + i * 7) (x i) q.1 q.2 ∧ StrsIn w 0 hi q.1 (x i).hn (x i).hs := fun i => by
    by_cases hi' : i < n
    · obtain ⟨b, off, ah, ch, e1, _, e3, e4, e5⟩ := h i hi'
      exact ⟨(ah, ch), fun _ => ⟨b, off, e1, e3, e4, fun j hj => by obtain ⟨b2, o2, f1, _, f3, f4⟩ := e5 j hj; exact ⟨b2, o2, f1, Nat.zero_le _, f3, f4⟩⟩⟩
    · exact ⟨(none, 0), fun h => absurd h hi'⟩
  obtain ⟨q, hq⟩ := Classical.skolem.1 h1
  exact ⟨fun i => (q i).1, fun i => (q i).2, ⟨fun i hi' => by obtain ⟨b, off, e1, e2, e3, _⟩ := hq i hi'; exact ⟨b, off, e1, e2, e3⟩, fun i hi' => by obtain ⟨b, off, _, _, _, e⟩ := hq i hi'; exact e⟩⟩
theorem ObSrc.frP {w w' : World} {hi : Nat} {ad : Option Addr} {n : Nat} {x : Nat → Ob} {A : Nat → Option Addr} {C : Nat → Nat} {P : Nat → Prop} (h : ObSrc w hi ad n x A C) (hf : FrP P w w') (hp : ∀ q, q < hi → ¬ P q) (hhi : hi ≤ w.heap.size) : ObSrc w' hi ad n x A C := by
  have hb : Below hi w w' := hf.below hp hhi
  exact ⟨fun i hi' => by obtain ⟨b, off, e1, e2, e3⟩ := h.cells i hi'; exact ⟨b, off, e1, e2, e3.below hb e2⟩, fun i hi' => (h.holds i hi').below hb (Nat.le_refl _)⟩
/-- an index of a list -/
abbrev Ix (n : Nat) := { k : Nat // k < n }
def obV (x : Ob) (a : Option Addr) (c : Nat) : Value := .agg #[.string x.kind, .string x.name, .int .i64 x.ver, .int .i64 x.born, .string x.text, .bool x.ending, .slice a x.hn c]
def ixs {n : Nat} (l : List (Ix n)) : List Nat := l.map (·.1)
theorem ixs_snoc {n : Nat} (l : List (Ix n)) (k : Ix n) : ixs (l ++ [k]) = ixs l ++ [k.1] := by simp [ixs]
theorem ixs_len {n : Nat} (l : List (Ix n)) : (ixs l).length = l.length := by simp [ixs]
set_option maxRecDepth 100000 in
set_option maxHeartbeats 2000000 in
theorem walk1_in (F : Fence) (m : Nat) (h51 : F.fn 143) (h52 : F.fn 74) (hro : F.round = none) (hm : 1 ≤ m) (l Bo Bk Bp hi : Nat) (Pk : Nat → Prop) (n : Nat) (x : Nat → Ob) (ad : Option Addr) (cap : Nat) (A : Nat → Option Addr) (C : Nat → Nat) (ki pr : ByteArray) (hl : (n : Int) ≤ 1048576) (J Jx : List (Ix n) → World → Prop)
    (hIs : ∀ (i : Nat) (w : World), i < n → CallsIn F (m - 1) Tryz.prog 74 #[obV (x i) (A i) (C i), .string ki, .string pr] w fun e w' => e = .returned (.bool (lkB (x i) ki pr)) ∧ Below w.heap.size w w')
    (W : World) (hJ : AbidesFrom W.heap.size J)
    (hY : ∀ pre x' W1, J pre W1 → pre.length < n → YieldAt F (m - 1) Tryz.prog l #[obV (x x'.1) (A x'.1) (C x'.1)] W1 fun e W' =>
      (e = .returned (.bool true) ∧ J (pre ++ [x']) W' ∧ FrP Pk W1 W') ∨ (e = .returned (.bool false) ∧ Jx (pre ++ [x']) W'))
    (hBo : W.cell? ⟨Bo, 0, none⟩ = some (.slice ad n cap)) (hBk : W.cell? ⟨Bk, 0, none⟩ = some (.string ki)) (hBp : W.cell? ⟨Bp, 0, none⟩ = some (.string pr))
    (hk : Bk < W.heap.size ∧ ¬ Pk Bk) (hp : Bp < W.heap.size ∧ ¬ Pk Bp) (hhi : hi ≤ W.heap.size) (hPk : ∀ q, q < hi → ¬ Pk q) (hs : ObSrc W hi ad n x A C) (h0 : J [] W) :
    CallsIn F m Tryz.prog 143 #[.func (.yield l) #[] #[], .pointer (some ⟨Bo, 0, none⟩), .pointer (some ⟨Bk, 0, none⟩), .pointer (some ⟨Bp, 0, none⟩)] W fun e W' => (∃ v, e = .returned v) ∧
      ((∃ ys, ixs ys = flt (fun i => lkB (x i) ki pr) n ∧ J ys W') ∨ (∃ pre, True ∧ Jx pre W')) := by
  refine callsIn_of_wp Tryz.func143 rfl h51 ?_ hro
  simp only [Tryz.ntmps143, List.size_toArray, List.length_cons, List.length_nil, Nat.reduceAdd, Nat.reduceSub, Array.replicate_succ, Array.replicate_zero, List.push_toArray, List.append_toArray, List.nil_append, List.cons_append]
  have HS := hid hs
  clear hs
  gi_wp2
  gi_loopw [9] (fun i wr => ∃ (k : Nat) (pre : List (Ix n)), k ≤ n ∧ i = .int .i64 k ∧ ixs pre = flt (fun i => lkB (x i) ki pr) k ∧ J pre wr ∧ FrP Pk W wr)
    (fun i _ => n - (intOf i).toNat)
  case atStart => exact ⟨0, [], Nat.zero_le _, rfl, rfl, h0, FrP.refl _ _⟩
  case round =>
    obtain ⟨k, pre, hkn, rfl, hpre, hJs, hf⟩ := hrel
    have hck : wr.cell? ⟨Bk, 0, none⟩ = some (.string ki) := (hf.cell (p := ⟨Bk, 0, none⟩) hk.1 hk.2).trans hBk
    have hcp : wr.cell? ⟨Bp, 0, none⟩ = some (.string pr) := (hf.cell (p := ⟨Bp, 0, none⟩) hp.1 hp.2).trans hBp
    by_cases hlt : k < n
    · obtain ⟨b, off, rfl, hbh, hcx⟩ := HS.out.cells k hlt
      have hbw : Below hi W wr := hf.below hPk hhi
      obtain ⟨e0, e1, e2, e3, e4, e5, e6⟩ := hcx.below hbw hbh
      have hI := hIs k
      unfold obV at hI
      have zr := hf.size
      have hck' : ∀ o, (wr.alloc o).cell? ⟨Bk, 0, none⟩ = some (.string ki) := fun o => (World.cell?_alloc_past _ _ _ (by have := hk.1; simp; omega)).trans hck
      have hcp' : ∀ o, (wr.alloc o).cell? ⟨Bp, 0, none⟩ = some (.string pr) := fun o => (World.cell?_alloc_past _ _ _ (by have := hp.1; simp; omega)).trans hcp
      have HY := hid hY
      clear hY hIs
      have hpl : pre.length < n := by
        have h1 := ixs_len pre
        rw [hpre] at h1
        have h2 := flt_len (fun i => lkB (x i) ki pr) k
        omega
      cases hlk : lkB (x k) ki pr with
      | false =>
        simp only [hlk] at hI
        have HN := hid (show ixs pre = flt (fun i => lkB (x i) ki pr) (k + 1) from hpre.trans (flt_no hlk).symm)
        clear HY
        gi_wp2_with (gi_at_call 74; go_must (refine (hI _ hlt).mono ?_; rintro e w1 ⟨rfl, hb1⟩; have hbw1 : Below wr.heap.size wr w1 := (below_alloc wr _).trans (hb1.mono (by simp)); clear e0 e1 e2 e3 e4 e5 e6))
        refine ⟨fun _ h => (by cases h), ?_⟩
        gi_wp2
        go_roundw
        case rel => exact ⟨k + 1, pre, by omega, by go_num, HN.out, hJ pre wr w1 none hJs (grown_of_below hbw1) (fun r e => by cases e), hf.trans (FrP.of_below hbw1)⟩
        case measure => simp [intOf]; omega
      | true =>
        simp only [hlk] at hI
        have HN := hid (show ixs (pre ++ [⟨k, hlt⟩]) = flt (fun i => lkB (x i) ki pr) (k + 1) from (ixs_snoc _ _).trans ((congrArg (· ++ [k]) hpre).trans (flt_yes hlk).symm))
        gi_wp2_with (gi_at_call 74; go_must (refine (hI _ hlt).mono ?_; rintro e w1 ⟨rfl, hb1⟩; have hbw1 : Below wr.heap.size wr w1 := (below_alloc wr _).trans (hb1.mono (by simp)); clear e0 e1 e2 e3 e4 e5 e6; obtain ⟨q0, q1, q2, q3, q4, q5, q6⟩ := holds_ob ((holds_new wr (obCells (x k) (A k) (C k)) 73).below hb1 (by simp)); obtain ⟨fn, tmps, assign, body, hy, hR⟩ := HY.out pre ⟨k, hlt⟩ w1 (hJ pre wr w1 none hJs (grown_of_below hbw1) (fun r e => by cases e)) hpl; unfold obV at hy; dsimp only at hy))
        refine hR.mono ?_
        rintro e W3 (⟨rfl, hJ3, hk3⟩ | ⟨rfl, hJx3⟩)
        · gi_wp2
          go_roundw
          case rel => exact ⟨k + 1, pre ++ [⟨k, hlt⟩], by omega, by go_num, HN.out, hJ3, (hf.trans (FrP.of_below hbw1)).trans hk3⟩
          case measure => simp [intOf]; omega
        · gi_wp2
          refine bodyPost_ret (results_none rfl _ _ _) rfl ?_
          exact ⟨⟨_, rfl⟩, .inr ⟨pre ++ [⟨k, hlt⟩], trivial, hJx3⟩⟩
    · obtain rfl : k = n := by omega
      gi_wp2
      go_end0
      exact ⟨⟨_, rfl⟩, .inl ⟨_, hpre, hJs⟩⟩
end Go.Proofs.YtkecnaaacbckoaaGreat
namespace Go.Proofs.YtkecnaaacbckoaaGreat
open Go.RowKit Go.Shelf
theorem wpOpIn_mono {F : Fence} {n : Nat} {P : Program} {ops : Array Oper} {Q : Exit → Act → World → Prop} {i : Nat} {K K' : Act → World → Prop} {a : Act} {w : World} (h : ∀ a w, K a w → K' a w) (hh : wpOpIn F n P ops Q i K a w) : wpOpIn F n P ops Q i K' a w := by
  unfold wpOpIn at *
  split at hh
  · exact h _ _ hh
  · split at hh
    · next hw =>
      rw [if_pos hw]
      exact Oper.wpIn_mono h hh
    · next hw =>
      rw [if_neg hw]
      exact ⟨hh.1, h _ _ hh.2⟩
/-- A REGION THAT DRAWS ITS ORDER, WITHIN A FENCE, BY AN INVARIANT OVER WHAT HAS RUN -/
theorem wpAnyIn_inv {F : Fence} {n : Nat} {P : Program} {md : Region.Mode} {ops : Array Oper} {Q : Exit → Act → World → Prop} (Inv : Array Bool → Act → World → Prop)
    (hsz : ∀ l a w, Inv l a w → l.size = ops.size)
    (hdone : ∀ l a w, Inv l a w → Region.ready md ops l = [] → Q .normal a w)
    (hstep : ∀ l a w i, Inv l a w → i ∈ Region.ready md ops l → wpOpIn F n P ops Q i (Inv (l.setIfInBounds i true)) a w) :
    ∀ fuel l a w, Inv l a w → cnt l ops.size ≤ fuel → wpAnyIn F n P md ops Q fuel l a w
  | 0, l, a, w, hI, hc => by
    have hr : Region.ready md ops l = [] := by
      rw [List.eq_nil_iff_forall_not_mem]
      intro i hi
      have h1 := (List.mem_filter.1 hi)
      have h2 : i < ops.size := by simpa using h1.1
      have h3 := h1.2
      rw [cnt_zero (by omega) i h2] at h3
      simp at h3
    exact ⟨hr, hdone l a w hI hr⟩
  | fuel + 1, l, a, w, hI, hc => by
    refine ⟨fun hr => hdone l a w hI hr, fun i hi => ?_⟩
    have h1 := (List.mem_filter.1 hi)
    have h2 : i < ops.size := by simpa using h1.1
    have h3 : l.getD i true = false := by
      have h4 := h1.2
      simp only [Bool.and_eq_true] at h4
      simpa using h4.1
    have hs := hsz l a w hI
    have h5 := cnt_lt (l := l) (i := i) (by omega) h3 ops.size h2
    exact wpOpIn_mono (fun a' w' hI' => wpAnyIn_inv Inv hsz hdone hstep fuel _ a' w' hI' (by omega)) (hstep l a w i hI hi)
theorem wpIn_region_inv {F : Fence} {n : Nat} {P : Program} {id : Nat} {ops : Array Oper} {Q : Exit → Act → World → Prop} {a : Act} {w : World} (hm : P.follows .mixedOrders = true) (Inv : Array Bool → Act → World → Prop)
    (h0 : Inv (Array.replicate ops.size false) a w.drew)
    (hsz : ∀ l a w, Inv l a w → l.size = ops.size)
    (hdone : ∀ l a w, Inv l a w → Region.ready .any ops l = [] → Q .normal a w)
    (hstep : ∀ l a w i, Inv l a w → i ∈ Region.ready .any ops l → wpOpIn F n P ops Q i (Inv (l.setIfInBounds i true)) a w) : (Code.region id ops true).wpIn F n P Q a w :=
  wpIn_region_any hm (wpAnyIn_inv Inv hsz hdone hstep _ _ _ _ h0 (cnt_le _ _))
theorem wpOpIn_of {F : Fence} {n : Nat} {P : Program} {ops : Array Oper} {Q : Exit → Act → World → Prop} {i : Nat} {K : Act → World → Prop} {a : Act} {w : World} {o : Oper} (ho : ops[i]? = some o) (hg : o.guard = none) (h : o.wpIn F n P a w K Q) : wpOpIn F n P ops Q i K a w := by
  unfold wpOpIn
  rw [ho]
  simp only [Region.wanted, hg, if_true]
  exact h
theorem operIn_append_own {F : Fence} {nF : Nat} {P : Program} {o : Oper} {a : Act} {w : World} {K : Act → World → Prop} {Q : Exit → Act → World → Prop}
    (s x : Operand) (t : TypeId) (ho : o.op = Op.call { callee := Callee.builtin Builtin.append, args := #[s, x], argTypes := #[t, t] })
    (base : Nat) (e : TypeId) (i : TypeInfo) (z : Value) (size bytes : Nat) (ht : P.underlying t = some (.slice e)) (hi : P.info? e = some i) (hz : i.zero = some z)
    (hsize : i.size = size) (hby : i.bytes = bytes) (hzs : z.cells.size = size) (hsz : 0 < size)
    (v : Value) (n : Nat) (xs : List Value) (hs : a.eval s = v) (hown : w.ownsRow base e size v n xs)
    (ad : Addr) (m c : Nat) (news : List Value) (hx : a.eval x = .slice (some ad) m c) (hl : news.length = m * size) (hnews : ∀ j u, news[j]? = some u → w.cell? (ad.add j) = some u) (h1 : ∀ u ∈ news, u.oneCell' = true)
    (h63 : n + m ≤ maxLen) (hbytes : (n + m) * bytes ≤ 140737488355328) (hbase : base ≤ w.heap.size)
    (hK : ∀ v' w', w'.ownsRow base e size v' (n + m) (xs ++ news) → w.grownBy w' v.ownBlock → (v'.ownBlock = v.ownBlock ∨ v'.ownBlock = some w.heap.size) → K (a.put o.dst v') w') : o.wpIn F nF P a w K Q := by
  obtain ⟨v', w', hr, h2, h3, h4, h5⟩ := run_append_own_at (P := P) w base t o.type e i z size bytes ht hi hz hsize hby hzs hsz v n xs hown ad m c news hl hnews h1 h63 hbytes hbase
  unfold Oper.wpIn
  refine ⟨by simp [Oper.about, ho, resolve, Target.leads, Sem.run_pure], ?_⟩
  rw [Oper.semAt_plain F _ _ (by rw [ho]; intro c hc'; cases hc')]
  simp [execOp, ho, resolve, invoke, builtin, hs, hx, hr, Result.andThen]
  exact hK v' w' h2 h3 h5
/-- what is no cells lies as it lay -/
theorem keepsO_of_below {w w' : World} (h : Below w.heap.size w w') : KeepsOthers w w' := ⟨h.size, fun k _o hk _ => (h.block k (Array.getElem?_eq_some_iff.1 hk).1).trans hk⟩
theorem not_cells {w : World} {b off : Nat} {v : Value} (h : w.cell? ⟨b, off, none⟩ = some v) {o : Obj} (ho : w.heap[b]? = some o) : o.isCells = true := by
  unfold World.cell? at h
  simp only [ho] at h
  cases o <;> first | rfl | (simp at h)
/-- a list that is built lies on where blocks that are no cells turn -/
theorem BdOb.turn {w : World} {base : Nat} {v : Value} {k : Nat} {x : Nat → Ob} {A : Nat → Option Addr} {C hb : Nat → Nat} {w' : World} {row : Option Nat} (h : BdOb w base v k x A C hb) (hg : w.grownBy w' row) (hr : ∀ r, row = some r → ∃ o : Obj, w.heap[r]? = some o ∧ o.isCells = false) : BdOb w' base v k x A C hb := by
  have F : FrP (fun q => row = some q) w w' := FrP.of_grown hg
  have hn : ∀ (q : Nat), (∃ off u, w.cell? ⟨q, off, none⟩ = some u) → ¬ row = some q := fun q hq e => by
    obtain ⟨off, u, hu⟩ := hq
    obtain ⟨o, ho, hc⟩ := hr q e
    rw [not_cells hu ho] at hc
    cases hc
  refine ⟨?_, fun i hi => (h.hold i hi).frP F (fun h0 => ⟨hn _ ?_, (h.hlt i hi h0).2⟩), fun i hi h0 => ⟨(h.hlt i hi h0).1, Nat.lt_of_lt_of_le (h.hlt i hi h0).2 hg.size⟩, h.ne, h.inj⟩
  · obtain ⟨c, r, e⟩ := h.row
    refine ⟨c, ownsRow_fr r F (fun g hgb e2 => ?_), e⟩
    rcases r.2 with ⟨h1, _⟩ | ⟨g', cap, cur, h1, h2, h3, h4⟩
    · rw [h1] at hgb; cases hgb
    · rw [h1] at hgb
      cases hgb
      obtain ⟨o, ho, hc⟩ := hr _ e2
      rw [h3] at ho
      cases ho
      cases hc
  · obtain ⟨b, off, e1, e2, e3, e4, _⟩ := h.hold i hi 0 (by omega)
    have : b = hb i := by omega
    subst this
    exact ⟨_, _, e4⟩
end Go.Proofs.YtkecnaaacbckoaaGreat
