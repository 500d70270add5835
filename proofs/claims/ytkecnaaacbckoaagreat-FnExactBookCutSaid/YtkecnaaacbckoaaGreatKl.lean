import Derived.RangeFuncNested
import Derived.RangeFuncBound
import Derived.RangeFuncCalls
import Derived.RangeFuncLeaves
import Derived.Shelf.Abstract
import Derived.Shelf.RegionOpen
import Derived.WalkKit
import Derived.OwnWalkIn
import Derived.TacticsInMore
import Derived.LoopNIn
import Derived.LoopIn
import Derived.Test.YtkecnaaacbckoaaGreatKw
import Derived.OrdersIn
import Derived.Maps.OwnIn
import Derived.Maps.AppendAt
namespace Go.Proofs.YtkecnaaacbckoaaGreat
open Go.RowKit Go.Shelf
theorem wpOpIn_mono {F : Fence} {n : Nat} {P : Program} {ops : Array Oper} {Q : Exit → Act → World → Prop} {i : Nat} {K K' : Act → World → Prop} {a : Act} {w : World} (h : ∀ a w, K a w → K' a w) (hh : wpOpIn F n P ops Q i K a w) : wpOpIn F n P ops Q i K' a w := by
  unfold wpOpIn at *
  split at hh
  · exact h _ _ hh
  · split at hh
    · next hw =>
      rw [if_pos hw]
      exact Oper.wpIn_mono h hh
    · next hw =>
      rw [if_neg hw]
      exact ⟨hh.1, h _ _ hh.2⟩
/-- A REGION THAT DRAWS ITS ORDER, WITHIN A FENCE, BY AN INVARIANT OVER WHAT HAS RUN -/
theorem wpAnyIn_inv {F : Fence} {n : Nat} {P : Program} {md : Region.Mode} {ops : Array Oper} {Q : Exit → Act → World → Prop} (Inv : Array Bool → Act → World → Prop)
    (hsz : ∀ l a w, Inv l a w → l.size = ops.size)
    (hdone : ∀ l a w, Inv l a w → Region.ready md ops l = [] → Q .normal a w)
    (hstep : ∀ l a w i, Inv l a w → i ∈ Region.ready md ops l → wpOpIn F n P ops Q i (Inv (l.setIfInBounds i true)) a w) :
    ∀ fuel l a w, Inv l a w → cnt l ops.size ≤ fuel → wpAnyIn F n P md ops Q fuel l a w
  | 0, l, a, w, hI, hc => by
    have hr : Region.ready md ops l = [] := by
      rw [List.eq_nil_iff_forall_not_mem]
      intro i hi
      have h1 := (List.mem_filter.1 hi)
      have h2 : i < ops.size := by simpa using h1.1
      have h3 := h1.2
      rw [cnt_zero (by omega) i h2] at h3
      simp at h3
    exact ⟨hr, hdone l a w hI hr⟩
  | fuel + 1, l, a, w, hI, hc => by
    refine ⟨fun hr => hdone l a w hI hr, fun i hi => ?_⟩
    have h1 := (List.mem_filter.1 hi)
    have h2 : i < ops.size := by simpa using h1.1
    have h3 : l.getD i true = false := by
      have h4 := h1.2
      simp only [Bool.and_eq_true] at h4
      simpa using h4.1
    have hs := hsz l a w hI
    have h5 := cnt_lt (l := l) (i := i) (by omega) h3 ops.size h2
    exact wpOpIn_mono (fun a' w' hI' => wpAnyIn_inv Inv hsz hdone hstep fuel _ a' w' hI' (by omega)) (hstep l a w i hI hi)
theorem wpIn_region_inv {F : Fence} {n : Nat} {P : Program} {id : Nat} {ops : Array Oper} {Q : Exit → Act → World → Prop} {a : Act} {w : World} (hm : P.follows .mixedOrders = true) (Inv : Array Bool → Act → World → Prop)
    (h0 : Inv (Array.replicate ops.size false) a w.drew)
    (hsz : ∀ l a w, Inv l a w → l.size = ops.size)
    (hdone : ∀ l a w, Inv l a w → Region.ready .any ops l = [] → Q .normal a w)
    (hstep : ∀ l a w i, Inv l a w → i ∈ Region.ready .any ops l → wpOpIn F n P ops Q i (Inv (l.setIfInBounds i true)) a w) : (Code.region id ops true).wpIn F n P Q a w :=
  wpIn_region_any hm (wpAnyIn_inv Inv hsz hdone hstep _ _ _ _ h0 (cnt_le _ _))
theorem wpOpIn_of {F : Fence} {n : Nat} {P : Program} {ops : Array Oper} {Q : Exit → Act → World → Prop} {i : Nat} {K : Act → World → Prop} {a : Act} {w : World} {o : Oper} (ho : ops[i]? = some o) (hg : o.guard = none) (h : o.wpIn F n P a w K Q) : wpOpIn F n P ops Q i K a w := by
  unfold wpOpIn
  rw [ho]
  simp only [Region.wanted, hg, if_true]
  exact h
theorem operIn_append_own {F : Fence} {nF : Nat} {P : Program} {o : Oper} {a : Act} {w : World} {K : Act → World → Prop} {Q : Exit → Act → World → Prop}
    (s x : Operand) (t : TypeId) (ho : o.op = Op.call { callee := Callee.builtin Builtin.append, args := #[s, x], argTypes := #[t, t] })
    (base : Nat) (e : TypeId) (i : TypeInfo) (z : Value) (size bytes : Nat) (ht : P.underlying t = some (.slice e)) (hi : P.info? e = some i) (hz : i.zero = some z)
    (hsize : i.size = size) (hby : i.bytes = bytes) (hzs : z.cells.size = size) (hsz : 0 < size)
    (v : Value) (n : Nat) (xs : List Value) (hs : a.eval s = v) (hown : w.ownsRow base e size v n xs)
    (ad : Addr) (m c : Nat) (news : List Value) (hx : a.eval x = .slice (some ad) m c) (hl : news.length = m * size) (hnews : ∀ j u, news[j]? = some u → w.cell? (ad.add j) = some u) (h1 : ∀ u ∈ news, u.oneCell' = true)
    (h63 : n + m ≤ maxLen) (hbytes : (n + m) * bytes ≤ 140737488355328) (hbase : base ≤ w.heap.size)
    (hK : ∀ v' w', w'.ownsRow base e size v' (n + m) (xs ++ news) → w.grownBy w' v.ownBlock → (v'.ownBlock = v.ownBlock ∨ v'.ownBlock = some w.heap.size) → K (a.put o.dst v') w') : o.wpIn F nF P a w K Q := by
  obtain ⟨v', w', hr, h2, h3, h4, h5⟩ := run_append_own_at (P := P) w base t o.type e i z size bytes ht hi hz hsize hby hzs hsz v n xs hown ad m c news hl hnews h1 h63 hbytes hbase
  unfold Oper.wpIn
  refine ⟨by simp [Oper.about, ho, resolve, Target.leads, Sem.run_pure], ?_⟩
  rw [Oper.semAt_plain F _ _ (by rw [ho]; intro c hc'; cases hc')]
  simp [execOp, ho, resolve, invoke, builtin, hs, hx, hr, Result.andThen]
  exact hK v' w' h2 h3 h5
/-- what is no cells lies as it lay -/
theorem keepsO_of_below {w w' : World} (h : Below w.heap.size w w') : KeepsOthers w w' := ⟨h.size, fun k _o hk _ => (h.block k (Array.getElem?_eq_some_iff.1 hk).1).trans hk⟩
theorem not_cells {w : World} {b off : Nat} {v : Value} (h : w.cell? ⟨b, off, none⟩ = some v) {o : Obj} (ho : w.heap[b]? = some o) : o.isCells = true := by
  unfold World.cell? at h
  simp only [ho] at h
  cases o <;> first | rfl | (simp at h)
/-- a list that is built lies on where blocks that are no cells turn -/
theorem BdOb.turn {w : World} {base : Nat} {v : Value} {k : Nat} {x : Nat → Ob} {A : Nat → Option Addr} {C hb : Nat → Nat} {w' : World} {row : Option Nat} (h : BdOb w base v k x A C hb) (hg : w.grownBy w' row) (hr : ∀ r, row = some r → ∃ o : Obj, w.heap[r]? = some o ∧ o.isCells = false) : BdOb w' base v k x A C hb := by
  have F : FrP (fun q => row = some q) w w' := FrP.of_grown hg
  have hn : ∀ (q : Nat), (∃ off u, w.cell? ⟨q, off, none⟩ = some u) → ¬ row = some q := fun q hq e => by
    obtain ⟨off, u, hu⟩ := hq
    obtain ⟨o, ho, hc⟩ := hr q e
    rw [not_cells hu ho] at hc
    cases hc
  refine ⟨?_, fun i hi => (h.hold i hi).frP F (fun h0 => ⟨hn _ ?_, (h.hlt i hi h0).2⟩), fun i hi h0 => ⟨(h.hlt i hi h0).1, Nat.lt_of_lt_of_le (h.hlt i hi h0).2 hg.size⟩, h.ne, h.inj⟩
  · obtain ⟨c, r, e⟩ := h.row
    refine ⟨c, ownsRow_fr r F (fun g hgb e2 => ?_), e⟩
    rcases r.2 with ⟨h1, _⟩ | ⟨g', cap, cur, h1, h2, h3, h4⟩
    · rw [h1] at hgb; cases hgb
    · rw [h1] at hgb
      cases hgb
      obtain ⟨o, ho, hc⟩ := hr _ e2
      rw [h3] at ho
      cases ho
      cases hc
  · obtain ⟨b, off, e1, e2, e3, e4, _⟩ := h.hold i hi 0 (by omega)
    have : b = hb i := by omega
    subst this
    exact ⟨_, _, e4⟩
end Go.Proofs.YtkecnaaacbckoaaGreat
