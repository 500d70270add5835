import Derived.Test.YtkecnaaacbckoaaGreatNi
import Derived.Test.YtkecnaaacbckoaaGreatGd
import Derived.Test.YtkecnaaacbckoaaGreatOa
import Derived.Test.YtkecnaaacbckoaaGreatGw
import Derived.Test.YtkecnaaacbckoaaGreatGg
import Derived.Test.YtkecnaaacbckoaaGreatGn
import Derived.Test.YtkecnaaacbckoaaGreatGx
import Derived.Test.YtkecnaaacbckoaaGreatOb
import Derived.Test.YtkecnaaacbckoaaGreatLb
import Derived.Laws.StructEq
import Derived.Lib.SliceRun
import Derived.Shelf.Spec.SlicesGrow
import Derived.Laws.AppendOwnNone
namespace Go.Proofs.YtkecnaaacbckoaaGreat
open Go.RowKit Go.Maps
end Go.Proofs.YtkecnaaacbckoaaGreat
namespace Go.Proofs.YtkecnaaacbckoaaGreat
open Go.RowKit Go.Shelf
/-- how many changes, which, and from where on -/
def nwN (x : Bk) (ki pr : ByteArray) (fr most : Int) : Nat := if nwC x fr most = 0 then (nwL x (fr - x.floor).toNat ki pr most).length else 0
def nwY (x : Bk) (ki pr : ByteArray) (fr most : Int) : Nat → Ch := pick (fun i => x.hs ((fr - x.floor).toNat + i)) (nwL x (fr - x.floor).toNat ki pr most)
def nwV (x : Bk) (ki pr : ByteArray) (fr most : Int) : Int := if nwC x fr most = 0 then nwF x (fr - x.floor).toNat ki pr most else 0
/-- what a call answers: its list lies between lo and hi -/
def nwA (x : Bk) (ki pr : ByteArray) (fr most : Int) (v : Value) (lo hi : Nat) (X : World) : Prop :=
  ∃ adw cw gw Aw Cw hw, v = .agg #[.int .i64 (nwC x fr most), .slice adw (nwN x ki pr fr most) cw, .int .i64 (nwV x ki pr fr most)] ∧ ChsAt X adw gw (nwN x ki pr fr most) (nwY x ki pr fr most) Aw Cw hw ∧ (∀ q, blkH gw (nwN x ki pr fr most) (fun i => (nwY x ki pr fr most i).ob.hn) hw q → lo ≤ q ∧ q < hi) ∧ hi ≤ X.heap.size
theorem nwP.ans {w w' : World} {x : Bk} {ki pr : ByteArray} {fr most : Int} {e : Ending} (h : nwP w w' x ki pr fr most e) : ∃ v, e = .returned v ∧ nwA x ki pr fr most v w.heap.size w'.heap.size w' ∧ Below w.heap.size w w' := by
  obtain ⟨hb, v, n, y, fv, A, C, hb', rfl, bd, h1, h2⟩ := h
  refine ⟨_, rfl, ?_, hb⟩
  have hn : n = nwN x ki pr fr most ∧ fv = nwV x ki pr fr most ∧ ∀ i, i < n → y i = nwY x ki pr fr most i := by
    by_cases hK : nwC x fr most = 0
    · obtain ⟨_, _, k, hk, _⟩ := nwC_zero hK
      obtain ⟨e1, e2, e3⟩ := h2 hK k hk
      obtain rfl : k = (fr - x.floor).toNat := by omega
      exact ⟨by rw [e1, nwN, if_pos hK], by rw [e3, nwV, if_pos hK], fun i _ => by rw [e2]; rfl⟩
    · obtain ⟨e1, e2⟩ := h1 hK
      exact ⟨by rw [e1, nwN, if_neg hK], by rw [e2, nwV, if_neg hK], fun i hi => by omega⟩
  obtain ⟨e1, e2, e3⟩ := hn
  have bd2 := bd.congr e3
  rw [e1] at bd2
  obtain ⟨ad, cap, g, ev, hc, hq⟩ := bd2.done
  refine ⟨ad, cap, g, A, C, hb', by rw [ev, e2], hc, fun q hq' => ⟨hq q hq', ?_⟩, Nat.le_refl _⟩
  exact hc.blt hq'
end Go.Proofs.YtkecnaaacbckoaaGreat
namespace Go.Proofs.YtkecnaaacbckoaaGreat
open Go.RowKit Go.Shelf
theorem mkChs_leM {k0 M : Nat} {y : Nat → Ch} : ∀ n, (∀ i, i < n → (y i).ob.hn ≤ M) → mkChs k0 y n ≤ k0 + n * (8 + M)
  | 0, _ => by simp [mkChs]
  | n + 1, h => by
    have h1 := mkChs_leM (k0 := k0) n (fun i hi => h i (by omega))
    have h2 := h n (by omega)
    have h3 : mkChs k0 y (n + 1) = mkChs k0 y n + 8 + (y n).ob.hn := rfl
    rw [h3, Nat.add_mul]
    omega
theorem nwN_le (x : Bk) (ki pr : ByteArray) (fr most : Int) : nwN x ki pr fr most ≤ x.hn := by
  unfold nwN nwL
  split
  · rw [List.length_take]
    have := seen_len (x := x.hs) (k := (fr - x.floor).toNat) (j := x.hn) (ki := ki) (pr := pr)
    omega
  · exact Nat.zero_le _
theorem nwY_mem {x : Bk} {ki pr : ByteArray} {fr most : Int} {i : Nat} (hi : i < nwN x ki pr fr most) : ∃ j, j < x.hn ∧ nwY x ki pr fr most i = x.hs j := by
  unfold nwN at hi
  split at hi
  case isFalse => exact absurd hi (Nat.not_lt_zero _)
  case isTrue h =>
    unfold nwY pick
    have hm : (nwL x (fr - x.floor).toNat ki pr most)[i] ∈ nwL x (fr - x.floor).toNat ki pr most := List.getElem_mem hi
    have hm2 := List.mem_of_mem_take hm
    unfold seen at hm2
    have hm3 := List.mem_range.1 (List.mem_filter.1 hm2).1
    refine ⟨(fr - x.floor).toNat + (nwL x (fr - x.floor).toNat ki pr most)[i], by omega, ?_⟩
    simp [List.getD_eq_getElem?_getD, hi]
end Go.Proofs.YtkecnaaacbckoaaGreat
namespace Go.Proofs.YtkecnaaacbckoaaGreat
open Go.RowKit
structure BoxC (w : World) (b : Nat) (c : Array Value) : Prop where
  cell : ∀ i, w.cell? ⟨b, i, none⟩ = c[i]?
  free : ∀ i, w.frozen? ⟨b, i, none⟩ = false
  lt : b < w.heap.size
theorem boxC_new {w w1 : World} {c : Array Value} {t : TypeId} (hb : Below (w.alloc (.cells c t)).heap.size (w.alloc (.cells c t)) w1) : BoxC w1 w.heap.size c :=
  ⟨box_cell hb, fun i => (hb.frozen (p := ⟨w.heap.size, i, none⟩) (by simp)).trans (World.frozen?_alloc_at _ _ _ _ rfl), by have := hb.size; simp at this; omega⟩
theorem BoxC.below {w w1 : World} {b : Nat} {c : Array Value} (h : BoxC w b c) (hb : Below w.heap.size w w1) : BoxC w1 b c :=
  ⟨fun i => (hb.cell (p := ⟨b, i, none⟩) h.lt).trans (h.cell i), fun i => (hb.frozen (p := ⟨b, i, none⟩) h.lt).trans (h.free i), Nat.lt_of_lt_of_le h.lt hb.size⟩
def updT (t : Nat → Value) (i : Nat) (v : Value) : Nat → Value := fun j => bif j == i then v else t j
theorem updT_ne {t : Nat → Value} {i j : Nat} {v : Value} (h : ¬ j = i) : updT t i v j = t j := by
  have : (j == i) = false := by simpa using h
  simp [updT, this]
theorem updT_same {t : Nat → Value} {i : Nat} {v : Value} : updT t i v i = v := by simp [updT]
/-- a drawn region that holds what was handed in against a copy of it -/
def R5 (mk : (Nat → Value) → Array Value) (W : World) (v0 v1 : Value) (F2 : Value → World → Prop) (l : Array Bool) (a : Act) (X : World) : Prop :=
  ∃ t : Nat → Value, a = ⟨mk t, []⟩ ∧ l.size = 5 ∧ Below W.heap.size W X ∧ (l.getD 0 false = true → t 0 = v0) ∧ (l.getD 1 false = true → t 1 = v1) ∧ (l.getD 2 false = true → F2 (t 2) X) ∧ (l.getD 3 false = true → t 3 = .bool true) ∧ (l.getD 4 false = true → t 4 = .bool false)
theorem region5 {P : Program} {id : Nat} {ops : Array Oper} {Q : Exit → Act → World → Prop} {a0 : Act} {W : World} (hm : P.follows .mixedOrders = true)
    (mk : (Nat → Value) → Array Value) (v0 v1 : Value) (F2 : Value → World → Prop)
    (hn : ops.size = 5) (hord : ((List.range ops.size).all fun i => match ops[i]? with | some o => o.after.all (fun e => decide (e.on < i)) | none => true) = true)
    (hd : ∀ l i, i ∈ Region.ready .any ops l → (i = 2 → l.getD 1 false = true) ∧ (i = 3 → l.getD 0 false = true ∧ l.getD 2 false = true) ∧ (i = 4 → l.getD 3 false = true))
    (st2 : ∀ v X Y, F2 v X → Below X.heap.size X Y → F2 v Y)
    (h0 : a0 = ⟨mk (fun _ => undef), []⟩)
    (s0 : ∀ t X K, Below W.heap.size W X → K ⟨mk (updT t 0 v0), []⟩ X → wpOp P ops Q 0 K ⟨mk t, []⟩ X)
    (s1 : ∀ t X K, Below W.heap.size W X → K ⟨mk (updT t 1 v1), []⟩ X → wpOp P ops Q 1 K ⟨mk t, []⟩ X)
    (s2 : ∀ t X K, Below W.heap.size W X → t 1 = v1 → (∀ v Y, F2 v Y → Below X.heap.size X Y → K ⟨mk (updT t 2 v), []⟩ Y) → wpOp P ops Q 2 K ⟨mk t, []⟩ X)
    (s3 : ∀ t X K, Below W.heap.size W X → t 0 = v0 → F2 (t 2) X → (∀ Y, Below X.heap.size X Y → K ⟨mk (updT t 3 (.bool true)), []⟩ Y) → wpOp P ops Q 3 K ⟨mk t, []⟩ X)
    (s4 : ∀ t X K, t 3 = .bool true → K ⟨mk (updT t 4 (.bool false)), []⟩ X → wpOp P ops Q 4 K ⟨mk t, []⟩ X)
    (hfin : ∀ t X, t 4 = .bool false → Below W.heap.size W X → Q .normal ⟨mk t, []⟩ X) : (Code.region id ops true).wp P Q a0 W := by
  refine wp_region_inv hm (R5 mk W v0 v1 F2) ?_ ?_ ?_ ?_
  · refine ⟨fun _ => undef, h0, by simp [hn], (Below.refl _ _).drew, fun h => ?_, fun h => ?_, fun h => ?_, fun h => ?_, fun h => ?_⟩ <;> (rw [hn] at h; simp at h)
  · rintro l a X ⟨t, _, hs, _⟩
    rw [hs, hn]
  · rintro l a X ⟨t, rfl, hs, hb, _, _, _, _, g4⟩ hr
    have AL := all_listed hord (by rw [hs, hn]) hr
    exact hfin t X (g4 (AL 4 (by omega))) hb
  · rintro l a X i ⟨t, rfl, hs, hb, g0, g1, g2, g3, g4⟩ hr
    obtain ⟨d2, d3, d4⟩ := hd l i hr
    obtain ⟨hu, o, ho, _⟩ := mem_ready.1 hr
    have hi5 : i < 5 := by
      rcases Nat.lt_or_ge i 5 with h | h
      · exact h
      · rw [Array.getElem?_eq_none (by omega)] at ho
        cases ho
    have kp : ∀ j, ¬ j = i → (l.setIfInBounds i true).getD j false = l.getD j false := fun j hj => by rw [getD_set (by omega), if_neg hj]
    have hs' : (l.setIfInBounds i true).size = 5 := by simp [hs]
    clear hr hu ho
    rcases (show i = 0 ∨ i = 1 ∨ i = 2 ∨ i = 3 ∨ i = 4 by omega) with rfl | rfl | rfl | rfl | rfl
    · refine s0 t X _ hb ⟨updT t 0 v0, rfl, hs', hb, fun _ => rfl, fun h => ?_, fun h => ?_, fun h => ?_, fun h => ?_⟩
      · rw [kp 1 (by decide)] at h; exact g1 h
      · rw [kp 2 (by decide)] at h; exact g2 h
      · rw [kp 3 (by decide)] at h; exact g3 h
      · rw [kp 4 (by decide)] at h; exact g4 h
    · refine s1 t X _ hb ⟨updT t 1 v1, rfl, hs', hb, fun h => ?_, fun _ => rfl, fun h => ?_, fun h => ?_, fun h => ?_⟩
      · rw [kp 0 (by decide)] at h; exact g0 h
      · rw [kp 2 (by decide)] at h; exact g2 h
      · rw [kp 3 (by decide)] at h; exact g3 h
      · rw [kp 4 (by decide)] at h; exact g4 h
    · refine s2 t X _ hb (g1 (d2 rfl)) (fun v Y hv hY => ⟨updT t 2 v, rfl, hs', hb.trans (hY.mono hb.size), fun h => ?_, fun h => ?_, fun _ => hv, fun h => ?_, fun h => ?_⟩)
      · rw [kp 0 (by decide)] at h; exact g0 h
      · rw [kp 1 (by decide)] at h; exact g1 h
      · rw [kp 3 (by decide)] at h; exact g3 h
      · rw [kp 4 (by decide)] at h; exact g4 h
    · refine s3 t X _ hb (g0 (d3 rfl).1) (g2 (d3 rfl).2) (fun Y hY => ⟨updT t 3 _, rfl, hs', hb.trans (hY.mono hb.size), fun h => ?_, fun h => ?_, fun h => ?_, fun _ => rfl, fun h => ?_⟩)
      · rw [kp 0 (by decide)] at h; exact g0 h
      · rw [kp 1 (by decide)] at h; exact g1 h
      · rw [kp 2 (by decide)] at h; exact st2 _ _ _ (g2 h) hY
      · rw [kp 4 (by decide)] at h; exact g4 h
    · refine s4 t X _ (g3 (d4 rfl)) ⟨updT t 4 _, rfl, hs', hb, fun h => ?_, fun h => ?_, fun h => ?_, fun h => ?_, fun _ => rfl⟩
      · rw [kp 0 (by decide)] at h; exact g0 h
      · rw [kp 1 (by decide)] at h; exact g1 h
      · rw [kp 2 (by decide)] at h; exact g2 h
      · rw [kp 3 (by decide)] at h; exact g3 h
end Go.Proofs.YtkecnaaacbckoaaGreat
namespace Go.Proofs.YtkecnaaacbckoaaGreat
open Go.RowKit Go.Maps
end Go.Proofs.YtkecnaaacbckoaaGreat
namespace Go.Proofs.YtkecnaaacbckoaaGreat
open Go.RowKit Go.Maps
end Go.Proofs.YtkecnaaacbckoaaGreat
namespace Go.Proofs.YtkecnaaacbckoaaGreat
open Go.RowKit Go.Maps
end Go.Proofs.YtkecnaaacbckoaaGreat
namespace Go.Proofs.YtkecnaaacbckoaaGreat
open Go.RowKit
set_option maxRecDepth 100000 in
set_option maxHeartbeats 800000 in
theorem copyObs_row2 (n : Nat) (c : Nat → Value) (ad : Option Addr) (cap : Nat) (w : World) (lo hi : Nat) (hhi : hi ≤ w.heap.size) (hl : (n : Int) ≤ 1099511627776) (hc : SrcRow w lo hi ad (n * 7) c) :
    Calls Tryz.prog 142 #[.slice ad n cap] w fun e w' => ∃ ad' cap', e = .returned (.slice ad' n cap') ∧ (cap' = n ∧ (n = 0 → ad' = none)) ∧ (0 < n → ad' = some ⟨w.heap.size, 0, none⟩ ∧ RowF w' w.heap.size (n * 7) c) ∧ Below w.heap.size w w' := by
  rcases Nat.eq_zero_or_pos n with h0 | hpos
  · subst h0
    go_enter Tryz.func142, Tryz.ntmps142
    go_wp2
    go_ret
    exact ⟨_, _, rfl, ⟨rfl, fun _ => rfl⟩, fun h => absurd h (Nat.lt_irrefl _), Below.refl _ _⟩
  · obtain ⟨i0, hi0, hz0, hz1, hz2⟩ := info_parts Tryz.info73
    obtain ⟨b, off, rfl, hlo, hbh, _⟩ := hc.at_ 0 (by omega)
    have hne : ((n : Int) == 0) = false := by simp; omega
    have hsz : (Tryz.prog.info? 73).map (·.size) = some 7 := by rw [hi0]; simp [hz1]
    have HC := hid hc
    clear hc
    go_enter Tryz.func142, Tryz.ntmps142
    go_wp2_with (first
      | (at_make; refine wpList_make_full _ rfl _ _ 28 rfl w.heap.size 73 i0 _ 7 Tryz.underlying28 hi0 hz0 hz1 .i64 .i64 _ _ n rfl rfl (by omega) (by omega) (by rw [hz2]; omega) (by unfold maxLen; omega) (by omega) ?_; intro w1 hown1 hgrow1; have hr1 := hid (room_made hown1); have hb1 : Below w.heap.size w w1 := (Below.refl _ _).grown hgrow1 (Nat.le_refl _) (by simp); clear hown1 hgrow1; have hrun := run_copy_many (P := Tryz.prog) w1 28 28 3 73 w.heap.size 0 n n ⟨b, off, none⟩ n cap 7 (rowCells (n * 7) c) Tryz.underlying28 hsz (by rw [rowCells_len]; simp) (by intro j u hj; obtain ⟨h1, rfl⟩ := rowCells_get hj; obtain ⟨b', off', e', _, e3, e4⟩ := HC.out.at_ j h1; cases e'; rw [show ((⟨b, off, none⟩ : Addr).add j) = ⟨b, off + j, none⟩ by simp [Addr.add], hb1.cell (p := ⟨b, off + j, none⟩) (by show b < _; omega)]; exact e4) (by intro j hj; rw [rowCells_len] at hj; obtain ⟨u, hu⟩ := hr1.out.has j hj; rw [Nat.zero_add, hu]; rfl) (by intro j _; exact hr1.out.free _) (by intro v hv; obtain ⟨i, hi, rfl⟩ := List.mem_map.1 hv; exact HC.out.one i (by simpa using hi)); have R1 := hid (RowF.filled c hr1.out); have R2 := hid ((Fr.of_below (lo := w.heap.size) (hi := w.heap.size + 1) hb1).trans (fr_setCells w.heap.size (rowCells (n * 7) c) 0 w1)); clear hr1 HC))
    go_ret
    exact ⟨_, _, rfl, ⟨rfl, fun h => absurd h (by omega)⟩, fun _ => ⟨rfl, by simpa using R1.out⟩, by simpa using R2.out.below (Nat.le_refl _) (Nat.le_refl _)⟩
end Go.Proofs.YtkecnaaacbckoaaGreat
namespace Go.Proofs.YtkecnaaacbckoaaGreat
open Go.RowKit
set_option maxRecDepth 100000 in
set_option maxHeartbeats 2000000 in
/-- bookCopyObjects -/
theorem copyObjs2_any (n : Nat) (x : Nat → Ob) (a : Option Addr) (c : Nat) (w : World) (lo hi : Nat) (hhi : hi ≤ w.heap.size) (hn : (n : Int) ≤ 1099511627776) (hf : ∀ i, i < n → ObFit (x i)) (hc : ObjsIn w lo hi a n x) :
    Calls Tryz.prog 99 #[.slice a n c] w fun e w' => ∃ ad' cap' g A C hb, e = .returned (.slice ad' n cap') ∧ (cap' = n ∧ (n = 0 → ad' = none)) ∧ ObsAt w' ad' g n x A C hb ∧ (∀ q, blkH g n (fun i => (x i).hn) hb q → w.heap.size ≤ q) ∧ Below w.heap.size w w' := by
  obtain ⟨co, Ao, Co, so, ato, sto⟩ := hc.src
  have SO := hid so
  have AO := hid ato
  have HO := hid sto
  have F4 := hid hf
  clear so ato sto hc hf
  go_enter Tryz.func99, Tryz.ntmps99
  go_wp2_with fail
  refine (copyObs_row2 n co a c _ lo hi hhi (by omega) SO.out).mono ?_
  rintro e w1 ⟨ad1, d1, rfl, hcp, hr1, hb1⟩
  have HCP := hid hcp
  clear hcp
  have HR1 := hid hr1
  have B1 := hb1
  have HA1 : Hid (0 < n → ad1 = some ⟨w.heap.size, 0, none⟩) := fun h0 => (HR1.out h0).1
  have cp0 : CpOb w1 w.heap.size n 0 x Ao Ao Co (fun _ => 0) :=
    ⟨fun h0 => ⟨co, (HR1.out h0).2, AO.out⟩, fun _ _ _ => rfl, fun i hi => absurd hi (Nat.not_lt_zero _), fun i hi => absurd hi (Nat.not_lt_zero _), fun i j hi => absurd hi (Nat.not_lt_zero _)⟩
  clear hr1 hb1
  go_wp2
  go_loopw [10] (fun i wr => ∃ (k : Nat) (A : Nat → Option Addr) (C hb : Nat → Nat), k ≤ n ∧ i = .int .i64 k ∧ Below w.heap.size w wr ∧ CpOb wr w.heap.size n k x Ao A C hb) (fun i _ => n - (intOf i).toNat)
  case atStart => exact ⟨0, _, _, _, Nat.zero_le _, rfl, B1, cp0⟩
  case round =>
    obtain ⟨k, A, C, hb, hk, rfl, b0, cp⟩ := hrel
    clear cp0
    by_cases hkn : k < n
    · obtain ⟨c, rr, hat⟩ := cp.row (by omega)
      have hA := HA1.out (by omega)
      subst hA
      obtain ⟨t0, t1, t2, t3, t4, t5, t6⟩ := hat k hkn
      have d0 := (rr.cell (k * 7) (by omega)).trans (congrArg some t0)
      have d1 := (rr.cell (k * 7 + 1) (by omega)).trans (congrArg some t1)
      have d2 := (rr.cell (k * 7 + 2) (by omega)).trans (congrArg some t2)
      have d3 := (rr.cell (k * 7 + 3) (by omega)).trans (congrArg some t3)
      have d4 := (rr.cell (k * 7 + 4) (by omega)).trans (congrArg some t4)
      have d5 := (rr.cell (k * 7 + 5) (by omega)).trans (congrArg some t5)
      have d6 := (rr.cell (k * 7 + 6) (by omega)).trans (congrArg some t6)
      have hsrc := HO.out k hkn
      rw [← cp.src k (Nat.le_refl _) hkn] at hsrc
      have HSR := hid hsrc
      have hfk : ((x k).hn : Int) ≤ 8796093022208 := (F4.out k hkn).h
      have CP := hid cp
      have RR := hid rr
      have hwz : w.heap.size < wr.heap.size := rr.lt
      clear t0 t1 t2 t3 t4 t5 t6 hsrc cp rr hat
      go_wp2_with (go_at_call 64; go_must (refine (copyOb_own (x k) (A k) (C k) _ lo hi (by simp; omega) hfk (by exact HSR.out.below (b0.alloc b0.size _) hhi)).mono ?_; rintro e w2 ⟨ad', cap', b', rfl, hb', hlt', ho', hb2⟩; have hb3 : Below wr.heap.size wr w2 := ((below_alloc _ _).trans (hb2.mono (by simp))); have rg := RR.out.below hb3 RR.out.lt; have s0 := rg.cell (k * 7) (by omega); have s1 := rg.cell (k * 7 + 1) (by omega); have s2 := rg.cell (k * 7 + 2) (by omega); have s3 := rg.cell (k * 7 + 3) (by omega); have s4 := rg.cell (k * 7 + 4) (by omega); have s5 := rg.cell (k * 7 + 5) (by omega); have s6 := rg.cell (k * 7 + 6) (by omega); have sf := rg.free; have HB3 := hid hb3; have HOO := hid ho'; have HLT := hid hlt'; have HBP := hid hb'; clear rg hb3 ho' hlt' hb' hb2))
      have hbb : wr.heap.size ≤ b' := by have := HBP.out; simp at this; omega
      have CPP := hid (CP.out.put hkn HB3.out (cap' := cap') hbb HLT.out HOO.out)
      have hz3 := HB3.out.size
      clear s0 s1 s2 s3 s4 s5 s6 sf d0 d1 d2 d3 d4 d5 d6
      go_roundw
      case rel =>
        refine ⟨k + 1, _, _, _, by omega, by go_num, ?_, CPP.out⟩
        iterate 7 refine Below.setCell ?_ (by simp) _
        exact b0.trans (HB3.out.mono (by omega))
      case measure => simp [intOf]; omega
    · have hke : k = n := by omega
      subst hke
      have CPO := hid cp
      clear cp
      go_wp2
      go_ret
      exact ⟨ad1, d1, w.heap.size, A, C, hb, rfl, HCP.out, CPO.out.done HA1.out, fun q hq => (CPO.out.rng hq).1, b0⟩
end Go.Proofs.YtkecnaaacbckoaaGreat
namespace Go.Proofs.YtkecnaaacbckoaaGreat
open Go.RowKit Go.Maps
/-- an object of a row, with where its holds lie -/
structure EO where
  ob : Ob
  A : Option Addr
  C : Nat
  hb : Nat
instance : Inhabited EO := ⟨⟨⟨ByteArray.empty, ByteArray.empty, 0, 0, ByteArray.empty, false, 0, fun _ => ByteArray.empty⟩, none, 0, 0⟩⟩
def ixE (L : List EO) (i : Nat) : EO := (L[i]?).getD default
theorem ixE_lt {L : List EO} {i : Nat} (h : i < L.length) : ixE L i = L[i] := by simp [ixE, h]
theorem ixE_mem {L : List EO} {i : Nat} (h : i < L.length) : ixE L i ∈ L := by rw [ixE_lt h]; exact List.getElem_mem h
theorem mem_ixE {L : List EO} {e : EO} (h : e ∈ L) : ∃ i, i < L.length ∧ ixE L i = e := by
  obtain ⟨i, hi, rfl⟩ := List.mem_iff_getElem.1 h
  exact ⟨i, hi, ixE_lt hi⟩
theorem ixE_left {K L : List EO} {i : Nat} (h : i < K.length) : ixE (K ++ L) i = ixE K i := by simp [ixE, List.getElem?_append_left h]
theorem ixE_right {K L : List EO} {i : Nat} : ixE (K ++ L) (K.length + i) = ixE L i := by simp [ixE, List.getElem?_append_right]
/-- the cells of a row -/
structure RowE (w : World) (g : Nat) (L : List EO) : Prop where
  lt : g < w.heap.size
  free : ∀ j, w.frozen? ⟨g, j, none⟩ = false
  ob : ∀ i, i < L.length → ObCells w g (i * 7) (ixE L i).ob (ixE L i).A (ixE L i).C
theorem ObCells.frP {w w' : World} {P : Nat → Prop} {b o : Nat} {x : Ob} {ad : Option Addr} {cap : Nat} (h : ObCells w b o x ad cap) (hf : FrP P w w') (hb : b < w.heap.size) (hp : ¬ P b) : ObCells w' b o x ad cap :=
  have e : ∀ j, w'.cell? ⟨b, j, none⟩ = w.cell? ⟨b, j, none⟩ := fun j => hf.cell (p := ⟨b, j, none⟩) hb hp
  ⟨(e _).trans h.c0, (e _).trans h.c1, (e _).trans h.c2, (e _).trans h.c3, (e _).trans h.c4, (e _).trans h.c5, (e _).trans h.c6⟩
theorem RowE.fr {w w' : World} {P : Nat → Prop} {g : Nat} {L : List EO} (h : RowE w g L) (hf : FrP P w w') (hp : ¬ P g) : RowE w' g L :=
  ⟨Nat.lt_of_lt_of_le h.lt hf.size, fun j => (hf.frozen (p := ⟨g, j, none⟩) h.lt hp).trans (h.free j), fun i hi => (h.ob i hi).frP hf h.lt hp⟩
theorem RowE.grow {w w' : World} {g : Nat} {L : List EO} (h : RowE w g L) (hf : Below w.heap.size w w') : RowE w' g L := h.fr (FrP.of_below (P := fun _ => False) hf) (fun h => h)
/-- the holds of a row: each has a block of its own -/
structure HoldE (w : World) (L : List EO) : Prop where
  hold : ∀ e, e ∈ L → StrsOwn w e.hb (e.hb + 1) e.A e.ob.hn e.ob.hs
  lt : ∀ e, e ∈ L → e.ob.hn ≠ 0 → e.hb < w.heap.size
  ap : L.Pairwise fun e f => e.ob.hn ≠ 0 → f.ob.hn ≠ 0 → e.hb ≠ f.hb
theorem HoldE.fr {w w' : World} {P : Nat → Prop} {L : List EO} (h : HoldE w L) (hf : FrP P w w') (hp : ∀ e, e ∈ L → e.ob.hn ≠ 0 → ¬ P e.hb) : HoldE w' L :=
  ⟨fun e he => (h.hold e he).frP hf (fun h0 => ⟨hp e he h0, h.lt e he h0⟩), fun e he h0 => Nat.lt_of_lt_of_le (h.lt e he h0) hf.size, h.ap⟩
theorem HoldE.grow {w w' : World} {L : List EO} (h : HoldE w L) (hf : Below w.heap.size w w') : HoldE w' L := h.fr (FrP.of_below (P := fun _ => False) hf) (fun _ _ _ h => h)
theorem HoldE.sub {w : World} {K L : List EO} (h : HoldE w L) (hs : K.Sublist L) : HoldE w K :=
  ⟨fun e he => h.hold e (hs.subset he), fun e he => h.lt e (hs.subset he), h.ap.sublist hs⟩
theorem HoldE.ins {w : World} {K L : List EO} {e : EO} (h : HoldE w (K ++ L)) (ho : StrsOwn w e.hb (e.hb + 1) e.A e.ob.hn e.ob.hs) (hl : e.ob.hn ≠ 0 → e.hb < w.heap.size) (hne : ∀ f, f ∈ K ++ L → e.ob.hn ≠ 0 → f.ob.hn ≠ 0 → e.hb ≠ f.hb) : HoldE w (K ++ e :: L) := by
  have hm : ∀ f, f ∈ K ++ e :: L → f = e ∨ f ∈ K ++ L := fun f hf => by
    rcases List.mem_append.1 hf with h1 | h1
    · exact Or.inr (List.mem_append_left _ h1)
    · rcases List.mem_cons.1 h1 with h2 | h2
      · exact Or.inl h2
      · exact Or.inr (List.mem_append_right _ h2)
  refine ⟨fun f hf => ?_, fun f hf => ?_, ?_⟩
  · rcases hm f hf with rfl | h1
    · exact ho
    · exact h.hold f h1
  · rcases hm f hf with rfl | h1
    · exact hl
    · exact h.lt f h1
  · obtain ⟨p1, p2, p3⟩ := List.pairwise_append.1 h.ap
    refine List.pairwise_append.2 ⟨p1, List.pairwise_cons.2 ⟨fun f hf => hne f (List.mem_append_right _ hf), p2⟩, fun a ha b hb => ?_⟩
    rcases List.mem_cons.1 hb with rfl | h2
    · exact fun h1 h2 e => hne a (List.mem_append_left _ ha) h2 h1 e.symm
    · exact p3 a ha b h2
theorem RowE.cellAt {w : World} {g : Nat} {L : List EO} (h : RowE w g L) {j : Nat} (hj : j < L.length * 7) : ∃ v, w.cell? ⟨g, j, none⟩ = some v := by
  have hi : j / 7 < L.length := by omega
  obtain ⟨c0, c1, c2, c3, c4, c5, c6⟩ := h.ob (j / 7) hi
  have hr : j % 7 = 0 ∨ j % 7 = 1 ∨ j % 7 = 2 ∨ j % 7 = 3 ∨ j % 7 = 4 ∨ j % 7 = 5 ∨ j % 7 = 6 := by omega
  rcases hr with e | e | e | e | e | e | e
  · exact ⟨_, by rw [show j = j / 7 * 7 by omega]; exact c0⟩
  · exact ⟨_, by rw [show j = j / 7 * 7 + 1 by omega]; exact c1⟩
  · exact ⟨_, by rw [show j = j / 7 * 7 + 2 by omega]; exact c2⟩
  · exact ⟨_, by rw [show j = j / 7 * 7 + 3 by omega]; exact c3⟩
  · exact ⟨_, by rw [show j = j / 7 * 7 + 4 by omega]; exact c4⟩
  · exact ⟨_, by rw [show j = j / 7 * 7 + 5 by omega]; exact c5⟩
  · exact ⟨_, by rw [show j = j / 7 * 7 + 6 by omega]; exact c6⟩
/-- a row with its holds is a list that lies by itself -/
theorem obsAt_of {w : World} {ad : Option Addr} {g : Nat} {L : List EO} (had : L ≠ [] → ad = some ⟨g, 0, none⟩) (hr : L ≠ [] → RowE w g L) (hh : HoldE w L) (hne : ∀ e, e ∈ L → e.ob.hn ≠ 0 → e.hb ≠ g) :
    ObsAt w ad g L.length (fun i => (ixE L i).ob) (fun i => (ixE L i).A) (fun i => (ixE L i).C) (fun i => (ixE L i).hb) := by
  have nn : 0 < L.length → L ≠ [] := fun h e => by rw [e] at h; exact absurd h (Nat.lt_irrefl _)
  refine ⟨fun h0 => had (nn h0), fun h0 => ?_, fun i hi => hh.hold _ (ixE_mem hi), fun i hi h0 => hh.lt _ (ixE_mem hi) h0, ⟨fun i hi h0 => hne _ (ixE_mem hi) h0, fun i j hi hj h1 h2 e => ?_⟩⟩
  · have r := hr (nn h0)
    have hc : ∀ o v, w.cell? ⟨g, o, none⟩ = some v → (w.cell? ⟨g, o, none⟩).getD (.int .i64 0) = v := fun o v e => by rw [e]; rfl
    refine ⟨fun j => (w.cell? ⟨g, j, none⟩).getD (.int .i64 0), ⟨r.lt, r.free, fun j hj => ?_⟩, fun i hi => ?_⟩
    · obtain ⟨v, e⟩ := r.cellAt hj
      rw [e]
      rfl
    · obtain ⟨c0, c1, c2, c3, c4, c5, c6⟩ := r.ob i hi
      exact ⟨hc _ _ c0, hc _ _ c1, hc _ _ c2, hc _ _ c3, hc _ _ c4, hc _ _ c5, hc _ _ c6⟩
  · rcases Nat.lt_trichotomy i j with h | h | h
    · exfalso
      have := List.pairwise_iff_getElem.1 hh.ap i j hi hj h
      rw [← ixE_lt hi, ← ixE_lt hj] at this
      exact this h1 h2 e
    · exact h
    · exfalso
      have := List.pairwise_iff_getElem.1 hh.ap j i hj hi h
      rw [← ixE_lt hi, ← ixE_lt hj] at this
      exact this h2 h1 e.symm
/-- and the other way -/
def rowE (n : Nat) (x : Nat → Ob) (A : Nat → Option Addr) (C hb : Nat → Nat) : List EO := (List.range n).map fun i => ⟨x i, A i, C i, hb i⟩
theorem rowE_len (n : Nat) (x : Nat → Ob) (A : Nat → Option Addr) (C hb : Nat → Nat) : (rowE n x A C hb).length = n := by simp [rowE]
theorem rowE_at {n : Nat} {x : Nat → Ob} {A : Nat → Option Addr} {C hb : Nat → Nat} {i : Nat} (h : i < n) : ixE (rowE n x A C hb) i = ⟨x i, A i, C i, hb i⟩ := by simp [ixE, rowE, h]
theorem rowE_of {w : World} {ad : Option Addr} {g n : Nat} {x : Nat → Ob} {A : Nat → Option Addr} {C hb : Nat → Nat} (h : ObsAt w ad g n x A C hb) :
    (rowE n x A C hb ≠ [] → ad = some ⟨g, 0, none⟩ ∧ RowE w g (rowE n x A C hb)) ∧ HoldE w (rowE n x A C hb) ∧ ∀ e, e ∈ rowE n x A C hb → e.ob.hn ≠ 0 → e.hb ≠ g := by
  have hm : ∀ e, e ∈ rowE n x A C hb → ∃ i, i < n ∧ e = ⟨x i, A i, C i, hb i⟩ := fun e he => by
    obtain ⟨i, hi, rfl⟩ := mem_ixE he
    rw [rowE_len] at hi
    exact ⟨i, hi, rowE_at hi⟩
  refine ⟨fun h0 => ?_, ⟨fun e he => ?_, fun e he => ?_, ?_⟩, fun e he => ?_⟩
  · have hn : 0 < n := by
      rcases Nat.eq_zero_or_pos n with e | e
      · subst e; exact absurd rfl h0
      · exact e
    obtain ⟨c, r, hc⟩ := h.row hn
    refine ⟨h.addr hn, r.lt, r.free, fun i hi => ?_⟩
    rw [rowE_len] at hi
    rw [rowE_at hi]
    obtain ⟨a0, a1, a2, a3, a4, a5, a6⟩ := hc i hi
    exact ⟨(r.cell _ (by omega)).trans (congrArg some a0), (r.cell _ (by omega)).trans (congrArg some a1), (r.cell _ (by omega)).trans (congrArg some a2), (r.cell _ (by omega)).trans (congrArg some a3), (r.cell _ (by omega)).trans (congrArg some a4), (r.cell _ (by omega)).trans (congrArg some a5), (r.cell _ (by omega)).trans (congrArg some a6)⟩
  · obtain ⟨i, hi, rfl⟩ := hm e he
    exact h.hold i hi
  · obtain ⟨i, hi, rfl⟩ := hm e he
    exact h.hlt i hi
  · refine List.pairwise_iff_getElem.2 fun i j hi hj hij => ?_
    rw [← ixE_lt hi, ← ixE_lt hj]
    rw [rowE_len] at hi hj
    rw [rowE_at hi, rowE_at hj]
    exact fun h1 h2 e => absurd (h.ap.inj i j hi hj h1 h2 e) (by omega)
  · obtain ⟨i, hi, rfl⟩ := hm e he
    exact h.ap.ne i hi
theorem rowE_obs (n : Nat) (x : Nat → Ob) (A : Nat → Option Addr) (C hb : Nat → Nat) : (rowE n x A C hb).map EO.ob = (List.range n).map x := by simp [rowE]
/-- lists as functions -/
def tkL (m : Nat) (y : Nat → Ob) : List Ob := (List.range m).map y
theorem tkL_succ (m : Nat) (y : Nat → Ob) : tkL (m + 1) y = tkL m y ++ [y m] := by simp [tkL, List.range_succ]
theorem tkL_len (m : Nat) (y : Nat → Ob) : (tkL m y).length = m := by simp [tkL]
theorem tkL_upd (m : Nat) (y : Nat → Ob) (z : Ob) : tkL (m + 1) (updF y m z) = tkL m y ++ [z] := by
  rw [tkL_succ]
  have h1 : tkL m (updF y m z) = tkL m y := by
    unfold tkL
    apply List.map_congr_left
    intro i hi
    have := List.mem_range.1 hi
    exact if_neg (by omega)
  rw [h1]
  simp [updF]
theorem tkL_eq {m m' : Nat} {y y' : Nat → Ob} (h : tkL m y = tkL m' y') : m = m' ∧ ∀ i, i < m → y i = y' i := by
  have h1 : m = m' := by
    have := congrArg List.length h
    simpa [tkL] using this
  subst h1
  refine ⟨rfl, fun i hi => ?_⟩
  have := congrArg (fun l => l[i]?) h
  simpa [tkL, hi] using this
theorem keyI_neg7 (x z : Ob) : keyI x z < 0 ↔ befB x z = true := by
  have h := keyI_bef x z
  cases hb : befB x z with
  | true => rw [hb] at h; simp at h; simp; omega
  | false => rw [hb] at h; simp at h; simp; omega
theorem keyI_nil7 (x z : Ob) : keyI x z = 0 ↔ (x.kind.toList = z.kind.toList ∧ x.name.toList = z.name.toList) := by
  unfold keyI
  constructor
  · intro h
    split at h
    · exact absurd h (by decide)
    · split at h
      · rename_i h2
        split at h
        · exact absurd h (by decide)
        · split at h
          · rename_i h3
            exact ⟨h2, h3⟩
          · exact absurd h (by decide)
      · exact absurd h (by decide)
  · rintro ⟨h1, h2⟩
    rw [if_neg (by rw [ltB_irr h1]; decide), if_pos h1, if_neg (by rw [ltB_irr h2]; decide), if_pos h2]
/-- another key -/
def otherK (o y : Ob) : Bool := decide (¬ keyI y o = 0)
/-- what becomes of a list to which a change comes: o comes ahead of the first that is not less, all of its key go -/
def putG (o : Ob) : List Ob → List Ob
  | [] => [o]
  | y :: r => if befB y o then y :: putG o r else o :: (y :: r).filter (otherK o)
def chgL (o : Ob) (gone : Bool) (l : List Ob) : List Ob := if gone then l.filter (otherK o) else putG o l
/-- as far as spec's loop has come -/
theorem putTo_done7 {x : Nat → Ob} {o : Ob} : ∀ n, tkL (putTo x o true n).m (putTo x o true n).y = (tkL n x).filter (otherK o) ∧ (putTo x o true n).done = true
  | 0 => ⟨rfl, rfl⟩
  | n + 1 => by
    obtain ⟨h1, h2⟩ := putTo_done7 (x := x) (o := o) n
    rw [tkL_succ, List.filter_append]
    show tkL (putStep o (x n) (putTo x o true n)).m (putStep o (x n) (putTo x o true n)).y = _ ∧ (putStep o (x n) (putTo x o true n)).done = true
    unfold putStep
    rw [h2, if_pos rfl]
    by_cases hk : keyI (x n) o = 0
    · rw [if_pos hk]
      exact ⟨by rw [h1]; simp [otherK, hk], h2⟩
    · rw [if_neg hk]
      exact ⟨by rw [tkL_upd, h1]; simp [otherK, hk], rfl⟩
/-- the list on the way, not gone: either all so far are less, or it has come -/
def putW (o : Ob) : List Ob → List Ob × Bool
  | [] => ([], false)
  | y :: r => if befB y o then (y :: (putW o r).1, (putW o r).2) else (o :: (y :: r).filter (otherK o), true)
theorem putW_snoc (o z : Ob) : ∀ l, putW o (l ++ [z]) = if (putW o l).2 then ((putW o l).1 ++ [z].filter (otherK o), true) else if befB z o then ((putW o l).1 ++ [z], false) else ((putW o l).1 ++ (o :: [z].filter (otherK o)), true)
  | [] => by
    simp only [List.nil_append, putW]
    cases befB z o <;> simp
  | y :: r => by
    have ih := putW_snoc o z r
    by_cases hb : befB y o = true
    · simp only [List.cons_append, putW, if_pos hb, ih]
      by_cases h1 : (putW o r).2 = true
      · simp only [if_pos h1]
      · simp only [if_neg h1]
        by_cases h2 : befB z o = true
        · simp only [if_pos h2]
        · simp only [if_neg h2]
    · simp only [List.cons_append, putW, if_neg hb, if_true]
      rw [← List.cons_append, List.filter_append]
theorem putG_W (o : Ob) : ∀ l, putG o l = if (putW o l).2 then (putW o l).1 else (putW o l).1 ++ [o]
  | [] => rfl
  | y :: r => by
    have ih := putG_W o r
    by_cases hb : befB y o = true
    · simp only [putG, putW, if_pos hb, ih]
      by_cases h1 : (putW o r).2 = true
      · simp only [if_pos h1]
      · simp only [if_neg h1, List.cons_append]
    · simp only [putG, putW, if_neg hb, if_true]
theorem putTo_here7 {x : Nat → Ob} {o : Ob} : ∀ n, tkL (putTo x o false n).m (putTo x o false n).y = (putW o (tkL n x)).1 ∧ (putTo x o false n).done = (putW o (tkL n x)).2
  | 0 => ⟨rfl, rfl⟩
  | n + 1 => by
    obtain ⟨h1, h2⟩ := putTo_here7 (x := x) (o := o) n
    rw [tkL_succ, putW_snoc]
    show tkL (putStep o (x n) (putTo x o false n)).m (putStep o (x n) (putTo x o false n)).y = _ ∧ (putStep o (x n) (putTo x o false n)).done = _
    unfold putStep
    rw [h2]
    have kn := keyI_neg7 (x n) o
    cases hd : (putW o (tkL n x)).2 with
    | true =>
      simp only [if_true]
      by_cases hk : keyI (x n) o = 0
      · rw [if_pos hk]
        exact ⟨by rw [h1]; simp [otherK, hk], by rw [h2, hd]⟩
      · rw [if_neg hk]
        exact ⟨by rw [tkL_upd, h1]; simp [otherK, hk], rfl⟩
    | false =>
      simp only [Bool.false_eq_true, if_false]
      by_cases hn : keyI (x n) o < 0
      · rw [if_pos hn, if_pos (kn.1 hn)]
        exact ⟨by rw [tkL_upd, h1], rfl⟩
      · have hb : ¬ befB (x n) o = true := fun h => hn (kn.2 h)
        rw [if_neg hn, if_neg hb]
        by_cases hk : keyI (x n) o = 0
        · rw [if_pos hk]
          exact ⟨by rw [tkL_upd, h1]; simp [otherK, hk], rfl⟩
        · rw [if_neg hk]
          refine ⟨?_, rfl⟩
          show tkL ((putTo x o false n).m + 1 + 1) _ = _
          rw [tkL_upd, tkL_upd, h1]
          simp [otherK, hk]
theorem putAll_list7 (n : Nat) (x : Nat → Ob) (o : Ob) (gone : Bool) : tkL (putAll n x o gone).m (putAll n x o gone).y = chgL o gone (tkL n x) := by
  unfold putAll putEnd chgL
  cases gone with
  | true =>
    obtain ⟨h1, h2⟩ := putTo_done7 (x := x) (o := o) n
    rw [h2]
    simpa using h1
  | false =>
    obtain ⟨h1, h2⟩ := putTo_here7 (x := x) (o := o) n
    simp only [Bool.false_eq_true, if_false]
    rw [h2, putG_W]
    cases hd : (putW o (tkL n x)).2 with
    | true => simpa using h1
    | false =>
      simp only [Bool.false_eq_true, if_false]
      rw [tkL_upd, h1]
/-- impl's way: the place of the first that is not less, all of the key out, o in -/
theorem putG_split (o : Ob) : ∀ (l : List Ob) (k : Nat), k ≤ l.length → (∀ j, j < k → ∃ y, l[j]? = some y ∧ befB y o = true) → (k < l.length → ∃ y, l[k]? = some y ∧ befB y o = false) →
    putG o l = (l.filter (otherK o)).take k ++ o :: (l.filter (otherK o)).drop k
  | [], k, hk, _, _ => by simp at hk; subst hk; rfl
  | y :: r, 0, _, _, h2 => by
    obtain ⟨z, e, hz⟩ := h2 (by simp)
    simp at e
    subst e
    simp [putG, hz]
  | y :: r, k + 1, hk, h1, h2 => by
    obtain ⟨z, e, hz⟩ := h1 0 (by omega)
    simp at e
    subst e
    have ho : otherK o y = true := by
      have := (keyI_neg7 y o).2 hz
      unfold otherK
      exact decide_eq_true (by omega)
    have ih := putG_split o r k (by simpa using hk) (fun j hj => by simpa using h1 (j + 1) (by omega)) (fun hk2 => by simpa using h2 (by simpa using hk2))
    simp only [putG, hz, if_true, List.filter_cons, ho, List.take_succ_cons, List.drop_succ_cons, List.cons_append, ih]
end Go.Proofs.YtkecnaaacbckoaaGreat
namespace Go.Proofs.YtkecnaaacbckoaaGreat
open Go.RowKit Go.Maps
set_option maxRecDepth 100000 in
set_option maxHeartbeats 1000000 in
theorem notBefore_any (x z : Ob) (ad adz : Option Addr) (cap capz bo : Nat) (w : World) (hb : bo < w.heap.size) (hz : ObCells w bo 0 z adz capz) :
    Calls Tryz.prog 192 #[.agg #[.string x.kind, .string x.name, .int .i64 x.ver, .int .i64 x.born, .string x.text, .bool x.ending, .slice ad x.hn cap], .pointer (some ⟨bo, 0, none⟩)] w fun e w' => e = .returned (.bool (!befB x z)) ∧ Below w.heap.size w w' := by
  obtain ⟨c0, c1, c2, c3, c4, c5, c6⟩ := hz
  simp only [Nat.zero_add] at c1 c2 c3 c4 c5 c6
  go_enter Tryz.func192, Tryz.ntmps192
  go_wp2_with (go_at_call 130; go_must (refine (before_any x z _ _ _ _ _).mono ?_; rintro e w1 ⟨rfl, hb1⟩))
  go_ret
  exact ⟨rfl, (below_alloc' _ _).trans (hb1.mono (by simp))⟩
theorem otherK_no (o x : Ob) : (!otherK o x) = decide (x.kind.toList = o.kind.toList ∧ x.name.toList = o.name.toList) := by
  unfold otherK
  have h := keyI_nil7 x o
  by_cases hk : keyI x o = 0
  · simp [hk, h.1 hk]
  · have : ¬ (x.kind.toList = o.kind.toList ∧ x.name.toList = o.name.toList) := fun e => hk (h.2 e)
    simp [hk, this]
theorem Tryz.fields84 : Tryz.prog.fieldsOf 98 = #[{ name := "kind", type := 9, offset := 0, embedded := false, tag := "", pkgPath := "loop.example/wharflog/impl", byteOffset := 0 }, { name := "name", type := 9, offset := 1, embedded := false, tag := "", pkgPath := "loop.example/wharflog/impl", byteOffset := 16 }] := by kernel_rfl
theorem Tryz.stood84 : Tryz.prog.stoodInHeld 98 = false := by kernel_rfl
theorem Tryz.guard84 : Tryz.prog.eqGuardType Tryz.prog.depth 98 = false := by kernel_rfl
theorem eql84 (a b c d : ByteArray) (w : World) : (binOp .eql 98 (.agg #[.string a, .string b]) (.agg #[.string c, .string d])).run Tryz.prog w = .ok (.bool (decide (a.toList = c.toList ∧ b.toList = d.toList))) w := by
  rw [run_eql_struct]
  have h : (Op.equalIn 10000 98 (.agg #[.string a, .string b]) (.agg #[.string c, .string d])).run Tryz.prog w = .ok (decide (a.toList = c.toList ∧ b.toList = d.toList)) w := by
    rw [run_equalIn_agg w 9999 98 _ _ (by rw [Tryz.fields84]; exact Tryz.underlying98) Tryz.stood84, Tryz.fields84]
    simp [go_sem, Tryz.underlying9]
    by_cases h1 : a.toList = c.toList <;> by_cases h2 : b.toList = d.toList <;> simp [h1, h2]
  rw [h]
  rfl
set_option maxRecDepth 100000 in
set_option maxHeartbeats 1000000 in
theorem sameKey_any (x o : Ob) (ad : Option Addr) (cap bk : Nat) (w : World) (hb : bk < w.heap.size) (c0 : w.cell? ⟨bk, 0, none⟩ = some (.string o.kind)) (c1 : w.cell? ⟨bk, 1, none⟩ = some (.string o.name)) :
    Calls Tryz.prog 195 #[.agg #[.string x.kind, .string x.name, .int .i64 x.ver, .int .i64 x.born, .string x.text, .bool x.ending, .slice ad x.hn cap], .pointer (some ⟨bk, 0, none⟩)] w fun e w' => e = .returned (.bool (!otherK o x)) ∧ Below w.heap.size w w' := by
  have hbl := below_alloc' w (.cells (obCells x ad cap) 73)
  have hx := holds_new w (obCells x ad cap) 73
  have hk0 := (hbl.cell (p := ⟨bk, 0, none⟩) hb).trans c0
  have hk1 := (hbl.cell (p := ⟨bk, 1, none⟩) hb).trans c1
  have hz : w.heap.size < (w.alloc (.cells (obCells x ad cap) 73)).heap.size := by simp
  go_enter Tryz.func195, Tryz.ntmps195
  go_wp2
  rw [show (#[.string x.kind, .string x.name, .int .i64 x.ver, .int .i64 x.born, .string x.text, .bool x.ending, .slice ad x.hn cap] : Array Value) = obCells x ad cap from rfl]
  generalize w.alloc (.cells (obCells x ad cap) 73) = W at *
  obtain ⟨x0, x1, x2, x3, x4, x5, x6⟩ := holds_ob hx
  have hbW : bk < W.heap.size := by omega
  have d0 := subcell hk0 hbW
  have d1 := subcell hk1 hbW
  have y0 := subcell x0 hz
  have y1 := subcell x1 hz
  have y2 := subcell x2 hz
  have y3 := subcell x3 hz
  have y4 := subcell x4 hz
  have y5 := subcell x5 hz
  have y6 := subcell x6 hz
  have hne : Nonempty (GW W) := ⟨⟨_, Below.refl _ _⟩⟩
  have HO := hid (otherK_no o x)
  clear hx hk0 hk1 x0 x1 x2 x3 x4 x5 x6 c0 c1
  have e84 := fun w => eql84 x.kind x.name o.kind o.name w
  have g84 := Tryz.guard84
  refine wp_region_grow (by kernel_rfl) (by kernel_rfl) ?_
  repeat (go_big_quiet_step ((go_at_call 63; go_must (exact grow_of (keyOf0_any x _ _ _)))))
  refine wpQuiet_nil ?_
  rintro w2 ⟨u, hu⟩
  have hw2 : Below W.heap.size W w2 := hu ▸ u.prop
  clear hu u hne y0 y1 y2 y3 y4 y5 y6 d0 d1
  go_wp2
  go_ret
  exact ⟨ret_bool (by rw [HO.out, Bool.decide_and]), hbl.trans (hw2.mono (by omega))⟩
/-- the first place, or -1 -/
def fstAt (p : EO → Bool) (L : List EO) (r : Int) : Prop := (r = -1 ∧ ∀ j, j < L.length → p (ixE L j) = false) ∨ ∃ k, k < L.length ∧ r = (k : Nat) ∧ p (ixE L k) = true ∧ ∀ j, j < k → p (ixE L j) = false
set_option maxRecDepth 100000 in
set_option maxHeartbeats 1000000 in
theorem index69_any (p : EO → Bool) (bo : Nat) (ad : Option Addr) (g cap : Nat) (L : List EO) (w : World) (hl : (L.length : Int) ≤ 1099511627776) (had : L ≠ [] → ad = some ⟨g, 0, none⟩) (hr : L ≠ [] → RowE w g L)
    (hp : ∀ (W : World) (e : EO), Below w.heap.size w W → Calls Tryz.prog 192 #[.agg #[.string e.ob.kind, .string e.ob.name, .int .i64 e.ob.ver, .int .i64 e.ob.born, .string e.ob.text, .bool e.ob.ending, .slice e.A e.ob.hn e.C], .pointer (some ⟨bo, 0, none⟩)] W fun r W' => r = .returned (.bool (p e)) ∧ Below W.heap.size W W') :
    Calls Tryz.prog 191 #[.slice ad L.length cap, .func (.func 192) #[] #[.pointer (some ⟨bo, 0, none⟩)]] w fun e w' => ∃ r, e = .returned (.int .i64 r) ∧ fstAt p L r ∧ Below w.heap.size w w' := by
  have HR := hid hr
  have HA := hid had
  have HP := hid hp
  clear hr had hp
  go_enter Tryz.func191, Tryz.ntmps191
  go_wp2
  go_loopw [5, 8] (fun _ i wr => ∃ k : Nat, k ≤ L.length ∧ i = .int .i64 k ∧ Hid (∀ j, j < k → p (ixE L j) = false) ∧ Below w.heap.size w wr) (fun _ i _ => L.length - (intOf i).toNat)
  case atStart => exact ⟨0, Nat.zero_le _, rfl, fun j hj => absurd hj (Nat.not_lt_zero _), Below.refl _ _⟩
  case round =>
    obtain ⟨k, hk, rfl, HN, hb⟩ := hrel
    by_cases hkn : k < L.length
    · have hne : L ≠ [] := fun e => by rw [e] at hkn; exact absurd hkn (Nat.not_lt_zero _)
      obtain rfl := HA.out hne
      have hrr := HR.out hne
      obtain ⟨c0, c1, c2, c3, c4, c5, c6⟩ := (hrr.ob k hkn).below hb hrr.lt
      have hgw : g < wr.heap.size := Nat.lt_of_lt_of_le hrr.lt hb.size
      have hcall := HP.out wr (ixE L k) hb
      obtain ⟨e, he⟩ : ∃ e, ixE L k = e := ⟨_, rfl⟩
      have HE := hid he
      rw [he] at c0 c1 c2 c3 c4 c5 c6 hcall
      clear he hrr
      cases hpe : p e with
      | true =>
        rw [hpe] at hcall
        go_wp2_with (go_at_call 192; go_must (refine hcall.mono ?_; rintro e2 w2 ⟨rfl, hb2⟩))
        go_ret
        exact ⟨_, rfl, Or.inr ⟨k, hkn, rfl, by rw [HE.out]; exact hpe, HN.out⟩, hb.trans (hb2.mono hb.size)⟩
      | false =>
        rw [hpe] at hcall
        go_wp2_with (go_at_call 192; go_must (refine hcall.mono ?_; rintro e2 w2 ⟨rfl, hb2⟩))
        go_roundw
        case rel => exact ⟨k + 1, by omega, by go_num, (fun j hj => by
          rcases Nat.lt_or_ge j k with h | h
          · exact HN.out j h
          · obtain rfl : j = k := by omega
            rw [HE.out]; exact hpe : ∀ j, j < k + 1 → p (ixE L j) = false), hb.trans (hb2.mono hb.size)⟩
        case measure => simp [intOf]; omega
    · obtain rfl : k = L.length := by omega
      go_wp2
      go_ret
      exact ⟨_, rfl, Or.inl ⟨rfl, HN.out⟩, hb⟩
set_option maxRecDepth 100000 in
set_option maxHeartbeats 1000000 in
theorem index73_any (p : EO → Bool) (bo : Nat) (ad : Option Addr) (g cap : Nat) (L : List EO) (w : World) (hl : (L.length : Int) ≤ 1099511627776) (had : L ≠ [] → ad = some ⟨g, 0, none⟩) (hr : L ≠ [] → RowE w g L)
    (hp : ∀ (W : World) (e : EO), Below w.heap.size w W → Calls Tryz.prog 195 #[.agg #[.string e.ob.kind, .string e.ob.name, .int .i64 e.ob.ver, .int .i64 e.ob.born, .string e.ob.text, .bool e.ob.ending, .slice e.A e.ob.hn e.C], .pointer (some ⟨bo, 0, none⟩)] W fun r W' => r = .returned (.bool (p e)) ∧ Below W.heap.size W W') :
    Calls Tryz.prog 191 #[.slice ad L.length cap, .func (.func 195) #[] #[.pointer (some ⟨bo, 0, none⟩)]] w fun e w' => ∃ r, e = .returned (.int .i64 r) ∧ fstAt p L r ∧ Below w.heap.size w w' := by
  have HR := hid hr
  have HA := hid had
  have HP := hid hp
  clear hr had hp
  go_enter Tryz.func191, Tryz.ntmps191
  go_wp2
  go_loopw [5, 8] (fun _ i wr => ∃ k : Nat, k ≤ L.length ∧ i = .int .i64 k ∧ Hid (∀ j, j < k → p (ixE L j) = false) ∧ Below w.heap.size w wr) (fun _ i _ => L.length - (intOf i).toNat)
  case atStart => exact ⟨0, Nat.zero_le _, rfl, fun j hj => absurd hj (Nat.not_lt_zero _), Below.refl _ _⟩
  case round =>
    obtain ⟨k, hk, rfl, HN, hb⟩ := hrel
    by_cases hkn : k < L.length
    · have hne : L ≠ [] := fun e => by rw [e] at hkn; exact absurd hkn (Nat.not_lt_zero _)
      obtain rfl := HA.out hne
      have hrr := HR.out hne
      obtain ⟨c0, c1, c2, c3, c4, c5, c6⟩ := (hrr.ob k hkn).below hb hrr.lt
      have hgw : g < wr.heap.size := Nat.lt_of_lt_of_le hrr.lt hb.size
      have hcall := HP.out wr (ixE L k) hb
      obtain ⟨e, he⟩ : ∃ e, ixE L k = e := ⟨_, rfl⟩
      have HE := hid he
      rw [he] at c0 c1 c2 c3 c4 c5 c6 hcall
      clear he hrr
      cases hpe : p e with
      | true =>
        rw [hpe] at hcall
        go_wp2_with (go_at_call 195; go_must (refine hcall.mono ?_; rintro e2 w2 ⟨rfl, hb2⟩))
        go_ret
        exact ⟨_, rfl, Or.inr ⟨k, hkn, rfl, by rw [HE.out]; exact hpe, HN.out⟩, hb.trans (hb2.mono hb.size)⟩
      | false =>
        rw [hpe] at hcall
        go_wp2_with (go_at_call 195; go_must (refine hcall.mono ?_; rintro e2 w2 ⟨rfl, hb2⟩))
        go_roundw
        case rel => exact ⟨k + 1, by omega, by go_num, (fun j hj => by
          rcases Nat.lt_or_ge j k with h | h
          · exact HN.out j h
          · obtain rfl : j = k := by omega
            rw [HE.out]; exact hpe : ∀ j, j < k + 1 → p (ixE L j) = false), hb.trans (hb2.mono hb.size)⟩
        case measure => simp [intOf]; omega
    · obtain rfl : k = L.length := by omega
      go_wp2
      go_ret
      exact ⟨_, rfl, Or.inl ⟨rfl, HN.out⟩, hb⟩
end Go.Proofs.YtkecnaaacbckoaaGreat
namespace Go.Proofs.YtkecnaaacbckoaaGreat
open Go.RowKit Go.Maps
theorem zeroCells_len (z : Array Value) (n : Nat) : (Builtin.zeroCells z n).toList.length = n * z.size := by simp [Builtin.zeroCells]
theorem run_clear_many {P : Program} (w : World) (t e ty : TypeId) (z : Value) (ht : P.underlying t = some (.slice e)) (hv : ∀ w, (zeroValue e).run P w = .ok z w) (h1 : ∀ v ∈ z.cells.toList, v.oneCell' = true) (b o n c : Nat) (hn : 0 < n)
    (hc : ∀ j, j < n * z.cells.size → (w.cell? ⟨b, o + j, none⟩).isSome = true) (hf : ∀ j, j < n * z.cells.size → w.frozen? ⟨b, o + j, none⟩ = false) :
    (Builtin.clear_ #[t] ty #[.slice (some ⟨b, o, none⟩) n c]).run P w = .ok (.tuple #[]) (w.setCells b o (Builtin.zeroCells z.cells n).toList) := by
  have hst := run_storeCells_cells (P := P) b o (Builtin.zeroCells z.cells n).toList 0 w (by rw [zeroCells_len]; simpa using hc) (by rw [zeroCells_len]; simpa using hf) (by
    intro v hv'
    have hv2 : v ∈ Builtin.zeroCells z.cells n := by simpa using hv'
    unfold Builtin.zeroCells at hv2
    obtain ⟨i, hi, rfl⟩ := Array.mem_map.1 hv2
    have hi2 : i < n * z.cells.size := by simpa using hi
    have hz : 0 < z.cells.size := by
      rcases Nat.eq_zero_or_pos z.cells.size with h | h
      · rw [h] at hi2; omega
      · exact h
    have hm : i % z.cells.size < z.cells.size := Nat.mod_lt _ hz
    rw [getElem!_pos z.cells _ hm]
    exact h1 _ (by simp))
  simp only [Nat.add_zero] at hst
  obtain ⟨m, rfl⟩ : ∃ m, n = m + 1 := ⟨n - 1, by omega⟩
  simp [Builtin.clear_, run_underlying ht, hv, hst]
theorem FrP.setCells {P : Nat → Prop} {b : Nat} (hp : P b) : ∀ (vs : List Value) (o : Nat) (a w : World), FrP P a w → FrP P a (w.setCells b o vs)
  | [], _, _, _, h => h
  | v :: r, o, a, _w, h => FrP.setCells hp r (o + 1) a _ (h.setCell (p := ⟨b, o, none⟩) hp v)
theorem size_setCells' (b : Nat) : ∀ (vs : List Value) (o : Nat) (w : World), (w.setCells b o vs).heap.size = w.heap.size
  | [], _, _ => rfl
  | v :: r, o, w => (size_setCells' b r (o + 1) (w.setCell ⟨b, o, none⟩ v)).trans (World.size_setCell _ _ _)
def encE (e : EO) : List Value := [.string e.ob.kind, .string e.ob.name, .int .i64 e.ob.ver, .int .i64 e.ob.born, .string e.ob.text, .bool e.ob.ending, .slice e.A e.ob.hn e.C]
theorem ixE_set_ne {K : List EO} {i t : Nat} {e : EO} (h : ¬ t = i) : ixE (K.set i e) t = ixE K t := by
  unfold ixE
  rw [List.getElem?_set_ne (fun q => h q.symm)]
theorem ixE_set {K : List EO} {i : Nat} {e : EO} (h : i < K.length) : ixE (K.set i e) i = e := by simp [ixE, h]
theorem RowE.set {w : World} {g : Nat} {K : List EO} (h : RowE w g K) {i : Nat} (hi : i < K.length) (e : EO) : RowE (w.setCells g (i * 7) (encE e)) g (K.set i e) := by
  refine ⟨by rw [size_setCells']; exact h.lt, fun j => by rw [World.frozen?_setCells]; exact h.free j, fun t ht => ?_⟩
  rw [List.length_set] at ht
  by_cases hti : t = i
  · subst hti
    rw [ixE_set hi]
    have hin := World.cell?_setCells_in g (encE e) (t * 7) w (fun j hj => by
      have hj2 : j < 7 := hj
      obtain ⟨v, hv⟩ := h.cellAt (j := t * 7 + j) (by omega)
      rw [hv]; rfl)
    exact ⟨hin 0 (by simp [encE]), hin 1 (by simp [encE]), hin 2 (by simp [encE]), hin 3 (by simp [encE]), hin 4 (by simp [encE]), hin 5 (by simp [encE]), hin 6 (by simp [encE])⟩
  · rw [ixE_set_ne hti]
    have hout : ∀ k, k < 7 → (w.setCells g (i * 7) (encE e)).cell? ⟨g, t * 7 + k, none⟩ = w.cell? ⟨g, t * 7 + k, none⟩ := fun k hk => World.cell?_setCells_out g (encE e) (i * 7) w ⟨g, t * 7 + k, none⟩ (fun _ _ => by
      show t * 7 + k < i * 7 ∨ i * 7 + 7 ≤ t * 7 + k
      omega)
    obtain ⟨c0, c1, c2, c3, c4, c5, c6⟩ := h.ob t ht
    exact ⟨(hout 0 (by decide)).trans c0, (hout 1 (by decide)).trans c1, (hout 2 (by decide)).trans c2, (hout 3 (by decide)).trans c3, (hout 4 (by decide)).trans c4, (hout 5 (by decide)).trans c5, (hout 6 (by decide)).trans c6⟩
/-- the first few of a row, whatever is behind them -/
theorem RowE.cut {w : World} {g : Nat} {K M : List EO} (h : RowE w g K) {o : Nat} (vs : List Value) (hm : M.length ≤ K.length) (he : ∀ t, t < M.length → ixE M t = ixE K t) (ho : M.length * 7 ≤ o) : RowE (w.setCells g o vs) g M := by
  refine ⟨by rw [size_setCells']; exact h.lt, fun j => by rw [World.frozen?_setCells]; exact h.free j, fun t ht => ?_⟩
  rw [he t ht]
  have hout : ∀ k, k < 7 → (w.setCells g o vs).cell? ⟨g, t * 7 + k, none⟩ = w.cell? ⟨g, t * 7 + k, none⟩ := fun k hk => World.cell?_setCells_out g vs o w ⟨g, t * 7 + k, none⟩ (fun _ _ => by
    left
    show t * 7 + k < o
    omega)
  obtain ⟨c0, c1, c2, c3, c4, c5, c6⟩ := h.ob t (by omega)
  exact ⟨(hout 0 (by decide)).trans c0, (hout 1 (by decide)).trans c1, (hout 2 (by decide)).trans c2, (hout 3 (by decide)).trans c3, (hout 4 (by decide)).trans c4, (hout 5 (by decide)).trans c5, (hout 6 (by decide)).trans c6⟩
/-- the row on the way: what was kept of the first j, and what is to come -/
structure DelI (kp : EO → Bool) (L K : List EO) (i j : Nat) : Prop where
  len : K.length = L.length
  lt : i < j
  jn : j ≤ L.length
  cnt : ((L.take j).filter kp).length = i
  low : ∀ t, t < i → ixE K t = ixE ((L.take j).filter kp) t
  high : ∀ t, j ≤ t → ixE K t = ixE L t
theorem take_succ_ix {L : List EO} {j : Nat} (h : j < L.length) : L.take (j + 1) = L.take j ++ [ixE L j] := by
  rw [ixE_lt h]
  exact (List.take_append_getElem h).symm
theorem DelI.skip {kp : EO → Bool} {L K : List EO} {i j : Nat} (h : DelI kp L K i j) (hj : j < L.length) (hk : kp (ixE L j) = false) : DelI kp L K i (j + 1) := by
  have e : (L.take (j + 1)).filter kp = (L.take j).filter kp := by rw [take_succ_ix hj, List.filter_append]; simp [hk]
  exact ⟨h.len, by have := h.lt; omega, hj, by rw [e]; exact h.cnt, fun t ht => by rw [e]; exact h.low t ht, fun t ht => h.high t (by omega)⟩
theorem DelI.keep {kp : EO → Bool} {L K : List EO} {i j : Nat} (h : DelI kp L K i j) (hj : j < L.length) (hk : kp (ixE L j) = true) : DelI kp L (K.set i (ixE L j)) (i + 1) (j + 1) := by
  have e : (L.take (j + 1)).filter kp = (L.take j).filter kp ++ [ixE L j] := by rw [take_succ_ix hj, List.filter_append]; simp [hk]
  have hij := h.lt
  refine ⟨by rw [List.length_set]; exact h.len, by omega, hj, by rw [e, List.length_append, h.cnt]; rfl, fun t ht => ?_, fun t ht => ?_⟩
  · rw [e]
    by_cases hti : t = i
    · subst hti
      rw [ixE_set (by rw [h.len]; omega)]
      have := ixE_right (K := (L.take j).filter kp) (L := [ixE L j]) (i := 0)
      rw [h.cnt] at this
      rw [Nat.add_zero] at this
      rw [this]
      rfl
    · rw [ixE_set_ne hti, ixE_left (by rw [h.cnt]; omega)]
      exact h.low t (by omega)
  · rw [ixE_set_ne (by omega)]
    exact h.high t (by omega)
theorem filter_take_all {kp : EO → Bool} {L : List EO} : ∀ {k : Nat}, k ≤ L.length → (∀ t, t < k → kp (ixE L t) = true) → (L.take k).filter kp = L.take k := fun {k} hk h => by
  apply List.filter_eq_self.2
  intro a ha
  obtain ⟨i, hi, rfl⟩ := List.mem_iff_getElem.1 ha
  have hi2 : i < k := by simp at hi; omega
  have := h i hi2
  rw [ixE_lt (by omega)] at this
  simpa using this
theorem DelI.start {kp : EO → Bool} {L : List EO} {k : Nat} (hk : k < L.length) (h0 : kp (ixE L k) = false) (h1 : ∀ t, t < k → kp (ixE L t) = true) : DelI kp L L k (k + 1) := by
  have e : (L.take (k + 1)).filter kp = L.take k := by rw [take_succ_ix hk, List.filter_append, filter_take_all (by omega) h1]; simp [h0]
  refine ⟨rfl, by omega, hk, by rw [e]; simp; omega, fun t ht => ?_, fun t _ => rfl⟩
  rw [e]
  simp [ixE, ht]
def DelR (o : Ob) (L : List EO) (g : Nat) (w : World) (s5 s6 : Value) (wr : World) : Prop := ∃ (i j : Nat) (K : List EO), s5 = .int .i64 i ∧ s6 = .int .i64 j ∧ DelI (fun e => otherK o e.ob) L K i j ∧ RowE wr g K ∧ FrP (fun q => q = g) w wr
theorem Tryz.zero50' : ∀ w, (zeroValue 73).run Tryz.prog w = .ok (.agg #[.string ByteArray.empty, .string ByteArray.empty, .int .i64 0, .int .i64 0, .string ByteArray.empty, .bool false, .slice none 0 0]) w := fun w => by kernel_rfl
set_option maxRecDepth 100000 in
set_option maxHeartbeats 2000000 in
theorem delete_any (o : Ob) (bk : Nat) (ad : Option Addr) (g cap : Nat) (L : List EO) (w : World) (hl : (L.length : Int) ≤ 1099511627776) (hcap : L.length ≤ cap) (had : L ≠ [] → ad = some ⟨g, 0, none⟩) (hr : L ≠ [] → RowE w g L) (hbk : bk < w.heap.size) (hgk : ¬ bk = g)
    (k0 : w.cell? ⟨bk, 0, none⟩ = some (.string o.kind)) (k1 : w.cell? ⟨bk, 1, none⟩ = some (.string o.name)) :
    Calls Tryz.prog 194 #[.slice ad L.length cap, .func (.func 195) #[] #[.pointer (some ⟨bk, 0, none⟩)]] w fun e w' => e = .returned (.slice ad (L.filter (fun e => otherK o e.ob)).length cap) ∧ (L ≠ [] → RowE w' g (L.filter (fun e => otherK o e.ob))) ∧ FrP (fun q => L ≠ [] ∧ q = g) w w' := by
  have hidx := index73_any (fun e => !otherK o e.ob) bk ad g cap L w hl had hr (fun W e hb => sameKey_any e.ob o e.A e.C bk W (Nat.lt_of_lt_of_le hbk hb.size) ((hb.cell (p := ⟨bk, 0, none⟩) hbk).trans k0) ((hb.cell (p := ⟨bk, 1, none⟩) hbk).trans k1))
  have HK : Hid (∀ W, FrP (fun q => q = g) w W → bk < W.heap.size ∧ W.cell? ⟨bk, 0, none⟩ = some (.string o.kind) ∧ W.cell? ⟨bk, 1, none⟩ = some (.string o.name)) := fun W hf => ⟨Nat.lt_of_lt_of_le hbk hf.size, (hf.cell (p := ⟨bk, 0, none⟩) hbk hgk).trans k0, (hf.cell (p := ⟨bk, 1, none⟩) hbk hgk).trans k1⟩
  have HR := hid hr
  have HA := hid had
  clear hr had k0 k1
  go_enter Tryz.func194, Tryz.ntmps194
  go_wp2_with fail
  refine hidx.mono ?_
  rintro e w1 ⟨r, rfl, hfst, hb1⟩
  clear hidx
  rcases hfst with ⟨rfl, hall⟩ | ⟨k, hk, rfl, hkt, hkn⟩
  · have hfil : L.filter (fun e => otherK o e.ob) = L := List.filter_eq_self.2 (fun e he => by
      obtain ⟨i, hi, rfl⟩ := mem_ixE he
      have := hall i hi
      simpa using this)
    have HB := hid hb1
    have HL := hid hfil
    clear hall hb1 hfil
    go_wp2
    go_ret
    rw [HL.out]
    exact ⟨rfl, fun h => (HR.out h).grow HB.out, FrP.of_below HB.out⟩
  · have hne : L ≠ [] := fun e => by rw [e] at hk; exact absurd hk (Nat.not_lt_zero _)
    obtain rfl := HA.out hne
    have hd0 : DelR o L g w (.int .i64 (k : Nat)) (.int .i64 ((k : Int) + 1)) w1 := ⟨k, k + 1, L, rfl, by go_num, DelI.start hk (by simpa using hkt) (fun t ht => by simpa using hkn t ht), (HR.out hne).grow hb1, FrP.of_below hb1⟩
    have HD := hid hd0
    have hkz : (k : Int) < L.length := by omega
    clear hd0 hkt hkn hb1 HA HR
    go_wp2
    go_loopw [5, 6, 7] (fun s5 s6 _ wr => DelR o L g w s5 s6 wr) (fun _ s6 _ _ => L.length - (intOf s6).toNat)
    case atStart => exact HD.out
    case round =>
      obtain ⟨i, j, K, rfl, rfl, hI, hR, hf⟩ := hrel
      have HI := hid hI
      have HRR := hid hR
      have hij := hI.lt
      have hjn := hI.jn
      have hlen := hI.len
      by_cases hj : j < L.length
      · obtain ⟨c0, c1, c2, c3, c4, c5, c6⟩ := hR.ob j (by omega)
        rw [hI.high j (Nat.le_refl _)] at c0 c1 c2 c3 c4 c5 c6
        obtain ⟨e, he⟩ : ∃ e, ixE L j = e := ⟨_, rfl⟩
        rw [he] at c0 c1 c2 c3 c4 c5 c6
        have HE := hid he
        have hgw := hR.lt
        have hjz : (j : Int) < L.length := by omega
        clear hI hR he
        go_wp2_with fail
        have hf2 : FrP (fun q => q = g) w (wr.alloc (.cells (obCells e.ob e.A e.C) 73)) := hf.trans (FrP.of_below (below_alloc' _ _))
        obtain ⟨kb, kc0, kc1⟩ := HK.out _ hf2
        refine (sameKey_any e.ob o e.A e.C bk _ kb kc0 kc1).mono ?_
        rintro e2 w2 ⟨rfl, hb2⟩
        have hbb : Below wr.heap.size wr w2 := (below_alloc' _ _).trans (hb2.mono (by simp))
        obtain ⟨b0, b1, b2, b3, b4, b5, b6⟩ := holds_ob ((holds_new wr (obCells e.ob e.A e.C) 73).below hb2 (by simp))
        have hf3 : FrP (fun q => q = g) w w2 := hf.trans (FrP.of_below hbb)
        have HR2 := hid (HRR.out.grow hbb)
        have HF3 := hid hf3
        have hgw2 := HR2.out.lt
        have hz2 : wr.heap.size < w2.heap.size := by have := hb2.size; simp at this; omega
        clear c0 c1 c2 c3 c4 c5 c6 hb2 hbb hf hf2 hf3 kb kc0 kc1 HRR hgw
        cases hk2 : otherK o e.ob with
        | false =>
          go_wp2
          go_roundw
          case rel => exact ⟨_, _, _, _, _, _, _, _, _, _, _, _, _, _, _, _, _, _, _, _, _, _, _, ⟨i, j + 1, K, rfl, by go_num, HI.out.skip hj (by rw [HE.out]; exact hk2), HR2.out, HF3.out⟩, rfl⟩
          case measure => simp [intOf]; omega
        | true =>
          obtain ⟨o0, o1, o2, o3, o4, o5, o6⟩ := HR2.out.ob i (by omega)
          have f0 := HR2.out.free (i * 7)
          have f1 := HR2.out.free (i * 7 + 1)
          have f2 := HR2.out.free (i * 7 + 2)
          have f3 := HR2.out.free (i * 7 + 3)
          have f4 := HR2.out.free (i * 7 + 4)
          have f5 := HR2.out.free (i * 7 + 5)
          have f6 := HR2.out.free (i * 7 + 6)
          have hiz : (i : Int) < L.length := by omega
          go_wp2
          go_roundw
          case rel =>
            have hI2 := HI.out.keep hj (by rw [HE.out]; exact hk2)
            rw [HE.out] at hI2
            exact ⟨_, _, _, _, _, _, _, _, _, _, _, _, _, _, _, _, _, _, _, _, _, _, _, ⟨i + 1, j + 1, K.set i e, by go_num, by go_num, hI2, HR2.out.set (by omega) e, FrP.setCells (P := fun q => q = g) rfl (encE e) (i * 7) w w2 HF3.out⟩, rfl⟩
          case measure => simp [intOf]; omega
      · obtain rfl : j = L.length := by omega
        have hcl : ∀ ty, (Builtin.clear_ #[28] ty #[.slice (some ⟨g, i * 7, none⟩) (L.length - i) (cap - i)]).run Tryz.prog wr = .ok (.tuple #[]) (wr.setCells g (i * 7) (Builtin.zeroCells #[.string ByteArray.empty, .string ByteArray.empty, .int .i64 0, .int .i64 0, .string ByteArray.empty, .bool false, .slice none 0 0] (L.length - i)).toList) :=
          fun ty => run_clear_many wr 28 73 ty _ Tryz.underlying28 Tryz.zero50' (by decide) g (i * 7) _ _ (by omega) (fun t ht => by
            obtain ⟨v, hv⟩ := hR.cellAt (j := i * 7 + t) (by simp [Value.cells] at ht; omega)
            rw [hv]; rfl) (fun t ht => hR.free _)
        have hiz : (i : Int) < L.length := by omega
        have HF := hid hf
        have hgw := hR.lt
        clear hI hR hf
        go_wp2
        go_ret
        have hI := HI.out
        have hcnt := hI.cnt
        have hlow := hI.low
        rw [List.take_length] at hcnt hlow
        exact ⟨congrArg (fun z : Nat => Ending.returned (.slice (some ⟨g, 0, none⟩) z cap)) hcnt.symm, fun _ => HRR.out.cut _ (by omega) (fun t ht => (hlow t (by omega)).symm) (by omega), (FrP.setCells (P := fun q => q = g) rfl _ _ _ _ HF.out).mono (fun q e => ⟨hne, e⟩)⟩
end Go.Proofs.YtkecnaaacbckoaaGreat
namespace Go.Proofs.YtkecnaaacbckoaaGreat
open Go.RowKit Go.Maps
theorem wpList_builtin_append {P : Program} {w w' : World} {ops : Array Oper} {rest : List Oper} {o : Oper} {a : Act} {Q : Exit → Act → World → Prop} (hgd : o.guard = none) (s x : Operand) (t t' : TypeId)
    (ho : o.op = .call { callee := .builtin .append, args := #[s, x], argTypes := #[t, t'] }) (u u' v : Value) (hs : a.eval s = u) (hx : a.eval x = u') (hrun : (Builtin.append_ #[t, t'] o.type #[u, u']).run P w = .ok v w')
    (h : wpList P ops Q rest (a.put o.dst v) w') : wpList P ops Q (o :: rest) a w := by
  refine wpList_plain hgd fun K hK => ?_
  unfold Oper.wp
  simp [execOp, ho, resolve, invoke, builtin, hs, hx, hrun, Result.andThen]
  exact hK _ _ h
set_option maxRecDepth 100000 in
set_option maxHeartbeats 1000000 in
theorem grow_any (n : Nat) (w : World) (h0 : 0 < n) (hn : (n : Int) ≤ 1099511627776) :
    Calls Tryz.prog 197 #[.slice none 0 0, .int .i64 n] w fun e w' => ∃ v, e = .returned v ∧ w'.ownsRow w.heap.size 73 7 v 0 [] ∧ Below w.heap.size w w' := by
  obtain ⟨i0, hi0, hz0, hz1, hz2⟩ := info_parts Tryz.info73
  have hrz : ∀ ty, ∃ G cur, n ≤ G ∧ G ≤ maxLen ∧ cur.size = G * 7 ∧ (Builtin.append_ #[28, 3] ty #[.slice none 0 0, .int .i64 (n : Int)]).run Tryz.prog w = .ok (.slice (some ⟨w.heap.size, 0, none⟩) n G) (w.drew.alloc (.cells cur 73)) := fun ty => by
    have h := Lib.run_append_grow_zeros w 28 3 ty 73 i0 _ .i64 .i64 Tryz.underlying28 Tryz.underlying3 hi0 hz0 none 0 0 [] (run_firstCells_none w.drew i0.size 0 0 0) n h0 (by omega) (by omega) (by omega) (by rw [hz2]; omega) (growslice_fits (by omega) (by rw [hz2]; omega))
    rw [Nat.zero_add] at h
    refine ⟨_, _, grownCap_ge w _ _ _, grownCap_le_maxLen w n 0 73 (by unfold maxLen; omega), ?_, h⟩
    have hG := grownCap_ge w n 0 73
    simp only [Array.size_append, Builtin.zeroCells, Array.size_map, Array.size_range]
    simp [Value.cells]
    omega
  obtain ⟨G, cur, hG1, hG2, hcur, hap⟩ := hrz 28
  have h63 : (G : Int) ≤ 9223372036854775807 := by unfold maxLen at hG2; omega
  have HC := hid hcur
  have HG := hid hG2
  have HAP := hid hap
  clear hap
  clear hcur hG2 hrz hi0 hz0 hz1 hz2
  go_enter Tryz.func197, Tryz.ntmps197
  go_wp2_with (at_builtin; go_must (refine wpList_builtin_append rfl _ _ 28 3 rfl _ _ _ rfl rfl HAP.out ?_))
  go_ret
  exact ⟨_, rfl, World.ownsRow_made (base := w.heap.size) (e := 73) (size := 7) w.drew cur G (Nat.le_refl _) HG.out HC.out, ((Below.refl _ _).drew).alloc (Nat.le_refl _) _⟩
/-- what lies in several lists, one behind the other -/
def flatN (f : Nat → List Value) : Nat → List Value | 0 => [] | k + 1 => flatN f k ++ f k
theorem sumTo_le {f : Nat → Nat} {k q : Nat} (h : k ≤ q) : sumTo f k ≤ sumTo f q := sumTo_mono f h
structure SrcN (w : World) (q : Nat) (A : Nat → Option Addr) (M C : Nat → Nat) (news : Nat → List Value) : Prop where
  len : ∀ j, j < q → (news j).length = M j * 7
  one : ∀ j, j < q → ∀ u ∈ news j, u.oneCell' = true
  src : ∀ j, j < q → (A j = none ∧ M j = 0 ∧ C j = 0) ∨ ∃ b off, A j = some ⟨b, off, none⟩ ∧ b < w.heap.size ∧ ∀ t u, (news j)[t]? = some u → w.cell? ⟨b, off + t, none⟩ = some u
set_option maxRecDepth 100000 in
set_option maxHeartbeats 2000000 in
theorem concat_any (q : Nat) (A : Nat → Option Addr) (M C : Nat → Nat) (news : Nat → List Value) (b : Nat) (w : World) (hb : b < w.heap.size) (hq : (q : Int) ≤ 1000) (hcell : ∀ j, j < q → w.cell? ⟨b, j, none⟩ = some (.slice (A j) (M j) (C j))) (hsrc : SrcN w q A M C news) (hs0 : 0 < sumTo M q) (hs1 : (sumTo M q : Int) ≤ 1099511627776) :
    Calls Tryz.prog 196 #[.slice (some ⟨b, 0, none⟩) q q] w fun e w' => ∃ v, e = .returned v ∧ w'.ownsRow w.heap.size 73 7 v (sumTo M q) (flatN news q) ∧ Below w.heap.size w w' := by
  obtain ⟨i0, hi0, hz0, hz1, hz2⟩ := info_parts Tryz.info73
  have HC := hid hcell
  have HS := hid hsrc
  have hmo : ∀ k, k ≤ q → sumTo M k ≤ sumTo M q := fun k hk => sumTo_mono M hk
  have HM := hid hmo
  clear hcell hsrc hmo
  go_enter Tryz.func196, Tryz.ntmps196
  go_wp2
  go_loopw [3, 5, 11] (fun s _ i wr => ∃ k : Nat, k ≤ q ∧ i = .int .i64 k ∧ s = .int .i64 (sumTo M k : Nat) ∧ wr = w) (fun _ _ i _ => q - (intOf i).toNat)
  case atStart => exact ⟨0, Nat.zero_le _, rfl, rfl, rfl⟩
  case round =>
    obtain ⟨k, hk, rfl, rfl, rfl⟩ := hrel
    by_cases hkq : k < q
    · have c0 := HC.out k hkq
      have hm := HM.out (k + 1) hkq
      have hms : sumTo M (k + 1) = sumTo M k + M k := rfl
      rw [hms] at hm
      have hkz : (k : Int) < q := by omega
      clear hms
      go_wp2
      go_roundw
      case rel => exact ⟨k + 1, hkq, by go_num, congrArg (Value.int .i64) (by show (_ : Int) = ((sumTo M k + M k : Nat) : Int); omega), trivial⟩
      case measure => simp [intOf]; omega
    · obtain rfl : k = q := by omega
      have hs2 : ¬ (sumTo M k : Int) < 0 := by omega
      go_wp2_with (go_at_call 197; go_must (refine (grow_any (sumTo M k) _ hs0 hs1).mono ?_; rintro e w1 ⟨v1, rfl, hown1, hb1⟩))
      have HO1 := hid hown1
      clear hown1
      obtain ⟨W0, hW0⟩ : ∃ W0, W0 = wr := ⟨_, rfl⟩
      subst hW0
      go_loopw [6, 8, 27] (fun v _ i wr => ∃ j : Nat, j ≤ k ∧ i = .int .i64 j ∧ Hid (wr.ownsRow W0.heap.size 73 7 v (sumTo M j) (flatN news j)) ∧ Below W0.heap.size W0 wr) (fun _ _ i _ => k - (intOf i).toNat)
      case atStart => exact ⟨0, Nat.zero_le _, rfl, HO1.out, hb1⟩
      case round =>
        clear HO1 hb1 hkq
        obtain ⟨j, hj, rfl, HOW, hbr⟩ := hrel
        by_cases hjk : j < k
        · have c0 := (hbr.cell (p := ⟨b, j, none⟩) hb).trans (HC.out j hjk)
          have hm := HM.out (j + 1) hjk
          have hms : sumTo M (j + 1) = sumTo M j + M j := rfl
          rw [hms] at hm
          have HMS := hid hms
          have hjz : (j : Int) < k := by omega
          have hbw : b < wr.heap.size := Nat.lt_of_lt_of_le hb hbr.size
          clear hms
          rcases HS.out.src j hjk with ⟨hA, hM0, hC0⟩ | ⟨sb, off, hA, hsb, hcs⟩
          · rw [hA, hM0, hC0] at c0
            have hnil : news j = [] := List.length_eq_zero_iff.1 (by rw [HS.out.len j hjk, hM0])
            have HN := hid hnil
            have HM0 := hid hM0
            clear hA hM0 hC0 hnil
            go_wp2_with (at_builtin; go_must (refine wpList_append_own_none rfl _ _ 28 rfl W0.heap.size 73 i0 7 Tryz.underlying28 hi0 _ (sumTo M j) (flatN news j) rfl HOW.out rfl ?_))
            go_roundw
            case rel => exact ⟨j + 1, hjk, by go_num, (show Hid _ from by
              show wr.ownsRow W0.heap.size 73 7 _ (sumTo M j + M j) (flatN news j ++ news j)
              rw [HN.out, HM0.out, List.append_nil]
              exact HOW.out), hbr⟩
            case measure => simp [intOf]; omega
          · rw [hA] at c0
            have HNW := hid (show ∀ t u, (news j)[t]? = some u → wr.cell? ((⟨sb, off, none⟩ : Addr).add t) = some u from fun t u h => by
              rw [Addr.add_lit]
              exact (hbr.cell (p := ⟨sb, off + t, none⟩) hsb).trans (hcs t u h))
            clear hcs hA
            go_wp2_with (at_builtin; go_must (refine wpList_append_own_at _ rfl _ _ 28 rfl W0.heap.size 73 i0 _ 7 96 Tryz.underlying28 hi0 hz0 hz1 hz2 rfl (by decide) _ (sumTo M j) (flatN news j) rfl HOW.out ⟨sb, off, none⟩ (M j) (C j) (news j) rfl (HS.out.len j hjk) HNW.out (HS.out.one j hjk) (by unfold maxLen; omega) (by omega) hbr.size ?_; intro v' w2 hown2 hgrow2 hnil2 hat2; clear hnil2 hat2))
            have B2 : Below W0.heap.size W0 w2 := hbr.trans ((FrP.of_grown hgrow2).below (fun q hq e => by have := (HOW.out.lt q e).1; omega) hbr.size)
            have HO2 : Hid (w2.ownsRow W0.heap.size 73 7 v' (sumTo M (j + 1)) (flatN news (j + 1))) := hown2
            clear hown2 hgrow2
            go_wp2
            go_roundw
            case rel => exact ⟨j + 1, hjk, by go_num, HO2, B2⟩
            case measure => simp [intOf]; omega
        · obtain rfl : j = k := by omega
          go_wp2
          go_ret
          exact ⟨_, rfl, HOW.out, hbr⟩
end Go.Proofs.YtkecnaaacbckoaaGreat
namespace Go.Proofs.YtkecnaaacbckoaaGreat
open Go.RowKit
/-- a drawn region: values that hold whatever is added (G), and a last operation behind all others -/
def RG (n : Nat) (mk : (Nat → Value) → Array Value) (W : World) (G : Nat → Value → World → Prop) (dep : Nat → Nat → Prop) (Fin : Act → World → Prop) (l : Array Bool) (a : Act) (X : World) : Prop :=
  l.size = n + 1 ∧ (∀ i j, dep i j → l.getD i false = true → l.getD j false = true) ∧
    ((l.getD n false = true → (∀ i, i < n + 1 → l.getD i false = true) ∧ Fin a X) ∧ (l.getD n false = false → ∃ t : Nat → Value, a = ⟨mk t, []⟩ ∧ Below W.heap.size W X ∧ ∀ i, i < n → l.getD i false = true → G i (t i) X))
theorem regionG {P : Program} {id : Nat} {ops : Array Oper} {Q : Exit → Act → World → Prop} {a0 : Act} {W : World} (hm : P.follows .mixedOrders = true) (n : Nat)
    (mk : (Nat → Value) → Array Value) (G : Nat → Value → World → Prop) (dep : Nat → Nat → Prop) (Fin : Act → World → Prop)
    (hn : ops.size = n + 1) (hord : ((List.range ops.size).all fun i => match ops[i]? with | some o => o.after.all (fun e => decide (e.on < i)) | none => true) = true)
    (hdep : ∀ i j, dep i j → j < n)
    (hd : ∀ l i, i ∈ Region.ready .any ops l → ∀ j, dep i j → l.getD j false = true)
    (hall : ∀ f : Nat → Prop, (∀ i j, dep i j → f i → f j) → (∀ j, dep n j → f j) → ∀ j, j < n → f j)
    (st : ∀ i v X Y, G i v X → Below X.heap.size X Y → G i v Y)
    (h0 : a0 = ⟨mk (fun _ => undef), []⟩)
    (sg : ∀ i, i < n → ∀ t X K, Below W.heap.size W X → (∀ j, dep i j → G j (t j) X) → (∀ v Y, G i v Y → Below X.heap.size X Y → K ⟨mk (updT t i v), []⟩ Y) → wpOp P ops Q i K ⟨mk t, []⟩ X)
    (sl : ∀ t X K, Below W.heap.size W X → (∀ j, j < n → G j (t j) X) → (∀ a Y, Fin a Y → K a Y) → wpOp P ops Q n K ⟨mk t, []⟩ X)
    (hfin : ∀ a X, Fin a X → Q .normal a X) : (Code.region id ops true).wp P Q a0 W := by
  refine wp_region_inv hm (RG n mk W G dep Fin) ?_ ?_ ?_ ?_
  · have hz : ∀ i, (Array.replicate ops.size false).getD i false = false := fun i => by simp [Array.getD]
    refine ⟨by simp [hn], fun i j _ h => ?_, fun h => ?_, fun _ => ⟨fun _ => undef, h0, (Below.refl _ _).drew, fun i _ h => ?_⟩⟩ <;> (rw [hz] at h; cases h)
  · rintro l a X ⟨hs, _⟩
    rw [hs, hn]
  · rintro l a X ⟨hs, _, h6, _⟩ hr
    have AL := all_listed hord (by rw [hs, hn]) hr
    exact hfin a X (h6 (AL n (by omega))).2
  · rintro l a X i ⟨hs, hcl, h6, hg⟩ hr
    have di := hd l i hr
    obtain ⟨hu, o, ho, _⟩ := mem_ready.1 hr
    have hi7 : i < n + 1 := by
      rcases Nat.lt_or_ge i (n + 1) with h | h
      · exact h
      · rw [Array.getElem?_eq_none (by omega)] at ho
        cases ho
    have hui : l.getD i false = false := by
      have : l.getD i true = false := hu
      simpa [Array.getD, hs, hi7] using this
    have l6 : l.getD n false = false := by
      cases h : l.getD n false with
      | false => rfl
      | true => rw [(h6 h).1 i hi7] at hui; cases hui
    obtain ⟨t, rfl, hb, gg⟩ := hg l6
    have kp : ∀ j, ¬ j = i → (l.setIfInBounds i true).getD j false = l.getD j false := fun j hj => by rw [getD_set (by omega), if_neg hj]
    have ki : (l.setIfInBounds i true).getD i false = true := by rw [getD_set (by omega), if_pos rfl]
    have hs' : (l.setIfInBounds i true).size = n + 1 := by simp [hs]
    have ku : ∀ j, l.getD j false = true → (l.setIfInBounds i true).getD j false = true := fun j h => by
      by_cases e : j = i
      · subst e; exact ki
      · rw [kp j e]; exact h
    have hcl' : ∀ p j, dep p j → (l.setIfInBounds i true).getD p false = true → (l.setIfInBounds i true).getD j false = true := fun p j hj h => by
      by_cases e : p = i
      · subst e; exact ku j (di j hj)
      · rw [kp p e] at h; exact ku j (hcl p j hj h)
    clear hr hu ho h6 hg
    by_cases hin : i = n
    · subst hin
      have al := hall (fun j => l.getD j false = true) hcl di
      refine sl t X _ hb (fun j hj => gg j hj (al j hj)) (fun a Y hY => ⟨hs', hcl', fun _ => ⟨fun j hj => ?_, hY⟩, fun h => ?_⟩)
      · by_cases e : j = i
        · subst e; exact ki
        · exact ku j (al j (by omega))
      · rw [ki] at h; cases h
    · have hno : (l.setIfInBounds i true).getD n false = false := by rw [kp n (fun e => hin e.symm)]; exact l6
      refine sg i (by omega) t X _ hb (fun j hj => gg j (hdep i j hj) (di j hj)) (fun v Y hv hY => ⟨hs', hcl', fun h => ?_, fun _ => ⟨updT t i v, rfl, hb.trans (hY.mono hb.size), fun j j1 h => ?_⟩⟩)
      · rw [hno] at h; cases h
      · by_cases e : j = i
        · subst e; rw [updT_same]; exact hv
        · rw [kp j e] at h; rw [updT_ne e]; exact st _ _ _ _ (gg j j1 h) hY
end Go.Proofs.YtkecnaaacbckoaaGreat
namespace Go.Proofs.YtkecnaaacbckoaaGreat
open Go.RowKit Go.Maps
def cellsE : List EO → List Value | [] => [] | e :: r => encE e ++ cellsE r
theorem encE_len (e : EO) : (encE e).length = 7 := rfl
theorem cellsE_len : ∀ L, (cellsE L).length = L.length * 7
  | [] => rfl
  | e :: r => by simp only [cellsE, List.length_append, encE_len, cellsE_len r, List.length_cons]; omega
theorem cellsE_append : ∀ K L, cellsE (K ++ L) = cellsE K ++ cellsE L
  | [], _ => rfl
  | e :: r, L => by simp only [List.cons_append, cellsE, cellsE_append r L, List.append_assoc]
theorem cellsE_one : ∀ L, ∀ u ∈ cellsE L, u.oneCell' = true
  | [], u, h => by cases h
  | e :: r, u, h => by
    rcases List.mem_append.1 h with h1 | h1
    · simp [encE] at h1
      rcases h1 with rfl | rfl | rfl | rfl | rfl | rfl | rfl <;> rfl
    · exact cellsE_one r u h1
theorem cellsE_at : ∀ (L : List EO) (i r : Nat), i < L.length → r < 7 → (cellsE L)[i * 7 + r]? = (encE (ixE L i))[r]?
  | [], i, _, h, _ => absurd h (Nat.not_lt_zero _)
  | e :: l, 0, r, _, hr => by
    rw [cellsE, List.getElem?_append_left (by rw [encE_len]; omega), Nat.zero_mul, Nat.zero_add]
    rfl
  | e :: l, i + 1, r, h, hr => by
    rw [cellsE, List.getElem?_append_right (by rw [encE_len]; omega), encE_len, show (i + 1) * 7 + r - 7 = i * 7 + r by omega, cellsE_at l i r (by simpa using h) hr]
    simp [ixE]
theorem RowE.cells {w : World} {g : Nat} {L : List EO} (h : RowE w g L) {t : Nat} {u : Value} (hu : (cellsE L)[t]? = some u) : w.cell? ⟨g, t, none⟩ = some u := by
  have ht : t < L.length * 7 := by
    have := (List.getElem?_eq_some_iff.1 hu).1
    rw [cellsE_len] at this
    exact this
  obtain ⟨q, r, hr, rfl⟩ : ∃ q r, r < 7 ∧ t = q * 7 + r := ⟨t / 7, t % 7, by omega, by omega⟩
  have hi : q < L.length := by omega
  obtain ⟨c0, c1, c2, c3, c4, c5, c6⟩ := h.ob q hi
  have hat := cellsE_at L q r hi hr
  rw [hu] at hat
  rcases (show r = 0 ∨ r = 1 ∨ r = 2 ∨ r = 3 ∨ r = 4 ∨ r = 5 ∨ r = 6 by omega) with rfl | rfl | rfl | rfl | rfl | rfl | rfl <;> simp only [encE, List.getElem?_cons_succ, List.getElem?_cons_zero] at hat <;> rw [hat]
  · exact c0
  · exact c1
  · exact c2
  · exact c3
  · exact c4
  · exact c5
  · exact c6
theorem rowE_own {w : World} {base g cap : Nat} {L : List EO} (h : w.ownsRow base 73 7 (.slice (some ⟨g, 0, none⟩) L.length cap) L.length (cellsE L)) (hg : g < w.heap.size) : RowE w g L :=
  ⟨hg, fun j => h.frozenAt j, fun i hi => by
    have hc : ∀ r, r < 7 → w.cell? ⟨g, i * 7 + r, none⟩ = (encE (ixE L i))[r]? := fun r hr => by
      rw [h.cellAt (i * 7 + r) (by omega), cellsE_at L i r hi hr]
    exact ⟨hc 0 (by decide), hc 1 (by decide), hc 2 (by decide), hc 3 (by decide), hc 4 (by decide), hc 5 (by decide), hc 6 (by decide)⟩⟩
/-- where a row stands -/
def RowS (w : World) (ad : Option Addr) (g cap : Nat) (L : List EO) : Prop := (ad = none ∧ L = [] ∧ cap = 0) ∨ (ad = some ⟨g, 0, none⟩ ∧ RowE w g L ∧ L.length ≤ cap)
theorem RowS.grow {w w' : World} {ad : Option Addr} {g cap : Nat} {L : List EO} (h : RowS w ad g cap L) (hf : Below w.heap.size w w') : RowS w' ad g cap L := by
  rcases h with h | ⟨h1, h2, h3⟩
  · exact Or.inl h
  · exact Or.inr ⟨h1, h2.grow hf, h3⟩
def tlA (ad : Option Addr) (g cap k : Nat) : Option Addr := if cap = k then ad else some ⟨g, k * 7, none⟩
def insG (ad : Option Addr) (g cap : Nat) (L : List EO) (k : Nat) (e : EO) (W : World) (i : Nat) (v : Value) (X : World) : Prop :=
  match i with
  | 0 => v = .slice ad L.length cap
  | 1 => v = .int .i64 k
  | 2 => v = .slice ad k cap
  | 3 => v = .agg #[.string e.ob.kind, .string e.ob.name, .int .i64 e.ob.ver, .int .i64 e.ob.born, .string e.ob.text, .bool e.ob.ending, .slice e.A e.ob.hn e.C]
  | 4 => ∃ b1, v = .slice (some ⟨b1, 0, none⟩) 1 1 ∧ b1 < X.heap.size ∧ Holds X b1 (obCells e.ob e.A e.C)
  | 5 => v = .slice ad L.length cap
  | 6 => v = .int .i64 k
  | 7 => v = .slice (tlA ad g cap k) (L.length - k) (cap - k)
  | 8 => ∃ b3 b1, v = .slice (some ⟨b3, 0, none⟩) 3 3 ∧ b3 < X.heap.size ∧ b1 < X.heap.size ∧ Holds X b1 (obCells e.ob e.A e.C) ∧ Holds X b3 #[.slice ad k cap, .slice (some ⟨b1, 0, none⟩) 1 1, .slice (tlA ad g cap k) (L.length - k) (cap - k)]
  | _ => ∃ g' cap', v = .slice (some ⟨g', 0, none⟩) (L.length + 1) cap' ∧ W.heap.size ≤ g' ∧ L.length + 1 ≤ cap' ∧ RowE X g' (L.take k ++ e :: L.drop k)
def insD (i j : Nat) : Prop := (i = 2 ∧ (j = 0 ∨ j = 1)) ∨ (i = 4 ∧ j = 3) ∨ (i = 7 ∧ (j = 5 ∨ j = 6)) ∨ (i = 8 ∧ (j = 2 ∨ j = 4 ∨ j = 7)) ∨ (i = 9 ∧ j = 8) ∨ (i = 10 ∧ j < 10)
theorem flat3 (f : Nat → List Value) : flatN f 3 = f 0 ++ f 1 ++ f 2 := by simp [flatN]
theorem sum3 (f : Nat → Nat) : sumTo f 3 = f 0 + f 1 + f 2 := by simp [sumTo]
set_option maxRecDepth 100000 in
set_option maxHeartbeats 2000000 in
theorem insReg (ad : Option Addr) (g cap : Nat) (L : List EO) (k : Nat) (e : EO) (bx : Nat) (W : World) (hst : RowS W ad g cap L) (hk : k ≤ L.length) (hl : (L.length : Int) ≤ 1099511627775) (hbx : Holds W bx (obCells e.ob e.A e.C)) (hb0 : bx < W.heap.size) (Q : Exit → Act → World → Prop)
    (hQ : ∀ (t : Nat → Value) v X, insG ad g cap L k e W 9 v X → Below W.heap.size W X → Q .normal ⟨#[.slice ad L.length cap, .int .i64 k, .agg #[.string e.ob.kind, .string e.ob.name, .int .i64 e.ob.ver, .int .i64 e.ob.born, .string e.ob.text, .bool e.ob.ending, .slice e.A e.ob.hn e.C], undef, undef, .pointer (some ⟨bx, 0, none⟩), v, t 0, t 1, t 2, t 3, t 4, t 5, t 6, t 7, t 8, t 9], []⟩ X) :
    Code.wp Tryz.prog (Code.region 1 #[{ dst := some 7, op := Op.move (Operand.tmp 0), type := 28, pos := "l2_book_write.go:258", after := #[], guard := none }, { dst := some 8, op := Op.move (Operand.tmp 1), type := 3, pos := "l2_book_write.go:258", after := #[], guard := none }, { dst := some 9, op := Op.slice 28 (Operand.tmp 7) none (some (Operand.tmp 8)) none, type := 28, pos := "l2_book_write.go:258", after := #[{ on := 0, ground := Ground.data }, { on := 1, ground := Ground.data }], guard := none }, { dst := some 10, op := Op.load 73 (Operand.tmp 5), type := 73, pos := "l2_book_write.go:258", after := #[], guard := none }, { dst := some 11, op := Op.buildSlice 28 1 #[(0, Operand.tmp 10)], type := 28, pos := "l2_book_write.go:258", after := #[{ on := 3, ground := Ground.data }], guard := none }, { dst := some 12, op := Op.move (Operand.tmp 0), type := 28, pos := "l2_book_write.go:258", after := #[], guard := none }, { dst := some 13, op := Op.move (Operand.tmp 1), type := 3, pos := "l2_book_write.go:258", after := #[], guard := none }, { dst := some 14, op := Op.slice 28 (Operand.tmp 12) (some (Operand.tmp 13)) none none, type := 28, pos := "l2_book_write.go:258", after := #[{ on := 5, ground := Ground.data }, { on := 6, ground := Ground.data }], guard := none }, { dst := some 15, op := Op.buildSlice 224 3 #[(0, Operand.tmp 9), (1, Operand.tmp 11), (2, Operand.tmp 14)], type := 224, pos := "l2_book_write.go:258", after := #[{ on := 2, ground := Ground.data }, { on := 4, ground := Ground.data }, { on := 7, ground := Ground.data }], guard := none }, { dst := some 16, op := Op.call { callee := Callee.value (Operand.func 196), args := #[Operand.tmp 15], argTypes := #[224] }, type := 28, pos := "l2_book_write.go:258", after := #[{ on := 8, ground := Ground.data }], guard := none }, { dst := some 6, op := Op.assign (Operand.tmp 16), type := 28, pos := "l2_book_write.go:258", after := #[{ on := 9, ground := Ground.data }, { on := 9, ground := Ground.chain }, { on := 0, ground := Ground.phase }, { on := 1, ground := Ground.phase }, { on := 2, ground := Ground.phase }, { on := 3, ground := Ground.phase }, { on := 4, ground := Ground.phase }, { on := 5, ground := Ground.phase }, { on := 6, ground := Ground.phase }, { on := 7, ground := Ground.phase }, { on := 8, ground := Ground.phase }, { on := 9, ground := Ground.phase }], guard := none }] true) Q ⟨#[.slice ad L.length cap, .int .i64 k, .agg #[.string e.ob.kind, .string e.ob.name, .int .i64 e.ob.ver, .int .i64 e.ob.born, .string e.ob.text, .bool e.ob.ending, .slice e.A e.ob.hn e.C], undef, undef, .pointer (some ⟨bx, 0, none⟩), .slice none 0 0, undef, undef, undef, undef, undef, undef, undef, undef, undef, undef], []⟩ W := by
  refine regionG (by kernel_rfl) 10 (fun t : Nat → Value => #[.slice ad L.length cap, .int .i64 k, .agg #[.string e.ob.kind, .string e.ob.name, .int .i64 e.ob.ver, .int .i64 e.ob.born, .string e.ob.text, .bool e.ob.ending, .slice e.A e.ob.hn e.C], undef, undef, .pointer (some ⟨bx, 0, none⟩), .slice none 0 0, t 0, t 1, t 2, t 3, t 4, t 5, t 6, t 7, t 8, t 9]) (insG ad g cap L k e W) insD (fun a X => ∃ (t : Nat → Value) (v : Value), a = ⟨#[.slice ad L.length cap, .int .i64 k, .agg #[.string e.ob.kind, .string e.ob.name, .int .i64 e.ob.ver, .int .i64 e.ob.born, .string e.ob.text, .bool e.ob.ending, .slice e.A e.ob.hn e.C], undef, undef, .pointer (some ⟨bx, 0, none⟩), v, t 0, t 1, t 2, t 3, t 4, t 5, t 6, t 7, t 8, t 9], []⟩ ∧ insG ad g cap L k e W 9 v X ∧ Below W.heap.size W X) rfl (by kernel_rfl) ?_ ?_ ?_ ?_ rfl ?_ ?_ ?_
  · intro i j h
    unfold insD at h
    omega
  · intro l i hr j hj
    obtain ⟨_, o, ho, hdep⟩ := mem_ready.1 hr
    rcases hj with ⟨rfl, rfl | rfl⟩ | ⟨rfl, rfl⟩ | ⟨rfl, rfl | rfl⟩ | ⟨rfl, rfl | rfl | rfl⟩ | ⟨rfl, rfl⟩ | ⟨rfl, hj⟩ <;> simp only [List.getElem?_toArray, List.getElem?_cons_succ, List.getElem?_cons_zero, Option.some.injEq] at ho <;> subst ho
    · exact hdep ⟨0, .data⟩ (by simp) rfl
    · exact hdep ⟨1, .data⟩ (by simp) rfl
    · exact hdep ⟨3, .data⟩ (by simp) rfl
    · exact hdep ⟨5, .data⟩ (by simp) rfl
    · exact hdep ⟨6, .data⟩ (by simp) rfl
    · exact hdep ⟨2, .data⟩ (by simp) rfl
    · exact hdep ⟨4, .data⟩ (by simp) rfl
    · exact hdep ⟨7, .data⟩ (by simp) rfl
    · exact hdep ⟨8, .data⟩ (by simp) rfl
    · rcases (show j = 0 ∨ j = 1 ∨ j = 2 ∨ j = 3 ∨ j = 4 ∨ j = 5 ∨ j = 6 ∨ j = 7 ∨ j = 8 ∨ j = 9 by omega) with rfl | rfl | rfl | rfl | rfl | rfl | rfl | rfl | rfl | rfl
      · exact hdep ⟨0, .phase⟩ (by simp) rfl
      · exact hdep ⟨1, .phase⟩ (by simp) rfl
      · exact hdep ⟨2, .phase⟩ (by simp) rfl
      · exact hdep ⟨3, .phase⟩ (by simp) rfl
      · exact hdep ⟨4, .phase⟩ (by simp) rfl
      · exact hdep ⟨5, .phase⟩ (by simp) rfl
      · exact hdep ⟨6, .phase⟩ (by simp) rfl
      · exact hdep ⟨7, .phase⟩ (by simp) rfl
      · exact hdep ⟨8, .phase⟩ (by simp) rfl
      · exact hdep ⟨9, .phase⟩ (by simp) rfl
  · intro f _ hf j hj
    exact hf j (by unfold insD; omega)
  · intro i v X Y h hb
    match i with
    | 0 => exact h
    | 1 => exact h
    | 2 => exact h
    | 3 => exact h
    | 4 =>
      obtain ⟨b1, e1, e2, e3⟩ := h
      exact ⟨b1, e1, Nat.lt_of_lt_of_le e2 hb.size, e3.below hb e2⟩
    | 5 => exact h
    | 6 => exact h
    | 7 => exact h
    | 8 =>
      obtain ⟨b3, b1, e1, e2, e3, e4, e5⟩ := h
      exact ⟨b3, b1, e1, Nat.lt_of_lt_of_le e2 hb.size, Nat.lt_of_lt_of_le e3 hb.size, e4.below hb e3, e5.below hb e2⟩
    | _ + 9 =>
      obtain ⟨g', cap', e1, e2, e3, e4⟩ := h
      exact ⟨g', cap', e1, e2, e3, e4.grow hb⟩
  · intro i hi t X K hb hg hK
    rcases (show i = 0 ∨ i = 1 ∨ i = 2 ∨ i = 3 ∨ i = 4 ∨ i = 5 ∨ i = 6 ∨ i = 7 ∨ i = 8 ∨ i = 9 by omega) with rfl | rfl | rfl | rfl | rfl | rfl | rfl | rfl | rfl | rfl
    · have h := hK (.slice ad L.length cap) X rfl (Below.refl _ _)
      refine wpOp_of rfl rfl ?_
      go_simp
      exact h
    · have h := hK (.int .i64 k) X rfl (Below.refl _ _)
      refine wpOp_of rfl rfl ?_
      go_simp
      exact h
    · have e0 : t 0 = .slice ad L.length cap := hg 0 (by unfold insD; omega)
      have e1 : t 1 = .int .i64 k := hg 1 (by unfold insD; omega)
      have h := hK (.slice ad k cap) X rfl (Below.refl _ _)
      refine wpOp_of rfl rfl ?_
      rcases hst with ⟨rfl, rfl, rfl⟩ | ⟨rfl, hr, hc⟩
      · obtain rfl : k = 0 := by simpa using hk
        go_simp
        simpa [updT, e0, e1] using h
      · have hkc : k ≤ cap := Nat.le_trans hk hc
        go_simp
        simpa [updT, e0, e1] using h
    · obtain ⟨q0, q1, q2, q3, q4, q5, q6⟩ := holds_ob (hbx.below hb hb0)
      have h := hK (.agg #[.string e.ob.kind, .string e.ob.name, .int .i64 e.ob.ver, .int .i64 e.ob.born, .string e.ob.text, .bool e.ob.ending, .slice e.A e.ob.hn e.C]) X rfl (Below.refl _ _)
      refine wpOp_of rfl rfl ?_
      go_simp
      exact h
    · have e3 : t 3 = .agg #[.string e.ob.kind, .string e.ob.name, .int .i64 e.ob.ver, .int .i64 e.ob.born, .string e.ob.text, .bool e.ob.ending, .slice e.A e.ob.hn e.C] := hg 3 (by unfold insD; omega)
      have h := hK (.slice (some ⟨X.heap.size, 0, none⟩) 1 1) (X.alloc (.cells (obCells e.ob e.A e.C) 73)) ⟨X.heap.size, rfl, by simp, holds_new X _ 73⟩ (below_alloc _ _)
      refine wpOp_of rfl rfl ?_
      go_simp
      simpa [updT, e3, obCells] using h
    · have h := hK (.slice ad L.length cap) X rfl (Below.refl _ _)
      refine wpOp_of rfl rfl ?_
      go_simp
      exact h
    · have h := hK (.int .i64 k) X rfl (Below.refl _ _)
      refine wpOp_of rfl rfl ?_
      go_simp
      exact h
    · have e0 : t 5 = .slice ad L.length cap := hg 5 (by unfold insD; omega)
      have e1 : t 6 = .int .i64 k := hg 6 (by unfold insD; omega)
      have h := hK (.slice (tlA ad g cap k) (L.length - k) (cap - k)) X rfl (Below.refl _ _)
      refine wpOp_of rfl rfl ?_
      unfold tlA at h
      rcases hst with ⟨rfl, rfl, rfl⟩ | ⟨rfl, hr, hc⟩
      · obtain rfl : k = 0 := by simpa using hk
        go_simp
        simpa [updT, e0, e1] using h
      · by_cases hck : cap = k
        · subst hck
          rw [if_pos rfl, show L.length - cap = 0 by omega, Nat.sub_self] at h
          go_simp
          simpa [updT, e0, e1] using h
        · rw [if_neg hck] at h
          go_simp
          simpa [updT, e0, e1] using h
    · have e2 : t 2 = .slice ad k cap := hg 2 (by unfold insD; omega)
      obtain ⟨b1, e4, z1, h1⟩ : ∃ b1, t 4 = .slice (some ⟨b1, 0, none⟩) 1 1 ∧ b1 < X.heap.size ∧ Holds X b1 (obCells e.ob e.A e.C) := hg 4 (by unfold insD; omega)
      have e7 : t 7 = .slice (tlA ad g cap k) (L.length - k) (cap - k) := hg 7 (by unfold insD; omega)
      have hB := below_alloc X (.cells #[.slice ad k cap, .slice (some ⟨b1, 0, none⟩) 1 1, .slice (tlA ad g cap k) (L.length - k) (cap - k)] 28)
      have h := hK (.slice (some ⟨X.heap.size, 0, none⟩) 3 3) _ ⟨X.heap.size, b1, rfl, by simp, Nat.lt_of_lt_of_le z1 hB.size, h1.below hB z1, holds_new X _ 28⟩ hB
      refine wpOp_of rfl rfl ?_
      go_simp
      simpa [updT, e2, e4, e7] using h
    · obtain ⟨b3, b1, e8, z3, z1, h1, h3⟩ : ∃ b3 b1, t 8 = .slice (some ⟨b3, 0, none⟩) 3 3 ∧ b3 < X.heap.size ∧ b1 < X.heap.size ∧ Holds X b1 (obCells e.ob e.A e.C) ∧ Holds X b3 #[.slice ad k cap, .slice (some ⟨b1, 0, none⟩) 1 1, .slice (tlA ad g cap k) (L.length - k) (cap - k)] := hg 8 (by unfold insD; omega)
      refine wpOp_of rfl rfl ?_
      have HK := hid hK
      have HST := hid (hst.grow hb)
      have H1 := hid h1
      have H3 := hid h3
      clear hK hg h1 h3
      go_simp
      go_at_call 196
      refine (concat_any 3 (fun j => match j with | 0 => ad | 1 => some ⟨b1, 0, none⟩ | _ => tlA ad g cap k) (fun j => match j with | 0 => k | 1 => 1 | _ => L.length - k) (fun j => match j with | 0 => cap | 1 => 1 | _ => cap - k) (fun j => match j with | 0 => cellsE (L.take k) | 1 => encE e | _ => cellsE (L.drop k)) b3 X z3 (by omega) (fun j hj => ?_) ⟨fun j hj => ?_, fun j hj => ?_, fun j hj => ?_⟩ (by rw [sum3]; show 0 < k + 1 + (L.length - k); omega) (by rw [sum3]; show ((k + 1 + (L.length - k) : Nat) : Int) ≤ 1099511627776; omega)).mono ?_
      · rcases (show j = 0 ∨ j = 1 ∨ j = 2 by omega) with rfl | rfl | rfl
        · exact H3.out 0
        · exact H3.out 1
        · exact H3.out 2
      · rcases (show j = 0 ∨ j = 1 ∨ j = 2 by omega) with rfl | rfl | rfl
        · show (cellsE (L.take k)).length = k * 7
          rw [cellsE_len, List.length_take, Nat.min_eq_left hk]
        · rfl
        · show (cellsE (L.drop k)).length = (L.length - k) * 7
          rw [cellsE_len, List.length_drop]
      · rcases (show j = 0 ∨ j = 1 ∨ j = 2 by omega) with rfl | rfl | rfl
        · exact cellsE_one _
        · intro u hu
          exact cellsE_one [e] u (by simpa [cellsE] using hu)
        · exact cellsE_one _
      · rcases (show j = 0 ∨ j = 1 ∨ j = 2 by omega) with rfl | rfl | rfl
        · rcases HST.out with ⟨rfl, rfl, rfl⟩ | ⟨rfl, hr, hc⟩
          · exact Or.inl ⟨rfl, by simpa using hk, rfl⟩
          · refine Or.inr ⟨g, 0, rfl, hr.lt, fun t u hu => ?_⟩
            rw [Nat.zero_add]
            refine hr.cells ?_
            have hu' : (cellsE (L.take k))[t]? = some u := hu
            rw [← List.take_append_drop k L, cellsE_append, List.getElem?_append_left (List.getElem?_eq_some_iff.1 hu').1]
            exact hu'
        · refine Or.inr ⟨b1, 0, rfl, z1, fun t u hu => ?_⟩
          rw [Nat.zero_add, H1.out t]
          have hu' : (encE e)[t]? = some u := hu
          rw [← hu']
          simp [obCells, encE]
        · rcases HST.out with ⟨rfl, rfl, rfl⟩ | ⟨rfl, hr, hc⟩
          · obtain rfl : k = 0 := by simpa using hk
            exact Or.inl ⟨rfl, rfl, rfl⟩
          · by_cases hck : cap = k
            · have hd : L.drop k = [] := List.drop_eq_nil_of_le (by omega)
              refine Or.inr ⟨g, 0, ?_, hr.lt, fun t u hu => ?_⟩
              · show tlA _ g cap k = _
                rw [tlA, if_pos hck]
              · have hu' : (cellsE (L.drop k))[t]? = some u := hu
                rw [hd] at hu'
                simp [cellsE] at hu'
            · refine Or.inr ⟨g, k * 7, ?_, hr.lt, fun t u hu => ?_⟩
              · show tlA _ g cap k = _
                rw [tlA, if_neg hck]
              · have hu' : (cellsE (L.drop k))[t]? = some u := hu
                refine hr.cells ?_
                rw [← List.take_append_drop k L, cellsE_append, List.getElem?_append_right (by rw [cellsE_len, List.length_take]; omega), cellsE_len, List.length_take, Nat.min_eq_left hk, Nat.add_sub_cancel_left]
                exact hu'
      · rintro r Y ⟨v, rfl, hown, hbY⟩
        have hlen : (L.take k ++ e :: L.drop k).length = L.length + 1 := by simp; omega
        have hs : k + 1 + (L.length - k) = L.length + 1 := by omega
        rw [sum3, flat3] at hown
        have hown2 : Y.ownsRow X.heap.size 73 7 v (L.take k ++ e :: L.drop k).length (cellsE (L.take k ++ e :: L.drop k)) := by
          rw [hlen, cellsE_append]
          have : cellsE (e :: L.drop k) = encE e ++ cellsE (L.drop k) := rfl
          rw [this, ← List.append_assoc, ← hs]
          exact hown
        have hh := hown2.2
        rcases hh with ⟨_, h0⟩ | ⟨g', cap', cur, rfl, hb', hheap, hle, _⟩
        · rw [hlen] at h0
          omega
        · have hg' : g' < Y.heap.size := (Array.getElem?_eq_some_iff.1 hheap).1
          have h := HK.out (.slice (some ⟨g', 0, none⟩) (L.length + 1) cap') Y ⟨g', cap', rfl, Nat.le_trans hb.size hb', by rw [← hlen]; exact hle, rowE_own hown2 hg'⟩ hbY
          rw [hlen]
          simpa [updT, e8] using h
  · intro t X K hb hg hK
    have h := hK ⟨#[.slice ad L.length cap, .int .i64 k, .agg #[.string e.ob.kind, .string e.ob.name, .int .i64 e.ob.ver, .int .i64 e.ob.born, .string e.ob.text, .bool e.ob.ending, .slice e.A e.ob.hn e.C], undef, undef, .pointer (some ⟨bx, 0, none⟩), t 9, t 0, t 1, t 2, t 3, t 4, t 5, t 6, t 7, t 8, t 9], []⟩ X ⟨t, t 9, rfl, hg 9 (by omega), hb⟩
    refine wpOp_of rfl rfl ?_
    go_simp
    exact h
  · rintro a X ⟨t, v, rfl, h1, h2⟩
    exact hQ t v X h1 h2
set_option maxRecDepth 100000 in
set_option maxHeartbeats 1000000 in
theorem insert_any (ad : Option Addr) (g cap : Nat) (L : List EO) (k : Nat) (e : EO) (w : World) (hst : RowS w ad g cap L) (hk : k ≤ L.length) (hl : (L.length : Int) ≤ 1099511627775) :
    Calls Tryz.prog 193 #[.slice ad L.length cap, .int .i64 k, .agg #[.string e.ob.kind, .string e.ob.name, .int .i64 e.ob.ver, .int .i64 e.ob.born, .string e.ob.text, .bool e.ob.ending, .slice e.A e.ob.hn e.C]] w fun r w' => ∃ g' cap', r = .returned (.slice (some ⟨g', 0, none⟩) (L.length + 1) cap') ∧ w.heap.size ≤ g' ∧ L.length + 1 ≤ cap' ∧ RowE w' g' (L.take k ++ e :: L.drop k) ∧ Below w.heap.size w w' := by
  have hB := below_alloc w (.cells (obCells e.ob e.A e.C) 73)
  have HST := hid (hst.grow hB)
  have HX := hid (holds_new w (obCells e.ob e.A e.C) 73)
  clear hst
  go_enter Tryz.func193, Tryz.ntmps193
  go_wp2
  refine insReg ad g cap L k e w.heap.size _ (by exact HST.out) hk hl (by exact HX.out) (by simp) _ ?_
  rintro t v X ⟨g', cap', rfl, z1, z2, hr⟩ hbX
  have HR := hid hr
  have z3 : w.heap.size ≤ g' := by simp at z1; omega
  have hBX : Below w.heap.size w X := hB.trans (hbX.mono (by simp))
  clear hr hbX
  go_wp2
  go_ret
  exact ⟨g', cap', rfl, z3, z2, HR.out, hBX⟩
end Go.Proofs.YtkecnaaacbckoaaGreat
namespace Go.Proofs.YtkecnaaacbckoaaGreat
open Go.RowKit Go.Maps
def flK (o : Ob) (L : List EO) : List EO := L.filter (fun e => otherK o e.ob)
theorem flK_nil (o : Ob) : flK o [] = [] := rfl
set_option maxRecDepth 100000 in
set_option maxHeartbeats 1000000 in
theorem takeOut_any (o : Ob) (R : Nat) (ad : Option Addr) (g cap : Nat) (L : List EO) (w : World) (hR : R < w.heap.size) (hRg : ad ≠ none → ¬ R = g) (hc : w.cell? ⟨R, 0, none⟩ = some (.slice ad L.length cap)) (hfz : w.frozen? ⟨R, 0, none⟩ = false) (hst : RowS w ad g cap L) (hl : (L.length : Int) ≤ 1099511627775) :
    Calls Tryz.prog 190 #[.pointer (some ⟨R, 0, none⟩), .agg #[.string o.kind, .string o.name]] w fun e w' => e = .returned (.tuple #[]) ∧ w'.cell? ⟨R, 0, none⟩ = some (.slice ad (flK o L).length cap) ∧ w'.frozen? ⟨R, 0, none⟩ = false ∧ RowS w' ad g cap (flK o L) ∧ FrP (fun q => q = R ∨ (L ≠ [] ∧ q = g)) w w' := by
  have hB := below_alloc w (.cells #[.string o.kind, .string o.name] 98)
  have hz : (w.alloc (.cells #[.string o.kind, .string o.name] 98)).heap.size = w.heap.size + 1 := by simp
  have hk := holds_new w #[.string o.kind, .string o.name] 98
  obtain ⟨g2, had, hr2, hg2, hback⟩ : ∃ g2, (L ≠ [] → ad = some ⟨g2, 0, none⟩) ∧ (L ≠ [] → RowE (w.alloc (.cells #[.string o.kind, .string o.name] 98)) g2 L) ∧ ¬ w.heap.size = g2 ∧ (L ≠ [] → g2 = g) := by
    rcases hst with ⟨_, h2, _⟩ | ⟨h1, h2, _⟩
    · exact ⟨w.heap.size + 1, fun h => absurd h2 h, fun h => absurd h2 h, by omega, fun h => absurd h2 h⟩
    · exact ⟨g, fun _ => h1, fun _ => h2.grow hB, by have := h2.lt; omega, fun _ => rfl⟩
  have hcap : L.length ≤ cap := by
    rcases hst with ⟨_, h2, _⟩ | ⟨_, _, h3⟩
    · rw [h2]; exact Nat.zero_le _
    · exact h3
  have hdel := delete_any o w.heap.size ad g2 cap L _ (by omega) hcap had hr2 (by rw [hz]; omega) hg2 (hk 0) (hk 1)
  have HST := hid hst
  have HB := hid hback
  have HH := hid (show ∀ X, FrP (fun q => L ≠ [] ∧ q = g2) (w.alloc (.cells #[.string o.kind, .string o.name] 98)) X → X.cell? ⟨R, 0, none⟩ = some (.slice ad L.length cap) ∧ X.frozen? ⟨R, 0, none⟩ = false ∧ R < X.heap.size ∧ FrP (fun q => q = R ∨ (L ≠ [] ∧ q = g)) w X from fun X hX => by
    have hne : ¬ (L ≠ [] ∧ R = g2) := fun ⟨h1, h2⟩ => by
      rcases hst with ⟨_, h3, _⟩ | ⟨h3, _, _⟩
      · exact h1 h3
      · exact hRg (by rw [h3]; simp) (h2.trans (hback h1))
    refine ⟨?_, ?_, ?_, ?_⟩
    · exact (hX.cell (p := ⟨R, 0, none⟩) (by rw [hz]; show R < _; omega) hne).trans ((hB.cell (p := ⟨R, 0, none⟩) hR).trans hc)
    · exact (hX.frozen (p := ⟨R, 0, none⟩) (by rw [hz]; show R < _; omega) hne).trans ((hB.frozen (p := ⟨R, 0, none⟩) hR).trans hfz)
    · have := hX.size; omega
    · exact (FrP.of_below hB).trans (hX.mono (fun q ⟨h1, h2⟩ => Or.inr ⟨h1, h2.trans (hback h1)⟩)))
  have hcR := (hB.cell (p := ⟨R, 0, none⟩) hR).trans hc
  have hRz : R < (w.alloc (.cells #[.string o.kind, .string o.name] 98)).heap.size := by omega
  clear hst had hr2 hg2 hback hc hk hfz
  go_enter Tryz.func190, Tryz.ntmps190
  go_wp2_with fail
  refine hdel.mono ?_
  rintro e w1 ⟨rfl, hrow, hf⟩
  obtain ⟨c1, f1, z1, F1⟩ := HH.out w1 hf
  have HROW := hid hrow
  have HF := hid hf
  have HF1 := hid F1
  clear hcR hdel HH hf hrow F1
  go_wp2
  go_end0
  refine ⟨rfl, World.cell?_setCell_same _ _ _ c1, by rw [World.frozen?_setCell]; exact f1, ?_, HF1.out.setCell (p := ⟨R, 0, none⟩) (Or.inl rfl) _⟩
  have hB2 : Below w.heap.size w (w.alloc (.cells #[.string o.kind, .string o.name] 98)) := hB
  rcases HST.out with ⟨h1, h2, h3⟩ | ⟨h1, h2, h3⟩
  · subst h2
    exact Or.inl ⟨h1, rfl, h3⟩
  · have hRg' := hRg (by rw [h1]; simp)
    have hset : FrP (fun q => q = R) w1 (w1.setCell ⟨R, 0, none⟩ (.slice ad (L.filter (fun e => otherK o e.ob)).length cap)) := FrP.setCell (P := fun q => q = R) (FrP.refl _ w1) (p := ⟨R, 0, none⟩) rfl _
    refine Or.inr ⟨h1, ?_, Nat.le_trans (List.length_filter_le _ _) h3⟩
    by_cases hn : L = []
    · subst hn
      exact ((h2.grow hB2).fr HF.out (fun h => h.1 rfl)).fr hset (fun h => hRg' h.symm)
    · obtain rfl := HB.out hn
      exact (HROW.out hn).fr hset (fun h => hRg' h.symm)
def putD (i j : Nat) : Prop := (i = 2 ∧ j = 1) ∨ (i = 3 ∧ j = 2) ∨ (i = 4 ∧ j = 3) ∨ (i = 7 ∧ (j = 4 ∨ j = 5 ∨ j = 6)) ∨ (i = 8 ∧ j < 8) ∨ (i = 9 ∧ j = 8) ∨ (i = 10 ∧ (j = 9 ∨ j = 7))
def putGG (R : Nat) (ad : Option Addr) (cap : Nat) (L : List EO) (k : Nat) (e : EO) (W : World) (i : Nat) (v : Value) (X : World) : Prop :=
  match i with
  | 4 => v = .slice ad L.length cap
  | 5 => v = .int .i64 k
  | 6 => v = .agg #[.string e.ob.kind, .string e.ob.name, .int .i64 e.ob.ver, .int .i64 e.ob.born, .string e.ob.text, .bool e.ob.ending, .slice e.A e.ob.hn e.C]
  | 7 => ∃ g' cap', v = .slice (some ⟨g', 0, none⟩) (L.length + 1) cap' ∧ W.heap.size ≤ g' ∧ L.length + 1 ≤ cap' ∧ RowE X g' (L.take k ++ e :: L.drop k)
  | _ => v = .pointer (some ⟨R, 0, none⟩)
set_option maxRecDepth 100000 in
set_option maxHeartbeats 2000000 in
theorem putReg (p1 p2 p5 p6 p7 p8 p9 p10 p11 p12 p13 p14 p15 p16 p17 p18 p19 p20 p21 : Value) (R bo : Nat) (ad : Option Addr) (g cap : Nat) (L : List EO) (k : Nat) (e : EO) (W : World) (hst : RowS W ad g cap L) (hk : k ≤ L.length) (hl : (L.length : Int) ≤ 1099511627775) (hbo : Holds W bo (obCells e.ob e.A e.C)) (zbo : bo < W.heap.size) (hR : R < W.heap.size) (hc : W.cell? ⟨R, 0, none⟩ = some (.slice ad L.length cap)) (hfz : W.frozen? ⟨R, 0, none⟩ = false) (Q : Exit → Act → World → Prop)
    (hQ : ∀ (t : Nat → Value) g' cap' X, W.heap.size ≤ g' → L.length + 1 ≤ cap' → X.cell? ⟨R, 0, none⟩ = some (.slice (some ⟨g', 0, none⟩) (L.length + 1) cap') → X.frozen? ⟨R, 0, none⟩ = false → RowE X g' (L.take k ++ e :: L.drop k) → FrP (fun q => q = R) W X → Q .normal ⟨#[.pointer (some ⟨R, 0, none⟩), p1, p2, .pointer (some ⟨bo, 0, none⟩), .int .i64 k, p5, p6, p7, p8, p9, p10, p11, p12, p13, p14, p15, p16, p17, p18, p19, p20, p21, t 0, t 1, t 2, t 3, t 4, t 5, t 6, t 7, t 8, t 9], []⟩ X) :
    Code.wp Tryz.prog (Code.region 5 #[{ dst := some 22, op := Op.move (Operand.tmp 0), type := 151, pos := "l7_book_mirror.go:114", after := #[], guard := none }, { dst := some 23, op := Op.move (Operand.tmp 0), type := 151, pos := "l7_book_mirror.go:114", after := #[], guard := none }, { dst := some 24, op := Op.nilCheck (Operand.tmp 23), type := 0, pos := "l7_book_mirror.go:114", after := #[{ on := 1, ground := Ground.data }], guard := none }, { dst := some 25, op := Op.fieldAddr 153 (Operand.tmp 24) 0, type := 0, pos := "l7_book_mirror.go:114", after := #[{ on := 2, ground := Ground.data }], guard := none }, { dst := some 26, op := Op.load 28 (Operand.tmp 25), type := 28, pos := "l7_book_mirror.go:114", after := #[{ on := 3, ground := Ground.data }], guard := none }, { dst := some 27, op := Op.move (Operand.tmp 4), type := 3, pos := "l7_book_mirror.go:114", after := #[], guard := none }, { dst := some 28, op := Op.load 73 (Operand.tmp 3), type := 73, pos := "l7_book_mirror.go:114", after := #[], guard := none }, { dst := some 29, op := Op.call { callee := Callee.value (Operand.func 193), args := #[Operand.tmp 26, Operand.tmp 27, Operand.tmp 28], argTypes := #[28, 3, 73] }, type := 28, pos := "l7_book_mirror.go:114", after := #[{ on := 4, ground := Ground.data }, { on := 5, ground := Ground.data }, { on := 6, ground := Ground.data }], guard := none }, { dst := some 30, op := Op.nilCheck (Operand.tmp 22), type := 0, pos := "l7_book_mirror.go:114", after := #[{ on := 0, ground := Ground.data }, { on := 0, ground := Ground.phase }, { on := 1, ground := Ground.phase }, { on := 2, ground := Ground.phase }, { on := 3, ground := Ground.phase }, { on := 4, ground := Ground.phase }, { on := 5, ground := Ground.phase }, { on := 6, ground := Ground.phase }, { on := 7, ground := Ground.phase }], guard := none }, { dst := some 31, op := Op.fieldAddr 153 (Operand.tmp 30) 0, type := 0, pos := "l7_book_mirror.go:114", after := #[{ on := 8, ground := Ground.data }, { on := 0, ground := Ground.phase }, { on := 1, ground := Ground.phase }, { on := 2, ground := Ground.phase }, { on := 3, ground := Ground.phase }, { on := 4, ground := Ground.phase }, { on := 5, ground := Ground.phase }, { on := 6, ground := Ground.phase }, { on := 7, ground := Ground.phase }], guard := none }, { dst := none, op := Op.store 28 (Operand.tmp 31) (Operand.tmp 29), type := 0, pos := "l7_book_mirror.go:114", after := #[{ on := 9, ground := Ground.data }, { on := 7, ground := Ground.data }, { on := 7, ground := Ground.chain }, { on := 0, ground := Ground.phase }, { on := 1, ground := Ground.phase }, { on := 2, ground := Ground.phase }, { on := 3, ground := Ground.phase }, { on := 4, ground := Ground.phase }, { on := 5, ground := Ground.phase }, { on := 6, ground := Ground.phase }, { on := 7, ground := Ground.phase }], guard := none }] true) Q ⟨#[.pointer (some ⟨R, 0, none⟩), p1, p2, .pointer (some ⟨bo, 0, none⟩), .int .i64 k, p5, p6, p7, p8, p9, p10, p11, p12, p13, p14, p15, p16, p17, p18, p19, p20, p21, undef, undef, undef, undef, undef, undef, undef, undef, undef, undef], []⟩ W := by
  refine regionG (by kernel_rfl) 10 (fun t : Nat → Value => #[.pointer (some ⟨R, 0, none⟩), p1, p2, .pointer (some ⟨bo, 0, none⟩), .int .i64 k, p5, p6, p7, p8, p9, p10, p11, p12, p13, p14, p15, p16, p17, p18, p19, p20, p21, t 0, t 1, t 2, t 3, t 4, t 5, t 6, t 7, t 8, t 9]) (putGG R ad cap L k e W) putD (fun a X => ∃ (t : Nat → Value) (g' cap' : Nat), a = ⟨#[.pointer (some ⟨R, 0, none⟩), p1, p2, .pointer (some ⟨bo, 0, none⟩), .int .i64 k, p5, p6, p7, p8, p9, p10, p11, p12, p13, p14, p15, p16, p17, p18, p19, p20, p21, t 0, t 1, t 2, t 3, t 4, t 5, t 6, t 7, t 8, t 9], []⟩ ∧ W.heap.size ≤ g' ∧ L.length + 1 ≤ cap' ∧ X.cell? ⟨R, 0, none⟩ = some (.slice (some ⟨g', 0, none⟩) (L.length + 1) cap') ∧ X.frozen? ⟨R, 0, none⟩ = false ∧ RowE X g' (L.take k ++ e :: L.drop k) ∧ FrP (fun q => q = R) W X) rfl (by kernel_rfl) ?_ ?_ ?_ ?_ rfl ?_ ?_ ?_
  · intro i j h
    unfold putD at h
    omega
  · intro l i hr j hj
    obtain ⟨_, o, ho, hdep⟩ := mem_ready.1 hr
    rcases hj with ⟨rfl, rfl⟩ | ⟨rfl, rfl⟩ | ⟨rfl, rfl⟩ | ⟨rfl, rfl | rfl | rfl⟩ | ⟨rfl, hj⟩ | ⟨rfl, rfl⟩ | ⟨rfl, rfl | rfl⟩ <;> simp only [List.getElem?_toArray, List.getElem?_cons_succ, List.getElem?_cons_zero, Option.some.injEq] at ho <;> subst ho
    · exact hdep ⟨1, .data⟩ (by simp) rfl
    · exact hdep ⟨2, .data⟩ (by simp) rfl
    · exact hdep ⟨3, .data⟩ (by simp) rfl
    · exact hdep ⟨4, .data⟩ (by simp) rfl
    · exact hdep ⟨5, .data⟩ (by simp) rfl
    · exact hdep ⟨6, .data⟩ (by simp) rfl
    · rcases (show j = 0 ∨ j = 1 ∨ j = 2 ∨ j = 3 ∨ j = 4 ∨ j = 5 ∨ j = 6 ∨ j = 7 by omega) with rfl | rfl | rfl | rfl | rfl | rfl | rfl | rfl
      · exact hdep ⟨0, .phase⟩ (by simp) rfl
      · exact hdep ⟨1, .phase⟩ (by simp) rfl
      · exact hdep ⟨2, .phase⟩ (by simp) rfl
      · exact hdep ⟨3, .phase⟩ (by simp) rfl
      · exact hdep ⟨4, .phase⟩ (by simp) rfl
      · exact hdep ⟨5, .phase⟩ (by simp) rfl
      · exact hdep ⟨6, .phase⟩ (by simp) rfl
      · exact hdep ⟨7, .phase⟩ (by simp) rfl
    · exact hdep ⟨8, .data⟩ (by simp) rfl
    · exact hdep ⟨9, .data⟩ (by simp) rfl
    · exact hdep ⟨7, .data⟩ (by simp) rfl
  · intro f hcl hf j hj
    have f9 : f 9 := hf 9 (by unfold putD; omega)
    have f8 : f 8 := hcl 9 8 (by unfold putD; omega) f9
    rcases (show j < 8 ∨ j = 8 ∨ j = 9 by omega) with h | rfl | rfl
    · exact hcl 8 j (by unfold putD; omega) f8
    · exact f8
    · exact f9
  · intro i v X Y h hb
    match i with
    | 7 =>
      obtain ⟨g', cap', e1, e2, e3, e4⟩ := h
      exact ⟨g', cap', e1, e2, e3, e4.grow hb⟩
    | 0 => exact h
    | 1 => exact h
    | 2 => exact h
    | 3 => exact h
    | 4 => exact h
    | 5 => exact h
    | 6 => exact h
    | _ + 8 => exact h
  · intro i hi t X K hb hg hK
    rcases (show i = 0 ∨ i = 1 ∨ i = 2 ∨ i = 3 ∨ i = 4 ∨ i = 5 ∨ i = 6 ∨ i = 7 ∨ i = 8 ∨ i = 9 by omega) with rfl | rfl | rfl | rfl | rfl | rfl | rfl | rfl | rfl | rfl
    · have h := hK (.pointer (some ⟨R, 0, none⟩)) X rfl (Below.refl _ _)
      refine wpOp_of rfl rfl ?_
      go_simp
      exact h
    · have h := hK (.pointer (some ⟨R, 0, none⟩)) X rfl (Below.refl _ _)
      refine wpOp_of rfl rfl ?_
      go_simp
      exact h
    · have e1 : t 1 = .pointer (some ⟨R, 0, none⟩) := hg 1 (by unfold putD; omega)
      have h := hK (.pointer (some ⟨R, 0, none⟩)) X rfl (Below.refl _ _)
      refine wpOp_of rfl rfl ?_
      go_simp
      simpa [updT, e1] using h
    · have e1 : t 2 = .pointer (some ⟨R, 0, none⟩) := hg 2 (by unfold putD; omega)
      have h := hK (.pointer (some ⟨R, 0, none⟩)) X rfl (Below.refl _ _)
      refine wpOp_of rfl rfl ?_
      go_simp
      simpa [updT, e1] using h
    · have e1 : t 3 = .pointer (some ⟨R, 0, none⟩) := hg 3 (by unfold putD; omega)
      have hcX := (hb.cell (p := ⟨R, 0, none⟩) hR).trans hc
      have h := hK (.slice ad L.length cap) X rfl (Below.refl _ _)
      refine wpOp_of rfl rfl ?_
      go_simp
      simpa [updT, e1] using h
    · have h := hK (.int .i64 k) X rfl (Below.refl _ _)
      refine wpOp_of rfl rfl ?_
      go_simp
      exact h
    · obtain ⟨q0, q1, q2, q3, q4, q5, q6⟩ := holds_ob (hbo.below hb zbo)
      have h := hK (.agg #[.string e.ob.kind, .string e.ob.name, .int .i64 e.ob.ver, .int .i64 e.ob.born, .string e.ob.text, .bool e.ob.ending, .slice e.A e.ob.hn e.C]) X rfl (Below.refl _ _)
      refine wpOp_of rfl rfl ?_
      go_simp
      exact h
    · have e4 : t 4 = .slice ad L.length cap := hg 4 (by unfold putD; omega)
      have e5 : t 5 = .int .i64 k := hg 5 (by unfold putD; omega)
      have e6 : t 6 = .agg #[.string e.ob.kind, .string e.ob.name, .int .i64 e.ob.ver, .int .i64 e.ob.born, .string e.ob.text, .bool e.ob.ending, .slice e.A e.ob.hn e.C] := hg 6 (by unfold putD; omega)
      refine wpOp_of rfl rfl ?_
      have HK := hid hK
      have HST := hid (hst.grow hb)
      clear hK hg
      go_simp
      go_at_call 193
      refine (insert_any ad g cap L k e X HST.out hk hl).mono ?_
      rintro r Y ⟨g', cap', rfl, z1, z2, hr, hbY⟩
      have h := HK.out (.slice (some ⟨g', 0, none⟩) (L.length + 1) cap') Y ⟨g', cap', rfl, Nat.le_trans hb.size z1, z2, hr⟩ hbY
      simpa [updT, e4, e5, e6] using h
    · have e1 : t 0 = .pointer (some ⟨R, 0, none⟩) := hg 0 (by unfold putD; omega)
      have h := hK (.pointer (some ⟨R, 0, none⟩)) X rfl (Below.refl _ _)
      refine wpOp_of rfl rfl ?_
      go_simp
      simpa [updT, e1] using h
    · have e1 : t 8 = .pointer (some ⟨R, 0, none⟩) := hg 8 (by unfold putD; omega)
      have h := hK (.pointer (some ⟨R, 0, none⟩)) X rfl (Below.refl _ _)
      refine wpOp_of rfl rfl ?_
      go_simp
      simpa [updT, e1] using h
  · intro t X K hb hg hK
    have e9 : t 9 = .pointer (some ⟨R, 0, none⟩) := hg 9 (by omega)
    obtain ⟨g', cap', e7, z1, z2, hr⟩ : ∃ g' cap', t 7 = .slice (some ⟨g', 0, none⟩) (L.length + 1) cap' ∧ W.heap.size ≤ g' ∧ L.length + 1 ≤ cap' ∧ RowE X g' (L.take k ++ e :: L.drop k) := hg 7 (by omega)
    have hcX := (hb.cell (p := ⟨R, 0, none⟩) hR).trans hc
    have hfX := (hb.frozen (p := ⟨R, 0, none⟩) hR).trans hfz
    have hset : FrP (fun q => q = R) X (X.setCell ⟨R, 0, none⟩ (.slice (some ⟨g', 0, none⟩) (L.length + 1) cap')) := FrP.setCell (P := fun q => q = R) (FrP.refl _ X) (p := ⟨R, 0, none⟩) rfl _
    have h := hK ⟨#[.pointer (some ⟨R, 0, none⟩), p1, p2, .pointer (some ⟨bo, 0, none⟩), .int .i64 k, p5, p6, p7, p8, p9, p10, p11, p12, p13, p14, p15, p16, p17, p18, p19, p20, p21, t 0, t 1, t 2, t 3, t 4, t 5, t 6, t 7, t 8, t 9], []⟩ (X.setCell ⟨R, 0, none⟩ (.slice (some ⟨g', 0, none⟩) (L.length + 1) cap')) ⟨t, g', cap', rfl, z1, z2, World.cell?_setCell_same _ _ _ hcX, by rw [World.frozen?_setCell]; exact hfX, hr.fr hset (fun h => by omega), (FrP.of_below hb).trans hset⟩
    refine wpOp_of rfl rfl ?_
    clear hr hset hK hg
    go_simp
    simpa [e7, e9] using h
  · rintro a X ⟨t, g', cap', rfl, h1, h2, h3, h4, h5, h6⟩
    exact hQ t g' cap' X h1 h2 h3 h4 h5 h6
theorem ixE_map {L : List EO} {i : Nat} (h : i < L.length) : (L.map EO.ob)[i]? = some (ixE L i).ob := by
  rw [ixE_lt h]
  simp [h]
theorem flK_map (o : Ob) (L : List EO) : (flK o L).map EO.ob = (L.map EO.ob).filter (otherK o) := by
  unfold flK
  rw [List.filter_map]
  rfl
/-- the place that put finds, and what comes of it -/
def placeP (o : Ob) (L : List EO) (k : Nat) : Prop := k ≤ L.length ∧ (∀ j, j < k → befB (ixE L j).ob o = true) ∧ (k < L.length → befB (ixE L k).ob o = false)
theorem put_list {o : EO} {L : List EO} {k : Nat} (h : placeP o.ob L k) : ((flK o.ob L).take k ++ o :: (flK o.ob L).drop k).map EO.ob = putG o.ob (L.map EO.ob) := by
  obtain ⟨h1, h2, h3⟩ := h
  rw [putG_split o.ob (L.map EO.ob) k (by simpa using h1) (fun j hj => ⟨_, ixE_map (by omega), h2 j hj⟩) (fun hk => by
    have hk' : k < L.length := by simpa using hk
    exact ⟨_, ixE_map hk', h3 hk'⟩)]
  rw [List.map_append, List.map_cons, List.map_take, List.map_drop, flK_map]
theorem place_le {o : Ob} {L : List EO} {k : Nat} (h : placeP o L k) : k ≤ (flK o L).length := by
  obtain ⟨h1, h2, _⟩ := h
  have e : flK o (L.take k) = L.take k := filter_take_all h1 (fun t ht => by
    have := (keyI_neg7 _ _).2 (h2 t ht)
    exact decide_eq_true (by omega))
  have hs : (flK o (L.take k)).length ≤ (flK o L).length := ((List.take_sublist k L).filter _).length_le
  rw [e, List.length_take, Nat.min_eq_left h1] at hs
  exact hs
set_option maxRecDepth 100000 in
set_option maxHeartbeats 2000000 in
theorem put_any (e : EO) (R : Nat) (ad : Option Addr) (g cap : Nat) (L : List EO) (w : World) (hR : R < w.heap.size) (hRg : ad ≠ none → ¬ R = g) (hc : w.cell? ⟨R, 0, none⟩ = some (.slice ad L.length cap)) (hfz : w.frozen? ⟨R, 0, none⟩ = false) (hst : RowS w ad g cap L) (hl : (L.length : Int) ≤ 1099511627775) :
    Calls Tryz.prog 189 #[.pointer (some ⟨R, 0, none⟩), .agg #[.string e.ob.kind, .string e.ob.name, .int .i64 e.ob.ver, .int .i64 e.ob.born, .string e.ob.text, .bool e.ob.ending, .slice e.A e.ob.hn e.C]] w fun r w' => ∃ k g' cap', r = .returned (.tuple #[]) ∧ placeP e.ob L k ∧ w.heap.size ≤ g' ∧ (flK e.ob L).length + 1 ≤ cap' ∧ w'.cell? ⟨R, 0, none⟩ = some (.slice (some ⟨g', 0, none⟩) ((flK e.ob L).length + 1) cap') ∧ w'.frozen? ⟨R, 0, none⟩ = false ∧ RowE w' g' ((flK e.ob L).take k ++ e :: (flK e.ob L).drop k) ∧ FrP (fun q => q = R ∨ (L ≠ [] ∧ q = g)) w w' := by
  have hB := below_alloc w (.cells (obCells e.ob e.A e.C) 73)
  have hz : (w.alloc (.cells (obCells e.ob e.A e.C) 73)).heap.size = w.heap.size + 1 := by simp
  have hbx := holds_new w (obCells e.ob e.A e.C) 73
  obtain ⟨b0, b1, b2, b3, b4, b5, b6⟩ := holds_ob hbx
  have hst1 := hst.grow hB
  have hidx := index69_any (fun x => !befB x.ob e.ob) w.heap.size ad g cap L (w.alloc (.cells (obCells e.ob e.A e.C) 73)) (by omega) (fun h => by
      rcases hst with ⟨_, h2, _⟩ | ⟨h1, _, _⟩
      · exact absurd h2 h
      · exact h1) (fun h => by
      rcases hst1 with ⟨_, h2, _⟩ | ⟨_, h2, _⟩
      · exact absurd h2 h
      · exact h2) (fun W x hbW => notBefore_any x.ob e.ob x.A e.A x.C e.C w.heap.size W (by have := hbW.size; omega) ⟨(hbW.cell (p := ⟨w.heap.size, 0, none⟩) (by rw [hz]; show w.heap.size < _; omega)).trans b0, (hbW.cell (p := ⟨w.heap.size, 0 + 1, none⟩) (by rw [hz]; show w.heap.size < _; omega)).trans b1, (hbW.cell (p := ⟨w.heap.size, 0 + 2, none⟩) (by rw [hz]; show w.heap.size < _; omega)).trans b2, (hbW.cell (p := ⟨w.heap.size, 0 + 3, none⟩) (by rw [hz]; show w.heap.size < _; omega)).trans b3, (hbW.cell (p := ⟨w.heap.size, 0 + 4, none⟩) (by rw [hz]; show w.heap.size < _; omega)).trans b4, (hbW.cell (p := ⟨w.heap.size, 0 + 5, none⟩) (by rw [hz]; show w.heap.size < _; omega)).trans b5, (hbW.cell (p := ⟨w.heap.size, 0 + 6, none⟩) (by rw [hz]; show w.heap.size < _; omega)).trans b6⟩)
  have hcR := (hB.cell (p := ⟨R, 0, none⟩) hR).trans hc
  have hfR := (hB.frozen (p := ⟨R, 0, none⟩) hR).trans hfz
  have hRz : R < (w.alloc (.cells (obCells e.ob e.A e.C) 73)).heap.size := by omega
  have HST := hid hst
  have HST1 := hid hst1
  have HBX := hid hbx
  have HFR := hid hfR
  clear hst hst1 hfz hbx b0 b1 b2 b3 b4 b5 b6 hfR
  have HCR := hid hcR
  clear hcR
  go_enter Tryz.func189, Tryz.ntmps189
  go_wp2_with fail
  refine hidx.mono ?_
  rintro e1 w1 ⟨r, rfl, hfst, hb1⟩
  have c1 := (hb1.cell (p := ⟨R, 0, none⟩) hRz).trans HCR.out
  have hz1 := hb1.size
  have hR1 : R < w1.heap.size := by omega
  have hBB : Below w.heap.size w w1 := hB.trans (hb1.mono (by omega))
  have HF1 := hid ((hb1.frozen (p := ⟨R, 0, none⟩) hRz).trans HFR.out)
  have HBX1 := hid (HBX.out.below hb1 (by rw [hz]; omega))
  obtain ⟨x0, x1, x2, x3, x4, x5, x6⟩ := holds_ob HBX1.out
  have zx : w.heap.size < w1.heap.size := by omega
  clear hidx HCR HFR HBX hc
  obtain ⟨k, hkr, hpl⟩ : ∃ k : Nat, (if r < 0 then (L.length : Int) else r) = k ∧ placeP e.ob L k := by
    rcases hfst with ⟨rfl, hall⟩ | ⟨k, hk, rfl, hkt, hkn⟩
    · exact ⟨L.length, by simp, Nat.le_refl _, fun j hj => by simpa using hall j hj, fun h => absurd h (Nat.lt_irrefl _)⟩
    · exact ⟨k, by rw [if_neg (by omega)], Nat.le_of_lt hk, fun j hj => by simpa using hkn j hj, fun _ => by simpa using hkt⟩
  have HPL := hid hpl
  have HFST := hid hfst
  have HST2 := hid (HST1.out.grow hb1)
  clear hfst hpl
  have hfin : ∀ (k : Nat), True := fun _ => trivial
  clear hfin
  by_cases hr : r < 0
  · rw [if_pos hr] at hkr
    obtain rfl : L.length = k := by omega
    go_wp2_with (go_at_call 63; go_must (refine (keyOf0_any e.ob e.A e.C _).mono ?_; rintro e2 w2 ⟨rfl, hb2⟩))
    refine (takeOut_any e.ob R ad g cap L w2 (by have := hb2.size; omega) hRg ((hb2.cell (p := ⟨R, 0, none⟩) hR1).trans c1) ((hb2.frozen (p := ⟨R, 0, none⟩) hR1).trans HF1.out) (HST2.out.grow hb2) hl).mono ?_
    rintro e3 w3 ⟨rfl, c3, f3, hst3, hf3⟩
    have hz2 := hb2.size
    have hz3 := hf3.size
    have hbx3 : Holds w3 w.heap.size (obCells e.ob e.A e.C) := fun i => by
      refine (hf3.cell (p := ⟨w.heap.size, i, none⟩) (by show w.heap.size < _; omega) ?_).trans ((HBX1.out.below hb2 zx) i)
      rintro (h | ⟨h1, h2⟩)
      · have : w.heap.size = R := h
        omega
      · have h2 : w.heap.size = g := h2
        rcases HST.out with ⟨_, h3, _⟩ | ⟨_, h3, _⟩
        · exact h1 h3
        · have := h3.lt
          omega
    have HX3 := hid hbx3
    have HS3 := hid hst3
    have HF3 := hid hf3
    have HC3 := hid c3
    have HZ3 := hid f3
    have hBB2 : Below w.heap.size w w2 := hBB.trans (hb2.mono (by omega))
    clear c3 f3 hst3 hf3 hbx3 x0 x1 x2 x3 x4 x5 x6 c1 hb2
    go_wp2
    refine putReg _ _ _ _ _ _ _ _ _ _ _ _ _ _ _ _ _ _ _ R w.heap.size ad g cap (flK e.ob L) _ e w3 HS3.out (place_le HPL.out) (by have := List.length_filter_le (fun x : EO => otherK e.ob x.ob) L; unfold flK; omega) HX3.out (by omega) (by omega) HC3.out HZ3.out _ ?_
    intro t g' cap' X z1 z2 cX fX rX hfX
    have HCX := hid cX
    have HFX := hid fX
    have HRX := hid rX
    have HX := hid ((((FrP.of_below (P := fun q => q = R ∨ (L ≠ [] ∧ q = g)) hBB2).trans HF3.out)).trans (hfX.mono (fun q h => Or.inl h)))
    clear cX fX rX hfX
    go_wp2
    go_end0
    exact ⟨_, g', cap', rfl, HPL.out, by omega, z2, HCX.out, HFX.out, HRX.out, HX.out⟩
  · rw [if_neg hr] at hkr
    subst hkr
    go_wp2_with (go_at_call 63; go_must (refine (keyOf0_any e.ob e.A e.C _).mono ?_; rintro e2 w2 ⟨rfl, hb2⟩))
    refine (takeOut_any e.ob R ad g cap L w2 (by have := hb2.size; omega) hRg ((hb2.cell (p := ⟨R, 0, none⟩) hR1).trans c1) ((hb2.frozen (p := ⟨R, 0, none⟩) hR1).trans HF1.out) (HST2.out.grow hb2) hl).mono ?_
    rintro e3 w3 ⟨rfl, c3, f3, hst3, hf3⟩
    have hz2 := hb2.size
    have hz3 := hf3.size
    have hbx3 : Holds w3 w.heap.size (obCells e.ob e.A e.C) := fun i => by
      refine (hf3.cell (p := ⟨w.heap.size, i, none⟩) (by show w.heap.size < _; omega) ?_).trans ((HBX1.out.below hb2 zx) i)
      rintro (h | ⟨h1, h2⟩)
      · have : w.heap.size = R := h
        omega
      · have h2 : w.heap.size = g := h2
        rcases HST.out with ⟨_, h3, _⟩ | ⟨_, h3, _⟩
        · exact h1 h3
        · have := h3.lt
          omega
    have HX3 := hid hbx3
    have HS3 := hid hst3
    have HF3 := hid hf3
    have HC3 := hid c3
    have HZ3 := hid f3
    have hBB2 : Below w.heap.size w w2 := hBB.trans (hb2.mono (by omega))
    clear c3 f3 hst3 hf3 hbx3 x0 x1 x2 x3 x4 x5 x6 c1 hb2
    go_wp2
    refine putReg _ _ _ _ _ _ _ _ _ _ _ _ _ _ _ _ _ _ _ R w.heap.size ad g cap (flK e.ob L) _ e w3 HS3.out (place_le HPL.out) (by have := List.length_filter_le (fun x : EO => otherK e.ob x.ob) L; unfold flK; omega) HX3.out (by omega) (by omega) HC3.out HZ3.out _ ?_
    intro t g' cap' X z1 z2 cX fX rX hfX
    have HCX := hid cX
    have HFX := hid fX
    have HRX := hid rX
    have HX := hid ((((FrP.of_below (P := fun q => q = R ∨ (L ≠ [] ∧ q = g)) hBB2).trans HF3.out)).trans (hfX.mono (fun q h => Or.inl h)))
    clear cX fX rX hfX
    go_wp2
    go_end0
    exact ⟨_, g', cap', rfl, HPL.out, by omega, z2, HCX.out, HFX.out, HRX.out, HX.out⟩
end Go.Proofs.YtkecnaaacbckoaaGreat
namespace Go.Proofs.YtkecnaaacbckoaaGreat
open Go.RowKit Go.Maps
theorem as81 (v : Value) (w : World) : (Instr.typeAssert (.iface 187 v) 20 187 true).run Tryz.prog w = .ok (.tuple #[v, .bool true]) w := by
  simp [Instr.typeAssert, run_underlying Tryz.underlying187]
theorem as86 (v : Value) (w : World) : (Instr.typeAssert (.iface 190 v) 20 190 true).run Tryz.prog w = .ok (.tuple #[v, .bool true]) w := by
  simp [Instr.typeAssert, run_underlying Tryz.underlying190]
theorem zero81 : ∀ w, (zeroValue 187).run Tryz.prog w = .ok (.agg #[.string ByteArray.empty, .string ByteArray.empty, .int .i64 0, .int .i64 0, .string ByteArray.empty, .bool false, .slice none 0 0]) w := fun w => by kernel_rfl
theorem as81n (v : Value) (w : World) : (Instr.typeAssert (.iface 190 v) 20 187 true).run Tryz.prog w = .ok (.tuple #[.agg #[.string ByteArray.empty, .string ByteArray.empty, .int .i64 0, .int .i64 0, .string ByteArray.empty, .bool false, .slice none 0 0], .bool false]) w := by
  simp [Instr.typeAssert, run_underlying Tryz.underlying187]
  rfl
set_option maxRecDepth 100000 in
set_option maxHeartbeats 1000000 in
theorem hearCame_any (e : EO) (R : Nat) (ad : Option Addr) (g cap : Nat) (L : List EO) (w : World) (hR : R < w.heap.size) (hRg : ad ≠ none → ¬ R = g) (hc : w.cell? ⟨R, 0, none⟩ = some (.slice ad L.length cap)) (hfz : w.frozen? ⟨R, 0, none⟩ = false) (hst : RowS w ad g cap L) (hl : (L.length : Int) ≤ 1099511627775) :
    Calls Tryz.prog 121 #[.iface 151 (.pointer (some ⟨R, 0, none⟩)), .iface 187 (.agg #[.string e.ob.kind, .string e.ob.name, .int .i64 e.ob.ver, .int .i64 e.ob.born, .string e.ob.text, .bool e.ob.ending, .slice e.A e.ob.hn e.C])] w fun r w' => ∃ k g' cap', r = .returned (.tuple #[]) ∧ placeP e.ob L k ∧ w.heap.size ≤ g' ∧ (flK e.ob L).length + 1 ≤ cap' ∧ w'.cell? ⟨R, 0, none⟩ = some (.slice (some ⟨g', 0, none⟩) ((flK e.ob L).length + 1) cap') ∧ w'.frozen? ⟨R, 0, none⟩ = false ∧ RowE w' g' ((flK e.ob L).take k ++ e :: (flK e.ob L).drop k) ∧ FrP (fun q => q = R ∨ (L ≠ [] ∧ q = g)) w w' := by
  have h81 := as81 (.agg #[.string e.ob.kind, .string e.ob.name, .int .i64 e.ob.ver, .int .i64 e.ob.born, .string e.ob.text, .bool e.ob.ending, .slice e.A e.ob.hn e.C])
  have hB := below_alloc w (.cells (obCells e.ob e.A e.C) 187)
  have hput := put_any e R ad g cap L (w.alloc (.cells (obCells e.ob e.A e.C) 187)) (by simp; omega) hRg ((hB.cell (p := ⟨R, 0, none⟩) hR).trans hc) ((hB.frozen (p := ⟨R, 0, none⟩) hR).trans hfz) (hst.grow hB) hl
  clear hc hfz hst
  go_enter Tryz.func121, Tryz.ntmps121
  go_wp2_with fail
  refine hput.mono ?_
  rintro r w1 ⟨k, g', cap', rfl, hp, z1, z2, c1, f1, r1, hf1⟩
  have z3 : w.heap.size ≤ g' := by simp at z1; omega
  have HP := hid hp
  have HC := hid c1
  have HF := hid f1
  have HR := hid r1
  have HX := hid ((FrP.of_below (P := fun q => q = R ∨ (L ≠ [] ∧ q = g)) hB).trans hf1)
  clear hput hp c1 f1 r1 hf1 h81
  go_wp2
  go_end0
  exact ⟨k, g', cap', rfl, HP.out, z3, z2, HC.out, HF.out, HR.out, HX.out⟩
set_option maxRecDepth 100000 in
set_option maxHeartbeats 1000000 in
theorem hearWent_any (o : Ob) (R : Nat) (ad : Option Addr) (g cap : Nat) (L : List EO) (w : World) (hR : R < w.heap.size) (hRg : ad ≠ none → ¬ R = g) (hc : w.cell? ⟨R, 0, none⟩ = some (.slice ad L.length cap)) (hfz : w.frozen? ⟨R, 0, none⟩ = false) (hst : RowS w ad g cap L) (hl : (L.length : Int) ≤ 1099511627775) :
    Calls Tryz.prog 121 #[.iface 151 (.pointer (some ⟨R, 0, none⟩)), .iface 190 (.agg #[.string o.kind, .string o.name])] w fun e w' => e = .returned (.tuple #[]) ∧ w'.cell? ⟨R, 0, none⟩ = some (.slice ad (flK o L).length cap) ∧ w'.frozen? ⟨R, 0, none⟩ = false ∧ RowS w' ad g cap (flK o L) ∧ FrP (fun q => q = R ∨ (L ≠ [] ∧ q = g)) w w' := by
  have h81 := as81n (.agg #[.string o.kind, .string o.name])
  have h86 := as86 (.agg #[.string o.kind, .string o.name])
  have hB := below_alloc w (.cells #[.string o.kind, .string o.name] 190)
  have hput := takeOut_any o R ad g cap L (w.alloc (.cells #[.string o.kind, .string o.name] 190)) (by simp; omega) hRg ((hB.cell (p := ⟨R, 0, none⟩) hR).trans hc) ((hB.frozen (p := ⟨R, 0, none⟩) hR).trans hfz) (hst.grow hB) hl
  clear hc hfz hst
  go_enter Tryz.func121, Tryz.ntmps121
  go_wp2_with fail
  refine hput.mono ?_
  rintro r w1 ⟨rfl, c1, f1, r1, hf1⟩
  have HC := hid c1
  have HF := hid f1
  have HR := hid r1
  have HX := hid ((FrP.of_below (P := fun q => q = R ∨ (L ≠ [] ∧ q = g)) hB).trans hf1)
  clear hput c1 f1 r1 hf1 h81 h86
  go_wp2
  go_end0
  exact ⟨rfl, HC.out, HF.out, HR.out, HX.out⟩
set_option maxRecDepth 100000 in
set_option maxHeartbeats 1000000 in
theorem tidings_any (c : Ch) (ad : Option Addr) (cap : Nat) (w : World) (lo hi : Nat) (hhi : hi ≤ w.heap.size) (hl : (c.ob.hn : Int) ≤ 8796093022208) (hc : StrsIn w lo hi ad c.ob.hn c.ob.hs) :
    Calls Tryz.prog 122 #[.agg #[.int .i64 c.ver, .bool c.gone, .string c.ob.kind, .string c.ob.name, .int .i64 c.ob.ver, .int .i64 c.ob.born, .string c.ob.text, .bool c.ob.ending, .slice ad c.ob.hn cap]] w fun r w' => ((c.gone = true ∧ r = .returned (.iface 190 (.agg #[.string c.ob.kind, .string c.ob.name]))) ∨ (c.gone = false ∧ ∃ e : EO, e.ob = c.ob ∧ r = .returned (.iface 187 (.agg #[.string e.ob.kind, .string e.ob.name, .int .i64 e.ob.ver, .int .i64 e.ob.born, .string e.ob.text, .bool e.ob.ending, .slice e.A e.ob.hn e.C])) ∧ StrsOwn w' e.hb (e.hb + 1) e.A e.ob.hn e.ob.hs ∧ w.heap.size ≤ e.hb ∧ (e.ob.hn ≠ 0 → e.hb < w'.heap.size))) ∧ Below w.heap.size w w' := by
  have hB := below_alloc w (.cells #[.int .i64 c.ver, .bool c.gone, .string c.ob.kind, .string c.ob.name, .int .i64 c.ob.ver, .int .i64 c.ob.born, .string c.ob.text, .bool c.ob.ending, .slice ad c.ob.hn cap] 75)
  cases hg : c.gone with
  | true =>
    rw [hg] at hB
    go_enter Tryz.func122, Tryz.ntmps122
    go_wp2_with (go_at_call 63; go_must (refine (keyOf0_any c.ob ad cap _).mono ?_; rintro e1 w1 ⟨rfl, hb1⟩))
    go_ret
    exact ⟨Or.inl ⟨trivial, rfl⟩, hB.trans (hb1.mono (by simp))⟩
  | false =>
    rw [hg] at hB
    have hin := hc.below hB hhi
    have HI := hid hin
    clear hc hin
    go_enter Tryz.func122, Tryz.ntmps122
    go_wp2_with fail
    refine (copyOb_own c.ob ad cap _ lo hi (by simp; omega) hl (by exact HI.out)).mono ?_
    rintro e1 w1 ⟨ad', cap', b, rfl, z1, z2, ho, hb1⟩
    have HO := hid ho
    have HZ := hid z2
    have z3 : w.heap.size ≤ b := by simp at z1; omega
    clear ho z2
    go_wp2
    go_ret
    exact ⟨Or.inr ⟨trivial, ⟨c.ob, ad', cap', b⟩, rfl, rfl, HO.out, z3, HZ.out⟩, hB.trans (hb1.mono (by simp))⟩
end Go.Proofs.YtkecnaaacbckoaaGreat
