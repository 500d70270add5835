import Derived.Test.YtjepponnhieocaaL
import Derived.Deep.MidRow
import Derived.Laws.Rows
namespace Go.Proofs.Ytjepponnhieocaa
open Go.RowKit
set_option maxRecDepth 100000 in
set_option maxHeartbeats 400000 in
theorem toStrs_at (n : Nat) (s : Nat → ByteArray) (ad : Option Addr) (cap : Nat) (w : World) (lo hi : Nat) (hhi : hi ≤ w.heap.size) (hl : (n : Int) ≤ 8796093022208)
    (hc : StrsIn w lo hi ad n s) :
    Calls Try.prog 66 #[.slice ad n cap] w fun e w' => e = .returned (.slice (some ⟨w.heap.size, 0, none⟩) n n) ∧ StrsOwn w' w.heap.size w'.heap.size (some ⟨w.heap.size, 0, none⟩) n s ∧ Below w.heap.size w w' := by
  obtain ⟨i0, hi0, hz0, hz1, hz2⟩ := info_parts Try.info9
  go_enter Try.func66, Try.ntmps66
  go_wp2_with (first
    | (at_make; refine wpList_make_full _ rfl _ _ 46 rfl w.heap.size 9 i0 (.string ByteArray.empty) 1 Try.underlying46 hi0 hz0 hz1 .i64 .i64 _ _ n rfl rfl (by omega) (by omega) (by rw [hz2]; omega) (by unfold maxLen; omega) (by omega) ?_; intro w1 hown1 hgrow1)
    )
  obtain ⟨r1, r2, r3⟩ := toStrs_rel hown1
  have hb1 : Below w.heap.size w w1 := (Below.refl _ _).grown hgrow1 (Nat.le_refl _) (by simp)
  clear hown1 hgrow1 hi0 hz0 hz1 hz2
  go_loopw [4] (fun i wr => ∃ k : Nat, k ≤ n ∧ i = .int .i64 k ∧ Below w.heap.size w wr ∧ w.heap.size < wr.heap.size ∧ (∀ j, j < n → ∃ u, wr.cell? ⟨w.heap.size, j, none⟩ = some u) ∧ (∀ j, wr.frozen? ⟨w.heap.size, j, none⟩ = false) ∧ ∀ j, j < k → wr.cell? ⟨w.heap.size, j, none⟩ = some (.string (s j))) (fun i _ => n - (intOf i).toNat)
  case atStart => exact ⟨0, Nat.zero_le _, rfl, hb1, r3, r1, r2, fun j hj => absurd hj (Nat.not_lt_zero _)⟩
  case round =>
    obtain ⟨k, hk, rfl, hb, hsz, hce, hfr, hdone⟩ := hrel
    clear r1 r2 r3 hb1
    by_cases hkn : k < n
    · obtain ⟨b, off, rfl, hlo, hbh, hcx⟩ := hc k hkn
      have hcx' : wr.cell? ⟨b, off + k, none⟩ = some (.string (s k)) := (hb.cell (p := ⟨b, off + k, none⟩) (by show b < _; omega)).trans hcx
      obtain ⟨u, hu⟩ := hce k hkn
      have hfk := hfr k
      have R := toStrs_step (s := s) hb hsz hce hfr hdone hkn
      clear hc hcx hce hfr hdone
      have HR := hid R
      clear R
      go_wp2
      go_roundw
      case rel => exact ⟨k + 1, by omega, by go_num, HR.out⟩
      case measure => simp [intOf]; omega
    · have : k = n := by omega
      subst this
      have HR := hid (And.intro hsz (And.intro hfr hdone))
      clear hc hce hfr hdone
      go_wp2
      go_ret
      exact ⟨rfl, fun i hi => ⟨_, 0, rfl, Nat.le_refl _, HR.out.1, by simpa using HR.out.2.2 i hi, by simpa using HR.out.2.1 i⟩, hb⟩
/-- a list of the call's own, in blocks lo .. hi -/
def MssOwnIn (w : World) (lo hi : Nat) (ad : Option Addr) (n : Nat) (x : Nat → Ms) : Prop := ∃ g h r, ad = some ⟨g, 0, none⟩ ∧ lo ≤ g ∧ h ≤ hi ∧ MssOwn w g h n n x r
theorem MssOwnIn.fr {w w' : World} {lo hi lo2 hi2 : Nat} {ad : Option Addr} {n : Nat} {x : Nat → Ms} (k : MssOwnIn w lo hi ad n x) (hb : Fr lo2 hi2 w w') (ho : hi ≤ lo2 ∨ hi2 ≤ lo) : MssOwnIn w' lo hi ad n x := by
  obtain ⟨g, h, r, e1, e2, e3, e4⟩ := k
  exact ⟨g, h, r, e1, e2, e3, e4.fr hb (by omega)⟩
theorem MssOwnIn.isIn {w : World} {lo hi : Nat} {ad : Option Addr} {n : Nat} {x : Nat → Ms} (k : MssOwnIn w lo hi ad n x) : MssIn w lo hi ad n x := by
  obtain ⟨g, h, r, rfl, e2, e3, e4⟩ := k
  exact e4.isIn e2 e3
/-- a list of the call's own, in blocks lo .. hi -/
def AksOwnIn (w : World) (lo hi : Nat) (ad : Option Addr) (n : Nat) (x : Nat → Ak) : Prop := ∃ g h r, ad = some ⟨g, 0, none⟩ ∧ lo ≤ g ∧ h ≤ hi ∧ AksOwn w g h n n x r
theorem AksOwnIn.fr {w w' : World} {lo hi lo2 hi2 : Nat} {ad : Option Addr} {n : Nat} {x : Nat → Ak} (k : AksOwnIn w lo hi ad n x) (hb : Fr lo2 hi2 w w') (ho : hi ≤ lo2 ∨ hi2 ≤ lo) : AksOwnIn w' lo hi ad n x := by
  obtain ⟨g, h, r, e1, e2, e3, e4⟩ := k
  exact ⟨g, h, r, e1, e2, e3, e4.fr hb (by omega)⟩
theorem AksOwnIn.isIn {w : World} {lo hi : Nat} {ad : Option Addr} {n : Nat} {x : Nat → Ak} (k : AksOwnIn w lo hi ad n x) : AksIn w lo hi ad n x := by
  obtain ⟨g, h, r, rfl, e2, e3, e4⟩ := k
  exact e4.isIn e2 e3
/-- a recorder of the call's own: its lists one behind the other, in blocks lo .. hi -/
structure RcOwnAt (w : World) (r : Rc) (A : RcA) (lo m1 m2 m3 m4 m5 m6 hi : Nat) : Prop where
  o0 : SlsOwn w lo m1 A.sa r.sf.n r.sf.s
  o1 : SlsOwn w m1 m2 A.da r.dk.n r.dk.s
  o2 : MssOwnIn w m2 m3 A.ha r.hn r.hs
  o3 : StrsOwn w m3 m4 A.wa r.wn r.ws
  o4 : IntsOwn w m4 m5 A.ya r.yn r.ys
  o5 : SlsOwn w m5 m6 A.ba r.bn r.bs
  o6 : AksOwnIn w m6 hi A.aa r.an r.as_
  l0 : lo ≤ m1
  l1 : m1 ≤ m2
  l2 : m2 ≤ m3
  l3 : m3 ≤ m4
  l4 : m4 ≤ m5
  l5 : m5 ≤ m6
  l6 : m6 ≤ hi
  top : hi ≤ w.heap.size
theorem RcOwnAt.fr {w w' : World} {r : Rc} {A : RcA} {lo m1 m2 m3 m4 m5 m6 hi lo2 hi2 : Nat} (h : RcOwnAt w r A lo m1 m2 m3 m4 m5 m6 hi) (hb : Fr lo2 hi2 w w') (ho : hi ≤ lo2 ∨ hi2 ≤ lo) : RcOwnAt w' r A lo m1 m2 m3 m4 m5 m6 hi := by
  obtain ⟨o0, o1, o2, o3, o4, o5, o6, l0, l1, l2, l3, l4, l5, l6, top⟩ := h
  exact ⟨o0.fr hb (by omega), o1.fr hb (by omega), o2.fr hb (by omega), o3.fr hb (by omega) (by omega), o4.fr hb (by omega) (by omega), o5.fr hb (by omega), o6.fr hb (by omega), l0, l1, l2, l3, l4, l5, l6, Nat.le_trans top hb.size⟩
theorem RcOwnAt.isIn {w : World} {r : Rc} {A : RcA} {lo m1 m2 m3 m4 m5 m6 hi : Nat} (h : RcOwnAt w r A lo m1 m2 m3 m4 m5 m6 hi) : RcIn w lo hi r A := by
  obtain ⟨o0, o1, o2, o3, o4, o5, o6, l0, l1, l2, l3, l4, l5, l6, top⟩ := h
  exact ⟨o0.isIn.mono (by omega) (by omega), o1.isIn.mono (by omega) (by omega), o2.isIn.mono (by omega) (by omega), o3.isIn.mono (by omega) (by omega), o4.isIn.mono (by omega) (by omega), o5.isIn.mono (by omega) (by omega), o6.isIn.mono (by omega) (by omega)⟩
/-- where toRecorder puts the lists: at the beginning of blocks, with no room behind -/
structure RcNew (r : Rc) (A : RcA) : Prop where
  sa : ∃ g, A.sa = some ⟨g, 0, none⟩
  da : ∃ g, A.da = some ⟨g, 0, none⟩
  wa : ∃ g, A.wa = some ⟨g, 0, none⟩
  sc : A.sc = r.sf.n
  dc : A.dc = r.dk.n
  wc : A.wc = r.wn
structure RcSmall (r : Rc) : Prop where
  sf : (r.sf.n : Int) ≤ 1048576
  dk : (r.dk.n : Int) ≤ 1048576
  hn : (r.hn : Int) ≤ 1048576
  hs : ∀ i, i < r.hn → ((r.hs i).n : Int) ≤ 1048576
  wn : (r.wn : Int) ≤ 1048576
  yn : (r.yn : Int) ≤ 1048576
  bn : (r.bn : Int) ≤ 1048576
  an : (r.an : Int) ≤ 1048576
  as_ : ∀ i, i < r.an → ((r.as_ i).n : Int) ≤ 1048576
theorem results_cell_mid {P : Program} {fn : Func} {p : Tmp} {ty : TypeId} (h : fn.results = #[.cell p ty]) (tmps : Array Value) (w : World) (g : Nat) (cs : List Value) (d : TypeDesc)
    (hp : tmps.getD p undef = .pointer (some ⟨g, 0, none⟩)) (hc : w.rangeAt g 0 cs)
    (hu : P.underlying ty = some d) (hd : d.isRow = true) (hi : (P.info? ty).map (·.size) = some cs.length) :
    (results fn tmps).run P w = .ok (.agg cs.toArray) w := by
  have hp' : tmps[p]?.getD undef = .pointer (some ⟨g, 0, none⟩) := by simpa using hp
  simp [results, h, hp', asAddr, run_loadVar_mid w g 0 ty cs d hc hu hd hi]
theorem wpList_store_new {P : Program} {ops : Array Oper} {rest : List Oper} {op : Oper} {a : Act} {w : World} {Q : Exit → Act → World → Prop} (hgd : op.guard = none) (ty : TypeId) (x y : Operand) (ho : op.op = .store ty x y)
    (b : Nat) (cs : List Value) (hx : a.eval x = .pointer (some ⟨b, 0, none⟩)) (hy : a.eval y = .agg cs.toArray)
    (ht : w.there b 0 cs.length) (hi : (P.info? ty).map (·.size) = some cs.length) (h1 : ∀ v ∈ cs, v.oneCell' = true)
    (h : ∀ W2 : World, W2.rangeAt b 0 cs → Fr b (b + 1) w W2 → W2.heap.size = w.heap.size → wpList P ops Q rest (a.put op.dst undef) W2) : wpList P ops Q (op :: rest) a w :=
  wpList_store_mid hgd ty x y ho b 0 cs.toArray hx hy (by simpa using ht) (by simpa using hi) (all_oneCell_toArray h1) (h _ (World.rangeAt_setCells_same _ _ _ _ ht) (fr_setCells _ _ _ _) (size_setCells _ _ _ _))
theorem Try.sz58 : (Try.prog.info? 58).map (·.size) = some 18 := by kernel_rfl
theorem Fr.widen {lo hi lo2 hi2 : Nat} {w w' : World} (h : Fr lo hi w w') (h1 : lo2 ≤ lo) (h2 : hi ≤ hi2) : Fr lo2 hi2 w w' := ⟨h.os, h.tape, h.output, h.size, fun k hk ho => h.block k hk (by omega)⟩
theorem Holds.range {W : World} {B : Nat} {cs : List Value} (h : Holds W B cs.toArray) : W.rangeAt B 0 cs := fun j v hv => by
  rw [Nat.zero_add, h j]
  simpa using hv
theorem Holds.there {W : World} {B : Nat} {c : Array Value} (h : Holds W B c) (hf : ∀ i, W.frozen? ⟨B, i, none⟩ = false) : W.there B 0 c.size := fun j hj => by
  rw [Nat.zero_add, h j]
  exact ⟨by simp [hj], hf j⟩
theorem hset3 {W : World} {B : Nat} {v0 v1 v2 v3 v4 v5 v6 v7 v8 v9 v10 v11 v12 v13 v14 v15 v16 v17 : Value} (h : Holds W B #[v0, v1, v2, v3, v4, v5, v6, v7, v8, v9, v10, v11, v12, v13, v14, v15, v16, v17]) (v : Value) : Holds (W.setCell ⟨B, 3, none⟩ v) B #[v0, v1, v2, v, v4, v5, v6, v7, v8, v9, v10, v11, v12, v13, v14, v15, v16, v17] := h.set (i := 3) (by simp) v
theorem hset4 {W : World} {B : Nat} {v0 v1 v2 v3 v4 v5 v6 v7 v8 v9 v10 v11 v12 v13 v14 v15 v16 v17 : Value} (h : Holds W B #[v0, v1, v2, v3, v4, v5, v6, v7, v8, v9, v10, v11, v12, v13, v14, v15, v16, v17]) (v : Value) : Holds (W.setCell ⟨B, 4, none⟩ v) B #[v0, v1, v2, v3, v, v5, v6, v7, v8, v9, v10, v11, v12, v13, v14, v15, v16, v17] := h.set (i := 4) (by simp) v
theorem hset5 {W : World} {B : Nat} {v0 v1 v2 v3 v4 v5 v6 v7 v8 v9 v10 v11 v12 v13 v14 v15 v16 v17 : Value} (h : Holds W B #[v0, v1, v2, v3, v4, v5, v6, v7, v8, v9, v10, v11, v12, v13, v14, v15, v16, v17]) (v : Value) : Holds (W.setCell ⟨B, 5, none⟩ v) B #[v0, v1, v2, v3, v4, v, v6, v7, v8, v9, v10, v11, v12, v13, v14, v15, v16, v17] := h.set (i := 5) (by simp) v
theorem hset6 {W : World} {B : Nat} {v0 v1 v2 v3 v4 v5 v6 v7 v8 v9 v10 v11 v12 v13 v14 v15 v16 v17 : Value} (h : Holds W B #[v0, v1, v2, v3, v4, v5, v6, v7, v8, v9, v10, v11, v12, v13, v14, v15, v16, v17]) (v : Value) : Holds (W.setCell ⟨B, 6, none⟩ v) B #[v0, v1, v2, v3, v4, v5, v, v7, v8, v9, v10, v11, v12, v13, v14, v15, v16, v17] := h.set (i := 6) (by simp) v
theorem hset7 {W : World} {B : Nat} {v0 v1 v2 v3 v4 v5 v6 v7 v8 v9 v10 v11 v12 v13 v14 v15 v16 v17 : Value} (h : Holds W B #[v0, v1, v2, v3, v4, v5, v6, v7, v8, v9, v10, v11, v12, v13, v14, v15, v16, v17]) (v : Value) : Holds (W.setCell ⟨B, 7, none⟩ v) B #[v0, v1, v2, v3, v4, v5, v6, v, v8, v9, v10, v11, v12, v13, v14, v15, v16, v17] := h.set (i := 7) (by simp) v
theorem hset8 {W : World} {B : Nat} {v0 v1 v2 v3 v4 v5 v6 v7 v8 v9 v10 v11 v12 v13 v14 v15 v16 v17 : Value} (h : Holds W B #[v0, v1, v2, v3, v4, v5, v6, v7, v8, v9, v10, v11, v12, v13, v14, v15, v16, v17]) (v : Value) : Holds (W.setCell ⟨B, 8, none⟩ v) B #[v0, v1, v2, v3, v4, v5, v6, v7, v, v9, v10, v11, v12, v13, v14, v15, v16, v17] := h.set (i := 8) (by simp) v
theorem hset9 {W : World} {B : Nat} {v0 v1 v2 v3 v4 v5 v6 v7 v8 v9 v10 v11 v12 v13 v14 v15 v16 v17 : Value} (h : Holds W B #[v0, v1, v2, v3, v4, v5, v6, v7, v8, v9, v10, v11, v12, v13, v14, v15, v16, v17]) (v : Value) : Holds (W.setCell ⟨B, 9, none⟩ v) B #[v0, v1, v2, v3, v4, v5, v6, v7, v8, v, v10, v11, v12, v13, v14, v15, v16, v17] := h.set (i := 9) (by simp) v
theorem hset10 {W : World} {B : Nat} {v0 v1 v2 v3 v4 v5 v6 v7 v8 v9 v10 v11 v12 v13 v14 v15 v16 v17 : Value} (h : Holds W B #[v0, v1, v2, v3, v4, v5, v6, v7, v8, v9, v10, v11, v12, v13, v14, v15, v16, v17]) (v : Value) : Holds (W.setCell ⟨B, 10, none⟩ v) B #[v0, v1, v2, v3, v4, v5, v6, v7, v8, v9, v, v11, v12, v13, v14, v15, v16, v17] := h.set (i := 10) (by simp) v
theorem hset11 {W : World} {B : Nat} {v0 v1 v2 v3 v4 v5 v6 v7 v8 v9 v10 v11 v12 v13 v14 v15 v16 v17 : Value} (h : Holds W B #[v0, v1, v2, v3, v4, v5, v6, v7, v8, v9, v10, v11, v12, v13, v14, v15, v16, v17]) (v : Value) : Holds (W.setCell ⟨B, 11, none⟩ v) B #[v0, v1, v2, v3, v4, v5, v6, v7, v8, v9, v10, v, v12, v13, v14, v15, v16, v17] := h.set (i := 11) (by simp) v
theorem hset12 {W : World} {B : Nat} {v0 v1 v2 v3 v4 v5 v6 v7 v8 v9 v10 v11 v12 v13 v14 v15 v16 v17 : Value} (h : Holds W B #[v0, v1, v2, v3, v4, v5, v6, v7, v8, v9, v10, v11, v12, v13, v14, v15, v16, v17]) (v : Value) : Holds (W.setCell ⟨B, 12, none⟩ v) B #[v0, v1, v2, v3, v4, v5, v6, v7, v8, v9, v10, v11, v, v13, v14, v15, v16, v17] := h.set (i := 12) (by simp) v
theorem hset13 {W : World} {B : Nat} {v0 v1 v2 v3 v4 v5 v6 v7 v8 v9 v10 v11 v12 v13 v14 v15 v16 v17 : Value} (h : Holds W B #[v0, v1, v2, v3, v4, v5, v6, v7, v8, v9, v10, v11, v12, v13, v14, v15, v16, v17]) (v : Value) : Holds (W.setCell ⟨B, 13, none⟩ v) B #[v0, v1, v2, v3, v4, v5, v6, v7, v8, v9, v10, v11, v12, v, v14, v15, v16, v17] := h.set (i := 13) (by simp) v
theorem hset14 {W : World} {B : Nat} {v0 v1 v2 v3 v4 v5 v6 v7 v8 v9 v10 v11 v12 v13 v14 v15 v16 v17 : Value} (h : Holds W B #[v0, v1, v2, v3, v4, v5, v6, v7, v8, v9, v10, v11, v12, v13, v14, v15, v16, v17]) (v : Value) : Holds (W.setCell ⟨B, 14, none⟩ v) B #[v0, v1, v2, v3, v4, v5, v6, v7, v8, v9, v10, v11, v12, v13, v, v15, v16, v17] := h.set (i := 14) (by simp) v
theorem hset15 {W : World} {B : Nat} {v0 v1 v2 v3 v4 v5 v6 v7 v8 v9 v10 v11 v12 v13 v14 v15 v16 v17 : Value} (h : Holds W B #[v0, v1, v2, v3, v4, v5, v6, v7, v8, v9, v10, v11, v12, v13, v14, v15, v16, v17]) (v : Value) : Holds (W.setCell ⟨B, 15, none⟩ v) B #[v0, v1, v2, v3, v4, v5, v6, v7, v8, v9, v10, v11, v12, v13, v14, v, v16, v17] := h.set (i := 15) (by simp) v
theorem hset16 {W : World} {B : Nat} {v0 v1 v2 v3 v4 v5 v6 v7 v8 v9 v10 v11 v12 v13 v14 v15 v16 v17 : Value} (h : Holds W B #[v0, v1, v2, v3, v4, v5, v6, v7, v8, v9, v10, v11, v12, v13, v14, v15, v16, v17]) (v : Value) : Holds (W.setCell ⟨B, 16, none⟩ v) B #[v0, v1, v2, v3, v4, v5, v6, v7, v8, v9, v10, v11, v12, v13, v14, v15, v, v17] := h.set (i := 16) (by simp) v
theorem hset17 {W : World} {B : Nat} {v0 v1 v2 v3 v4 v5 v6 v7 v8 v9 v10 v11 v12 v13 v14 v15 v16 v17 : Value} (h : Holds W B #[v0, v1, v2, v3, v4, v5, v6, v7, v8, v9, v10, v11, v12, v13, v14, v15, v16, v17]) (v : Value) : Holds (W.setCell ⟨B, 17, none⟩ v) B #[v0, v1, v2, v3, v4, v5, v6, v7, v8, v9, v10, v11, v12, v13, v14, v15, v16, v] := h.set (i := 17) (by simp) v
set_option maxRecDepth 100000 in
set_option maxHeartbeats 4000000 in
theorem toRc_any (r : Rc) (A : RcA) (w : World) (lo hi : Nat) (hhi : hi ≤ w.heap.size) (hm : RcSmall r) (hc : RcIn w lo hi r A) :
    Calls Try.prog 23 #[rcV r A] w fun e w' => ∃ A' m1 m2 m3 m4 m5 m6, e = .returned (rcV r A') ∧ RcNew r A' ∧ RcOwnAt w' r A' w.heap.size m1 m2 m3 m4 m5 m6 w'.heap.size ∧ Below w.heap.size w w' := by
  have HM := hid hm
  have HI := hid hc
  clear hm hc
  go_enter Try.func23, Try.ntmps23
  go_wp2_with fail
  refine (toDk_any r.sf A.sa A.sc _ lo hi (by simp; omega) (by have := HM.out.sf; omega) (HI.out.below (B := w.heap.size) ((((Below.refl _ _).alloc (Nat.le_refl _) _).alloc (by simp) _).alloc (by simp; omega) _) hhi).sf).mono ?_
  rintro e w1 ⟨g1, rfl, s1, hb1⟩
  have hB1 : Below w.heap.size w w1 := ((((Below.refl _ _).alloc (Nat.le_refl _) _).alloc (by simp) _).alloc (by simp; omega) _).trans (hb1.mono (by simp; omega))
  have hz1 : w.heap.size + 1 + 1 < w1.heap.size := by have := hb1.size; simp at this; omega
  obtain ⟨P1, R1, O1, F1, F2⟩ := three_cell hb1
  simp only [World.size_alloc] at s1
  have S1_1 := hid s1
  clear s1 hb1
  have PP1 : Holds w1 w.heap.size (rcC r A) := P1
  have OO1 : Holds w1 (w.heap.size + 1 + 1) #[.int .i64 r.num, .int .i64 r.of, .bool r.up, .int .i64 0, .int .i64 0, .slice none 0 0, .int .i64 0, .int .i64 0, .slice none 0 0, .slice none 0 0, .slice none 0 0, .bool false, .bool false, .int .i64 0, .slice none 0 0, .slice none 0 0, .slice none 0 0, .int .i64 0] := O1
  have RR1 : Holds w1 (w.heap.size + 1) #[.int .i64 0, .int .i64 0, .bool false, .int .i64 0, .int .i64 0, .slice none 0 0, .int .i64 0, .int .i64 0, .slice none 0 0, .slice none 0 0, .slice none 0 0, .bool false, .bool false, .int .i64 0, .slice none 0 0, .slice none 0 0, .slice none 0 0, .int .i64 0] := R1
  have hBW1 : Below w.heap.size w (((w1.setCell ⟨w.heap.size + 1 + 1, 3, none⟩ (.int .i64 r.sf.pr)).setCell ⟨w.heap.size + 1 + 1, 4, none⟩ (.int .i64 r.sf.kn)).setCell ⟨w.heap.size + 1 + 1, 5, none⟩ (.slice (some ⟨g1, 0, none⟩) r.sf.n r.sf.n)) := (((hB1.setCell (p := ⟨w.heap.size + 1 + 1, 3, none⟩) (by show w.heap.size ≤ w.heap.size + 1 + 1; omega) (.int .i64 r.sf.pr)).setCell (p := ⟨w.heap.size + 1 + 1, 4, none⟩) (by show w.heap.size ≤ w.heap.size + 1 + 1; omega) (.int .i64 r.sf.kn)).setCell (p := ⟨w.heap.size + 1 + 1, 5, none⟩) (by show w.heap.size ≤ w.heap.size + 1 + 1; omega) (.slice (some ⟨g1, 0, none⟩) r.sf.n r.sf.n))
  have hF1 : Fr (w.heap.size + 2) (w.heap.size + 3) w1 (((w1.setCell ⟨w.heap.size + 1 + 1, 3, none⟩ (.int .i64 r.sf.pr)).setCell ⟨w.heap.size + 1 + 1, 4, none⟩ (.int .i64 r.sf.kn)).setCell ⟨w.heap.size + 1 + 1, 5, none⟩ (.slice (some ⟨g1, 0, none⟩) r.sf.n r.sf.n)) := (Fr.setCell (Fr.setCell (Fr.setCell (Fr.refl (w.heap.size + 2) (w.heap.size + 3) w1) (p := ⟨w.heap.size + 1 + 1, 3, none⟩) (by show w.heap.size + 2 ≤ w.heap.size + 1 + 1; omega) (by show w.heap.size + 1 + 1 < w.heap.size + 3; omega) (.int .i64 r.sf.pr)) (p := ⟨w.heap.size + 1 + 1, 4, none⟩) (by show w.heap.size + 2 ≤ w.heap.size + 1 + 1; omega) (by show w.heap.size + 1 + 1 < w.heap.size + 3; omega) (.int .i64 r.sf.kn)) (p := ⟨w.heap.size + 1 + 1, 5, none⟩) (by show w.heap.size + 2 ≤ w.heap.size + 1 + 1; omega) (by show w.heap.size + 1 + 1 < w.heap.size + 3; omega) (.slice (some ⟨g1, 0, none⟩) r.sf.n r.sf.n))
  clear P1 O1 R1
  obtain ⟨p0, p1, p2, p3, p4, p5, p6, p7, p8, p9, p10, p11, p12, p13, p14, p15, p16, p17⟩ := holds18 PP1
  obtain ⟨o0, o1, o2, o3, o4, o5, o6, o7, o8, o9, o10, o11, o12, o13, o14, o15, o16, o17⟩ := holds18 OO1
  go_wp2_with fail
  refine (toDk_any r.dk A.da A.dc _ lo hi (by simp only [World.size_setCell]; have := hB1.size; omega) (by have := HM.out.dk; omega) (HI.out.below (B := w.heap.size) hBW1 hhi).dk).mono ?_
  clear p0 p1 p2 p3 p4 p5 p6 p7 p8 p9 p10 p11 p12 p13 p14 p15 p16 p17 o0 o1 o2 o3 o4 o5 o6 o7 o8 o9 o10 o11 o12 o13 o14 o15 o16 o17
  rintro e w2 ⟨g2, rfl, s2, hb2⟩
  have hx2 : Below w1.heap.size (((w1.setCell ⟨w.heap.size + 1 + 1, 3, none⟩ (.int .i64 r.sf.pr)).setCell ⟨w.heap.size + 1 + 1, 4, none⟩ (.int .i64 r.sf.kn)).setCell ⟨w.heap.size + 1 + 1, 5, none⟩ (.slice (some ⟨g1, 0, none⟩) r.sf.n r.sf.n)) w2 := hb2.mono (by simp only [World.size_setCell]; exact Nat.le_refl _)
  have hG2 : Fr 0 0 (((w1.setCell ⟨w.heap.size + 1 + 1, 3, none⟩ (.int .i64 r.sf.pr)).setCell ⟨w.heap.size + 1 + 1, 4, none⟩ (.int .i64 r.sf.kn)).setCell ⟨w.heap.size + 1 + 1, 5, none⟩ (.slice (some ⟨g1, 0, none⟩) r.sf.n r.sf.n)) w2 := Fr.of_below hb2
  clear hb2
  simp only [World.size_setCell] at s2
  have hB2 : Below w.heap.size w w2 := hBW1.trans (hx2.mono (by omega))
  have hy2 : w1.heap.size ≤ w2.heap.size := by have := hx2.size; simp only [World.size_setCell] at this; exact this
  have hz2 : w.heap.size + 1 + 1 < w2.heap.size := by omega
  have P2 : Holds w2 w.heap.size (rcC r A) := (PP1.fr hF1 (by omega) (Or.inl (by omega))).below hx2 (by omega)
  have R2 : Holds w2 (w.heap.size + 1) #[.int .i64 0, .int .i64 0, .bool false, .int .i64 0, .int .i64 0, .slice none 0 0, .int .i64 0, .int .i64 0, .slice none 0 0, .slice none 0 0, .slice none 0 0, .bool false, .bool false, .int .i64 0, .slice none 0 0, .slice none 0 0, .slice none 0 0, .int .i64 0] := (RR1.fr hF1 (by omega) (Or.inl (by omega))).below hx2 (by omega)
  have O2 : Holds w2 (w.heap.size + 1 + 1) #[.int .i64 r.num, .int .i64 r.of, .bool r.up, .int .i64 r.sf.pr, .int .i64 r.sf.kn, .slice (some ⟨g1, 0, none⟩) r.sf.n r.sf.n, .int .i64 0, .int .i64 0, .slice none 0 0, .slice none 0 0, .slice none 0 0, .bool false, .bool false, .int .i64 0, .slice none 0 0, .slice none 0 0, .slice none 0 0, .int .i64 0] := Holds.below (hset5 (hset4 (hset3 OO1 (.int .i64 r.sf.pr)) (.int .i64 r.sf.kn)) (.slice (some ⟨g1, 0, none⟩) r.sf.n r.sf.n)) hx2 (by omega)
  have F1_2 : ∀ i, w2.frozen? ⟨w.heap.size + 1, i, none⟩ = false := fun i => ((hx2.frozen (p := ⟨w.heap.size + 1, i, none⟩) (by show w.heap.size + 1 < _; omega)).trans (hF1.frozen (p := ⟨w.heap.size + 1, i, none⟩) (by show w.heap.size + 1 < _; omega) (Or.inl (by show w.heap.size + 1 < _; omega)))).trans (F1 i)
  have F2_2 : ∀ i, w2.frozen? ⟨w.heap.size + 1 + 1, i, none⟩ = false := fun i => ((hx2.frozen (p := ⟨w.heap.size + 1 + 1, i, none⟩) (by show w.heap.size + 1 + 1 < _; omega)).trans (by simp only [World.frozen?_setCell])).trans (F2 i)
  have S1_2 := hid ((S1_1.out.fr hF1 (Or.inr (by omega))).fr hG2 (Or.inr (Nat.zero_le _)))
  have S2_2 := hid s2
  clear s2 PP1 OO1 RR1 hBW1 hF1 hG2 hx2 F1 F2 S1_1
  have PP2 : Holds w2 w.heap.size (rcC r A) := P2
  have OO2 : Holds w2 (w.heap.size + 1 + 1) #[.int .i64 r.num, .int .i64 r.of, .bool r.up, .int .i64 r.sf.pr, .int .i64 r.sf.kn, .slice (some ⟨g1, 0, none⟩) r.sf.n r.sf.n, .int .i64 0, .int .i64 0, .slice none 0 0, .slice none 0 0, .slice none 0 0, .bool false, .bool false, .int .i64 0, .slice none 0 0, .slice none 0 0, .slice none 0 0, .int .i64 0] := O2
  have RR2 : Holds w2 (w.heap.size + 1) #[.int .i64 0, .int .i64 0, .bool false, .int .i64 0, .int .i64 0, .slice none 0 0, .int .i64 0, .int .i64 0, .slice none 0 0, .slice none 0 0, .slice none 0 0, .bool false, .bool false, .int .i64 0, .slice none 0 0, .slice none 0 0, .slice none 0 0, .int .i64 0] := R2
  have hBW2 : Below w.heap.size w (((w2.setCell ⟨w.heap.size + 1 + 1, 6, none⟩ (.int .i64 r.dk.pr)).setCell ⟨w.heap.size + 1 + 1, 7, none⟩ (.int .i64 r.dk.kn)).setCell ⟨w.heap.size + 1 + 1, 8, none⟩ (.slice (some ⟨g2, 0, none⟩) r.dk.n r.dk.n)) := (((hB2.setCell (p := ⟨w.heap.size + 1 + 1, 6, none⟩) (by show w.heap.size ≤ w.heap.size + 1 + 1; omega) (.int .i64 r.dk.pr)).setCell (p := ⟨w.heap.size + 1 + 1, 7, none⟩) (by show w.heap.size ≤ w.heap.size + 1 + 1; omega) (.int .i64 r.dk.kn)).setCell (p := ⟨w.heap.size + 1 + 1, 8, none⟩) (by show w.heap.size ≤ w.heap.size + 1 + 1; omega) (.slice (some ⟨g2, 0, none⟩) r.dk.n r.dk.n))
  have hF2 : Fr (w.heap.size + 2) (w.heap.size + 3) w2 (((w2.setCell ⟨w.heap.size + 1 + 1, 6, none⟩ (.int .i64 r.dk.pr)).setCell ⟨w.heap.size + 1 + 1, 7, none⟩ (.int .i64 r.dk.kn)).setCell ⟨w.heap.size + 1 + 1, 8, none⟩ (.slice (some ⟨g2, 0, none⟩) r.dk.n r.dk.n)) := (Fr.setCell (Fr.setCell (Fr.setCell (Fr.refl (w.heap.size + 2) (w.heap.size + 3) w2) (p := ⟨w.heap.size + 1 + 1, 6, none⟩) (by show w.heap.size + 2 ≤ w.heap.size + 1 + 1; omega) (by show w.heap.size + 1 + 1 < w.heap.size + 3; omega) (.int .i64 r.dk.pr)) (p := ⟨w.heap.size + 1 + 1, 7, none⟩) (by show w.heap.size + 2 ≤ w.heap.size + 1 + 1; omega) (by show w.heap.size + 1 + 1 < w.heap.size + 3; omega) (.int .i64 r.dk.kn)) (p := ⟨w.heap.size + 1 + 1, 8, none⟩) (by show w.heap.size + 2 ≤ w.heap.size + 1 + 1; omega) (by show w.heap.size + 1 + 1 < w.heap.size + 3; omega) (.slice (some ⟨g2, 0, none⟩) r.dk.n r.dk.n))
  clear P2 O2 R2
  obtain ⟨p0, p1, p2, p3, p4, p5, p6, p7, p8, p9, p10, p11, p12, p13, p14, p15, p16, p17⟩ := holds18 PP2
  obtain ⟨o0, o1, o2, o3, o4, o5, o6, o7, o8, o9, o10, o11, o12, o13, o14, o15, o16, o17⟩ := holds18 OO2
  go_wp2_with fail
  refine (toMss_any r.hn r.hs A.ha A.hc _ lo hi (by simp only [World.size_setCell]; have := hB2.size; omega) HM.out.hn HM.out.hs (HI.out.below (B := w.heap.size) hBW2 hhi).hs).mono ?_
  clear p0 p1 p2 p3 p4 p5 p6 p7 p8 p9 p10 p11 p12 p13 p14 p15 p16 p17 o0 o1 o2 o3 o4 o5 o6 o7 o8 o9 o10 o11 o12 o13 o14 o15 o16 o17
  rintro e w3 ⟨r3, rfl, s3, hb3⟩
  have hx3 : Below w2.heap.size (((w2.setCell ⟨w.heap.size + 1 + 1, 6, none⟩ (.int .i64 r.dk.pr)).setCell ⟨w.heap.size + 1 + 1, 7, none⟩ (.int .i64 r.dk.kn)).setCell ⟨w.heap.size + 1 + 1, 8, none⟩ (.slice (some ⟨g2, 0, none⟩) r.dk.n r.dk.n)) w3 := hb3.mono (by simp only [World.size_setCell]; exact Nat.le_refl _)
  have hG3 : Fr 0 0 (((w2.setCell ⟨w.heap.size + 1 + 1, 6, none⟩ (.int .i64 r.dk.pr)).setCell ⟨w.heap.size + 1 + 1, 7, none⟩ (.int .i64 r.dk.kn)).setCell ⟨w.heap.size + 1 + 1, 8, none⟩ (.slice (some ⟨g2, 0, none⟩) r.dk.n r.dk.n)) w3 := Fr.of_below hb3
  clear hb3
  simp only [World.size_setCell] at s3
  have hB3 : Below w.heap.size w w3 := hBW2.trans (hx3.mono (by omega))
  have hy3 : w2.heap.size ≤ w3.heap.size := by have := hx3.size; simp only [World.size_setCell] at this; exact this
  have hz3 : w.heap.size + 1 + 1 < w3.heap.size := by omega
  have P3 : Holds w3 w.heap.size (rcC r A) := (PP2.fr hF2 (by omega) (Or.inl (by omega))).below hx3 (by omega)
  have R3 : Holds w3 (w.heap.size + 1) #[.int .i64 0, .int .i64 0, .bool false, .int .i64 0, .int .i64 0, .slice none 0 0, .int .i64 0, .int .i64 0, .slice none 0 0, .slice none 0 0, .slice none 0 0, .bool false, .bool false, .int .i64 0, .slice none 0 0, .slice none 0 0, .slice none 0 0, .int .i64 0] := (RR2.fr hF2 (by omega) (Or.inl (by omega))).below hx3 (by omega)
  have O3 : Holds w3 (w.heap.size + 1 + 1) #[.int .i64 r.num, .int .i64 r.of, .bool r.up, .int .i64 r.sf.pr, .int .i64 r.sf.kn, .slice (some ⟨g1, 0, none⟩) r.sf.n r.sf.n, .int .i64 r.dk.pr, .int .i64 r.dk.kn, .slice (some ⟨g2, 0, none⟩) r.dk.n r.dk.n, .slice none 0 0, .slice none 0 0, .bool false, .bool false, .int .i64 0, .slice none 0 0, .slice none 0 0, .slice none 0 0, .int .i64 0] := Holds.below (hset8 (hset7 (hset6 OO2 (.int .i64 r.dk.pr)) (.int .i64 r.dk.kn)) (.slice (some ⟨g2, 0, none⟩) r.dk.n r.dk.n)) hx3 (by omega)
  have F1_3 : ∀ i, w3.frozen? ⟨w.heap.size + 1, i, none⟩ = false := fun i => ((hx3.frozen (p := ⟨w.heap.size + 1, i, none⟩) (by show w.heap.size + 1 < _; omega)).trans (hF2.frozen (p := ⟨w.heap.size + 1, i, none⟩) (by show w.heap.size + 1 < _; omega) (Or.inl (by show w.heap.size + 1 < _; omega)))).trans (F1_2 i)
  have F2_3 : ∀ i, w3.frozen? ⟨w.heap.size + 1 + 1, i, none⟩ = false := fun i => ((hx3.frozen (p := ⟨w.heap.size + 1 + 1, i, none⟩) (by show w.heap.size + 1 + 1 < _; omega)).trans (by simp only [World.frozen?_setCell])).trans (F2_2 i)
  have S1_3 := hid ((S1_2.out.fr hF2 (Or.inr (by omega))).fr hG3 (Or.inr (Nat.zero_le _)))
  have S2_3 := hid ((S2_2.out.fr hF2 (Or.inr (by omega))).fr hG3 (Or.inr (Nat.zero_le _)))
  have S3_3 := hid s3
  clear s3 PP2 OO2 RR2 hBW2 hF2 hG3 hx3 F1_2 F2_2 S1_2 S2_2
  have PP3 : Holds w3 w.heap.size (rcC r A) := P3
  have OO3 : Holds w3 (w.heap.size + 1 + 1) #[.int .i64 r.num, .int .i64 r.of, .bool r.up, .int .i64 r.sf.pr, .int .i64 r.sf.kn, .slice (some ⟨g1, 0, none⟩) r.sf.n r.sf.n, .int .i64 r.dk.pr, .int .i64 r.dk.kn, .slice (some ⟨g2, 0, none⟩) r.dk.n r.dk.n, .slice none 0 0, .slice none 0 0, .bool false, .bool false, .int .i64 0, .slice none 0 0, .slice none 0 0, .slice none 0 0, .int .i64 0] := O3
  have RR3 : Holds w3 (w.heap.size + 1) #[.int .i64 0, .int .i64 0, .bool false, .int .i64 0, .int .i64 0, .slice none 0 0, .int .i64 0, .int .i64 0, .slice none 0 0, .slice none 0 0, .slice none 0 0, .bool false, .bool false, .int .i64 0, .slice none 0 0, .slice none 0 0, .slice none 0 0, .int .i64 0] := R3
  have hBW3 : Below w.heap.size w (w3.setCell ⟨w.heap.size + 1 + 1, 9, none⟩ (.slice (some ⟨w2.heap.size, 0, none⟩) r.hn r.hn)) := (hB3.setCell (p := ⟨w.heap.size + 1 + 1, 9, none⟩) (by show w.heap.size ≤ w.heap.size + 1 + 1; omega) (.slice (some ⟨w2.heap.size, 0, none⟩) r.hn r.hn))
  have hF3 : Fr (w.heap.size + 2) (w.heap.size + 3) w3 (w3.setCell ⟨w.heap.size + 1 + 1, 9, none⟩ (.slice (some ⟨w2.heap.size, 0, none⟩) r.hn r.hn)) := (Fr.setCell (Fr.refl (w.heap.size + 2) (w.heap.size + 3) w3) (p := ⟨w.heap.size + 1 + 1, 9, none⟩) (by show w.heap.size + 2 ≤ w.heap.size + 1 + 1; omega) (by show w.heap.size + 1 + 1 < w.heap.size + 3; omega) (.slice (some ⟨w2.heap.size, 0, none⟩) r.hn r.hn))
  clear P3 O3 R3
  obtain ⟨p0, p1, p2, p3, p4, p5, p6, p7, p8, p9, p10, p11, p12, p13, p14, p15, p16, p17⟩ := holds18 PP3
  obtain ⟨o0, o1, o2, o3, o4, o5, o6, o7, o8, o9, o10, o11, o12, o13, o14, o15, o16, o17⟩ := holds18 OO3
  go_wp2_with fail
  refine (toStrs_at r.wn r.ws A.wa A.wc _ lo hi (by simp only [World.size_setCell]; have := hB3.size; omega) (by have := HM.out.wn; omega) (HI.out.below (B := w.heap.size) hBW3 hhi).ws).mono ?_
  clear p0 p1 p2 p3 p4 p5 p6 p7 p8 p9 p10 p11 p12 p13 p14 p15 p16 p17 o0 o1 o2 o3 o4 o5 o6 o7 o8 o9 o10 o11 o12 o13 o14 o15 o16 o17
  rintro e w4 ⟨rfl, s4, hb4⟩
  have hx4 : Below w3.heap.size (w3.setCell ⟨w.heap.size + 1 + 1, 9, none⟩ (.slice (some ⟨w2.heap.size, 0, none⟩) r.hn r.hn)) w4 := hb4.mono (by simp only [World.size_setCell]; exact Nat.le_refl _)
  have hG4 : Fr 0 0 (w3.setCell ⟨w.heap.size + 1 + 1, 9, none⟩ (.slice (some ⟨w2.heap.size, 0, none⟩) r.hn r.hn)) w4 := Fr.of_below hb4
  clear hb4
  simp only [World.size_setCell] at s4
  have hB4 : Below w.heap.size w w4 := hBW3.trans (hx4.mono (by omega))
  have hy4 : w3.heap.size ≤ w4.heap.size := by have := hx4.size; simp only [World.size_setCell] at this; exact this
  have hz4 : w.heap.size + 1 + 1 < w4.heap.size := by omega
  have P4 : Holds w4 w.heap.size (rcC r A) := (PP3.fr hF3 (by omega) (Or.inl (by omega))).below hx4 (by omega)
  have R4 : Holds w4 (w.heap.size + 1) #[.int .i64 0, .int .i64 0, .bool false, .int .i64 0, .int .i64 0, .slice none 0 0, .int .i64 0, .int .i64 0, .slice none 0 0, .slice none 0 0, .slice none 0 0, .bool false, .bool false, .int .i64 0, .slice none 0 0, .slice none 0 0, .slice none 0 0, .int .i64 0] := (RR3.fr hF3 (by omega) (Or.inl (by omega))).below hx4 (by omega)
  have O4 : Holds w4 (w.heap.size + 1 + 1) #[.int .i64 r.num, .int .i64 r.of, .bool r.up, .int .i64 r.sf.pr, .int .i64 r.sf.kn, .slice (some ⟨g1, 0, none⟩) r.sf.n r.sf.n, .int .i64 r.dk.pr, .int .i64 r.dk.kn, .slice (some ⟨g2, 0, none⟩) r.dk.n r.dk.n, .slice (some ⟨w2.heap.size, 0, none⟩) r.hn r.hn, .slice none 0 0, .bool false, .bool false, .int .i64 0, .slice none 0 0, .slice none 0 0, .slice none 0 0, .int .i64 0] := Holds.below (hset9 OO3 (.slice (some ⟨w2.heap.size, 0, none⟩) r.hn r.hn)) hx4 (by omega)
  have F1_4 : ∀ i, w4.frozen? ⟨w.heap.size + 1, i, none⟩ = false := fun i => ((hx4.frozen (p := ⟨w.heap.size + 1, i, none⟩) (by show w.heap.size + 1 < _; omega)).trans (hF3.frozen (p := ⟨w.heap.size + 1, i, none⟩) (by show w.heap.size + 1 < _; omega) (Or.inl (by show w.heap.size + 1 < _; omega)))).trans (F1_3 i)
  have F2_4 : ∀ i, w4.frozen? ⟨w.heap.size + 1 + 1, i, none⟩ = false := fun i => ((hx4.frozen (p := ⟨w.heap.size + 1 + 1, i, none⟩) (by show w.heap.size + 1 + 1 < _; omega)).trans (by simp only [World.frozen?_setCell])).trans (F2_3 i)
  have S1_4 := hid ((S1_3.out.fr hF3 (Or.inr (by omega))).fr hG4 (Or.inr (Nat.zero_le _)))
  have S2_4 := hid ((S2_3.out.fr hF3 (Or.inr (by omega))).fr hG4 (Or.inr (Nat.zero_le _)))
  have S3_4 := hid ((S3_3.out.fr hF3 (Or.inr (by omega))).fr hG4 (Or.inr (Nat.zero_le _)))
  have S4_4 := hid s4
  clear s4 PP3 OO3 RR3 hBW3 hF3 hG4 hx4 F1_3 F2_3 S1_3 S2_3 S3_3
  have PP4 : Holds w4 w.heap.size (rcC r A) := P4
  have OO4 : Holds w4 (w.heap.size + 1 + 1) #[.int .i64 r.num, .int .i64 r.of, .bool r.up, .int .i64 r.sf.pr, .int .i64 r.sf.kn, .slice (some ⟨g1, 0, none⟩) r.sf.n r.sf.n, .int .i64 r.dk.pr, .int .i64 r.dk.kn, .slice (some ⟨g2, 0, none⟩) r.dk.n r.dk.n, .slice (some ⟨w2.heap.size, 0, none⟩) r.hn r.hn, .slice none 0 0, .bool false, .bool false, .int .i64 0, .slice none 0 0, .slice none 0 0, .slice none 0 0, .int .i64 0] := O4
  have RR4 : Holds w4 (w.heap.size + 1) #[.int .i64 0, .int .i64 0, .bool false, .int .i64 0, .int .i64 0, .slice none 0 0, .int .i64 0, .int .i64 0, .slice none 0 0, .slice none 0 0, .slice none 0 0, .bool false, .bool false, .int .i64 0, .slice none 0 0, .slice none 0 0, .slice none 0 0, .int .i64 0] := R4
  have hBW4 : Below w.heap.size w ((((w4.setCell ⟨w.heap.size + 1 + 1, 10, none⟩ (.slice (some ⟨w3.heap.size, 0, none⟩) r.wn r.wn)).setCell ⟨w.heap.size + 1 + 1, 11, none⟩ (.bool r.ld)).setCell ⟨w.heap.size + 1 + 1, 12, none⟩ (.bool r.tr)).setCell ⟨w.heap.size + 1 + 1, 13, none⟩ (.int .i64 r.bal)) := ((((hB4.setCell (p := ⟨w.heap.size + 1 + 1, 10, none⟩) (by show w.heap.size ≤ w.heap.size + 1 + 1; omega) (.slice (some ⟨w3.heap.size, 0, none⟩) r.wn r.wn)).setCell (p := ⟨w.heap.size + 1 + 1, 11, none⟩) (by show w.heap.size ≤ w.heap.size + 1 + 1; omega) (.bool r.ld)).setCell (p := ⟨w.heap.size + 1 + 1, 12, none⟩) (by show w.heap.size ≤ w.heap.size + 1 + 1; omega) (.bool r.tr)).setCell (p := ⟨w.heap.size + 1 + 1, 13, none⟩) (by show w.heap.size ≤ w.heap.size + 1 + 1; omega) (.int .i64 r.bal))
  have hF4 : Fr (w.heap.size + 2) (w.heap.size + 3) w4 ((((w4.setCell ⟨w.heap.size + 1 + 1, 10, none⟩ (.slice (some ⟨w3.heap.size, 0, none⟩) r.wn r.wn)).setCell ⟨w.heap.size + 1 + 1, 11, none⟩ (.bool r.ld)).setCell ⟨w.heap.size + 1 + 1, 12, none⟩ (.bool r.tr)).setCell ⟨w.heap.size + 1 + 1, 13, none⟩ (.int .i64 r.bal)) := (Fr.setCell (Fr.setCell (Fr.setCell (Fr.setCell (Fr.refl (w.heap.size + 2) (w.heap.size + 3) w4) (p := ⟨w.heap.size + 1 + 1, 10, none⟩) (by show w.heap.size + 2 ≤ w.heap.size + 1 + 1; omega) (by show w.heap.size + 1 + 1 < w.heap.size + 3; omega) (.slice (some ⟨w3.heap.size, 0, none⟩) r.wn r.wn)) (p := ⟨w.heap.size + 1 + 1, 11, none⟩) (by show w.heap.size + 2 ≤ w.heap.size + 1 + 1; omega) (by show w.heap.size + 1 + 1 < w.heap.size + 3; omega) (.bool r.ld)) (p := ⟨w.heap.size + 1 + 1, 12, none⟩) (by show w.heap.size + 2 ≤ w.heap.size + 1 + 1; omega) (by show w.heap.size + 1 + 1 < w.heap.size + 3; omega) (.bool r.tr)) (p := ⟨w.heap.size + 1 + 1, 13, none⟩) (by show w.heap.size + 2 ≤ w.heap.size + 1 + 1; omega) (by show w.heap.size + 1 + 1 < w.heap.size + 3; omega) (.int .i64 r.bal))
  clear P4 O4 R4
  obtain ⟨p0, p1, p2, p3, p4, p5, p6, p7, p8, p9, p10, p11, p12, p13, p14, p15, p16, p17⟩ := holds18 PP4
  obtain ⟨o0, o1, o2, o3, o4, o5, o6, o7, o8, o9, o10, o11, o12, o13, o14, o15, o16, o17⟩ := holds18 OO4
  go_wp2_with fail
  refine (toInts_any r.yn r.ys A.ya A.yc _ lo hi (by simp only [World.size_setCell]; have := hB4.size; omega) (by have := HM.out.yn; omega) (HI.out.below (B := w.heap.size) hBW4 hhi).ys).mono ?_
  clear p0 p1 p2 p3 p4 p5 p6 p7 p8 p9 p10 p11 p12 p13 p14 p15 p16 p17 o0 o1 o2 o3 o4 o5 o6 o7 o8 o9 o10 o11 o12 o13 o14 o15 o16 o17
  rintro e w5 ⟨g5, c5, rfl, s5, hb5⟩
  have hx5 : Below w4.heap.size ((((w4.setCell ⟨w.heap.size + 1 + 1, 10, none⟩ (.slice (some ⟨w3.heap.size, 0, none⟩) r.wn r.wn)).setCell ⟨w.heap.size + 1 + 1, 11, none⟩ (.bool r.ld)).setCell ⟨w.heap.size + 1 + 1, 12, none⟩ (.bool r.tr)).setCell ⟨w.heap.size + 1 + 1, 13, none⟩ (.int .i64 r.bal)) w5 := hb5.mono (by simp only [World.size_setCell]; exact Nat.le_refl _)
  have hG5 : Fr 0 0 ((((w4.setCell ⟨w.heap.size + 1 + 1, 10, none⟩ (.slice (some ⟨w3.heap.size, 0, none⟩) r.wn r.wn)).setCell ⟨w.heap.size + 1 + 1, 11, none⟩ (.bool r.ld)).setCell ⟨w.heap.size + 1 + 1, 12, none⟩ (.bool r.tr)).setCell ⟨w.heap.size + 1 + 1, 13, none⟩ (.int .i64 r.bal)) w5 := Fr.of_below hb5
  clear hb5
  simp only [World.size_setCell] at s5
  have hB5 : Below w.heap.size w w5 := hBW4.trans (hx5.mono (by omega))
  have hy5 : w4.heap.size ≤ w5.heap.size := by have := hx5.size; simp only [World.size_setCell] at this; exact this
  have hz5 : w.heap.size + 1 + 1 < w5.heap.size := by omega
  have P5 : Holds w5 w.heap.size (rcC r A) := (PP4.fr hF4 (by omega) (Or.inl (by omega))).below hx5 (by omega)
  have R5 : Holds w5 (w.heap.size + 1) #[.int .i64 0, .int .i64 0, .bool false, .int .i64 0, .int .i64 0, .slice none 0 0, .int .i64 0, .int .i64 0, .slice none 0 0, .slice none 0 0, .slice none 0 0, .bool false, .bool false, .int .i64 0, .slice none 0 0, .slice none 0 0, .slice none 0 0, .int .i64 0] := (RR4.fr hF4 (by omega) (Or.inl (by omega))).below hx5 (by omega)
  have O5 : Holds w5 (w.heap.size + 1 + 1) #[.int .i64 r.num, .int .i64 r.of, .bool r.up, .int .i64 r.sf.pr, .int .i64 r.sf.kn, .slice (some ⟨g1, 0, none⟩) r.sf.n r.sf.n, .int .i64 r.dk.pr, .int .i64 r.dk.kn, .slice (some ⟨g2, 0, none⟩) r.dk.n r.dk.n, .slice (some ⟨w2.heap.size, 0, none⟩) r.hn r.hn, .slice (some ⟨w3.heap.size, 0, none⟩) r.wn r.wn, .bool r.ld, .bool r.tr, .int .i64 r.bal, .slice none 0 0, .slice none 0 0, .slice none 0 0, .int .i64 0] := Holds.below (hset13 (hset12 (hset11 (hset10 OO4 (.slice (some ⟨w3.heap.size, 0, none⟩) r.wn r.wn)) (.bool r.ld)) (.bool r.tr)) (.int .i64 r.bal)) hx5 (by omega)
  have F1_5 : ∀ i, w5.frozen? ⟨w.heap.size + 1, i, none⟩ = false := fun i => ((hx5.frozen (p := ⟨w.heap.size + 1, i, none⟩) (by show w.heap.size + 1 < _; omega)).trans (hF4.frozen (p := ⟨w.heap.size + 1, i, none⟩) (by show w.heap.size + 1 < _; omega) (Or.inl (by show w.heap.size + 1 < _; omega)))).trans (F1_4 i)
  have F2_5 : ∀ i, w5.frozen? ⟨w.heap.size + 1 + 1, i, none⟩ = false := fun i => ((hx5.frozen (p := ⟨w.heap.size + 1 + 1, i, none⟩) (by show w.heap.size + 1 + 1 < _; omega)).trans (by simp only [World.frozen?_setCell])).trans (F2_4 i)
  have S1_5 := hid ((S1_4.out.fr hF4 (Or.inr (by omega))).fr hG5 (Or.inr (Nat.zero_le _)))
  have S2_5 := hid ((S2_4.out.fr hF4 (Or.inr (by omega))).fr hG5 (Or.inr (Nat.zero_le _)))
  have S3_5 := hid ((S3_4.out.fr hF4 (Or.inr (by omega))).fr hG5 (Or.inr (Nat.zero_le _)))
  have S4_5 := hid ((S4_4.out.fr hF4 (by omega) (Or.inr (by omega))).fr hG5 (by simp only [World.size_setCell]; omega) (Or.inr (Nat.zero_le _)))
  have S5_5 := hid s5
  clear s5 PP4 OO4 RR4 hBW4 hF4 hG5 hx5 F1_4 F2_4 S1_4 S2_4 S3_4 S4_4
  have PP5 : Holds w5 w.heap.size (rcC r A) := P5
  have OO5 : Holds w5 (w.heap.size + 1 + 1) #[.int .i64 r.num, .int .i64 r.of, .bool r.up, .int .i64 r.sf.pr, .int .i64 r.sf.kn, .slice (some ⟨g1, 0, none⟩) r.sf.n r.sf.n, .int .i64 r.dk.pr, .int .i64 r.dk.kn, .slice (some ⟨g2, 0, none⟩) r.dk.n r.dk.n, .slice (some ⟨w2.heap.size, 0, none⟩) r.hn r.hn, .slice (some ⟨w3.heap.size, 0, none⟩) r.wn r.wn, .bool r.ld, .bool r.tr, .int .i64 r.bal, .slice none 0 0, .slice none 0 0, .slice none 0 0, .int .i64 0] := O5
  have RR5 : Holds w5 (w.heap.size + 1) #[.int .i64 0, .int .i64 0, .bool false, .int .i64 0, .int .i64 0, .slice none 0 0, .int .i64 0, .int .i64 0, .slice none 0 0, .slice none 0 0, .slice none 0 0, .bool false, .bool false, .int .i64 0, .slice none 0 0, .slice none 0 0, .slice none 0 0, .int .i64 0] := R5
  have hBW5 : Below w.heap.size w (w5.setCell ⟨w.heap.size + 1 + 1, 14, none⟩ (.slice g5 r.yn c5)) := (hB5.setCell (p := ⟨w.heap.size + 1 + 1, 14, none⟩) (by show w.heap.size ≤ w.heap.size + 1 + 1; omega) (.slice g5 r.yn c5))
  have hF5 : Fr (w.heap.size + 2) (w.heap.size + 3) w5 (w5.setCell ⟨w.heap.size + 1 + 1, 14, none⟩ (.slice g5 r.yn c5)) := (Fr.setCell (Fr.refl (w.heap.size + 2) (w.heap.size + 3) w5) (p := ⟨w.heap.size + 1 + 1, 14, none⟩) (by show w.heap.size + 2 ≤ w.heap.size + 1 + 1; omega) (by show w.heap.size + 1 + 1 < w.heap.size + 3; omega) (.slice g5 r.yn c5))
  clear P5 O5 R5
  obtain ⟨p0, p1, p2, p3, p4, p5, p6, p7, p8, p9, p10, p11, p12, p13, p14, p15, p16, p17⟩ := holds18 PP5
  obtain ⟨o0, o1, o2, o3, o4, o5, o6, o7, o8, o9, o10, o11, o12, o13, o14, o15, o16, o17⟩ := holds18 OO5
  go_wp2_with fail
  refine (toSls_any r.bn r.bs A.ba A.bc _ lo hi (by simp only [World.size_setCell]; have := hB5.size; omega) (by have := HM.out.bn; omega) (HI.out.below (B := w.heap.size) hBW5 hhi).bs).mono ?_
  clear p0 p1 p2 p3 p4 p5 p6 p7 p8 p9 p10 p11 p12 p13 p14 p15 p16 p17 o0 o1 o2 o3 o4 o5 o6 o7 o8 o9 o10 o11 o12 o13 o14 o15 o16 o17
  rintro e w6 ⟨rfl, s6, hb6⟩
  have hx6 : Below w5.heap.size (w5.setCell ⟨w.heap.size + 1 + 1, 14, none⟩ (.slice g5 r.yn c5)) w6 := hb6.mono (by simp only [World.size_setCell]; exact Nat.le_refl _)
  have hG6 : Fr 0 0 (w5.setCell ⟨w.heap.size + 1 + 1, 14, none⟩ (.slice g5 r.yn c5)) w6 := Fr.of_below hb6
  clear hb6
  simp only [World.size_setCell] at s6
  have hB6 : Below w.heap.size w w6 := hBW5.trans (hx6.mono (by omega))
  have hy6 : w5.heap.size ≤ w6.heap.size := by have := hx6.size; simp only [World.size_setCell] at this; exact this
  have hz6 : w.heap.size + 1 + 1 < w6.heap.size := by omega
  have P6 : Holds w6 w.heap.size (rcC r A) := (PP5.fr hF5 (by omega) (Or.inl (by omega))).below hx6 (by omega)
  have R6 : Holds w6 (w.heap.size + 1) #[.int .i64 0, .int .i64 0, .bool false, .int .i64 0, .int .i64 0, .slice none 0 0, .int .i64 0, .int .i64 0, .slice none 0 0, .slice none 0 0, .slice none 0 0, .bool false, .bool false, .int .i64 0, .slice none 0 0, .slice none 0 0, .slice none 0 0, .int .i64 0] := (RR5.fr hF5 (by omega) (Or.inl (by omega))).below hx6 (by omega)
  have O6 : Holds w6 (w.heap.size + 1 + 1) #[.int .i64 r.num, .int .i64 r.of, .bool r.up, .int .i64 r.sf.pr, .int .i64 r.sf.kn, .slice (some ⟨g1, 0, none⟩) r.sf.n r.sf.n, .int .i64 r.dk.pr, .int .i64 r.dk.kn, .slice (some ⟨g2, 0, none⟩) r.dk.n r.dk.n, .slice (some ⟨w2.heap.size, 0, none⟩) r.hn r.hn, .slice (some ⟨w3.heap.size, 0, none⟩) r.wn r.wn, .bool r.ld, .bool r.tr, .int .i64 r.bal, .slice g5 r.yn c5, .slice none 0 0, .slice none 0 0, .int .i64 0] := Holds.below (hset14 OO5 (.slice g5 r.yn c5)) hx6 (by omega)
  have F1_6 : ∀ i, w6.frozen? ⟨w.heap.size + 1, i, none⟩ = false := fun i => ((hx6.frozen (p := ⟨w.heap.size + 1, i, none⟩) (by show w.heap.size + 1 < _; omega)).trans (hF5.frozen (p := ⟨w.heap.size + 1, i, none⟩) (by show w.heap.size + 1 < _; omega) (Or.inl (by show w.heap.size + 1 < _; omega)))).trans (F1_5 i)
  have F2_6 : ∀ i, w6.frozen? ⟨w.heap.size + 1 + 1, i, none⟩ = false := fun i => ((hx6.frozen (p := ⟨w.heap.size + 1 + 1, i, none⟩) (by show w.heap.size + 1 + 1 < _; omega)).trans (by simp only [World.frozen?_setCell])).trans (F2_5 i)
  have S1_6 := hid ((S1_5.out.fr hF5 (Or.inr (by omega))).fr hG6 (Or.inr (Nat.zero_le _)))
  have S2_6 := hid ((S2_5.out.fr hF5 (Or.inr (by omega))).fr hG6 (Or.inr (Nat.zero_le _)))
  have S3_6 := hid ((S3_5.out.fr hF5 (Or.inr (by omega))).fr hG6 (Or.inr (Nat.zero_le _)))
  have S4_6 := hid ((S4_5.out.fr hF5 (by omega) (Or.inr (by omega))).fr hG6 (by simp only [World.size_setCell]; omega) (Or.inr (Nat.zero_le _)))
  have S5_6 := hid ((S5_5.out.fr hF5 (by omega) (Or.inr (by omega))).fr hG6 (by simp only [World.size_setCell]; omega) (Or.inr (Nat.zero_le _)))
  have S6_6 := hid s6
  have S6_L : w5.heap.size < w6.heap.size := s6.room.lt
  clear s6 PP5 OO5 RR5 hBW5 hF5 hG6 hx6 F1_5 F2_5 S1_5 S2_5 S3_5 S4_5 S5_5
  have PP6 : Holds w6 w.heap.size (rcC r A) := P6
  have OO6 : Holds w6 (w.heap.size + 1 + 1) #[.int .i64 r.num, .int .i64 r.of, .bool r.up, .int .i64 r.sf.pr, .int .i64 r.sf.kn, .slice (some ⟨g1, 0, none⟩) r.sf.n r.sf.n, .int .i64 r.dk.pr, .int .i64 r.dk.kn, .slice (some ⟨g2, 0, none⟩) r.dk.n r.dk.n, .slice (some ⟨w2.heap.size, 0, none⟩) r.hn r.hn, .slice (some ⟨w3.heap.size, 0, none⟩) r.wn r.wn, .bool r.ld, .bool r.tr, .int .i64 r.bal, .slice g5 r.yn c5, .slice none 0 0, .slice none 0 0, .int .i64 0] := O6
  have RR6 : Holds w6 (w.heap.size + 1) #[.int .i64 0, .int .i64 0, .bool false, .int .i64 0, .int .i64 0, .slice none 0 0, .int .i64 0, .int .i64 0, .slice none 0 0, .slice none 0 0, .slice none 0 0, .bool false, .bool false, .int .i64 0, .slice none 0 0, .slice none 0 0, .slice none 0 0, .int .i64 0] := R6
  have hBW6 : Below w.heap.size w (w6.setCell ⟨w.heap.size + 1 + 1, 15, none⟩ (.slice (some ⟨w5.heap.size, 0, none⟩) r.bn r.bn)) := (hB6.setCell (p := ⟨w.heap.size + 1 + 1, 15, none⟩) (by show w.heap.size ≤ w.heap.size + 1 + 1; omega) (.slice (some ⟨w5.heap.size, 0, none⟩) r.bn r.bn))
  have hF6 : Fr (w.heap.size + 2) (w.heap.size + 3) w6 (w6.setCell ⟨w.heap.size + 1 + 1, 15, none⟩ (.slice (some ⟨w5.heap.size, 0, none⟩) r.bn r.bn)) := (Fr.setCell (Fr.refl (w.heap.size + 2) (w.heap.size + 3) w6) (p := ⟨w.heap.size + 1 + 1, 15, none⟩) (by show w.heap.size + 2 ≤ w.heap.size + 1 + 1; omega) (by show w.heap.size + 1 + 1 < w.heap.size + 3; omega) (.slice (some ⟨w5.heap.size, 0, none⟩) r.bn r.bn))
  clear P6 O6 R6
  obtain ⟨p0, p1, p2, p3, p4, p5, p6, p7, p8, p9, p10, p11, p12, p13, p14, p15, p16, p17⟩ := holds18 PP6
  obtain ⟨o0, o1, o2, o3, o4, o5, o6, o7, o8, o9, o10, o11, o12, o13, o14, o15, o16, o17⟩ := holds18 OO6
  go_wp2_with fail
  refine (toAks_any r.an r.as_ A.aa A.ac _ lo hi (by simp only [World.size_setCell]; have := hB6.size; omega) HM.out.an HM.out.as_ (HI.out.below (B := w.heap.size) hBW6 hhi).as_).mono ?_
  clear p0 p1 p2 p3 p4 p5 p6 p7 p8 p9 p10 p11 p12 p13 p14 p15 p16 p17 o0 o1 o2 o3 o4 o5 o6 o7 o8 o9 o10 o11 o12 o13 o14 o15 o16 o17
  rintro e w7 ⟨r7, rfl, s7, hb7⟩
  have hx7 : Below w6.heap.size (w6.setCell ⟨w.heap.size + 1 + 1, 15, none⟩ (.slice (some ⟨w5.heap.size, 0, none⟩) r.bn r.bn)) w7 := hb7.mono (by simp only [World.size_setCell]; exact Nat.le_refl _)
  have hG7 : Fr 0 0 (w6.setCell ⟨w.heap.size + 1 + 1, 15, none⟩ (.slice (some ⟨w5.heap.size, 0, none⟩) r.bn r.bn)) w7 := Fr.of_below hb7
  clear hb7
  simp only [World.size_setCell] at s7
  have hB7 : Below w.heap.size w w7 := hBW6.trans (hx7.mono (by omega))
  have hy7 : w6.heap.size ≤ w7.heap.size := by have := hx7.size; simp only [World.size_setCell] at this; exact this
  have hz7 : w.heap.size + 1 + 1 < w7.heap.size := by omega
  have P7 : Holds w7 w.heap.size (rcC r A) := (PP6.fr hF6 (by omega) (Or.inl (by omega))).below hx7 (by omega)
  have R7 : Holds w7 (w.heap.size + 1) #[.int .i64 0, .int .i64 0, .bool false, .int .i64 0, .int .i64 0, .slice none 0 0, .int .i64 0, .int .i64 0, .slice none 0 0, .slice none 0 0, .slice none 0 0, .bool false, .bool false, .int .i64 0, .slice none 0 0, .slice none 0 0, .slice none 0 0, .int .i64 0] := (RR6.fr hF6 (by omega) (Or.inl (by omega))).below hx7 (by omega)
  have O7 : Holds w7 (w.heap.size + 1 + 1) #[.int .i64 r.num, .int .i64 r.of, .bool r.up, .int .i64 r.sf.pr, .int .i64 r.sf.kn, .slice (some ⟨g1, 0, none⟩) r.sf.n r.sf.n, .int .i64 r.dk.pr, .int .i64 r.dk.kn, .slice (some ⟨g2, 0, none⟩) r.dk.n r.dk.n, .slice (some ⟨w2.heap.size, 0, none⟩) r.hn r.hn, .slice (some ⟨w3.heap.size, 0, none⟩) r.wn r.wn, .bool r.ld, .bool r.tr, .int .i64 r.bal, .slice g5 r.yn c5, .slice (some ⟨w5.heap.size, 0, none⟩) r.bn r.bn, .slice none 0 0, .int .i64 0] := Holds.below (hset15 OO6 (.slice (some ⟨w5.heap.size, 0, none⟩) r.bn r.bn)) hx7 (by omega)
  have F1_7 : ∀ i, w7.frozen? ⟨w.heap.size + 1, i, none⟩ = false := fun i => ((hx7.frozen (p := ⟨w.heap.size + 1, i, none⟩) (by show w.heap.size + 1 < _; omega)).trans (hF6.frozen (p := ⟨w.heap.size + 1, i, none⟩) (by show w.heap.size + 1 < _; omega) (Or.inl (by show w.heap.size + 1 < _; omega)))).trans (F1_6 i)
  have F2_7 : ∀ i, w7.frozen? ⟨w.heap.size + 1 + 1, i, none⟩ = false := fun i => ((hx7.frozen (p := ⟨w.heap.size + 1 + 1, i, none⟩) (by show w.heap.size + 1 + 1 < _; omega)).trans (by simp only [World.frozen?_setCell])).trans (F2_6 i)
  have S1_7 := hid ((S1_6.out.fr hF6 (Or.inr (by omega))).fr hG7 (Or.inr (Nat.zero_le _)))
  have S2_7 := hid ((S2_6.out.fr hF6 (Or.inr (by omega))).fr hG7 (Or.inr (Nat.zero_le _)))
  have S3_7 := hid ((S3_6.out.fr hF6 (Or.inr (by omega))).fr hG7 (Or.inr (Nat.zero_le _)))
  have S4_7 := hid ((S4_6.out.fr hF6 (by omega) (Or.inr (by omega))).fr hG7 (by simp only [World.size_setCell]; omega) (Or.inr (Nat.zero_le _)))
  have S5_7 := hid ((S5_6.out.fr hF6 (by omega) (Or.inr (by omega))).fr hG7 (by simp only [World.size_setCell]; omega) (Or.inr (Nat.zero_le _)))
  have S6_7 := hid ((S6_6.out.fr hF6 (Or.inr (by omega))).fr hG7 (Or.inr (Nat.zero_le _)))
  have S7_7 := hid s7
  clear s7 PP6 OO6 RR6 hBW6 hF6 hG7 hx7 F1_6 F2_6 S1_6 S2_6 S3_6 S4_6 S5_6 S6_6
  have OO7 : Holds w7 (w.heap.size + 1 + 1) #[.int .i64 r.num, .int .i64 r.of, .bool r.up, .int .i64 r.sf.pr, .int .i64 r.sf.kn, .slice (some ⟨g1, 0, none⟩) r.sf.n r.sf.n, .int .i64 r.dk.pr, .int .i64 r.dk.kn, .slice (some ⟨g2, 0, none⟩) r.dk.n r.dk.n, .slice (some ⟨w2.heap.size, 0, none⟩) r.hn r.hn, .slice (some ⟨w3.heap.size, 0, none⟩) r.wn r.wn, .bool r.ld, .bool r.tr, .int .i64 r.bal, .slice g5 r.yn c5, .slice (some ⟨w5.heap.size, 0, none⟩) r.bn r.bn, .slice none 0 0, .int .i64 0] := O7
  have RR7 : Holds w7 (w.heap.size + 1) #[.int .i64 0, .int .i64 0, .bool false, .int .i64 0, .int .i64 0, .slice none 0 0, .int .i64 0, .int .i64 0, .slice none 0 0, .slice none 0 0, .slice none 0 0, .bool false, .bool false, .int .i64 0, .slice none 0 0, .slice none 0 0, .slice none 0 0, .int .i64 0] := R7
  have PP7 : Holds w7 w.heap.size (rcC r A) := P7
  clear P7 O7 R7
  obtain ⟨p0, p1, p2, p3, p4, p5, p6, p7, p8, p9, p10, p11, p12, p13, p14, p15, p16, p17⟩ := holds18 PP7
  obtain ⟨o0, o1, o2, o3, o4, o5, o6, o7, o8, o9, o10, o11, o12, o13, o14, o15, o16, o17⟩ := holds18 OO7
  obtain ⟨u0, u1, u2, u3, u4, u5, u6, u7, u8, u9, u10, u11, u12, u13, u14, u15, u16, u17⟩ := holds18 RR7
  have key : ∀ W : World, Fr w.heap.size (w.heap.size + 3) w7 W → W.heap.size = w7.heap.size → ∃ A' m1 m2 m3 m4 m5 m6, Ending.returned (rcV r ⟨some ⟨g1, 0, none⟩, some ⟨g2, 0, none⟩, some ⟨w2.heap.size, 0, none⟩, some ⟨w3.heap.size, 0, none⟩, g5, some ⟨w5.heap.size, 0, none⟩, some ⟨w6.heap.size, 0, none⟩, r.sf.n, r.dk.n, r.hn, r.wn, c5, r.bn, r.an⟩) = .returned (rcV r A') ∧ RcNew r A' ∧ RcOwnAt W r A' w.heap.size m1 m2 m3 m4 m5 m6 W.heap.size ∧ Below w.heap.size w W := fun W hW hsz =>
    ⟨⟨some ⟨g1, 0, none⟩, some ⟨g2, 0, none⟩, some ⟨w2.heap.size, 0, none⟩, some ⟨w3.heap.size, 0, none⟩, g5, some ⟨w5.heap.size, 0, none⟩, some ⟨w6.heap.size, 0, none⟩, r.sf.n, r.dk.n, r.hn, r.wn, c5, r.bn, r.an⟩, w1.heap.size, w2.heap.size, w3.heap.size, w4.heap.size, w5.heap.size, w6.heap.size, rfl, ⟨⟨_, rfl⟩, ⟨_, rfl⟩, ⟨_, rfl⟩, rfl, rfl, rfl⟩,
      ⟨(S1_7.out.fr hW (Or.inr (by omega))).mono (by omega) (Nat.le_refl _), S2_7.out.fr hW (Or.inr (by omega)), (MssOwnIn.fr ⟨_, _, _, rfl, Nat.le_refl _, Nat.le_refl _, S3_7.out⟩ hW (Or.inr (by omega))), S4_7.out.fr hW (by omega) (Or.inr (by omega)), S5_7.out.fr hW (by omega) (Or.inr (by omega)), SlsOwn.fr ⟨_, rfl, Nat.le_refl _, S6_L, S6_7.out⟩ hW (Or.inr (by omega)), by rw [hsz]; exact (AksOwnIn.fr ⟨_, _, _, rfl, Nat.le_refl _, Nat.le_refl _, S7_7.out⟩ hW (Or.inr (by omega))), by omega, by omega, by omega, by omega, by omega, by omega, by omega, Nat.le_refl _⟩,
      hB7.trans (hW.below (Nat.le_refl _) hB7.size)⟩
  have KEY := hid key
  clear key S1_7 S2_7 S3_7 S4_7 S5_7 S6_7 S7_7 S6_L
  have hE : Holds ((w7.setCell ⟨w.heap.size + 1 + 1, 16, none⟩ (.slice (some ⟨w6.heap.size, 0, none⟩) r.an r.an)).setCell ⟨w.heap.size + 1 + 1, 17, none⟩ (.int .i64 r.hd)) (w.heap.size + 1 + 1) #[.int .i64 r.num, .int .i64 r.of, .bool r.up, .int .i64 r.sf.pr, .int .i64 r.sf.kn, .slice (some ⟨g1, 0, none⟩) r.sf.n r.sf.n, .int .i64 r.dk.pr, .int .i64 r.dk.kn, .slice (some ⟨g2, 0, none⟩) r.dk.n r.dk.n, .slice (some ⟨w2.heap.size, 0, none⟩) r.hn r.hn, .slice (some ⟨w3.heap.size, 0, none⟩) r.wn r.wn, .bool r.ld, .bool r.tr, .int .i64 r.bal, .slice g5 r.yn c5, .slice (some ⟨w5.heap.size, 0, none⟩) r.bn r.bn, .slice (some ⟨w6.heap.size, 0, none⟩) r.an r.an, .int .i64 r.hd] := (hset17 (hset16 OO7 (.slice (some ⟨w6.heap.size, 0, none⟩) r.an r.an)) (.int .i64 r.hd))
  have hR : ((w7.setCell ⟨w.heap.size + 1 + 1, 16, none⟩ (.slice (some ⟨w6.heap.size, 0, none⟩) r.an r.an)).setCell ⟨w.heap.size + 1 + 1, 17, none⟩ (.int .i64 r.hd)).there (w.heap.size + 1) 0 18 := Holds.there (c := #[.int .i64 0, .int .i64 0, .bool false, .int .i64 0, .int .i64 0, .slice none 0 0, .int .i64 0, .int .i64 0, .slice none 0 0, .slice none 0 0, .slice none 0 0, .bool false, .bool false, .int .i64 0, .slice none 0 0, .slice none 0 0, .slice none 0 0, .int .i64 0]) (RR7.fr (Fr.setCell (Fr.setCell (Fr.refl (w.heap.size + 2) (w.heap.size + 3) w7) (p := ⟨w.heap.size + 1 + 1, 16, none⟩) (by show w.heap.size + 2 ≤ w.heap.size + 1 + 1; omega) (by show w.heap.size + 1 + 1 < w.heap.size + 3; omega) (.slice (some ⟨w6.heap.size, 0, none⟩) r.an r.an)) (p := ⟨w.heap.size + 1 + 1, 17, none⟩) (by show w.heap.size + 2 ≤ w.heap.size + 1 + 1; omega) (by show w.heap.size + 1 + 1 < w.heap.size + 3; omega) (.int .i64 r.hd)) (by omega) (Or.inl (by omega))) (fun i => by simp only [World.frozen?_setCell]; exact F1_7 i)
  have hEr := Holds.range (cs := [.int .i64 r.num, .int .i64 r.of, .bool r.up, .int .i64 r.sf.pr, .int .i64 r.sf.kn, .slice (some ⟨g1, 0, none⟩) r.sf.n r.sf.n, .int .i64 r.dk.pr, .int .i64 r.dk.kn, .slice (some ⟨g2, 0, none⟩) r.dk.n r.dk.n, .slice (some ⟨w2.heap.size, 0, none⟩) r.hn r.hn, .slice (some ⟨w3.heap.size, 0, none⟩) r.wn r.wn, .bool r.ld, .bool r.tr, .int .i64 r.bal, .slice g5 r.yn c5, .slice (some ⟨w5.heap.size, 0, none⟩) r.bn r.bn, .slice (some ⟨w6.heap.size, 0, none⟩) r.an r.an, .int .i64 r.hd]) hE
  have HER := hid hEr
  have HRT := hid hR
  clear hE hR hEr OO7 RR7 PP7
  go_wp2_with (first | ((with_reducible show wpList _ _ _ (⟨some 53, Op.load 58 _, _, _, _, _⟩ :: _) _ _); refine wpList_load_mid rfl 58 _ rfl (w.heap.size + 1 + 1) 0 rfl [.int .i64 r.num, .int .i64 r.of, .bool r.up, .int .i64 r.sf.pr, .int .i64 r.sf.kn, .slice (some ⟨g1, 0, none⟩) r.sf.n r.sf.n, .int .i64 r.dk.pr, .int .i64 r.dk.kn, .slice (some ⟨g2, 0, none⟩) r.dk.n r.dk.n, .slice (some ⟨w2.heap.size, 0, none⟩) r.hn r.hn, .slice (some ⟨w3.heap.size, 0, none⟩) r.wn r.wn, .bool r.ld, .bool r.tr, .int .i64 r.bal, .slice g5 r.yn c5, .slice (some ⟨w5.heap.size, 0, none⟩) r.bn r.bn, .slice (some ⟨w6.heap.size, 0, none⟩) r.an r.an, .int .i64 r.hd] _ HER.out Try.underlying58 rfl Try.sz58 ?_) | ((with_reducible show wpList _ _ _ (⟨none, Op.store 58 _ (.tmp 53), _, _, _, _⟩ :: _) _ _); refine wpList_store_new rfl 58 _ _ rfl (w.heap.size + 1) [.int .i64 r.num, .int .i64 r.of, .bool r.up, .int .i64 r.sf.pr, .int .i64 r.sf.kn, .slice (some ⟨g1, 0, none⟩) r.sf.n r.sf.n, .int .i64 r.dk.pr, .int .i64 r.dk.kn, .slice (some ⟨g2, 0, none⟩) r.dk.n r.dk.n, .slice (some ⟨w2.heap.size, 0, none⟩) r.hn r.hn, .slice (some ⟨w3.heap.size, 0, none⟩) r.wn r.wn, .bool r.ld, .bool r.tr, .int .i64 r.bal, .slice g5 r.yn c5, .slice (some ⟨w5.heap.size, 0, none⟩) r.bn r.bn, .slice (some ⟨w6.heap.size, 0, none⟩) r.an r.an, .int .i64 r.hd] rfl rfl HRT.out Try.sz58 (by simp [Value.oneCell']) ?_; intro W2 hr2 hf2 hs2; have HR2 := hid hr2; have HF2 := hid hf2; have HS2 := hid hs2; clear hr2 hf2 hs2 HER HRT))
  refine bodyPost_ret (v := rcV r ⟨some ⟨g1, 0, none⟩, some ⟨g2, 0, none⟩, some ⟨w2.heap.size, 0, none⟩, some ⟨w3.heap.size, 0, none⟩, g5, some ⟨w5.heap.size, 0, none⟩, some ⟨w6.heap.size, 0, none⟩, r.sf.n, r.dk.n, r.hn, r.wn, c5, r.bn, r.an⟩) (results_cell_mid rfl _ _ (w.heap.size + 1) [.int .i64 r.num, .int .i64 r.of, .bool r.up, .int .i64 r.sf.pr, .int .i64 r.sf.kn, .slice (some ⟨g1, 0, none⟩) r.sf.n r.sf.n, .int .i64 r.dk.pr, .int .i64 r.dk.kn, .slice (some ⟨g2, 0, none⟩) r.dk.n r.dk.n, .slice (some ⟨w2.heap.size, 0, none⟩) r.hn r.hn, .slice (some ⟨w3.heap.size, 0, none⟩) r.wn r.wn, .bool r.ld, .bool r.tr, .int .i64 r.bal, .slice g5 r.yn c5, .slice (some ⟨w5.heap.size, 0, none⟩) r.bn r.bn, .slice (some ⟨w6.heap.size, 0, none⟩) r.an r.an, .int .i64 r.hd] _ rfl HR2.out Try.underlying58 rfl Try.sz58) rfl (KEY.out _ ?_ (by rw [HS2.out]; simp only [World.size_setCell]))
  exact (Fr.trans (b := ((w7.setCell ⟨w.heap.size + 1 + 1, 16, none⟩ (.slice (some ⟨w6.heap.size, 0, none⟩) r.an r.an)).setCell ⟨w.heap.size + 1 + 1, 17, none⟩ (.int .i64 r.hd))) (Fr.setCell (Fr.setCell (Fr.refl w.heap.size (w.heap.size + 3) w7) (p := ⟨w.heap.size + 1 + 1, 16, none⟩) (by show w.heap.size ≤ w.heap.size + 1 + 1; omega) (by show w.heap.size + 1 + 1 < w.heap.size + 3; omega) (.slice (some ⟨w6.heap.size, 0, none⟩) r.an r.an)) (p := ⟨w.heap.size + 1 + 1, 17, none⟩) (by show w.heap.size ≤ w.heap.size + 1 + 1; omega) (by show w.heap.size + 1 + 1 < w.heap.size + 3; omega) (.int .i64 r.hd)) (Fr.widen HF2.out (by omega) (by omega)))
end Go.Proofs.Ytjepponnhieocaa
