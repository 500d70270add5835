import Derived.Test.YtkecnaaacbckoaaGreatKj
import Derived.Test.YtkecnaaacbckoaaGreatOa
import Derived.Deep.RegionLaw
namespace Go.Proofs.YtkecnaaacbckoaaGreat
open Go.RowKit
theorem own_shape {w : World} {base e z n : Nat} {v : Value} {c : Nat → Value} (h : w.ownsRow base e z v n (rowCells (n * z) c)) (hn : 0 < n) : ∃ g cap, v = .slice (some ⟨g, 0, none⟩) n cap ∧ base ≤ g ∧ RowF w g (n * z) c := by
  rcases h.2 with ⟨rfl, h0⟩ | ⟨g, cap, cur, rfl, h1, _⟩
  · omega
  · exact ⟨g, cap, rfl, h1, row_of_own h⟩
theorem ObsAt.isIn {w : World} {ad : Option Addr} {g n : Nat} {x : Nat → Ob} {A : Nat → Option Addr} {C hb : Nat → Nat} (h : ObsAt w ad g n x A C hb) {lo : Nat} (hlo : ∀ q, blkH g n (fun i => (x i).hn) hb q → lo ≤ q) : ObjsIn w lo w.heap.size ad n x := fun i hi => by
  obtain ⟨c, r, e⟩ := h.row (by omega)
  obtain ⟨a0, a1, a2, a3, a4, a5, a6⟩ := e i hi
  refine ⟨g, 0, A i, C i, h.addr (by omega), hlo g (Or.inl ⟨by omega, rfl⟩), r.lt, ?_, fun j hj => ?_⟩
  · rw [Nat.zero_add]
    exact ⟨(r.cell _ (by omega)).trans (congrArg some a0), (r.cell _ (by omega)).trans (congrArg some a1), (r.cell _ (by omega)).trans (congrArg some a2), (r.cell _ (by omega)).trans (congrArg some a3), (r.cell _ (by omega)).trans (congrArg some a4), (r.cell _ (by omega)).trans (congrArg some a5), (r.cell _ (by omega)).trans (congrArg some a6)⟩
  · obtain ⟨b, off, e1, e2, e3, e4, _⟩ := h.hold i hi j hj
    have hn0 : (x i).hn ≠ 0 := by omega
    have e5 : b = hb i := by omega
    exact ⟨b, off, e1, by rw [e5]; exact hlo _ (Or.inr ⟨i, hi, hn0, rfl⟩), by rw [e5]; exact h.hlt i hi hn0, e4⟩
theorem ChsAt.isIn {w : World} {ad : Option Addr} {g n : Nat} {x : Nat → Ch} {A : Nat → Option Addr} {C hb : Nat → Nat} (h : ChsAt w ad g n x A C hb) {lo : Nat} (hlo : ∀ q, blkH g n (fun i => (x i).ob.hn) hb q → lo ≤ q) : ChgsIn w lo w.heap.size ad n x := fun i hi => by
  obtain ⟨c, r, e⟩ := h.row (by omega)
  obtain ⟨a0, a1, a2, a3, a4, a5, a6, a7, a8⟩ := e i hi
  refine ⟨g, 0, A i, C i, h.addr (by omega), hlo g (Or.inl ⟨by omega, rfl⟩), r.lt, ?_, fun j hj => ?_⟩
  · rw [Nat.zero_add]
    exact ⟨(r.cell _ (by omega)).trans (congrArg some a0), (r.cell _ (by omega)).trans (congrArg some a1), (r.cell _ (by omega)).trans (congrArg some a2), (r.cell _ (by omega)).trans (congrArg some a3), (r.cell _ (by omega)).trans (congrArg some a4), (r.cell _ (by omega)).trans (congrArg some a5), (r.cell _ (by omega)).trans (congrArg some a6), (r.cell _ (by omega)).trans (congrArg some a7), (r.cell _ (by omega)).trans (congrArg some a8)⟩
  · obtain ⟨b, off, e1, e2, e3, e4, _⟩ := h.hold i hi j hj
    have hn0 : (x i).ob.hn ≠ 0 := by omega
    have e5 : b = hb i := by omega
    exact ⟨b, off, e1, by rw [e5]; exact hlo _ (Or.inr ⟨i, hi, hn0, rfl⟩), by rw [e5]; exact h.hlt i hi hn0, e4⟩
theorem TisAt.isIn {w : World} {ad : Option Addr} {g n : Nat} {x : Nat → Ti} (h : TisAt w ad g n x) {lo : Nat} (hlo : 0 < n → lo ≤ g) : TicsIn w lo w.heap.size ad n x := fun i hi => by
  obtain ⟨c, r, e⟩ := h.row (by omega)
  obtain ⟨a0, a1, a2, a3, a4⟩ := e i hi
  refine ⟨g, 0, h.addr (by omega), hlo (by omega), r.lt, ?_⟩
  rw [Nat.zero_add]
  exact ⟨(r.cell _ (by omega)).trans (congrArg some a0), (r.cell _ (by omega)).trans (congrArg some a1), (r.cell _ (by omega)).trans (congrArg some a2), (r.cell _ (by omega)).trans (congrArg some a3), (r.cell _ (by omega)).trans (congrArg some a4)⟩
theorem BkAt.isIn {w : World} {x : Bk} {p : Pl} (h : BkAt w x p) {lo : Nat} (hlo : ∀ q, blkB p x q → lo ≤ q) : BkIn w lo w.heap.size x p.a1 p.a2 p.a3 :=
  ⟨h.o.isIn (fun q hq => hlo q (Or.inl hq)), h.h.isIn (fun q hq => hlo q (Or.inr (Or.inl hq))), h.t.isIn (fun h0 => hlo _ (Or.inr (Or.inr ⟨h0, rfl⟩)))⟩
theorem step_append_own {P : Program} {ops : Array Oper} {o : Oper} {a : Act} {w : World} {K : Act → World → Prop} {Q : Exit → Act → World → Prop} {E : Prop}
    (hg : o.guard = none) (s x : Operand) (t : TypeId) (hop : o.op = Op.call { callee := Callee.builtin Builtin.append, args := #[s, x], argTypes := #[t, t] })
    (base : Nat) (e : TypeId) (i : TypeInfo) (z : Value) (size bytes : Nat) (ht : P.underlying t = some (.slice e)) (hi : P.info? e = some i) (hz : i.zero = some z)
    (hsize : i.size = size) (hby : i.bytes = bytes) (hzs : z.cells.size = size) (hsz : 0 < size)
    (v : Value) (n : Nat) (xs : List Value) (hs : a.eval s = v) (hown : w.ownsRow base e size v n xs)
    (ad : Addr) (m c : Nat) (news : List Value) (hx : a.eval x = .slice (some ad) m c) (hl : news.length = m * size) (hnews : ∀ j u, news[j]? = some u → w.cell? (ad.add j) = some u) (h1 : ∀ u ∈ news, u.oneCell' = true)
    (h63 : n + m ≤ maxLen) (hbytes : (n + m) * bytes ≤ 140737488355328) (hbase : base ≤ w.heap.size)
    (hK : ∀ v' w', w'.ownsRow base e size v' (n + m) (xs ++ news) → w.grownBy w' v.ownBlock → K (a.put o.dst v') w') :
    if Region.wanted o (yielded ops a.tmps) = true then Oper.wp P o a w K Q else E := by
  have hw : Region.wanted o (yielded ops a.tmps) = true := by simp [Region.wanted, hg]
  rw [if_pos hw]
  obtain ⟨v', w', hr, h2, h3, h4, h5⟩ := run_append_own_at (P := P) w base t o.type e i z size bytes ht hi hz hsize hby hzs hsz v n xs hown ad m c news hl hnews h1 h63 hbytes hbase
  unfold Oper.wp execOp
  simp only [hop, resolve, invoke, builtin, Sem.run_bind, Sem.run_pure, Result.andThen_ok, List.map_toArray, List.map_cons, List.map_nil, hs, hx, hr]
  exact hK v' w' h2 h3
theorem oper_append_own {P : Program} {o : Oper} {a : Act} {w : World} {K : Act → World → Prop} {Q : Exit → Act → World → Prop}
    (s x : Operand) (t : TypeId) (hop : o.op = Op.call { callee := Callee.builtin Builtin.append, args := #[s, x], argTypes := #[t, t] })
    (base : Nat) (e : TypeId) (i : TypeInfo) (z : Value) (size bytes : Nat) (ht : P.underlying t = some (.slice e)) (hi : P.info? e = some i) (hz : i.zero = some z)
    (hsize : i.size = size) (hby : i.bytes = bytes) (hzs : z.cells.size = size) (hsz : 0 < size)
    (v : Value) (n : Nat) (xs : List Value) (hs : a.eval s = v) (hown : w.ownsRow base e size v n xs)
    (ad : Addr) (m c : Nat) (news : List Value) (hx : a.eval x = .slice (some ad) m c) (hl : news.length = m * size) (hnews : ∀ j u, news[j]? = some u → w.cell? (ad.add j) = some u) (h1 : ∀ u ∈ news, u.oneCell' = true)
    (h63 : n + m ≤ maxLen) (hbytes : (n + m) * bytes ≤ 140737488355328) (hbase : base ≤ w.heap.size)
    (hK : ∀ v' w', w'.ownsRow base e size v' (n + m) (xs ++ news) → w.grownBy w' v.ownBlock → K (a.put o.dst v') w') : o.wp P a w K Q := by
  obtain ⟨v', w', hr, h2, h3, h4, h5⟩ := run_append_own_at (P := P) w base t o.type e i z size bytes ht hi hz hsize hby hzs hsz v n xs hown ad m c news hl hnews h1 h63 hbytes hbase
  unfold Oper.wp execOp
  simp only [hop, resolve, invoke, builtin, Sem.run_bind, Sem.run_pure, Result.andThen_ok, List.map_toArray, List.map_cons, List.map_nil, hs, hx, hr]
  exact hK v' w' h2 h3
theorem oper_append_zero {P : Program} {o : Oper} {a : Act} {w : World} {K : Act → World → Prop} {Q : Exit → Act → World → Prop}
    (s x : Operand) (t : TypeId) (ho : o.op = Op.call { callee := Callee.builtin Builtin.append, args := #[s, x], argTypes := #[t, t] })
    (e : TypeId) (i : TypeInfo) (ht : P.underlying t = some (.slice e)) (hi : P.info? e = some i)
    (b off sLen sCap : Nat) (hle : sLen ≤ sCap) (hs : a.eval s = .slice (some ⟨b, off, none⟩) sLen sCap) (ad : Option Addr) (c : Nat) (hx : a.eval x = .slice ad 0 c)
    (h : K (a.put o.dst (.slice (some ⟨b, off, none⟩) sLen sCap)) w) : o.wp P a w K Q := by
  have hsrc : Src P i.size t (.slice ad 0 c) 0 [] w := by
    cases ad with
    | none => exact Src.ofNil w ht c
    | some a0 => exact Src.ofSlice w ht a0 0 c [] (by simp) (fun j u hj => by simp at hj) (fun u hu => by cases hu)
  have hrun := run_append_room_src (P := P) w t t o.type e i ht hi b off sLen sCap _ 0 [] hsrc (by omega) (fun j hj => by simp at hj) (fun j hj => by simp at hj)
  simp only [Nat.add_zero, World.setCells] at hrun
  unfold Oper.wp
  simp [execOp, ho, resolve, invoke, builtin, hs, hx, hrun, Result.andThen]
  exact h
theorem row5 {w : World} {g : Nat} {c : Nat → Value} {v0 v1 v2 v3 v4 : Value} (h : RowF w g 5 c) : RowF (((((w.setCell ⟨g, 0, none⟩ v0).setCell ⟨g, 1, none⟩ v1).setCell ⟨g, 2, none⟩ v2).setCell ⟨g, 3, none⟩ v3).setCell ⟨g, 4, none⟩ v4) g 5 (vec [v0, v1, v2, v3, v4]) := by
  have r := ((((h.set (o := 0) (by omega) v0).set (o := 1) (by omega) v1).set (o := 2) (by omega) v2).set (o := 3) (by omega) v3).set (o := 4) (by omega) v4
  refine ⟨r.lt, r.free, fun j hj => (r.cell j hj).trans (congrArg some ?_)⟩
  rcases (show j = 0 ∨ j = 1 ∨ j = 2 ∨ j = 3 ∨ j = 4 by omega) with rfl | rfl | rfl | rfl | rfl <;> rfl
def CpInv (w0 : World) (x : Bk) (a1 a2 a3 : Option Addr) (c1 c2 c3 : Nat) (l : Array Bool) (a : Act) (w : World) : Prop :=
  ∃ (t3 t4 t5 t6 t7 t8 t9 t10 t11 t12 t13 t14 t15 t16 t17 : Value) (b1 : Option Addr) (d1 g1 : Nat) (A1 : Nat → Option Addr) (C1 h1 : Nat → Nat) (b2 : Option Addr) (d2 g2 : Nat) (A2 : Nat → Option Addr) (C2 h2 : Nat → Nat) (g0 : Nat) (b3 : Option Addr) (d3 g3 : Nat), a = ⟨#[.agg #[.int .i64 x.now, .int .i64 x.floor, .slice a1 x.on c1, .slice a2 x.hn c2, .slice a3 x.tn c3], .pointer (some ⟨w0.heap.size, 0, none⟩), .pointer (some ⟨w0.heap.size + 1, 0, none⟩), t3, t4, t5, t6, t7, t8, t9, t10, t11, t12, t13, t14, t15, t16, t17], []⟩ ∧ l.size = 16 ∧ Below w0.heap.size w0 w ∧ w0.heap.size + 2 ≤ w.heap.size ∧ x.hn ≤ d2 ∧ RowF w w0.heap.size 5 (vec [.int .i64 x.now, .int .i64 x.floor, .slice a1 x.on c1, .slice a2 x.hn c2, .slice a3 x.tn c3]) ∧
    (l.getD 0 false = true → t3 = .pointer (some ⟨w0.heap.size, 0, none⟩)) ∧ (l.getD 1 false = true → t4 = .int .i64 x.now) ∧ (l.getD 2 false = true → t5 = .pointer (some ⟨w0.heap.size, 1, none⟩)) ∧ (l.getD 3 false = true → t6 = .int .i64 x.floor) ∧ (l.getD 4 false = true → t7 = .pointer (some ⟨w0.heap.size, 2, none⟩)) ∧ (l.getD 5 false = true → t8 = .slice a1 x.on c1) ∧ (l.getD 6 false = true → t9 = .slice b1 x.on d1 ∧ ObsAt w b1 g1 x.on x.os A1 C1 h1 ∧ ∀ q, blkH g1 x.on (fun i => (x.os i).hn) h1 q → w0.heap.size + 2 ≤ q) ∧ (l.getD 7 false = true → t10 = .pointer (some ⟨w0.heap.size, 3, none⟩)) ∧ (l.getD 8 false = true → t11 = .slice a2 x.hn c2) ∧ (l.getD 9 false = true → t12 = .slice b2 x.hn d2 ∧ ChsAt w b2 g2 x.hn x.hs A2 C2 h2 ∧ ∀ q, blkH g2 x.hn (fun i => (x.hs i).ob.hn) h2 q → w0.heap.size + 2 ≤ q) ∧ (l.getD 10 false = true → t13 = .slice (some ⟨g0, 0, none⟩) 0 0 ∧ w0.heap.size + 2 ≤ g0 ∧ g0 < w.heap.size ∧ (l.getD 13 false = false → w.ownsRow (w0.heap.size + 2) 125 5 (.slice (some ⟨g0, 0, none⟩) 0 0) 0 []) ∧ (l.getD 6 false = true → ¬ blkH g1 x.on (fun i => (x.os i).hn) h1 g0) ∧ (l.getD 9 false = true → ¬ blkH g2 x.hn (fun i => (x.hs i).ob.hn) h2 g0)) ∧ (l.getD 11 false = true → t14 = .pointer (some ⟨w0.heap.size, 4, none⟩)) ∧ (l.getD 12 false = true → t15 = .slice a3 x.tn c3) ∧ (l.getD 13 false = true → t16 = .slice b3 x.tn d3 ∧ TisAt w b3 g3 x.tn x.ts ∧ (0 < x.tn → w0.heap.size + 2 ≤ g3)) ∧ (l.getD 14 false = true → t17 = .agg #[.int .i64 x.now, .int .i64 x.floor, .slice b1 x.on d1, .slice b2 x.hn d2, .slice b3 x.tn d3]) ∧ (l.getD 15 false = false → RowF w (w0.heap.size + 1) 5 (vec [.int .i64 0, .int .i64 0, .slice none 0 0, .slice none 0 0, .slice none 0 0])) ∧ (l.getD 15 false = true → RowF w (w0.heap.size + 1) 5 (vec [.int .i64 x.now, .int .i64 x.floor, .slice b1 x.on d1, .slice b2 x.hn d2, .slice b3 x.tn d3])) ∧ (l.getD 14 false = true → l.getD 6 false = true ∧ l.getD 9 false = true ∧ l.getD 13 false = true) ∧ (l.getD 15 false = true → l.getD 14 false = true)
set_option maxRecDepth 100000 in
set_option maxHeartbeats 4000000 in
theorem l1Copy_any (x : Bk) (a1 a2 a3 : Option Addr) (c1 c2 c3 : Nat) (w : World) (lo hi : Nat) (hhi : hi ≤ w.heap.size) (l1 : (x.on : Int) ≤ 1048576) (l2 : (x.hn : Int) ≤ 1048576) (l3 : (x.tn : Int) ≤ 1048576) (hf : BkFit x) (hc : BkIn w lo hi x a1 a2 a3) :
    Calls Tryz.prog 40 #[.agg #[.int .i64 x.now, .int .i64 x.floor, .slice a1 x.on c1, .slice a2 x.hn c2, .slice a3 x.tn c3]] w fun e w' => ∃ (b1 b2 b3 : Option Addr) (d1 d2 d3 : Nat), e = .returned (.agg #[.int .i64 x.now, .int .i64 x.floor, .slice b1 x.on d1, .slice b2 x.hn d2, .slice b3 x.tn d3]) ∧ BkIn w' w.heap.size w'.heap.size x b1 b2 b3 ∧ x.hn ≤ d2 ∧ Below w.heap.size w w' := by
  obtain ⟨f1', f2', f3', f4', f5', f6'⟩ := hf
  obtain ⟨i0, hi0, hz0, hz1, hz2⟩ := info_parts Tryz.info125
  obtain ⟨ct, st, att⟩ := hc.t.src
  have STT := hid st
  have AT := hid att
  have HC := hid hc
  have F4 := hid f4'
  have F5 := hid f5'
  have I1 := hid hi0
  have I2 := hid hz0
  have I3 := hid hz1
  have I4 := hid hz2
  clear st att hc f4' f5' f6' hi0 hz0 hz1 hz2
  go_enter Tryz.func40, Tryz.ntmps40
  go_wp2
  refine wp_region_inv (by kernel_rfl) (CpInv w x a1 a2 a3 c1 c2 c3) ?_ ?_ ?_ ?_
  · unfold CpInv
    have rb : RowF ((w.alloc (.cells #[.int .i64 x.now, .int .i64 x.floor, .slice a1 x.on c1, .slice a2 x.hn c2, .slice a3 x.tn c3] 32)).alloc (.cells #[.int .i64 0, .int .i64 0, .slice none 0 0, .slice none 0 0, .slice none 0 0] 32)).drew w.heap.size 5 (vec [.int .i64 x.now, .int .i64 x.floor, .slice a1 x.on c1, .slice a2 x.hn c2, .slice a3 x.tn c3]) := (RowF.new (w := w) (l := [.int .i64 x.now, .int .i64 x.floor, .slice a1 x.on c1, .slice a2 x.hn c2, .slice a3 x.tn c3]) (t := 32) (by have h := below_alloc (w.alloc (.cells #[.int .i64 x.now, .int .i64 x.floor, .slice a1 x.on c1, .slice a2 x.hn c2, .slice a3 x.tn c3] 32)) (.cells #[.int .i64 0, .int .i64 0, .slice none 0 0, .slice none 0 0, .slice none 0 0] 32); simpa using h)).below (B := w.heap.size + 2) ((Below.refl _ _).drew) (by omega)
    have rz : RowF ((w.alloc (.cells #[.int .i64 x.now, .int .i64 x.floor, .slice a1 x.on c1, .slice a2 x.hn c2, .slice a3 x.tn c3] 32)).alloc (.cells #[.int .i64 0, .int .i64 0, .slice none 0 0, .slice none 0 0, .slice none 0 0] 32)).drew (w.heap.size + 1) 5 (vec [.int .i64 0, .int .i64 0, .slice none 0 0, .slice none 0 0, .slice none 0 0]) := by
      have h := (RowF.new (w := w.alloc (.cells #[.int .i64 x.now, .int .i64 x.floor, .slice a1 x.on c1, .slice a2 x.hn c2, .slice a3 x.tn c3] 32)) (l := [.int .i64 0, .int .i64 0, .slice none 0 0, .slice none 0 0, .slice none 0 0]) (t := 32) (Below.refl _ _)).below (B := w.heap.size + 2) ((Below.refl _ _).drew) (by simp)
      rw [World.size_alloc] at h
      exact h
    refine ⟨_, _, _, _, _, _, _, _, _, _, _, _, _, _, _, none, 0, 0, fun _ => none, fun _ => 0, fun _ => 0, none, x.hn, 0, fun _ => none, fun _ => 0, fun _ => 0, 0, none, 0, 0, rfl, by simp, (((Below.refl _ _).alloc (Nat.le_refl _) _).alloc (by simp) _).drew, by simp, Nat.le_refl _, rb, ?_⟩
    simp
    exact rz
  · intro l a w' hI
    obtain ⟨t3, t4, t5, t6, t7, t8, t9, t10, t11, t12, t13, t14, t15, t16, t17, b1, d1, g1, A1, C1, h1, b2, d2, g2, A2, C2, h2, g0, b3, d3, g3, rfl, hls, _⟩ := hI
    exact hls
  · intro l a w' hI hr
    obtain ⟨t3, t4, t5, t6, t7, t8, t9, t10, t11, t12, t13, t14, t15, t16, t17, b1, d1, g1, A1, C1, h1, b2, d2, g2, A2, C2, h2, g0, b3, d3, g3, rfl, hls, hB, hz, hcap, rb, f0, f1, f2, f3, f4, f5, f6, f7, f8, f9, f10, f11, f12, f13, f14, f15, f16, f17, f18⟩ := hI
    have AL := all_listed (by kernel_rfl) (by rw [hls]; rfl) hr
    have R := f16 (AL 15 (by decide))
    have O := hid (f6 (AL 6 (by decide))).2
    have H := hid (f9 (AL 9 (by decide))).2
    have T := hid (f13 (AL 13 (by decide))).2
    obtain ⟨y0, y1, y2, y3, y4⟩ := bk_vec R
    clear f0 f1 f2 f3 f4 f5 f6 f7 f8 f9 f10 f11 f12 f13 f14 f15 f16 f17 f18 rb R AL hr hls
    go_wp2
    refine bodyPost_ret (v := .agg #[.int .i64 x.now, .int .i64 x.floor, .slice b1 x.on d1, .slice b2 x.hn d2, .slice b3 x.tn d3]) (by simp [results, Tryz.results40, go_sem, y0, y1, y2, y3, y4]) rfl ⟨b1, b2, b3, d1, d2, d3, rfl, ⟨O.out.1.isIn (fun q hq => by have := O.out.2 q hq; omega), H.out.1.isIn (fun q hq => by have := H.out.2 q hq; omega), T.out.1.isIn (fun h0 => by have := T.out.2 h0; omega)⟩, hcap, hB⟩
  · intro l a w' i hI hr
    obtain ⟨t3, t4, t5, t6, t7, t8, t9, t10, t11, t12, t13, t14, t15, t16, t17, b1, d1, g1, A1, C1, h1, b2, d2, g2, A2, C2, h2, g0, b3, d3, g3, rfl, hls, hB, hz, hcap, rb, f0, f1, f2, f3, f4, f5, f6, f7, f8, f9, f10, f11, f12, f13, f14, f15, f16, f17, f18⟩ := hI
    obtain ⟨hu, o, ho, hdep⟩ := mem_ready.1 hr
    have hi16 : i < 16 := by
      rcases Nat.lt_or_ge i 16 with h | h
      · exact h
      · rw [Array.getElem?_eq_none (by simpa using h)] at ho
        cases ho
    have kp : ∀ j, ¬ j = i → (l.setIfInBounds i true).getD j false = l.getD j false := fun j hj => by rw [getD_set (by omega), if_neg hj]
    have ki : (l.setIfInBounds i true).getD i false = true := by rw [getD_set (by omega), if_pos rfl]
    have hsz' : (l.setIfInBounds i true).size = 16 := by simp [hls]
    have hui : l.getD i false = false := by simpa [Array.getD, hls, hi16] using hu
    have HRB := hid rb
    obtain ⟨p0, p1, p2, p3, p4⟩ := bk_vec rb
    clear rb hr hu
    rcases (show i = 0 ∨ i = 1 ∨ i = 2 ∨ i = 3 ∨ i = 4 ∨ i = 5 ∨ i = 6 ∨ i = 7 ∨ i = 8 ∨ i = 9 ∨ i = 10 ∨ i = 11 ∨ i = 12 ∨ i = 13 ∨ i = 14 ∨ i = 15 by omega) with rfl | rfl | rfl | rfl | rfl | rfl | rfl | rfl | rfl | rfl | rfl | rfl | rfl | rfl | rfl | rfl
    · simp only [List.getElem?_toArray, List.getElem?_cons_zero, Option.some.injEq] at ho
      subst ho
      clear hdep
      refine wpOp_of rfl rfl ?_
      generalize hK : CpInv w x a1 a2 a3 c1 c2 c3 (l.setIfInBounds 0 true) = K
      go_simp
      rw [← hK]
      unfold CpInv
      exact ⟨_, t4, t5, t6, t7, t8, t9, t10, t11, t12, t13, t14, t15, t16, t17, b1, d1, g1, A1, C1, h1, b2, d2, g2, A2, C2, h2, g0, b3, d3, g3, rfl, hsz', hB, hz, hcap, HRB.out, (fun _ => rfl), (by rw [kp 1 (by decide)]; exact f1), (by rw [kp 2 (by decide)]; exact f2), (by rw [kp 3 (by decide)]; exact f3), (by rw [kp 4 (by decide)]; exact f4), (by rw [kp 5 (by decide)]; exact f5), (by rw [kp 6 (by decide)]; exact f6), (by rw [kp 7 (by decide)]; exact f7), (by rw [kp 8 (by decide)]; exact f8), (by rw [kp 9 (by decide)]; exact f9), (by rw [kp 10 (by decide), kp 13 (by decide), kp 6 (by decide), kp 9 (by decide)]; exact f10), (by rw [kp 11 (by decide)]; exact f11), (by rw [kp 12 (by decide)]; exact f12), (by rw [kp 13 (by decide)]; exact f13), (by rw [kp 14 (by decide)]; exact f14), (by rw [kp 15 (by decide)]; exact f15), (by rw [kp 15 (by decide)]; exact f16), (by rw [kp 14 (by decide), kp 6 (by decide), kp 9 (by decide), kp 13 (by decide)]; exact f17), (by rw [kp 15 (by decide), kp 14 (by decide)]; exact f18)⟩
    · simp only [List.getElem?_toArray, List.getElem?_cons_succ, List.getElem?_cons_zero, Option.some.injEq] at ho
      subst ho
      have q0 : l.getD 0 false = true := hdep ⟨0, .data⟩ (by simp) rfl
      clear hdep
      obtain rfl := f0 q0
      refine wpOp_of rfl rfl ?_
      generalize hK : CpInv w x a1 a2 a3 c1 c2 c3 (l.setIfInBounds 1 true) = K
      go_simp
      rw [← hK]
      unfold CpInv
      exact ⟨_, _, t5, t6, t7, t8, t9, t10, t11, t12, t13, t14, t15, t16, t17, b1, d1, g1, A1, C1, h1, b2, d2, g2, A2, C2, h2, g0, b3, d3, g3, rfl, hsz', hB, hz, hcap, HRB.out, (by rw [kp 0 (by decide)]; exact f0), (fun _ => rfl), (by rw [kp 2 (by decide)]; exact f2), (by rw [kp 3 (by decide)]; exact f3), (by rw [kp 4 (by decide)]; exact f4), (by rw [kp 5 (by decide)]; exact f5), (by rw [kp 6 (by decide)]; exact f6), (by rw [kp 7 (by decide)]; exact f7), (by rw [kp 8 (by decide)]; exact f8), (by rw [kp 9 (by decide)]; exact f9), (by rw [kp 10 (by decide), kp 13 (by decide), kp 6 (by decide), kp 9 (by decide)]; exact f10), (by rw [kp 11 (by decide)]; exact f11), (by rw [kp 12 (by decide)]; exact f12), (by rw [kp 13 (by decide)]; exact f13), (by rw [kp 14 (by decide)]; exact f14), (by rw [kp 15 (by decide)]; exact f15), (by rw [kp 15 (by decide)]; exact f16), (by rw [kp 14 (by decide), kp 6 (by decide), kp 9 (by decide), kp 13 (by decide)]; exact f17), (by rw [kp 15 (by decide), kp 14 (by decide)]; exact f18)⟩
    · simp only [List.getElem?_toArray, List.getElem?_cons_succ, List.getElem?_cons_zero, Option.some.injEq] at ho
      subst ho
      clear hdep
      refine wpOp_of rfl rfl ?_
      generalize hK : CpInv w x a1 a2 a3 c1 c2 c3 (l.setIfInBounds 2 true) = K
      go_simp
      rw [← hK]
      unfold CpInv
      exact ⟨t3, t4, _, t6, t7, t8, t9, t10, t11, t12, t13, t14, t15, t16, t17, b1, d1, g1, A1, C1, h1, b2, d2, g2, A2, C2, h2, g0, b3, d3, g3, rfl, hsz', hB, hz, hcap, HRB.out, (by rw [kp 0 (by decide)]; exact f0), (by rw [kp 1 (by decide)]; exact f1), (fun _ => rfl), (by rw [kp 3 (by decide)]; exact f3), (by rw [kp 4 (by decide)]; exact f4), (by rw [kp 5 (by decide)]; exact f5), (by rw [kp 6 (by decide)]; exact f6), (by rw [kp 7 (by decide)]; exact f7), (by rw [kp 8 (by decide)]; exact f8), (by rw [kp 9 (by decide)]; exact f9), (by rw [kp 10 (by decide), kp 13 (by decide), kp 6 (by decide), kp 9 (by decide)]; exact f10), (by rw [kp 11 (by decide)]; exact f11), (by rw [kp 12 (by decide)]; exact f12), (by rw [kp 13 (by decide)]; exact f13), (by rw [kp 14 (by decide)]; exact f14), (by rw [kp 15 (by decide)]; exact f15), (by rw [kp 15 (by decide)]; exact f16), (by rw [kp 14 (by decide), kp 6 (by decide), kp 9 (by decide), kp 13 (by decide)]; exact f17), (by rw [kp 15 (by decide), kp 14 (by decide)]; exact f18)⟩
    · simp only [List.getElem?_toArray, List.getElem?_cons_succ, List.getElem?_cons_zero, Option.some.injEq] at ho
      subst ho
      have q2 : l.getD 2 false = true := hdep ⟨2, .data⟩ (by simp) rfl
      clear hdep
      obtain rfl := f2 q2
      refine wpOp_of rfl rfl ?_
      generalize hK : CpInv w x a1 a2 a3 c1 c2 c3 (l.setIfInBounds 3 true) = K
      go_simp
      rw [← hK]
      unfold CpInv
      exact ⟨t3, t4, _, _, t7, t8, t9, t10, t11, t12, t13, t14, t15, t16, t17, b1, d1, g1, A1, C1, h1, b2, d2, g2, A2, C2, h2, g0, b3, d3, g3, rfl, hsz', hB, hz, hcap, HRB.out, (by rw [kp 0 (by decide)]; exact f0), (by rw [kp 1 (by decide)]; exact f1), (by rw [kp 2 (by decide)]; exact f2), (fun _ => rfl), (by rw [kp 4 (by decide)]; exact f4), (by rw [kp 5 (by decide)]; exact f5), (by rw [kp 6 (by decide)]; exact f6), (by rw [kp 7 (by decide)]; exact f7), (by rw [kp 8 (by decide)]; exact f8), (by rw [kp 9 (by decide)]; exact f9), (by rw [kp 10 (by decide), kp 13 (by decide), kp 6 (by decide), kp 9 (by decide)]; exact f10), (by rw [kp 11 (by decide)]; exact f11), (by rw [kp 12 (by decide)]; exact f12), (by rw [kp 13 (by decide)]; exact f13), (by rw [kp 14 (by decide)]; exact f14), (by rw [kp 15 (by decide)]; exact f15), (by rw [kp 15 (by decide)]; exact f16), (by rw [kp 14 (by decide), kp 6 (by decide), kp 9 (by decide), kp 13 (by decide)]; exact f17), (by rw [kp 15 (by decide), kp 14 (by decide)]; exact f18)⟩
    · simp only [List.getElem?_toArray, List.getElem?_cons_succ, List.getElem?_cons_zero, Option.some.injEq] at ho
      subst ho
      clear hdep
      refine wpOp_of rfl rfl ?_
      generalize hK : CpInv w x a1 a2 a3 c1 c2 c3 (l.setIfInBounds 4 true) = K
      go_simp
      rw [← hK]
      unfold CpInv
      exact ⟨t3, t4, t5, t6, _, t8, t9, t10, t11, t12, t13, t14, t15, t16, t17, b1, d1, g1, A1, C1, h1, b2, d2, g2, A2, C2, h2, g0, b3, d3, g3, rfl, hsz', hB, hz, hcap, HRB.out, (by rw [kp 0 (by decide)]; exact f0), (by rw [kp 1 (by decide)]; exact f1), (by rw [kp 2 (by decide)]; exact f2), (by rw [kp 3 (by decide)]; exact f3), (fun _ => rfl), (by rw [kp 5 (by decide)]; exact f5), (by rw [kp 6 (by decide)]; exact f6), (by rw [kp 7 (by decide)]; exact f7), (by rw [kp 8 (by decide)]; exact f8), (by rw [kp 9 (by decide)]; exact f9), (by rw [kp 10 (by decide), kp 13 (by decide), kp 6 (by decide), kp 9 (by decide)]; exact f10), (by rw [kp 11 (by decide)]; exact f11), (by rw [kp 12 (by decide)]; exact f12), (by rw [kp 13 (by decide)]; exact f13), (by rw [kp 14 (by decide)]; exact f14), (by rw [kp 15 (by decide)]; exact f15), (by rw [kp 15 (by decide)]; exact f16), (by rw [kp 14 (by decide), kp 6 (by decide), kp 9 (by decide), kp 13 (by decide)]; exact f17), (by rw [kp 15 (by decide), kp 14 (by decide)]; exact f18)⟩
    · simp only [List.getElem?_toArray, List.getElem?_cons_succ, List.getElem?_cons_zero, Option.some.injEq] at ho
      subst ho
      have q4 : l.getD 4 false = true := hdep ⟨4, .data⟩ (by simp) rfl
      clear hdep
      obtain rfl := f4 q4
      refine wpOp_of rfl rfl ?_
      generalize hK : CpInv w x a1 a2 a3 c1 c2 c3 (l.setIfInBounds 5 true) = K
      go_simp
      rw [← hK]
      unfold CpInv
      exact ⟨t3, t4, t5, t6, _, _, t9, t10, t11, t12, t13, t14, t15, t16, t17, b1, d1, g1, A1, C1, h1, b2, d2, g2, A2, C2, h2, g0, b3, d3, g3, rfl, hsz', hB, hz, hcap, HRB.out, (by rw [kp 0 (by decide)]; exact f0), (by rw [kp 1 (by decide)]; exact f1), (by rw [kp 2 (by decide)]; exact f2), (by rw [kp 3 (by decide)]; exact f3), (by rw [kp 4 (by decide)]; exact f4), (fun _ => rfl), (by rw [kp 6 (by decide)]; exact f6), (by rw [kp 7 (by decide)]; exact f7), (by rw [kp 8 (by decide)]; exact f8), (by rw [kp 9 (by decide)]; exact f9), (by rw [kp 10 (by decide), kp 13 (by decide), kp 6 (by decide), kp 9 (by decide)]; exact f10), (by rw [kp 11 (by decide)]; exact f11), (by rw [kp 12 (by decide)]; exact f12), (by rw [kp 13 (by decide)]; exact f13), (by rw [kp 14 (by decide)]; exact f14), (by rw [kp 15 (by decide)]; exact f15), (by rw [kp 15 (by decide)]; exact f16), (by rw [kp 14 (by decide), kp 6 (by decide), kp 9 (by decide), kp 13 (by decide)]; exact f17), (by rw [kp 15 (by decide), kp 14 (by decide)]; exact f18)⟩
    · simp only [List.getElem?_toArray, List.getElem?_cons_succ, List.getElem?_cons_zero, Option.some.injEq] at ho
      subst ho
      have q5 : l.getD 5 false = true := hdep ⟨5, .data⟩ (by simp) rfl
      clear hdep
      obtain rfl := f5 q5
      refine wpOp_of rfl rfl ?_
      generalize hK : CpInv w x a1 a2 a3 c1 c2 c3 (l.setIfInBounds 6 true) = K
      go_simp
      go_at_call 59
      refine (specObs_any x.on x.os a1 c1 _ lo hi (by omega) l1 F4.out (HC.out.o.below hB hhi)).mono ?_
      rintro e wa ⟨b1', d1', g1', A1', C1', h1', rfl, oa, qa, ba⟩
      have za := ba.size
      rw [← hK]
      unfold CpInv
      exact ⟨t3, t4, t5, t6, t7, _, _, t10, t11, t12, t13, t14, t15, t16, t17, b1', d1', g1', A1', C1', h1', b2, d2, g2, A2, C2, h2, g0, b3, d3, g3, rfl, hsz', hB.trans (ba.mono (by omega)), by omega, hcap, HRB.out.below ba (by omega), (by rw [kp 0 (by decide)]; exact f0), (by rw [kp 1 (by decide)]; exact f1), (by rw [kp 2 (by decide)]; exact f2), (by rw [kp 3 (by decide)]; exact f3), (by rw [kp 4 (by decide)]; exact f4), (by rw [kp 5 (by decide)]; exact f5), (fun _ => ⟨rfl, oa, fun q hq => by have := qa q hq; omega⟩), (by rw [kp 7 (by decide)]; exact f7), (by rw [kp 8 (by decide)]; exact f8), (by rw [kp 9 (by decide)]; intro h; exact ⟨(f9 h).1, (f9 h).2.1.grow ba, (f9 h).2.2⟩), (by rw [kp 10 (by decide), kp 13 (by decide), kp 9 (by decide)]; intro h; obtain ⟨e1, e2, e3, e4, e5, e6⟩ := f10 h; exact ⟨e1, e2, by omega, fun h13 => ownsRow_fr (e4 h13) (FrP.of_below (P := fun _ => False) ba) (fun _ _ h => h), fun _ hq => (by have := qa _ hq; omega), e6⟩), (by rw [kp 11 (by decide)]; exact f11), (by rw [kp 12 (by decide)]; exact f12), (by rw [kp 13 (by decide)]; intro h; exact ⟨(f13 h).1, (f13 h).2.1.grow ba, (f13 h).2.2⟩), (by rw [kp 14 (by decide)]; intro h; exact absurd (f17 h).1 (by rw [hui]; decide)), (by rw [kp 15 (by decide)]; intro h; exact (f15 h).below ba (by omega)), (by rw [kp 15 (by decide)]; intro h; exact absurd (f17 (f18 h)).1 (by rw [hui]; decide)), (by rw [kp 14 (by decide)]; intro h; exact absurd (f17 h).1 (by rw [hui]; decide)), (by rw [kp 15 (by decide), kp 14 (by decide)]; exact f18)⟩
    · simp only [List.getElem?_toArray, List.getElem?_cons_succ, List.getElem?_cons_zero, Option.some.injEq] at ho
      subst ho
      clear hdep
      refine wpOp_of rfl rfl ?_
      generalize hK : CpInv w x a1 a2 a3 c1 c2 c3 (l.setIfInBounds 7 true) = K
      go_simp
      rw [← hK]
      unfold CpInv
      exact ⟨t3, t4, t5, t6, t7, t8, t9, _, t11, t12, t13, t14, t15, t16, t17, b1, d1, g1, A1, C1, h1, b2, d2, g2, A2, C2, h2, g0, b3, d3, g3, rfl, hsz', hB, hz, hcap, HRB.out, (by rw [kp 0 (by decide)]; exact f0), (by rw [kp 1 (by decide)]; exact f1), (by rw [kp 2 (by decide)]; exact f2), (by rw [kp 3 (by decide)]; exact f3), (by rw [kp 4 (by decide)]; exact f4), (by rw [kp 5 (by decide)]; exact f5), (by rw [kp 6 (by decide)]; exact f6), (fun _ => rfl), (by rw [kp 8 (by decide)]; exact f8), (by rw [kp 9 (by decide)]; exact f9), (by rw [kp 10 (by decide), kp 13 (by decide), kp 6 (by decide), kp 9 (by decide)]; exact f10), (by rw [kp 11 (by decide)]; exact f11), (by rw [kp 12 (by decide)]; exact f12), (by rw [kp 13 (by decide)]; exact f13), (by rw [kp 14 (by decide)]; exact f14), (by rw [kp 15 (by decide)]; exact f15), (by rw [kp 15 (by decide)]; exact f16), (by rw [kp 14 (by decide), kp 6 (by decide), kp 9 (by decide), kp 13 (by decide)]; exact f17), (by rw [kp 15 (by decide), kp 14 (by decide)]; exact f18)⟩
    · simp only [List.getElem?_toArray, List.getElem?_cons_succ, List.getElem?_cons_zero, Option.some.injEq] at ho
      subst ho
      have q7 : l.getD 7 false = true := hdep ⟨7, .data⟩ (by simp) rfl
      clear hdep
      obtain rfl := f7 q7
      refine wpOp_of rfl rfl ?_
      generalize hK : CpInv w x a1 a2 a3 c1 c2 c3 (l.setIfInBounds 8 true) = K
      go_simp
      rw [← hK]
      unfold CpInv
      exact ⟨t3, t4, t5, t6, t7, t8, t9, _, _, t12, t13, t14, t15, t16, t17, b1, d1, g1, A1, C1, h1, b2, d2, g2, A2, C2, h2, g0, b3, d3, g3, rfl, hsz', hB, hz, hcap, HRB.out, (by rw [kp 0 (by decide)]; exact f0), (by rw [kp 1 (by decide)]; exact f1), (by rw [kp 2 (by decide)]; exact f2), (by rw [kp 3 (by decide)]; exact f3), (by rw [kp 4 (by decide)]; exact f4), (by rw [kp 5 (by decide)]; exact f5), (by rw [kp 6 (by decide)]; exact f6), (by rw [kp 7 (by decide)]; exact f7), (fun _ => rfl), (by rw [kp 9 (by decide)]; exact f9), (by rw [kp 10 (by decide), kp 13 (by decide), kp 6 (by decide), kp 9 (by decide)]; exact f10), (by rw [kp 11 (by decide)]; exact f11), (by rw [kp 12 (by decide)]; exact f12), (by rw [kp 13 (by decide)]; exact f13), (by rw [kp 14 (by decide)]; exact f14), (by rw [kp 15 (by decide)]; exact f15), (by rw [kp 15 (by decide)]; exact f16), (by rw [kp 14 (by decide), kp 6 (by decide), kp 9 (by decide), kp 13 (by decide)]; exact f17), (by rw [kp 15 (by decide), kp 14 (by decide)]; exact f18)⟩
    · simp only [List.getElem?_toArray, List.getElem?_cons_succ, List.getElem?_cons_zero, Option.some.injEq] at ho
      subst ho
      have q8 : l.getD 8 false = true := hdep ⟨8, .data⟩ (by simp) rfl
      have q6 : l.getD 6 false = true := hdep ⟨6, .chain⟩ (by simp) rfl
      clear hdep
      obtain rfl := f8 q8
      refine wpOp_of rfl rfl ?_
      generalize hK : CpInv w x a1 a2 a3 c1 c2 c3 (l.setIfInBounds 9 true) = K
      clear q6
      go_simp
      go_at_call 88
      refine (specChs_any x.hn x.hs a2 c2 _ lo hi (by omega) l2 F5.out (HC.out.h.below hB hhi)).mono ?_
      rintro e wa ⟨b1', d1', g1', A1', C1', h1', rfl, hcap', oa, qa, ba⟩
      have za := ba.size
      rw [← hK]
      unfold CpInv
      exact ⟨t3, t4, t5, t6, t7, t8, t9, t10, _, _, t13, t14, t15, t16, t17, b1, d1, g1, A1, C1, h1, b1', d1', g1', A1', C1', h1', g0, b3, d3, g3, rfl, hsz', hB.trans (ba.mono (by omega)), by omega, hcap', HRB.out.below ba (by omega), (by rw [kp 0 (by decide)]; exact f0), (by rw [kp 1 (by decide)]; exact f1), (by rw [kp 2 (by decide)]; exact f2), (by rw [kp 3 (by decide)]; exact f3), (by rw [kp 4 (by decide)]; exact f4), (by rw [kp 5 (by decide)]; exact f5), (by rw [kp 6 (by decide)]; intro h; exact ⟨(f6 h).1, (f6 h).2.1.grow ba, (f6 h).2.2⟩), (by rw [kp 7 (by decide)]; exact f7), (by rw [kp 8 (by decide)]; exact f8), (fun _ => ⟨rfl, oa, fun q hq => by have := qa q hq; omega⟩), (by rw [kp 10 (by decide), kp 13 (by decide), kp 6 (by decide)]; intro h; obtain ⟨e1, e2, e3, e4, e5, e6⟩ := f10 h; exact ⟨e1, e2, by omega, fun h13 => ownsRow_fr (e4 h13) (FrP.of_below (P := fun _ => False) ba) (fun _ _ h => h), e5, fun _ hq => (by have := qa _ hq; omega)⟩), (by rw [kp 11 (by decide)]; exact f11), (by rw [kp 12 (by decide)]; exact f12), (by rw [kp 13 (by decide)]; intro h; exact ⟨(f13 h).1, (f13 h).2.1.grow ba, (f13 h).2.2⟩), (by rw [kp 14 (by decide)]; intro h; exact absurd (f17 h).2.1 (by rw [hui]; decide)), (by rw [kp 15 (by decide)]; intro h; exact (f15 h).below ba (by omega)), (by rw [kp 15 (by decide)]; intro h; exact absurd (f17 (f18 h)).2.1 (by rw [hui]; decide)), (by rw [kp 14 (by decide)]; intro h; exact absurd (f17 h).2.1 (by rw [hui]; decide)), (by rw [kp 15 (by decide), kp 14 (by decide)]; exact f18)⟩
    · simp only [List.getElem?_toArray, List.getElem?_cons_succ, List.getElem?_cons_zero, Option.some.injEq] at ho
      subst ho
      clear hdep
      refine wpOp_of rfl rfl ?_
      generalize hK : CpInv w x a1 a2 a3 c1 c2 c3 (l.setIfInBounds 10 true) = K
      go_simp
      rw [← hK]
      unfold CpInv
      exact ⟨t3, t4, t5, t6, t7, t8, t9, t10, t11, t12, _, t14, t15, t16, t17, b1, d1, g1, A1, C1, h1, b2, d2, g2, A2, C2, h2, w'.heap.size, b3, d3, g3, rfl, hsz', hB.alloc (by omega) _, by simp; omega, hcap, HRB.out.below (below_alloc _ _) (by omega), (by rw [kp 0 (by decide)]; exact f0), (by rw [kp 1 (by decide)]; exact f1), (by rw [kp 2 (by decide)]; exact f2), (by rw [kp 3 (by decide)]; exact f3), (by rw [kp 4 (by decide)]; exact f4), (by rw [kp 5 (by decide)]; exact f5), (by rw [kp 6 (by decide)]; intro h; exact ⟨(f6 h).1, (f6 h).2.1.grow (below_alloc _ _), (f6 h).2.2⟩), (by rw [kp 7 (by decide)]; exact f7), (by rw [kp 8 (by decide)]; exact f8), (by rw [kp 9 (by decide)]; intro h; exact ⟨(f9 h).1, (f9 h).2.1.grow (below_alloc _ _), (f9 h).2.2⟩), (fun _ => ⟨rfl, by omega, by simp, fun _ => World.ownsRow_made (base := w.heap.size + 2) (e := 125) (size := 5) w' #[] 0 (by omega) (Nat.zero_le _) rfl, (by rw [kp 6 (by decide)]; intro h hq; exact Nat.lt_irrefl _ ((f6 h).2.1.blt hq)), (by rw [kp 9 (by decide)]; intro h hq; exact Nat.lt_irrefl _ ((f9 h).2.1.blt hq))⟩), (by rw [kp 11 (by decide)]; exact f11), (by rw [kp 12 (by decide)]; exact f12), (by rw [kp 13 (by decide)]; intro h; exact ⟨(f13 h).1, (f13 h).2.1.grow (below_alloc _ _), (f13 h).2.2⟩), (by rw [kp 14 (by decide)]; exact f14), (by rw [kp 15 (by decide)]; intro h; exact (f15 h).below (below_alloc _ _) (by omega)), (by rw [kp 15 (by decide)]; intro h; exact (f16 h).below (below_alloc _ _) (by omega)), (by rw [kp 14 (by decide), kp 6 (by decide), kp 9 (by decide), kp 13 (by decide)]; exact f17), (by rw [kp 15 (by decide), kp 14 (by decide)]; exact f18)⟩
    · simp only [List.getElem?_toArray, List.getElem?_cons_succ, List.getElem?_cons_zero, Option.some.injEq] at ho
      subst ho
      clear hdep
      refine wpOp_of rfl rfl ?_
      generalize hK : CpInv w x a1 a2 a3 c1 c2 c3 (l.setIfInBounds 11 true) = K
      go_simp
      rw [← hK]
      unfold CpInv
      exact ⟨t3, t4, t5, t6, t7, t8, t9, t10, t11, t12, t13, _, t15, t16, t17, b1, d1, g1, A1, C1, h1, b2, d2, g2, A2, C2, h2, g0, b3, d3, g3, rfl, hsz', hB, hz, hcap, HRB.out, (by rw [kp 0 (by decide)]; exact f0), (by rw [kp 1 (by decide)]; exact f1), (by rw [kp 2 (by decide)]; exact f2), (by rw [kp 3 (by decide)]; exact f3), (by rw [kp 4 (by decide)]; exact f4), (by rw [kp 5 (by decide)]; exact f5), (by rw [kp 6 (by decide)]; exact f6), (by rw [kp 7 (by decide)]; exact f7), (by rw [kp 8 (by decide)]; exact f8), (by rw [kp 9 (by decide)]; exact f9), (by rw [kp 10 (by decide), kp 13 (by decide), kp 6 (by decide), kp 9 (by decide)]; exact f10), (fun _ => rfl), (by rw [kp 12 (by decide)]; exact f12), (by rw [kp 13 (by decide)]; exact f13), (by rw [kp 14 (by decide)]; exact f14), (by rw [kp 15 (by decide)]; exact f15), (by rw [kp 15 (by decide)]; exact f16), (by rw [kp 14 (by decide), kp 6 (by decide), kp 9 (by decide), kp 13 (by decide)]; exact f17), (by rw [kp 15 (by decide), kp 14 (by decide)]; exact f18)⟩
    · simp only [List.getElem?_toArray, List.getElem?_cons_succ, List.getElem?_cons_zero, Option.some.injEq] at ho
      subst ho
      have q11 : l.getD 11 false = true := hdep ⟨11, .data⟩ (by simp) rfl
      clear hdep
      obtain rfl := f11 q11
      refine wpOp_of rfl rfl ?_
      generalize hK : CpInv w x a1 a2 a3 c1 c2 c3 (l.setIfInBounds 12 true) = K
      go_simp
      rw [← hK]
      unfold CpInv
      exact ⟨t3, t4, t5, t6, t7, t8, t9, t10, t11, t12, t13, _, _, t16, t17, b1, d1, g1, A1, C1, h1, b2, d2, g2, A2, C2, h2, g0, b3, d3, g3, rfl, hsz', hB, hz, hcap, HRB.out, (by rw [kp 0 (by decide)]; exact f0), (by rw [kp 1 (by decide)]; exact f1), (by rw [kp 2 (by decide)]; exact f2), (by rw [kp 3 (by decide)]; exact f3), (by rw [kp 4 (by decide)]; exact f4), (by rw [kp 5 (by decide)]; exact f5), (by rw [kp 6 (by decide)]; exact f6), (by rw [kp 7 (by decide)]; exact f7), (by rw [kp 8 (by decide)]; exact f8), (by rw [kp 9 (by decide)]; exact f9), (by rw [kp 10 (by decide), kp 13 (by decide), kp 6 (by decide), kp 9 (by decide)]; exact f10), (by rw [kp 11 (by decide)]; exact f11), (fun _ => rfl), (by rw [kp 13 (by decide)]; exact f13), (by rw [kp 14 (by decide)]; exact f14), (by rw [kp 15 (by decide)]; exact f15), (by rw [kp 15 (by decide)]; exact f16), (by rw [kp 14 (by decide), kp 6 (by decide), kp 9 (by decide), kp 13 (by decide)]; exact f17), (by rw [kp 15 (by decide), kp 14 (by decide)]; exact f18)⟩
    · simp only [List.getElem?_toArray, List.getElem?_cons_succ, List.getElem?_cons_zero, Option.some.injEq] at ho
      subst ho
      have q10 : l.getD 10 false = true := hdep ⟨10, .data⟩ (by simp) rfl
      have q12 : l.getD 12 false = true := hdep ⟨12, .data⟩ (by simp) rfl
      have q9 : l.getD 9 false = true := hdep ⟨9, .chain⟩ (by simp) rfl
      clear hdep
      obtain ⟨rfl, e2, e3, e4, n6, n9⟩ := f10 q10
      obtain rfl := f12 q12
      have hown := e4 hui
      refine wpOp_of rfl rfl ?_
      generalize hK : CpInv w x a1 a2 a3 c1 c2 c3 (l.setIfInBounds 13 true) = K
      by_cases ht0 : x.tn = 0
      · refine oper_append_zero (.tmp 13) (.tmp 15) 30 rfl 125 i0 Tryz.underlying30 I1.out g0 0 0 0 (Nat.le_refl _) rfl a3 c3 (by rw [← ht0]; rfl) ?_
        rw [← hK]
        unfold CpInv
        exact ⟨t3, t4, t5, t6, t7, t8, t9, t10, t11, t12, _, t14, _, _, t17, b1, d1, g1, A1, C1, h1, b2, d2, g2, A2, C2, h2, g0, some ⟨g0, 0, none⟩, 0, 0, rfl, hsz', hB, hz, hcap, HRB.out, (by rw [kp 0 (by decide)]; exact f0), (by rw [kp 1 (by decide)]; exact f1), (by rw [kp 2 (by decide)]; exact f2), (by rw [kp 3 (by decide)]; exact f3), (by rw [kp 4 (by decide)]; exact f4), (by rw [kp 5 (by decide)]; exact f5), (by rw [kp 6 (by decide)]; intro h; exact ⟨(f6 h).1, (f6 h).2.1, (f6 h).2.2⟩), (by rw [kp 7 (by decide)]; exact f7), (by rw [kp 8 (by decide)]; exact f8), (by rw [kp 9 (by decide)]; intro h; exact ⟨(f9 h).1, (f9 h).2.1, (f9 h).2.2⟩), (by rw [kp 10 (by decide), kp 6 (by decide), kp 9 (by decide)]; intro _; exact ⟨rfl, e2, e3, fun h => absurd (ki.symm.trans h) (by decide), n6, n9⟩), (by rw [kp 11 (by decide)]; exact f11), (by rw [kp 12 (by decide)]; exact f12), (fun _ => ⟨by rw [ht0], ⟨fun h => absurd h (by omega), fun h => absurd h (by omega)⟩, fun h => absurd h (by omega)⟩), (by rw [kp 14 (by decide)]; intro h; exact absurd (f17 h).2.2 (by rw [hui]; decide)), (by rw [kp 15 (by decide)]; intro h; exact f15 h), (by rw [kp 15 (by decide)]; intro h; exact absurd (f17 (f18 h)).2.2 (by rw [hui]; decide)), (by rw [kp 14 (by decide)]; intro h; exact absurd (f17 h).2.2 (by rw [hui]; decide)), (by rw [kp 15 (by decide), kp 14 (by decide)]; exact f18)⟩
      · obtain ⟨tb, toff, ea, htl, htb, _⟩ := STT.out.at_ 0 (by omega)
        refine oper_append_own (.tmp 13) (.tmp 15) 30 rfl (w.heap.size + 2) 125 i0 _ 5 56 Tryz.underlying30 I1.out I2.out I3.out I4.out rfl (by decide) _ 0 [] rfl hown ⟨tb, toff, none⟩ x.tn c3 (rowCells (x.tn * 5) ct) (by rw [← ea]; rfl) (by rw [rowCells_len]) (by intro j u hj; obtain ⟨h1, rfl⟩ := rowCells_get hj; obtain ⟨b', off', e', _, e3', e4'⟩ := STT.out.at_ j h1; rw [ea] at e'; cases e'; rw [show ((⟨tb, toff, none⟩ : Addr).add j) = ⟨tb, toff + j, none⟩ by simp [Addr.add], hB.cell (p := ⟨tb, toff + j, none⟩) (by show tb < _; omega)]; exact e4') (by intro v hv; obtain ⟨i, hi, rfl⟩ := List.mem_map.1 hv; exact STT.out.one i (by simpa using hi)) (by unfold maxLen; omega) (by omega) (by omega) ?_
        intro v3 w3 ho3 hg3
        simp only [Nat.zero_add, List.nil_append] at ho3
        obtain ⟨g3', d3', rfl, hgb, r3⟩ := own_shape ho3 (by omega)
        have T3 := hid r3
        have fw : FrP (fun q => q = g0) w' w3 := (FrP.of_grown hg3).mono (fun q hq => by have h : some g0 = some q := hq; injection h with h; exact h.symm)
        have z3 := fw.size
        rw [← hK]
        unfold CpInv
        exact ⟨t3, t4, t5, t6, t7, t8, t9, t10, t11, t12, _, t14, _, _, t17, b1, d1, g1, A1, C1, h1, b2, d2, g2, A2, C2, h2, g0, some ⟨g3', 0, none⟩, d3', g3', rfl, hsz', hB.trans (fw.below (fun q hq e => by omega) (by omega)), by omega, hcap, HRB.out.fr fw (by omega), (by rw [kp 0 (by decide)]; exact f0), (by rw [kp 1 (by decide)]; exact f1), (by rw [kp 2 (by decide)]; exact f2), (by rw [kp 3 (by decide)]; exact f3), (by rw [kp 4 (by decide)]; exact f4), (by rw [kp 5 (by decide)]; exact f5), (by rw [kp 6 (by decide)]; intro h; exact ⟨(f6 h).1, (f6 h).2.1.fr fw (fun k hk e => n6 h (e ▸ hk)), (f6 h).2.2⟩), (by rw [kp 7 (by decide)]; exact f7), (by rw [kp 8 (by decide)]; exact f8), (by rw [kp 9 (by decide)]; intro h; exact ⟨(f9 h).1, (f9 h).2.1.fr fw (fun k hk e => n9 h (e ▸ hk)), (f9 h).2.2⟩), (by rw [kp 10 (by decide), kp 6 (by decide), kp 9 (by decide)]; intro _; exact ⟨rfl, e2, by omega, fun h => absurd (ki.symm.trans h) (by decide), n6, n9⟩), (by rw [kp 11 (by decide)]; exact f11), (by rw [kp 12 (by decide)]; exact f12), (fun _ => ⟨rfl, ⟨fun _ => rfl, fun _ => ⟨ct, T3.out, AT.out⟩⟩, fun _ => hgb⟩), (by rw [kp 14 (by decide)]; intro h; exact absurd (f17 h).2.2 (by rw [hui]; decide)), (by rw [kp 15 (by decide)]; intro h; exact (f15 h).fr fw (by omega)), (by rw [kp 15 (by decide)]; intro h; exact absurd (f17 (f18 h)).2.2 (by rw [hui]; decide)), (by rw [kp 14 (by decide)]; intro h; exact absurd (f17 h).2.2 (by rw [hui]; decide)), (by rw [kp 15 (by decide), kp 14 (by decide)]; exact f18)⟩
    · simp only [List.getElem?_toArray, List.getElem?_cons_succ, List.getElem?_cons_zero, Option.some.injEq] at ho
      subst ho
      have q1 : l.getD 1 false = true := hdep ⟨1, .data⟩ (by simp) rfl
      have q3 : l.getD 3 false = true := hdep ⟨3, .data⟩ (by simp) rfl
      have q6 : l.getD 6 false = true := hdep ⟨6, .data⟩ (by simp) rfl
      have q9 : l.getD 9 false = true := hdep ⟨9, .data⟩ (by simp) rfl
      have q13 : l.getD 13 false = true := hdep ⟨13, .data⟩ (by simp) rfl
      clear hdep
      obtain rfl := f1 q1
      obtain rfl := f3 q3
      obtain ⟨rfl, o6, u6⟩ := f6 q6
      obtain ⟨rfl, o9, u9⟩ := f9 q9
      obtain ⟨rfl, o13, u13⟩ := f13 q13
      refine wpOp_of rfl rfl ?_
      generalize hK : CpInv w x a1 a2 a3 c1 c2 c3 (l.setIfInBounds 14 true) = K
      go_simp
      rw [← hK]
      unfold CpInv
      exact ⟨t3, _, t5, _, t7, t8, _, t10, t11, _, t13, t14, t15, _, _, b1, d1, g1, A1, C1, h1, b2, d2, g2, A2, C2, h2, g0, b3, d3, g3, rfl, hsz', hB, hz, hcap, HRB.out, (by rw [kp 0 (by decide)]; exact f0), (by rw [kp 1 (by decide)]; exact f1), (by rw [kp 2 (by decide)]; exact f2), (by rw [kp 3 (by decide)]; exact f3), (by rw [kp 4 (by decide)]; exact f4), (by rw [kp 5 (by decide)]; exact f5), (by rw [kp 6 (by decide)]; exact f6), (by rw [kp 7 (by decide)]; exact f7), (by rw [kp 8 (by decide)]; exact f8), (by rw [kp 9 (by decide)]; exact f9), (by rw [kp 10 (by decide), kp 13 (by decide), kp 6 (by decide), kp 9 (by decide)]; exact f10), (by rw [kp 11 (by decide)]; exact f11), (by rw [kp 12 (by decide)]; exact f12), (by rw [kp 13 (by decide)]; exact f13), (fun _ => rfl), (by rw [kp 15 (by decide)]; exact f15), (by rw [kp 15 (by decide)]; exact f16), (by rw [kp 6 (by decide), kp 9 (by decide), kp 13 (by decide)]; exact fun _ => ⟨q6, q9, q13⟩), (fun _ => ki)⟩
    · simp only [List.getElem?_toArray, List.getElem?_cons_succ, List.getElem?_cons_zero, Option.some.injEq] at ho
      subst ho
      have q14 : l.getD 14 false = true := hdep ⟨14, .data⟩ (by simp) rfl
      clear hdep
      obtain rfl := f14 q14
      have Q14 := hid q14
      clear q14
      have R15 := f15 hui
      obtain ⟨y0, y1, y2, y3, y4⟩ := bk_vec R15
      have yf := R15.free
      refine wpOp_of rfl rfl ?_
      generalize hK : CpInv w x a1 a2 a3 c1 c2 c3 (l.setIfInBounds 15 true) = K
      go_simp
      rw [← hK]
      have FR : FrP (fun q => q = w.heap.size + 1) w' (((((w'.setCell ⟨w.heap.size + 1, 0, none⟩ (.int .i64 x.now)).setCell ⟨w.heap.size + 1, 1, none⟩ (.int .i64 x.floor)).setCell ⟨w.heap.size + 1, 2, none⟩ (.slice b1 x.on d1)).setCell ⟨w.heap.size + 1, 3, none⟩ (.slice b2 x.hn d2)).setCell ⟨w.heap.size + 1, 4, none⟩ (.slice b3 x.tn d3)) := by
        iterate 5 refine FrP.setCell (P := fun q => q = w.heap.size + 1) ?_ (by rfl) _
        exact FrP.refl _ _
      unfold CpInv
      exact ⟨t3, t4, t5, t6, t7, t8, t9, t10, t11, t12, t13, t14, t15, t16, _, b1, d1, g1, A1, C1, h1, b2, d2, g2, A2, C2, h2, g0, b3, d3, g3, rfl, hsz', hB.trans (FR.below (fun q hq e => by omega) (by omega)), by simpa using hz, hcap, HRB.out.fr FR (by omega), (by rw [kp 0 (by decide)]; exact f0), (by rw [kp 1 (by decide)]; exact f1), (by rw [kp 2 (by decide)]; exact f2), (by rw [kp 3 (by decide)]; exact f3), (by rw [kp 4 (by decide)]; exact f4), (by rw [kp 5 (by decide)]; exact f5), (by rw [kp 6 (by decide)]; intro h; exact ⟨(f6 h).1, (f6 h).2.1.fr FR (fun k hk e => by have := (f6 h).2.2 k hk; omega), (f6 h).2.2⟩), (by rw [kp 7 (by decide)]; exact f7), (by rw [kp 8 (by decide)]; exact f8), (by rw [kp 9 (by decide)]; intro h; exact ⟨(f9 h).1, (f9 h).2.1.fr FR (fun k hk e => by have := (f9 h).2.2 k hk; omega), (f9 h).2.2⟩), (by rw [kp 10 (by decide), kp 13 (by decide), kp 6 (by decide), kp 9 (by decide)]; intro h; obtain ⟨e1, e2, e3, e4, e5, e6⟩ := f10 h; exact ⟨e1, e2, by simpa using e3, fun h13 => ownsRow_fr (e4 h13) FR (fun g hg e => by simp [Value.ownBlock] at hg; omega), e5, e6⟩), (by rw [kp 11 (by decide)]; exact f11), (by rw [kp 12 (by decide)]; exact f12), (by rw [kp 13 (by decide)]; intro h; exact ⟨(f13 h).1, (f13 h).2.1.fr FR (fun k hk e => by have := (f13 h).2.2 hk.1; have := hk.2; omega), (f13 h).2.2⟩), (by rw [kp 14 (by decide)]; exact f14), (fun h => absurd (ki.symm.trans h) (by decide)), (fun _ => row5 R15), (by rw [kp 14 (by decide), kp 6 (by decide), kp 9 (by decide), kp 13 (by decide)]; exact f17), (by rw [kp 14 (by decide)]; exact fun _ => Q14.out)⟩
end Go.Proofs.YtkecnaaacbckoaaGreat
