import Derived.Test.YtjepponnhieocaaCd
import Derived.Test.YtjepponnhieocaaU
import Derived.Deep.AppendSrc
import Derived.Maps.AppendAt
import Derived.Test.YtjepponnhieocaaWz
import Derived.Test.YtjepponnhieocaaNb
namespace Go.Proofs.Ytjepponnhieocaa
open Go.RowKit
theorem wpList_append_run {P : Program} {ops : Array Oper} {rest : List Oper} {o : Oper} {a : Act} {w : World} {Q : Exit → Act → World → Prop} (hgd : o.guard = none) (s x : Operand) (t tx : TypeId)
    (ho : o.op = .call { callee := .builtin .append, args := #[s, x], argTypes := #[t, tx] }) (v xv v2 : Value) (w2 : World) (hs : a.eval s = v) (hx : a.eval x = xv) (hr : (Builtin.append_ #[t, tx] o.type #[v, xv]).run P w = .ok v2 w2)
    (h : wpList P ops Q rest (a.put o.dst v2) w2) : wpList P ops Q (o :: rest) a w := by
  refine wpList_plain hgd fun K hK => ?_
  unfold Oper.wp execOp
  simp only [ho, resolve, invoke, builtin, Sem.run_bind, Sem.run_pure, Result.andThen_ok, List.map_toArray, List.map_cons, List.map_nil, hs, hx, hr]
  exact hK _ _ h
def catF (c : Nat → Value) (m : Nat) (d : Nat → Value) (j : Nat) : Value := if j < m then c j else d (j - m)
theorem rowCells_cat (c d : Nat → Value) (m k : Nat) : rowCells m c ++ rowCells k d = rowCells (m + k) (catF c m d) := by
  apply List.ext_getElem
  · simp [rowCells]
  · intro j h1 h2
    have hj : j < m + k := by simpa [rowCells] using h2
    rw [rowCells_at, List.getElem_append]
    unfold catF
    by_cases h : j < m
    · rw [dif_pos (by rw [rowCells_len]; exact h), rowCells_at, if_pos h]
    · rw [dif_neg (by rw [rowCells_len]; exact h), if_neg h, rowCells_at]
      simp only [rowCells_len]
theorem SrcRow.cells {P : Program} {w : World} {lo hi : Nat} {ad : Option Addr} {n z cap : Nat} {c : Nat → Value} (h : SrcRow w lo hi ad (n * z) c) (hz : 0 < z) : (Builtin.firstCells z n (.slice ad n cap)).run P w = .ok (rowCells (n * z) c).toArray w := by
  cases ad with
  | none =>
    have h0 : n = 0 := by
      rcases Nat.eq_zero_or_pos n with h0 | h0
      · exact h0
      · obtain ⟨b, off, e, _⟩ := h.at_ 0 (Nat.mul_pos h0 hz)
        cases e
    subst h0
    rw [run_firstCells_none]
    simp [rowCells]
  | some a =>
    refine run_firstCells_some w z n a n cap _ (by rw [rowCells_len]) (fun j v hv => ?_)
    obtain ⟨h1, rfl⟩ := rowCells_get hv
    obtain ⟨b, off, e, _, _, e4⟩ := h.at_ j h1
    cases e
    rw [show ((⟨b, off, none⟩ : Addr).add j) = ⟨b, off + j, none⟩ by simp [Addr.add]]
    exact e4
theorem SrcRow.drew {w : World} {lo hi : Nat} {ad : Option Addr} {m : Nat} {c : Nat → Value} (h : SrcRow w lo hi ad m c) : SrcRow w.drew lo hi ad m c := ⟨fun j hj => h.at_ j hj, h.one⟩
theorem SrcRow.src {P : Program} {w : World} {lo hi : Nat} {ad : Option Addr} {n z cap : Nat} {c : Nat → Value} (h : SrcRow w lo hi ad (n * z) c) (hz : 0 < z) {t e : TypeId} (ht : P.underlying t = some (.slice e)) : Src P z t (.slice ad n cap) n (rowCells (n * z) c) w :=
  ⟨.inl ⟨e, ht⟩, fun _ => rfl, h.cells hz, h.drew.cells hz, by rw [rowCells_len], fun u hu => by
    obtain ⟨j, hj, rfl⟩ := List.mem_map.1 hu
    exact h.one j (by simpa using hj)⟩
/-- an append that finds no room -/
theorem append_grow {P : Program} (w : World) (t ty e : TypeId) (z bytes : Nat) (zv : Value) (ht : P.underlying t = some (.slice e)) (hinf : (P.info? e).map (fun i => (i.zero, i.size, i.bytes)) = some (some zv, z, bytes)) (hz : 0 < z)
    (lo hi lo2 hi2 : Nat) (ad : Option Addr) (n cap : Nat) (c : Nat → Value) (hc : SrcRow w lo hi ad (n * z) c) (ad2 : Option Addr) (m cap2 : Nat) (d : Nat → Value) (hd : SrcRow w lo2 hi2 ad2 (m * z) d)
    (hg : cap < n + m) (h63 : ((n + m : Nat) : Int) ≤ 9223372036854775807) (hb : (n + m) * bytes ≤ 140737488355328) :
    ∃ cap' w', (Builtin.append_ #[t, t] ty #[.slice ad n cap, .slice ad2 m cap2]).run P w = .ok (.slice (some ⟨w.heap.size, 0, none⟩) (n + m) cap') w' ∧ RowF w' w.heap.size ((n + m) * z) (catF c (n * z) d) ∧ Below w.heap.size w w' ∧ n + m ≤ cap' ∧ (zv.cells.size = z → Room w' w.heap.size (cap' * z)) := by
  obtain ⟨i0, hi0, hz0, hz1, hz2⟩ := info_parts hinf
  have hrun := run_append_grow_src (P := P) w t t ty e i0 zv ht hi0 hz0 ad n cap (rowCells (n * z) c) (by rw [hz1]; exact hc.drew.cells hz) (.slice ad2 m cap2) m (rowCells (m * z) d) (by rw [hz1]; exact hd.src hz ht) hg h63 (growslice_fits hg (by rw [hz2]; exact hb))
  rw [rowCells_cat] at hrun
  have hcg := grownCap_ge w (n + m) cap e
  refine ⟨_, _, hrun, ⟨?_, fun j => ?_, fun j hj => ?_⟩, ((Below.refl _ _).drew).alloc (Nat.le_refl _) _, hcg, fun hzs => ⟨fun j hj => ?_, fun j => ?_, ?_⟩⟩
  · rw [World.size_alloc]; exact Nat.lt_succ_self _
  · have := World.frozen?_alloc_mark w.drew ((rowCells (n * z + m * z) (catF c (n * z) d)).toArray ++ Builtin.zeroCells zv.cells (grownCap w (n + m) cap e - (n + m))) e 0 0 j
    rw [show w.drew.heap.size = w.heap.size from rfl] at this
    simpa using this
  · have := World.cell?_alloc_new w.drew ((rowCells (n * z + m * z) (catF c (n * z) d)).toArray ++ Builtin.zeroCells zv.cells (grownCap w (n + m) cap e - (n + m))) e j
    rw [show w.drew.heap.size = w.heap.size from rfl] at this
    have hj' : j < n * z + m * z := by rw [Nat.add_mul] at hj; exact hj
    rw [this, Array.getElem?_append_left (by simp [rowCells_len, hj']), List.getElem?_toArray, List.getElem?_eq_getElem (by rw [rowCells_len]; exact hj'), rowCells_at]
  · have := World.cell?_alloc_new w.drew ((rowCells (n * z + m * z) (catF c (n * z) d)).toArray ++ Builtin.zeroCells zv.cells (grownCap w (n + m) cap e - (n + m))) e j
    rw [show w.drew.heap.size = w.heap.size from rfl] at this
    have hs : ((rowCells (n * z + m * z) (catF c (n * z) d)).toArray ++ Builtin.zeroCells zv.cells (grownCap w (n + m) cap e - (n + m))).size = grownCap w (n + m) cap e * z := by
      rw [Array.size_append, size_zeroCells, hzs, List.size_toArray, rowCells_len, ← Nat.add_mul, ← Nat.add_mul]
      congr 1
      omega
    rw [this, Array.getElem?_eq_getElem (by omega)]
    exact ⟨_, rfl⟩
  · have := World.frozen?_alloc_mark w.drew ((rowCells (n * z + m * z) (catF c (n * z) d)).toArray ++ Builtin.zeroCells zv.cells (grownCap w (n + m) cap e - (n + m))) e 0 0 j
    rw [show w.drew.heap.size = w.heap.size from rfl] at this
    simpa using this
  · rw [World.size_alloc]; exact Nat.lt_succ_self _
theorem StrsIn.take {w : World} {lo hi : Nat} {ad : Option Addr} {n m : Nat} {s : Nat → ByteArray} (h : StrsIn w lo hi ad n s) (hm : m ≤ n) : StrsIn w lo hi ad m s := fun i hi' => h i (by omega)
theorem SlsIn.take {w : World} {lo hi : Nat} {ad : Option Addr} {n m : Nat} {x : Nat → Sl} (h : SlsIn w lo hi ad n x) (hm : m ≤ n) : SlsIn w lo hi ad m x := fun i hi' => h i (by omega)
theorem beq_dec (a b : ByteArray) : (a.toList == b.toList) = decide (a = b) := by
  by_cases h : a = b
  · subst h; simp
  · rw [beq_ne h]; simp [h]
set_option maxRecDepth 100000 in
set_option maxHeartbeats 4000000 in
theorem known_any (d : Dk) (ad : Option Addr) (cap : Nat) (w : World) (h0 : 0 ≤ d.kn) (h1 : d.kn ≤ d.n) (hcap : d.n ≤ cap) (hsome : ∃ g, ad = some ⟨g, 0, none⟩ ∨ (ad = none ∧ d.n = 0 ∧ cap = 0)) :
    Calls Try.prog 103 #[dkV d ad cap] w fun e w' => ∃ cap', e = .returned (.slice ad d.kn.toNat cap') ∧ Below w.heap.size w w' := by
  obtain ⟨k, hk⟩ : ∃ k : Nat, d.kn = k := ⟨d.kn.toNat, by omega⟩
  rw [hk]
  rw [hk] at h0 h1
  have hkk : k ≤ d.n := by omega
  obtain ⟨g, rfl | ⟨rfl, hn0, rfl⟩⟩ := hsome
  · go_enter Try.func103, Try.ntmps103
    go_wp2
    go_ret
    exact ⟨_, by first | rfl | simp, below_alloc _ _⟩
  · obtain rfl : k = 0 := by omega
    go_enter Try.func103, Try.ntmps103
    go_wp2
    go_ret
    exact ⟨_, by first | rfl | simp, below_alloc _ _⟩
end Go.Proofs.Ytjepponnhieocaa
namespace Go.Proofs.Ytjepponnhieocaa
open Go.RowKit
theorem RowF.congr {w : World} {g m : Nat} {c d : Nat → Value} (h : RowF w g m c) (e : ∀ j, j < m → c j = d j) : RowF w g m d := ⟨h.lt, h.free, fun j hj => (h.cell j hj).trans (congrArg some (e j hj))⟩
theorem one_src (w : World) (a : ByteArray) : SrcRow (w.alloc (.cells #[.string a] 9)) w.heap.size (w.heap.size + 1) (some ⟨w.heap.size, 0, none⟩) (1 * 1) (fun _ => .string a) :=
  ⟨fun j hj => ⟨w.heap.size, 0, rfl, Nat.le_refl _, Nat.lt_succ_self _, by
    obtain rfl : j = 0 := by omega
    exact holds_new w #[.string a] 9 0⟩, fun _ _ => rfl⟩
/-- whether a text becomes a wish -/
def wishOk (r : Rc) (a : ByteArray) : Bool := inB a.size 1 100 && (decide ((r.wn : Int) < 20) && (!hasB r.wn r.ws a && !hasB r.dk.kn.toNat (fun i => (r.dk.s i).text) a))
/-- a recorder with one more wish -/
abbrev wishY (r : Rc) (a : ByteArray) : Rc := { r with wn := r.wn + 1, ws := updF r.ws r.wn a }
def wishR (r : Rc) (a : ByteArray) : Rc := if wishOk r a then wishY r a else r
abbrev wishP (p : RcP) (g c : Nat) : RcP := { p with A := { p.A with wa := some ⟨g, 0, none⟩, wc := c }, g3 := g }
theorem SlsAt.isIn {w : World} {ad : Option Addr} {g n : Nat} {x : Nat → Sl} (h : SlsAt w ad g n x) {lo hi : Nat} (hlo : n ≠ 0 → lo ≤ g ∧ g < hi) : SlsIn w lo hi ad n x := fun i hi' => by
  obtain ⟨c, r, a⟩ := h.row (by omega)
  obtain ⟨a0, a1⟩ := a i hi'
  have := hlo (by omega)
  exact ⟨g, 0, h.addr (by omega), this.1, this.2, ⟨by rw [Nat.zero_add]; exact (r.cell _ (by omega)).trans (congrArg some a0), by rw [Nat.zero_add]; exact (r.cell _ (by omega)).trans (congrArg some a1)⟩⟩
theorem StrsOwn.in0 {w : World} {b : Nat} {ad : Option Addr} {n : Nat} {s : Nat → ByteArray} (h : StrsOwn w b (b + 1) ad n s) {lo hi : Nat} (hlo : n ≠ 0 → lo ≤ b ∧ b < hi) : StrsIn w lo hi ad n s := fun i hi' => by
  obtain ⟨q, off, e1, e2, e3, e4, _⟩ := h i hi'
  have := hlo (by omega)
  exact ⟨q, off, e1, by omega, by omega, e4⟩
theorem IntsOwn.in0 {w : World} {b : Nat} {ad : Option Addr} {n : Nat} {s : Nat → Int} (h : IntsOwn w b (b + 1) ad n s) {lo hi : Nat} (hlo : n ≠ 0 → lo ≤ b ∧ b < hi) : IntsIn w lo hi ad n s := fun i hi' => by
  obtain ⟨q, off, e1, e2, e3, e4, _⟩ := h i hi'
  have := hlo (by omega)
  exact ⟨q, off, e1, by omega, by omega, e4⟩
theorem MssAt.isIn {w : World} {ad : Option Addr} {g n : Nat} {x : Nat → Ms} {A : Nat → Option Addr} {C hb : Nat → Nat} (h : MssAt w ad g n x A C hb) {lo hi : Nat} (hlo : ∀ k, blkH g n (fun i => (x i).n) hb k → lo ≤ k ∧ k < hi) : MssIn w lo hi ad n x := fun i hi' => by
  obtain ⟨c, r, a⟩ := h.row (by omega)
  obtain ⟨a0, a1, a2, a3, a4, a5, a6, a7⟩ := a i hi'
  have := hlo g (Or.inl ⟨by omega, rfl⟩)
  exact ⟨g, 0, A i, C i, h.addr (by omega), this.1, this.2, by rw [Nat.zero_add]; exact ⟨(r.cell _ (by omega)).trans (congrArg some a0), (r.cell _ (by omega)).trans (congrArg some a1), (r.cell _ (by omega)).trans (congrArg some a2), (r.cell _ (by omega)).trans (congrArg some a3), (r.cell _ (by omega)).trans (congrArg some a4), (r.cell _ (by omega)).trans (congrArg some a5), (r.cell _ (by omega)).trans (congrArg some a6), (r.cell _ (by omega)).trans (congrArg some a7)⟩, (h.hold i hi').isIn (fun h0 => hlo _ (Or.inr ⟨i, hi', h0, rfl⟩))⟩
theorem AksAt.isIn {w : World} {ad : Option Addr} {g n : Nat} {x : Nat → Ak} {A : Nat → Option Addr} {C hb : Nat → Nat} (h : AksAt w ad g n x A C hb) {lo hi : Nat} (hlo : ∀ k, blkH g n (fun i => (x i).n) hb k → lo ≤ k ∧ k < hi) : AksIn w lo hi ad n x := fun i hi' => by
  obtain ⟨c, r, a⟩ := h.row (by omega)
  obtain ⟨a0, a1⟩ := a i hi'
  have := hlo g (Or.inl ⟨by omega, rfl⟩)
  exact ⟨g, 0, A i, C i, h.addr (by omega), this.1, this.2, by rw [Nat.zero_add]; exact ⟨(r.cell _ (by omega)).trans (congrArg some a0), (r.cell _ (by omega)).trans (congrArg some a1)⟩, (h.hold i hi').in0 (fun h0 => hlo _ (Or.inr ⟨i, hi', h0, rfl⟩))⟩
theorem RcAt.isIn {w : World} {r : Rc} {p : RcP} (h : RcAt w r p) {lo hi : Nat} (hlo : ∀ k, rbs p r k → lo ≤ k ∧ k < hi) : RcIn w lo hi r p.A :=
  ⟨h.o0.isIn (fun h0 => hlo _ ⟨0, by omega, h0, rfl⟩), h.o1.isIn (fun h0 => hlo _ ⟨1, by omega, h0, rfl⟩), h.o2.isIn (fun k hk => hlo _ ⟨2, by omega, hk⟩), h.o3.in0 (fun h0 => hlo _ ⟨3, by omega, h0, rfl⟩), h.o4.in0 (fun h0 => hlo _ ⟨4, by omega, h0, rfl⟩), h.o5.isIn (fun h0 => hlo _ ⟨5, by omega, h0, rfl⟩), h.o6.isIn (fun k hk => hlo _ ⟨6, by omega, hk⟩)⟩
theorem rb_wish (p : RcP) (r : Rc) (a : ByteArray) (g c j k : Nat) (hj : ¬ j = 3) : rb (wishP p g c) (wishY r a) j k ↔ rb p r j k := by
  unfold rb
  split <;> first | exact Iff.rfl | exact absurd rfl hj
theorem RcAt.wish {w w' : World} {r : Rc} {p : RcP} {P : Nat → Prop} (h : RcAt w r p) (hf : FrP P w w') (hp : ∀ k, rbs p r k → ¬ P k) {g c : Nat} (a : ByteArray) (hg : w.heap.size ≤ g) (hl : g < w'.heap.size) (o : StrsOwn w' g (g + 1) (some ⟨g, 0, none⟩) (r.wn + 1) (updF r.ws r.wn a)) : RcAt w' (wishY r a) (wishP p g c) := by
  have h' := h.fr hf hp
  refine ⟨h'.o0, h'.o1, h'.o2, o, h'.o4, h'.o5, h'.o6, fun k hk => ?_, fun i j k hi hj h1 h2 => ?_⟩
  · obtain ⟨j, hj, hk⟩ := hk
    by_cases e : j = 3
    · subst e; have : k = g := hk.2; omega
    · exact h'.lt k ⟨j, hj, (rb_wish p r a g c j k e).1 hk⟩
  · by_cases e : i = 3
    · by_cases e2 : j = 3
      · omega
      · subst e
        have e3 : k = g := h1.2
        have := h.lt k ⟨j, hj, (rb_wish p r a g c j k e2).1 h2⟩
        omega
    · by_cases e2 : j = 3
      · subst e2
        have e3 : k = g := h2.2
        have := h.lt k ⟨i, hi, (rb_wish p r a g c i k e).1 h1⟩
        omega
      · exact h'.ap i j k hi hj ((rb_wish p r a g c i k e).1 h1) ((rb_wish p r a g c j k e2).1 h2)
end Go.Proofs.Ytjepponnhieocaa
