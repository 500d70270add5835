import Derived.Test.YtkcgfjnmkbbnoaaCd
import Derived.Deep.AppendSrc
import Derived.Maps.AppendAt
import Derived.Test.YtkcgfjnmkbbnoaaNb
namespace Go.Proofs.Ytkcgfjnmkbbnoaa
open Go.RowKit
theorem wpList_append_run {P : Program} {ops : Array Oper} {rest : List Oper} {o : Oper} {a : Act} {w : World} {Q : Exit → Act → World → Prop} (hgd : o.guard = none) (s x : Operand) (t tx : TypeId)
    (ho : o.op = .call { callee := .builtin .append, args := #[s, x], argTypes := #[t, tx] }) (v xv v2 : Value) (w2 : World) (hs : a.eval s = v) (hx : a.eval x = xv) (hr : (Builtin.append_ #[t, tx] o.type #[v, xv]).run P w = .ok v2 w2)
    (h : wpList P ops Q rest (a.put o.dst v2) w2) : wpList P ops Q (o :: rest) a w := by
  refine wpList_plain hgd fun K hK => ?_
  unfold Oper.wp execOp
  simp only [ho, resolve, invoke, builtin, Sem.run_bind, Sem.run_pure, Result.andThen_ok, List.map_toArray, List.map_cons, List.map_nil, hs, hx, hr]
  exact hK _ _ h
def catF (c : Nat → Value) (m : Nat) (d : Nat → Value) (j : Nat) : Value := if j < m then c j else d (j - m)
theorem rowCells_cat (c d : Nat → Value) (m k : Nat) : rowCells m c ++ rowCells k d = rowCells (m + k) (catF c m d) := by
  apply List.ext_getElem
  · simp [rowCells]
  · intro j h1 h2
    have hj : j < m + k := by simpa [rowCells] using h2
    rw [rowCells_at, List.getElem_append]
    unfold catF
    by_cases h : j < m
    · rw [dif_pos (by rw [rowCells_len]; exact h), rowCells_at, if_pos h]
    · rw [dif_neg (by rw [rowCells_len]; exact h), if_neg h, rowCells_at]
      simp only [rowCells_len]
theorem SrcRow.cells {P : Program} {w : World} {lo hi : Nat} {ad : Option Addr} {n z cap : Nat} {c : Nat → Value} (h : SrcRow w lo hi ad (n * z) c) (hz : 0 < z) : (Builtin.firstCells z n (.slice ad n cap)).run P w = .ok (rowCells (n * z) c).toArray w := by
  cases ad with
  | none =>
    have h0 : n = 0 := by
      rcases Nat.eq_zero_or_pos n with h0 | h0
      · exact h0
      · obtain ⟨b, off, e, _⟩ := h.at_ 0 (Nat.mul_pos h0 hz)
        cases e
    subst h0
    rw [run_firstCells_none]
    simp [rowCells]
  | some a =>
    refine run_firstCells_some w z n a n cap _ (by rw [rowCells_len]) (fun j v hv => ?_)
    obtain ⟨h1, rfl⟩ := rowCells_get hv
    obtain ⟨b, off, e, _, _, e4⟩ := h.at_ j h1
    cases e
    rw [show ((⟨b, off, none⟩ : Addr).add j) = ⟨b, off + j, none⟩ by simp [Addr.add]]
    exact e4
theorem SrcRow.drew {w : World} {lo hi : Nat} {ad : Option Addr} {m : Nat} {c : Nat → Value} (h : SrcRow w lo hi ad m c) : SrcRow w.drew lo hi ad m c := ⟨fun j hj => h.at_ j hj, h.one⟩
theorem SrcRow.src {P : Program} {w : World} {lo hi : Nat} {ad : Option Addr} {n z cap : Nat} {c : Nat → Value} (h : SrcRow w lo hi ad (n * z) c) (hz : 0 < z) {t e : TypeId} (ht : P.underlying t = some (.slice e)) : Src P z t (.slice ad n cap) n (rowCells (n * z) c) w :=
  ⟨.inl ⟨e, ht⟩, fun _ => rfl, h.cells hz, h.drew.cells hz, by rw [rowCells_len], fun u hu => by
    obtain ⟨j, hj, rfl⟩ := List.mem_map.1 hu
    exact h.one j (by simpa using hj)⟩
/-- an append that finds no room -/
theorem append_grow {P : Program} (w : World) (t ty e : TypeId) (z bytes : Nat) (zv : Value) (ht : P.underlying t = some (.slice e)) (hinf : (P.info? e).map (fun i => (i.zero, i.size, i.bytes)) = some (some zv, z, bytes)) (hz : 0 < z)
    (lo hi lo2 hi2 : Nat) (ad : Option Addr) (n cap : Nat) (c : Nat → Value) (hc : SrcRow w lo hi ad (n * z) c) (ad2 : Option Addr) (m cap2 : Nat) (d : Nat → Value) (hd : SrcRow w lo2 hi2 ad2 (m * z) d)
    (hg : cap < n + m) (h63 : ((n + m : Nat) : Int) ≤ 9223372036854775807) (hb : (n + m) * bytes ≤ 140737488355328) :
    ∃ cap' w', (Builtin.append_ #[t, t] ty #[.slice ad n cap, .slice ad2 m cap2]).run P w = .ok (.slice (some ⟨w.heap.size, 0, none⟩) (n + m) cap') w' ∧ RowF w' w.heap.size ((n + m) * z) (catF c (n * z) d) ∧ Below w.heap.size w w' ∧ n + m ≤ cap' ∧ (zv.cells.size = z → Room w' w.heap.size (cap' * z)) := by
  obtain ⟨i0, hi0, hz0, hz1, hz2⟩ := info_parts hinf
  have hrun := run_append_grow_src (P := P) w t t ty e i0 zv ht hi0 hz0 ad n cap (rowCells (n * z) c) (by rw [hz1]; exact hc.drew.cells hz) (.slice ad2 m cap2) m (rowCells (m * z) d) (by rw [hz1]; exact hd.src hz ht) hg h63 (growslice_fits hg (by rw [hz2]; exact hb))
  rw [rowCells_cat] at hrun
  have hcg := grownCap_ge w (n + m) cap e
  refine ⟨_, _, hrun, ⟨?_, fun j => ?_, fun j hj => ?_⟩, ((Below.refl _ _).drew).alloc (Nat.le_refl _) _, hcg, fun hzs => ⟨fun j hj => ?_, fun j => ?_, ?_⟩⟩
  · rw [World.size_alloc]; exact Nat.lt_succ_self _
  · have := World.frozen?_alloc_mark w.drew ((rowCells (n * z + m * z) (catF c (n * z) d)).toArray ++ Builtin.zeroCells zv.cells (grownCap w (n + m) cap e - (n + m))) e 0 0 j
    rw [show w.drew.heap.size = w.heap.size from rfl] at this
    simpa using this
  · have := World.cell?_alloc_new w.drew ((rowCells (n * z + m * z) (catF c (n * z) d)).toArray ++ Builtin.zeroCells zv.cells (grownCap w (n + m) cap e - (n + m))) e j
    rw [show w.drew.heap.size = w.heap.size from rfl] at this
    have hj' : j < n * z + m * z := by rw [Nat.add_mul] at hj; exact hj
    rw [this, Array.getElem?_append_left (by simp [rowCells_len, hj']), List.getElem?_toArray, List.getElem?_eq_getElem (by rw [rowCells_len]; exact hj'), rowCells_at]
  · have := World.cell?_alloc_new w.drew ((rowCells (n * z + m * z) (catF c (n * z) d)).toArray ++ Builtin.zeroCells zv.cells (grownCap w (n + m) cap e - (n + m))) e j
    rw [show w.drew.heap.size = w.heap.size from rfl] at this
    have hs : ((rowCells (n * z + m * z) (catF c (n * z) d)).toArray ++ Builtin.zeroCells zv.cells (grownCap w (n + m) cap e - (n + m))).size = grownCap w (n + m) cap e * z := by
      rw [Array.size_append, size_zeroCells, hzs, List.size_toArray, rowCells_len, ← Nat.add_mul, ← Nat.add_mul]
      congr 1
      omega
    rw [this, Array.getElem?_eq_getElem (by omega)]
    exact ⟨_, rfl⟩
  · have := World.frozen?_alloc_mark w.drew ((rowCells (n * z + m * z) (catF c (n * z) d)).toArray ++ Builtin.zeroCells zv.cells (grownCap w (n + m) cap e - (n + m))) e 0 0 j
    rw [show w.drew.heap.size = w.heap.size from rfl] at this
    simpa using this
  · rw [World.size_alloc]; exact Nat.lt_succ_self _
theorem StrsIn.take {w : World} {lo hi : Nat} {ad : Option Addr} {n m : Nat} {s : Nat → ByteArray} (h : StrsIn w lo hi ad n s) (hm : m ≤ n) : StrsIn w lo hi ad m s := fun i hi' => h i (by omega)
theorem SlsIn.take {w : World} {lo hi : Nat} {ad : Option Addr} {n m : Nat} {x : Nat → Sl} (h : SlsIn w lo hi ad n x) (hm : m ≤ n) : SlsIn w lo hi ad m x := fun i hi' => h i (by omega)
theorem RowF.congr {w : World} {g m : Nat} {c d : Nat → Value} (h : RowF w g m c) (e : ∀ j, j < m → c j = d j) : RowF w g m d := ⟨h.lt, h.free, fun j hj => (h.cell j hj).trans (congrArg some (e j hj))⟩
end Go.Proofs.Ytkcgfjnmkbbnoaa
