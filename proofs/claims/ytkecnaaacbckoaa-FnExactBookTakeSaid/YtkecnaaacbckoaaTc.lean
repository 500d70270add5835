import Derived.Test.YtkecnaaacbckoaaTb
import Derived.Lib.SliceRun
namespace Go.Proofs.Ytkecnaaacbckoaa
open Go.RowKit Go.Maps
theorem zeroCells_len (z : Array Value) (n : Nat) : (Builtin.zeroCells z n).toList.length = n * z.size := by simp [Builtin.zeroCells]
theorem run_clear_many {P : Program} (w : World) (t e ty : TypeId) (z : Value) (ht : P.underlying t = some (.slice e)) (hv : ∀ w, (zeroValue e).run P w = .ok z w) (h1 : ∀ v ∈ z.cells.toList, v.oneCell' = true) (b o n c : Nat) (hn : 0 < n)
    (hc : ∀ j, j < n * z.cells.size → (w.cell? ⟨b, o + j, none⟩).isSome = true) (hf : ∀ j, j < n * z.cells.size → w.frozen? ⟨b, o + j, none⟩ = false) :
    (Builtin.clear_ #[t] ty #[.slice (some ⟨b, o, none⟩) n c]).run P w = .ok (.tuple #[]) (w.setCells b o (Builtin.zeroCells z.cells n).toList) := by
  have hst := run_storeCells_cells (P := P) b o (Builtin.zeroCells z.cells n).toList 0 w (by rw [zeroCells_len]; simpa using hc) (by rw [zeroCells_len]; simpa using hf) (by
    intro v hv'
    have hv2 : v ∈ Builtin.zeroCells z.cells n := by simpa using hv'
    unfold Builtin.zeroCells at hv2
    obtain ⟨i, hi, rfl⟩ := Array.mem_map.1 hv2
    have hi2 : i < n * z.cells.size := by simpa using hi
    have hz : 0 < z.cells.size := by
      rcases Nat.eq_zero_or_pos z.cells.size with h | h
      · rw [h] at hi2; omega
      · exact h
    have hm : i % z.cells.size < z.cells.size := Nat.mod_lt _ hz
    rw [getElem!_pos z.cells _ hm]
    exact h1 _ (by simp))
  simp only [Nat.add_zero] at hst
  obtain ⟨m, rfl⟩ : ∃ m, n = m + 1 := ⟨n - 1, by omega⟩
  simp [Builtin.clear_, run_underlying ht, hv, hst]
theorem FrP.setCells {P : Nat → Prop} {b : Nat} (hp : P b) : ∀ (vs : List Value) (o : Nat) (a w : World), FrP P a w → FrP P a (w.setCells b o vs)
  | [], _, _, _, h => h
  | v :: r, o, a, _w, h => FrP.setCells hp r (o + 1) a _ (h.setCell (p := ⟨b, o, none⟩) hp v)
theorem size_setCells' (b : Nat) : ∀ (vs : List Value) (o : Nat) (w : World), (w.setCells b o vs).heap.size = w.heap.size
  | [], _, _ => rfl
  | v :: r, o, w => (size_setCells' b r (o + 1) (w.setCell ⟨b, o, none⟩ v)).trans (World.size_setCell _ _ _)
def encE (e : EO) : List Value := [.string e.ob.kind, .string e.ob.name, .int .i64 e.ob.ver, .int .i64 e.ob.born, .string e.ob.text, .bool e.ob.ending, .slice e.A e.ob.hn e.C]
theorem ixE_set_ne {K : List EO} {i t : Nat} {e : EO} (h : ¬ t = i) : ixE (K.set i e) t = ixE K t := by
  unfold ixE
  rw [List.getElem?_set_ne (fun q => h q.symm)]
theorem ixE_set {K : List EO} {i : Nat} {e : EO} (h : i < K.length) : ixE (K.set i e) i = e := by simp [ixE, h]
theorem RowE.set {w : World} {g : Nat} {K : List EO} (h : RowE w g K) {i : Nat} (hi : i < K.length) (e : EO) : RowE (w.setCells g (i * 7) (encE e)) g (K.set i e) := by
  refine ⟨by rw [size_setCells']; exact h.lt, fun j => by rw [World.frozen?_setCells]; exact h.free j, fun t ht => ?_⟩
  rw [List.length_set] at ht
  by_cases hti : t = i
  · subst hti
    rw [ixE_set hi]
    have hin := World.cell?_setCells_in g (encE e) (t * 7) w (fun j hj => by
      have hj2 : j < 7 := hj
      obtain ⟨v, hv⟩ := h.cellAt (j := t * 7 + j) (by omega)
      rw [hv]; rfl)
    exact ⟨hin 0 (by simp [encE]), hin 1 (by simp [encE]), hin 2 (by simp [encE]), hin 3 (by simp [encE]), hin 4 (by simp [encE]), hin 5 (by simp [encE]), hin 6 (by simp [encE])⟩
  · rw [ixE_set_ne hti]
    have hout : ∀ k, k < 7 → (w.setCells g (i * 7) (encE e)).cell? ⟨g, t * 7 + k, none⟩ = w.cell? ⟨g, t * 7 + k, none⟩ := fun k hk => World.cell?_setCells_out g (encE e) (i * 7) w ⟨g, t * 7 + k, none⟩ (fun _ _ => by
      show t * 7 + k < i * 7 ∨ i * 7 + 7 ≤ t * 7 + k
      omega)
    obtain ⟨c0, c1, c2, c3, c4, c5, c6⟩ := h.ob t ht
    exact ⟨(hout 0 (by decide)).trans c0, (hout 1 (by decide)).trans c1, (hout 2 (by decide)).trans c2, (hout 3 (by decide)).trans c3, (hout 4 (by decide)).trans c4, (hout 5 (by decide)).trans c5, (hout 6 (by decide)).trans c6⟩
/-- the first few of a row, whatever is behind them -/
theorem RowE.cut {w : World} {g : Nat} {K M : List EO} (h : RowE w g K) {o : Nat} (vs : List Value) (hm : M.length ≤ K.length) (he : ∀ t, t < M.length → ixE M t = ixE K t) (ho : M.length * 7 ≤ o) : RowE (w.setCells g o vs) g M := by
  refine ⟨by rw [size_setCells']; exact h.lt, fun j => by rw [World.frozen?_setCells]; exact h.free j, fun t ht => ?_⟩
  rw [he t ht]
  have hout : ∀ k, k < 7 → (w.setCells g o vs).cell? ⟨g, t * 7 + k, none⟩ = w.cell? ⟨g, t * 7 + k, none⟩ := fun k hk => World.cell?_setCells_out g vs o w ⟨g, t * 7 + k, none⟩ (fun _ _ => by
    left
    show t * 7 + k < o
    omega)
  obtain ⟨c0, c1, c2, c3, c4, c5, c6⟩ := h.ob t (by omega)
  exact ⟨(hout 0 (by decide)).trans c0, (hout 1 (by decide)).trans c1, (hout 2 (by decide)).trans c2, (hout 3 (by decide)).trans c3, (hout 4 (by decide)).trans c4, (hout 5 (by decide)).trans c5, (hout 6 (by decide)).trans c6⟩
/-- the row on the way: what was kept of the first j, and what is to come -/
structure DelI (kp : EO → Bool) (L K : List EO) (i j : Nat) : Prop where
  len : K.length = L.length
  lt : i < j
  jn : j ≤ L.length
  cnt : ((L.take j).filter kp).length = i
  low : ∀ t, t < i → ixE K t = ixE ((L.take j).filter kp) t
  high : ∀ t, j ≤ t → ixE K t = ixE L t
theorem take_succ_ix {L : List EO} {j : Nat} (h : j < L.length) : L.take (j + 1) = L.take j ++ [ixE L j] := by
  rw [ixE_lt h]
  exact (List.take_append_getElem h).symm
theorem DelI.skip {kp : EO → Bool} {L K : List EO} {i j : Nat} (h : DelI kp L K i j) (hj : j < L.length) (hk : kp (ixE L j) = false) : DelI kp L K i (j + 1) := by
  have e : (L.take (j + 1)).filter kp = (L.take j).filter kp := by rw [take_succ_ix hj, List.filter_append]; simp [hk]
  exact ⟨h.len, by have := h.lt; omega, hj, by rw [e]; exact h.cnt, fun t ht => by rw [e]; exact h.low t ht, fun t ht => h.high t (by omega)⟩
theorem DelI.keep {kp : EO → Bool} {L K : List EO} {i j : Nat} (h : DelI kp L K i j) (hj : j < L.length) (hk : kp (ixE L j) = true) : DelI kp L (K.set i (ixE L j)) (i + 1) (j + 1) := by
  have e : (L.take (j + 1)).filter kp = (L.take j).filter kp ++ [ixE L j] := by rw [take_succ_ix hj, List.filter_append]; simp [hk]
  have hij := h.lt
  refine ⟨by rw [List.length_set]; exact h.len, by omega, hj, by rw [e, List.length_append, h.cnt]; rfl, fun t ht => ?_, fun t ht => ?_⟩
  · rw [e]
    by_cases hti : t = i
    · subst hti
      rw [ixE_set (by rw [h.len]; omega)]
      have := ixE_right (K := (L.take j).filter kp) (L := [ixE L j]) (i := 0)
      rw [h.cnt] at this
      rw [Nat.add_zero] at this
      rw [this]
      rfl
    · rw [ixE_set_ne hti, ixE_left (by rw [h.cnt]; omega)]
      exact h.low t (by omega)
  · rw [ixE_set_ne (by omega)]
    exact h.high t (by omega)
theorem filter_take_all {kp : EO → Bool} {L : List EO} : ∀ {k : Nat}, k ≤ L.length → (∀ t, t < k → kp (ixE L t) = true) → (L.take k).filter kp = L.take k := fun {k} hk h => by
  apply List.filter_eq_self.2
  intro a ha
  obtain ⟨i, hi, rfl⟩ := List.mem_iff_getElem.1 ha
  have hi2 : i < k := by simp at hi; omega
  have := h i hi2
  rw [ixE_lt (by omega)] at this
  simpa using this
theorem DelI.start {kp : EO → Bool} {L : List EO} {k : Nat} (hk : k < L.length) (h0 : kp (ixE L k) = false) (h1 : ∀ t, t < k → kp (ixE L t) = true) : DelI kp L L k (k + 1) := by
  have e : (L.take (k + 1)).filter kp = L.take k := by rw [take_succ_ix hk, List.filter_append, filter_take_all (by omega) h1]; simp [h0]
  refine ⟨rfl, by omega, hk, by rw [e]; simp; omega, fun t ht => ?_, fun t _ => rfl⟩
  rw [e]
  simp [ixE, ht]
def DelR (o : Ob) (L : List EO) (g : Nat) (w : World) (s5 s6 : Value) (wr : World) : Prop := ∃ (i j : Nat) (K : List EO), s5 = .int .i64 i ∧ s6 = .int .i64 j ∧ DelI (fun e => otherK o e.ob) L K i j ∧ RowE wr g K ∧ FrP (fun q => q = g) w wr
theorem Try.zero50' : ∀ w, (zeroValue 50).run Try.prog w = .ok (.agg #[.string ByteArray.empty, .string ByteArray.empty, .int .i64 0, .int .i64 0, .string ByteArray.empty, .bool false, .slice none 0 0]) w := fun w => by kernel_rfl
set_option maxRecDepth 100000 in
set_option maxHeartbeats 2000000 in
theorem delete_any (o : Ob) (bk : Nat) (ad : Option Addr) (g cap : Nat) (L : List EO) (w : World) (hl : (L.length : Int) ≤ 1099511627776) (hcap : L.length ≤ cap) (had : L ≠ [] → ad = some ⟨g, 0, none⟩) (hr : L ≠ [] → RowE w g L) (hbk : bk < w.heap.size) (hgk : ¬ bk = g)
    (k0 : w.cell? ⟨bk, 0, none⟩ = some (.string o.kind)) (k1 : w.cell? ⟨bk, 1, none⟩ = some (.string o.name)) :
    Calls Try.prog 72 #[.slice ad L.length cap, .func (.func 73) #[] #[.pointer (some ⟨bk, 0, none⟩)]] w fun e w' => e = .returned (.slice ad (L.filter (fun e => otherK o e.ob)).length cap) ∧ (L ≠ [] → RowE w' g (L.filter (fun e => otherK o e.ob))) ∧ FrP (fun q => L ≠ [] ∧ q = g) w w' := by
  have hidx := index73_any (fun e => !otherK o e.ob) bk ad g cap L w hl had hr (fun W e hb => sameKey_any e.ob o e.A e.C bk W (Nat.lt_of_lt_of_le hbk hb.size) ((hb.cell (p := ⟨bk, 0, none⟩) hbk).trans k0) ((hb.cell (p := ⟨bk, 1, none⟩) hbk).trans k1))
  have HK : Hid (∀ W, FrP (fun q => q = g) w W → bk < W.heap.size ∧ W.cell? ⟨bk, 0, none⟩ = some (.string o.kind) ∧ W.cell? ⟨bk, 1, none⟩ = some (.string o.name)) := fun W hf => ⟨Nat.lt_of_lt_of_le hbk hf.size, (hf.cell (p := ⟨bk, 0, none⟩) hbk hgk).trans k0, (hf.cell (p := ⟨bk, 1, none⟩) hbk hgk).trans k1⟩
  have HR := hid hr
  have HA := hid had
  clear hr had k0 k1
  go_enter Try.func72, Try.ntmps72
  go_wp2_with fail
  refine hidx.mono ?_
  rintro e w1 ⟨r, rfl, hfst, hb1⟩
  clear hidx
  rcases hfst with ⟨rfl, hall⟩ | ⟨k, hk, rfl, hkt, hkn⟩
  · have hfil : L.filter (fun e => otherK o e.ob) = L := List.filter_eq_self.2 (fun e he => by
      obtain ⟨i, hi, rfl⟩ := mem_ixE he
      have := hall i hi
      simpa using this)
    have HB := hid hb1
    have HL := hid hfil
    clear hall hb1 hfil
    go_wp2
    go_ret
    rw [HL.out]
    exact ⟨rfl, fun h => (HR.out h).grow HB.out, FrP.of_below HB.out⟩
  · have hne : L ≠ [] := fun e => by rw [e] at hk; exact absurd hk (Nat.not_lt_zero _)
    obtain rfl := HA.out hne
    have hd0 : DelR o L g w (.int .i64 (k : Nat)) (.int .i64 ((k : Int) + 1)) w1 := ⟨k, k + 1, L, rfl, by go_num, DelI.start hk (by simpa using hkt) (fun t ht => by simpa using hkn t ht), (HR.out hne).grow hb1, FrP.of_below hb1⟩
    have HD := hid hd0
    have hkz : (k : Int) < L.length := by omega
    clear hd0 hkt hkn hb1 HA HR
    go_wp2
    go_loopw [5, 6, 7] (fun s5 s6 _ wr => DelR o L g w s5 s6 wr) (fun _ s6 _ _ => L.length - (intOf s6).toNat)
    case atStart => exact HD.out
    case round =>
      obtain ⟨i, j, K, rfl, rfl, hI, hR, hf⟩ := hrel
      have HI := hid hI
      have HRR := hid hR
      have hij := hI.lt
      have hjn := hI.jn
      have hlen := hI.len
      by_cases hj : j < L.length
      · obtain ⟨c0, c1, c2, c3, c4, c5, c6⟩ := hR.ob j (by omega)
        rw [hI.high j (Nat.le_refl _)] at c0 c1 c2 c3 c4 c5 c6
        obtain ⟨e, he⟩ : ∃ e, ixE L j = e := ⟨_, rfl⟩
        rw [he] at c0 c1 c2 c3 c4 c5 c6
        have HE := hid he
        have hgw := hR.lt
        have hjz : (j : Int) < L.length := by omega
        clear hI hR he
        go_wp2_with fail
        have hf2 : FrP (fun q => q = g) w (wr.alloc (.cells (obCells e.ob e.A e.C) 50)) := hf.trans (FrP.of_below (below_alloc' _ _))
        obtain ⟨kb, kc0, kc1⟩ := HK.out _ hf2
        refine (sameKey_any e.ob o e.A e.C bk _ kb kc0 kc1).mono ?_
        rintro e2 w2 ⟨rfl, hb2⟩
        have hbb : Below wr.heap.size wr w2 := (below_alloc' _ _).trans (hb2.mono (by simp))
        obtain ⟨b0, b1, b2, b3, b4, b5, b6⟩ := holds_ob ((holds_new wr (obCells e.ob e.A e.C) 50).below hb2 (by simp))
        have hf3 : FrP (fun q => q = g) w w2 := hf.trans (FrP.of_below hbb)
        have HR2 := hid (HRR.out.grow hbb)
        have HF3 := hid hf3
        have hgw2 := HR2.out.lt
        have hz2 : wr.heap.size < w2.heap.size := by have := hb2.size; simp at this; omega
        clear c0 c1 c2 c3 c4 c5 c6 hb2 hbb hf hf2 hf3 kb kc0 kc1 HRR hgw
        cases hk2 : otherK o e.ob with
        | false =>
          go_wp2
          go_roundw
          case rel => exact ⟨_, _, _, _, _, _, _, _, _, _, _, _, _, _, _, _, _, _, _, _, _, _, _, ⟨i, j + 1, K, rfl, by go_num, HI.out.skip hj (by rw [HE.out]; exact hk2), HR2.out, HF3.out⟩, rfl⟩
          case measure => simp [intOf]; omega
        | true =>
          obtain ⟨o0, o1, o2, o3, o4, o5, o6⟩ := HR2.out.ob i (by omega)
          have f0 := HR2.out.free (i * 7)
          have f1 := HR2.out.free (i * 7 + 1)
          have f2 := HR2.out.free (i * 7 + 2)
          have f3 := HR2.out.free (i * 7 + 3)
          have f4 := HR2.out.free (i * 7 + 4)
          have f5 := HR2.out.free (i * 7 + 5)
          have f6 := HR2.out.free (i * 7 + 6)
          have hiz : (i : Int) < L.length := by omega
          go_wp2
          go_roundw
          case rel =>
            have hI2 := HI.out.keep hj (by rw [HE.out]; exact hk2)
            rw [HE.out] at hI2
            exact ⟨_, _, _, _, _, _, _, _, _, _, _, _, _, _, _, _, _, _, _, _, _, _, _, ⟨i + 1, j + 1, K.set i e, by go_num, by go_num, hI2, HR2.out.set (by omega) e, FrP.setCells (P := fun q => q = g) rfl (encE e) (i * 7) w w2 HF3.out⟩, rfl⟩
          case measure => simp [intOf]; omega
      · obtain rfl : j = L.length := by omega
        have hcl : ∀ ty, (Builtin.clear_ #[30] ty #[.slice (some ⟨g, i * 7, none⟩) (L.length - i) (cap - i)]).run Try.prog wr = .ok (.tuple #[]) (wr.setCells g (i * 7) (Builtin.zeroCells #[.string ByteArray.empty, .string ByteArray.empty, .int .i64 0, .int .i64 0, .string ByteArray.empty, .bool false, .slice none 0 0] (L.length - i)).toList) :=
          fun ty => run_clear_many wr 30 50 ty _ Try.underlying30 Try.zero50' (by decide) g (i * 7) _ _ (by omega) (fun t ht => by
            obtain ⟨v, hv⟩ := hR.cellAt (j := i * 7 + t) (by simp [Value.cells] at ht; omega)
            rw [hv]; rfl) (fun t ht => hR.free _)
        have hiz : (i : Int) < L.length := by omega
        have HF := hid hf
        have hgw := hR.lt
        clear hI hR hf
        go_wp2
        go_ret
        have hI := HI.out
        have hcnt := hI.cnt
        have hlow := hI.low
        rw [List.take_length] at hcnt hlow
        exact ⟨congrArg (fun z : Nat => Ending.returned (.slice (some ⟨g, 0, none⟩) z cap)) hcnt.symm, fun _ => HRR.out.cut _ (by omega) (fun t ht => (hlow t (by omega)).symm) (by omega), (FrP.setCells (P := fun q => q = g) rfl _ _ _ _ HF.out).mono (fun q e => ⟨hne, e⟩)⟩
end Go.Proofs.Ytkecnaaacbckoaa
