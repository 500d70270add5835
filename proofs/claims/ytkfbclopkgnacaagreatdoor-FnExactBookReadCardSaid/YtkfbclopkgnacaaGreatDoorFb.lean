import Derived.Test.YtkfbclopkgnacaaGreatDoorM
import Derived.Test.YtkfbclopkgnacaaGreatDoorFa
import Derived.Deep.AppendSrc
import Derived.Deep.RegionLaw
import Derived.Lib.UnsafeStr
namespace Go.Proofs.YtkfbclopkgnacaaGreatDoor
open Go.RowKit
def digs : ByteArray := ⟨#[48, 49, 50, 51, 52, 53, 54, 55, 56, 57, 97, 98, 99, 100, 101, 102]⟩
def plainB (b : UInt8) : Bool := decide (32 ≤ (b.toNat : Int)) && decide ((b.toNat : Int) ≤ 126) && !decide ((b.toNat : Int) = 34) && !decide ((b.toNat : Int) = 92)
def qB (b : UInt8) : List UInt8 := if plainB b then [b] else [92, byteAt digs (b.toNat / 16), byteAt digs (b.toNat % 16)]
def qTo (s : ByteArray) : Nat → List UInt8 | 0 => [34] | k + 1 => qTo s k ++ qB (byteAt s k)
def quL (s : ByteArray) : List UInt8 := qTo s s.size ++ [34]
theorem qB_len (b : UInt8) : (qB b).length ≤ 3 := by unfold qB; split <;> simp
theorem qTo_len (s : ByteArray) : ∀ k, (qTo s k).length ≤ 3 * k + 1
  | 0 => by simp [qTo]
  | k + 1 => by
    have := qTo_len s k
    have := qB_len (byteAt s k)
    simp only [qTo, List.length_append]
    omega
theorem Tryz.info5 : (Tryz.prog.info? 5).map (fun i => (i.zero, i.size, i.bytes)) = some (some (.int .u8 0), 1, 1) := by kernel_rfl
/-- a row of bytes of one's own -/
def OwnB (w : World) (base : Nat) (v : Value) (l : List UInt8) : Prop := w.ownsRow base 5 1 v l.length (Lib.byteCells l)
theorem news_alloc (w : World) (l : List Value) (t : TypeId) : ∀ j u, l[j]? = some u → (w.alloc (.cells l.toArray t)).cell? ((⟨w.heap.size, 0, none⟩ : Addr).add j) = some u := fun j u h => by
  have e : ((⟨w.heap.size, 0, none⟩ : Addr).add j) = ⟨w.heap.size, j, none⟩ := by simp only [Addr.add]; split <;> simp_all
  rw [e, World.cell?_alloc_new]
  simpa using h
theorem OwnB.app {w' : World} {base : Nat} {v' : Value} {l m : List UInt8} (h : w'.ownsRow base 5 1 v' (l.length + m.length) (Lib.byteCells l ++ Lib.byteCells m)) : OwnB w' base v' (l ++ m) := by
  unfold OwnB
  rw [List.length_append]
  have e : Lib.byteCells (l ++ m) = Lib.byteCells l ++ Lib.byteCells m := by simp [Lib.byteCells]
  rw [e]
  exact h
theorem below_app {W w w' : World} {base B : Nat} {v : Value} {n : Nat} {e : TypeId} {z : Nat} {xs : List Value} (hb : Below base W w) (hB : base ≤ B) (hBw : B ≤ w.heap.size) (ho : w.ownsRow B e z v n xs) (hg : w.grownBy w' v.ownBlock) : Below base W w' :=
  hb.grown hg (by omega) (fun k hk => Nat.le_trans hB (ho.lt k hk).1)
theorem appB_run {W : World} {base : Nat} {v : Value} {L M : List UInt8} (b : Nat) (ho : OwnB W base v L) (hc : ∀ j u, (Lib.byteCells M)[j]? = some u → W.cell? ((⟨b, 0, none⟩ : Addr).add j) = some u) (hl : (L.length : Int) + M.length ≤ 70368744177664) (hbase : base ≤ W.heap.size) (ty : TypeId) :
    ∃ v2 w2, (Builtin.append_ #[54, 54] ty #[v, .slice (some ⟨b, 0, none⟩) M.length M.length]).run Tryz.prog W = .ok v2 w2 ∧ OwnB w2 base v2 (L ++ M) ∧ Below base W w2 := by
  obtain ⟨i0, hi0, hz0, hz1, hz2⟩ := info_parts Tryz.info5
  obtain ⟨v2, w2, hr, ho2, hg, _⟩ := run_append_own (P := Tryz.prog) W base 54 ty 5 i0 (.int .u8 0) 1 1 Tryz.underlying54 hi0 hz0 hz1 hz2 rfl (by decide) v _ _ ho ⟨b, 0, none⟩ M.length M.length (Lib.byteCells M) (by simp [Lib.byteCells]) hc (by simp [Lib.byteCells, Value.oneCell']) (by unfold maxLen; omega) (by omega) hbase
  exact ⟨v2, w2, hr, OwnB.app ho2, below_app (Below.refl _ _) (Nat.le_refl _) hbase ho hg⟩
/-- an append of bytes, as one step of a region that draws -/
theorem stepB {ops : Array Oper} {o : Oper} {a : Act} {w : World} {K : Act → World → Prop} {Q : Exit → Act → World → Prop} {E : Prop}
    (hg : o.guard = none) (s x : Operand) (hop : o.op = Op.call { callee := Callee.builtin Builtin.append, args := #[s, x], argTypes := #[54, 54] })
    (base : Nat) (v : Value) (L M : List UInt8) (b : Nat) (hs : a.eval s = v) (hx : a.eval x = .slice (some ⟨b, 0, none⟩) M.length M.length) (ho : OwnB w base v L)
    (hc : ∀ j u, (Lib.byteCells M)[j]? = some u → w.cell? ((⟨b, 0, none⟩ : Addr).add j) = some u) (hl : (L.length : Int) + M.length ≤ 70368744177664) (hbase : base ≤ w.heap.size)
    (hK : ∀ v2 w2, OwnB w2 base v2 (L ++ M) → Below base w w2 → K (a.put o.dst v2) w2) :
    if Region.wanted o (yielded ops a.tmps) = true then Oper.wp Tryz.prog o a w K Q else E := by
  have hw : Region.wanted o (yielded ops a.tmps) = true := by simp [Region.wanted, hg]
  rw [if_pos hw]
  obtain ⟨v2, w2, hr, h2, h3⟩ := appB_run b ho hc hl hbase o.type
  unfold Oper.wp execOp
  simp only [hop, resolve, invoke, builtin, Sem.run_bind, Sem.run_pure, Result.andThen_ok, List.map_toArray, List.map_cons, List.map_nil, hs, hx, hr]
  exact hK v2 w2 h2 h3
theorem OwnB.conv {W : World} {base : Nat} {v : Value} {l : List UInt8} (h : OwnB W base v l) (h0 : l ≠ []) : (convert 54 9 v).run Tryz.prog W = .ok (.string ⟨l.toArray⟩) W := by
  have hl0 : 0 < l.length := List.length_pos_iff.2 h0
  obtain ⟨g, cap, rfl⟩ : ∃ g cap, v = .slice (some ⟨g, 0, none⟩) l.length cap := by
    rcases h.2 with ⟨_, hz⟩ | ⟨g, cap, cur, hv, _⟩
    · omega
    · exact ⟨g, cap, hv⟩
  refine run_convert_bytes_back (P := Tryz.prog) W 54 9 5 ⟨g, 0, none⟩ cap l Tryz.underlying54 Tryz.underlying5 Tryz.underlying9 ?_
  intro i hi
  have := World.ownsRow.cells h (g := g) rfl i (.int .u8 (l[i].toNat : Int)) (by simp [Lib.byteCells, hi])
  exact this
theorem qB_yes {b : UInt8} (h : plainB b = true) : qB b = [b] := by unfold qB; rw [if_pos h]
theorem qB_no {b : UInt8} (h : plainB b = false) : qB b = [92, byteAt digs (b.toNat / 16), byteAt digs (b.toNat % 16)] := by unfold qB; rw [if_neg (by rw [h]; decide)]
theorem digs_at (i : Nat) (h : i < 16) (w : World) : (Instr.index 9 (.string ⟨#[48, 49, 50, 51, 52, 53, 54, 55, 56, 57, 97, 98, 99, 100, 101, 102]⟩) (.int .u8 (i : Int))).run Tryz.prog w = .ok (.int .u8 (byteAt digs i).toNat) w := by
  have hz : digs.size = 16 := rfl
  have := run_index_string (P := Tryz.prog) w 9 digs .u8 (i : Int) Tryz.underlying9
  rw [dif_pos ⟨by omega, by rw [hz]; omega⟩] at this
  rw [byteAt_eq digs i (by omega)]
  exact this
set_option maxRecDepth 100000 in
set_option maxHeartbeats 1000000 in
theorem quote_any (s : ByteArray) (w : World) (hs : (s.size : Int) ≤ 1099511627776) :
    Calls Tryz.prog 30 #[.string s] w fun e w' => e = .returned (.string ⟨(quL s).toArray⟩) ∧ Below w.heap.size w w' := by
  obtain ⟨i0, hi0, hz0, hz1, hz2⟩ := info_parts Tryz.info5
  go_enter Tryz.func30, Tryz.ntmps30
  go_wp2
  go_loopw [3, 5] (fun v i wr => ∃ k : Nat, k ≤ s.size ∧ i = .int .i64 k ∧ OwnB wr w.heap.size v (qTo s k) ∧ Below w.heap.size w wr) (fun _ i _ => s.size - (intOf i).toNat)
  case atStart => exact ⟨0, Nat.zero_le _, rfl, World.ownsRow_lit w #[.int .u8 34] 1 (Nat.le_refl _) (by unfold maxLen; omega) rfl, (Below.refl _ _).alloc (Nat.le_refl _) _⟩
  case round =>
    obtain ⟨k, hk, rfl, hown, hb⟩ := hrel
    by_cases hkn : k < s.size
    · have HB := hid (byteAt_eq s k hkn)
      cases hp : plainB (byteAt s k) with
      | true =>
        have hp2 := hp
        rw [HB.out] at hp2
        simp only [plainB, Bool.and_eq_true, decide_eq_true_eq, Bool.not_eq_true', decide_eq_false_iff_not] at hp2
        obtain ⟨⟨⟨p1, p2⟩, p3⟩, p4⟩ := hp2
        have q3 : ((s[k].toNat : Int) != 34) = true := by simpa using p3
        have q4 : ((s[k].toNat : Int) != 92) = true := by simpa using p4
        have hl := qTo_len s k
        have STEP := hid (show qTo s (k + 1) = qTo s k ++ [s[k]] by rw [qTo, qB_yes hp, HB.out])
        obtain ⟨L, hL⟩ : ∃ L, qTo s k = L := ⟨_, rfl⟩
        rw [hL] at hown hl STEP
        have HO := hid (hown.alloc (.cells #[.int .u8 (s[k].toNat : Int)] 5))
        clear hown hL hp HB
        go_wp2_with (at_builtin; go_must (refine wpList_append_own _ rfl _ _ 54 rfl w.heap.size 5 i0 (.int .u8 0) 1 1 Tryz.underlying54 hi0 hz0 hz1 hz2 rfl (by decide) _ _ _ rfl HO.out ⟨wr.heap.size, 0, none⟩ 1 1 (Lib.byteCells [s[k]]) rfl rfl (news_alloc wr _ 5) (by simp [Lib.byteCells, Value.oneCell']) (by unfold maxLen; omega) (by omega) (by have := hb.size; simp; omega) ?_; intro v2 w2 hown2 hgrow2 _))
        have B2 := below_app (hb.alloc hb.size _) (Nat.le_refl _) (by have := hb.size; simp; omega) HO.out hgrow2
        have O2 : OwnB w2 w.heap.size v2 (L ++ [s[k]]) := OwnB.app hown2
        go_roundw
        case rel => exact ⟨k + 1, by omega, by go_num, by rw [STEP.out]; exact O2, B2⟩
        case measure => simp [intOf]; omega
      | false =>
        have hl := qTo_len s k
        have STEP := hid (show qTo s (k + 1) = qTo s k ++ [92, byteAt digs (s[k].toNat / 16), byteAt digs (s[k].toNat % 16)] by rw [qTo, qB_no hp, HB.out])
        obtain ⟨L, hL⟩ : ∃ L, qTo s k = L := ⟨_, rfl⟩
        rw [hL] at hown hl STEP
        have hx := s[k].toNat_lt
        have hcase : (s[k].toNat : Int) < 32 ∨ (32 ≤ (s[k].toNat : Int) ∧ (126 < (s[k].toNat : Int) ∨ ((s[k].toNat : Int) ≤ 126 ∧ ((s[k].toNat : Int) = 34 ∨ (s[k].toNat : Int) = 92)))) := by
          rw [HB.out] at hp
          simp only [plainB, Bool.and_eq_false_iff, decide_eq_false_iff_not, Bool.not_eq_false', decide_eq_true_eq] at hp
          omega
        obtain ⟨d1, hd1⟩ : ∃ d, byteAt digs (s[k].toNat / 16) = d := ⟨_, rfl⟩
        obtain ⟨d2, hd2⟩ : ∃ d, byteAt digs (s[k].toNat % 16) = d := ⟨_, rfl⟩
        have HO := hid (hown.alloc (.cells #[.int .u8 92, .int .u8 (d1.toNat : Int), .int .u8 (d2.toNat : Int)] 5)).drew
        rw [hd1, hd2] at STEP
        obtain ⟨x, hxe⟩ : ∃ x : Nat, s[k].toNat = x := ⟨_, rfl⟩
        obtain ⟨q, hq⟩ : ∃ q : Nat, q = x / 16 := ⟨_, rfl⟩
        obtain ⟨r, hr⟩ : ∃ r : Nat, r = x % 16 := ⟨_, rfl⟩
        have hq16 : q < 16 := by omega
        have hr16 : r < 16 := by omega
        have k1 : (x : Int) / 16 = (q : Int) := by omega
        have k2 : (x : Int).tdiv 16 = (q : Int) := by rw [Int.tdiv_eq_ediv_of_nonneg (by omega)]; omega
        have k3 : IntKind.u8.wrap (q : Int) = (q : Int) := wrap_u8_le (by omega) (by omega)
        have k4 : (x : Int) % 16 = (r : Int) := by omega
        have k5 : (x : Int).tmod 16 = (r : Int) := by rw [Int.tmod_eq_emod_of_nonneg (by omega)]; omega
        have k6 : IntKind.u8.wrap (r : Int) = (r : Int) := wrap_u8_le (by omega) (by omega)
        have g1 := digs_at q hq16
        have g2 := digs_at r hr16
        rw [hq, ← hxe, hd1, hxe, ← hq] at g1
        rw [hr, ← hxe, hd2, hxe, ← hr] at g2
        rw [hxe] at hcase
        clear hown hL hp HB hq hr hd1 hd2
        have hcase2 : (x : Int) < 32 ∨ (32 ≤ (x : Int) ∧ (126 < (x : Int) ∨ ((x : Int) ≤ 126 ∧ (((x : Int) != 34) = false ∨ (((x : Int) != 34) = true ∧ ((x : Int) != 92) = false))))) := by
          rcases hcase with h1 | ⟨h1, h2 | ⟨h2, h3 | h3⟩⟩
          · exact Or.inl h1
          · exact Or.inr ⟨h1, Or.inl h2⟩
          · exact Or.inr ⟨h1, Or.inr ⟨h2, Or.inl (by simp [h3])⟩⟩
          · exact Or.inr ⟨h1, Or.inr ⟨h2, Or.inr ⟨by simp [h3], by simp [h3]⟩⟩⟩
        clear hcase
        rcases hcase2 with h1 | ⟨h1, h2 | ⟨h2, h3 | ⟨h3, h4⟩⟩⟩
        all_goals
          go_wp2_with fail
          go_region_law (refine stepB rfl (.tmp 41) (.tmp 54) rfl w.heap.size _ L [92, d1, d2] wr.heap.size rfl rfl HO.out (news_alloc wr (Lib.byteCells [92, d1, d2]) 5) (by simp; omega) (by have := hb.size; simp; omega) ?_; intro v2 w2 O2 b2)
          all_goals
            have B2 : Below w.heap.size w w2 := ((hb.alloc hb.size _).drew).trans b2
            go_wp2
            go_roundw
            case rel => exact ⟨k + 1, by omega, by go_num, by rw [STEP.out]; exact O2, B2⟩
            case measure => simp [intOf]; omega
    · have hks : k = s.size := by omega
      subst hks
      have hl := qTo_len s s.size
      have STEP := hid (show quL s = qTo s s.size ++ [34] from rfl)
      obtain ⟨L, hL⟩ : ∃ L, qTo s s.size = L := ⟨_, rfl⟩
      rw [hL] at hown hl STEP
      have HO := hid (hown.alloc (.cells #[.int .u8 34] 5))
      clear hown hL
      go_wp2_with (at_builtin; go_must (refine wpList_append_own _ rfl _ _ 54 rfl w.heap.size 5 i0 (.int .u8 0) 1 1 Tryz.underlying54 hi0 hz0 hz1 hz2 rfl (by decide) _ _ _ rfl HO.out ⟨wr.heap.size, 0, none⟩ 1 1 (Lib.byteCells [34]) rfl rfl (news_alloc wr _ 5) (by simp [Lib.byteCells, Value.oneCell']) (by unfold maxLen; omega) (by omega) (by have := hb.size; simp; omega) ?_; intro v2 w2 hown2 hgrow2 _))
      have B2 := below_app (hb.alloc hb.size _) (Nat.le_refl _) (by have := hb.size; simp; omega) HO.out hgrow2
      have O2 : OwnB w2 w.heap.size v2 (L ++ [34]) := OwnB.app hown2
      have hcv := OwnB.conv O2 (by simp)
      rw [← STEP.out] at hcv
      clear hown2 hgrow2 O2 HO STEP
      rw [hcv]
      simp only [Result.andThen]
      rw [Oper.upon_value]
      go_wp2
      go_ret
      exact ⟨rfl, B2⟩
end Go.Proofs.YtkfbclopkgnacaaGreatDoor
