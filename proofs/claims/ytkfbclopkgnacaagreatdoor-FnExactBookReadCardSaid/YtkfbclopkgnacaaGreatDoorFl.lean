import Derived.Shelf.Strings.Builder1
import Derived.Shelf.Strings.Builder2
import Derived.Shelf.Strings.OnBuilder
import Derived.Shelf.Strconv.Itoa0
import Derived.Shelf.Strconv.Itoa1
import Derived.Shelf.LaysM
import Derived.Shelf.Strconv.Itoa2
import Derived.Shelf.Strconv.Itoa3
import Derived.Test.YtkfbclopkgnacaaGreatDoorRows
import Derived.Lib.AppendIntMem
import Derived.Test.YtkfbclopkgnacaaGreatDoorFb
import Derived.Lib.Builder
import Derived.Lib.AppendStr
import Derived.Laws.Externs
import Derived.Shelf.RegionOpenPlain
import Derived.Test.YtkfbclopkgnacaaGreatDoorPa
namespace Go.Proofs
open Go.Shelf
def Tryz.lays156_ren : Go.Shelf.Ren := ⟨fun | 156 => 108 | 165 => 130 | 166 => 70 | 169 => 44 | 240 => 107 | 241 => 143 | 276 => 129 | 277 => 154 | n => n, fun | 31 => 32 | 9 => 9 | 3 => 3 | 4 => 4 | 0 => 0 | 20 => 20 | 72 => 69 | 76 => 84 | 70 => 67 | 37 => 54 | 75 => 83 | 127 => 94 | 164 => 140 | 5 => 5 | 80 => 61 | n => n, fun | n => n⟩
theorem Tryz.lays156 : Go.Proofs.Lays.n156 Tryz.prog Tryz.lays156_ren := {
  mixed := by kernel_rfl
  f156 := Tryz.func108.trans (congrArg some (by kernel_rfl))
  f165 := Tryz.func130.trans (congrArg some (by kernel_rfl))
  f166 := Tryz.func70.trans (congrArg some (by kernel_rfl))
  f169 := Tryz.func44.trans (congrArg some (by kernel_rfl))
  f240 := Tryz.func107.trans (congrArg some (by kernel_rfl))
  f241 := Tryz.func143.trans (congrArg some (by kernel_rfl))
  f276 := Tryz.func129.trans (congrArg some (by kernel_rfl))
  f277 := Tryz.func154.trans (congrArg some (by kernel_rfl))
  t0 := Tryz.underlying0
  a0 := Tryz.isAgg0
  z0 := Tryz.sizeOf0
  v0 := Tryz.zeroValue0
  t3 := Tryz.underlying3
  a3 := Tryz.isAgg3
  z3 := Tryz.sizeOf3
  v3 := Tryz.zeroValue3
  t4 := Tryz.underlying4
  a4 := Tryz.isAgg4
  z4 := Tryz.sizeOf4
  v4 := Tryz.zeroValue4
  t9 := Tryz.underlying9
  a9 := Tryz.isAgg9
  z9 := Tryz.sizeOf9
  v9 := Tryz.zeroValue9
  t20 := Tryz.underlying20
  a20 := Tryz.isAgg20
  z20 := Tryz.sizeOf20
  v20 := Tryz.zeroValue20
  t31 := Tryz.underlying32
  a31 := Tryz.isAgg32
  z31 := Tryz.sizeOf32
  v31 := Tryz.zeroValue32
  t37 := Tryz.underlying54
  a37 := Tryz.isAgg54
  z37 := Tryz.sizeOf54
  v37 := Tryz.zeroValue54
  t70 := Tryz.underlying67
  a70 := Tryz.isAgg67
  z70 := Tryz.sizeOf67
  v70 := Tryz.zeroValue67
  t72 := Tryz.underlying69
  a72 := Tryz.isAgg69
  z72 := Tryz.sizeOf69
  v72 := Tryz.zeroValue69
  t75 := Tryz.underlying83
  a75 := Tryz.isAgg83
  z75 := Tryz.sizeOf83
  v75 := Tryz.zeroValue83
  t76 := Tryz.underlying84
  a76 := Tryz.isAgg84
  z76 := Tryz.sizeOf84
  v76 := Tryz.zeroValue84
  t127 := Tryz.underlying94
  a127 := Tryz.isAgg94
  z127 := Tryz.sizeOf94
  v127 := Tryz.zeroValue94
  t164 := Tryz.underlying140
  a164 := Tryz.isAgg140
  z164 := Tryz.sizeOf140
  v164 := Tryz.zeroValue140 }
theorem Tryz.Builder_Extra_156 : Builder.Extra Tryz.prog Tryz.lays156_ren := {
  sizeBuilder := by kernel_rfl
  liesBuilder := by kernel_rfl
  t5 := Tryz.underlying5
  a5 := Tryz.isAgg5
  z5 := Tryz.sizeOf5
  v5 := Tryz.zeroValue5
  infoByte := by kernel_rfl
  cellsByte := by kernel_rfl
  sizeByte := by kernel_rfl
  neB5 := by decide }
def Tryz.laysM171_ren : Go.Shelf.Ren := ⟨fun | 171 => 39 | 243 => 72 | 246 => 109 | 283 => 131 | 284 => 132 | 285 => 133 | 286 => 134 | 129 => 145 | 317 => 144 | 318 => 146 | 319 => 147 | 320 => 148 | 337 => 155 | 338 => 156 | n => n, fun | 3 => 3 | 9 => 9 | 2 => 2 | 4 => 4 | 171 => 143 | 0 => 0 | 53 => 144 | 37 => 54 | 5 => 5 | 173 => 147 | 212 => 157 | 51 => 158 | 20 => 20 | 213 => 159 | 46 => 93 | 232 => 169 | 233 => 170 | n => n, fun | 17 => 3 | 18 => 4 | 19 => 5 | n => n⟩
theorem Tryz.laysM171 : Go.Proofs.LaysM.n171 Tryz.prog Tryz.laysM171_ren := {
  mixed := by kernel_rfl
  f129 := Tryz.func145.trans (congrArg some (by kernel_rfl))
  f171 := Tryz.func39.trans (congrArg some (by kernel_rfl))
  f243 := Tryz.func72.trans (congrArg some (by kernel_rfl))
  f246 := Tryz.func109.trans (congrArg some (by kernel_rfl))
  f283 := Tryz.func131.trans (congrArg some (by kernel_rfl))
  f284 := Tryz.func132.trans (congrArg some (by kernel_rfl))
  f285 := Tryz.func133.trans (congrArg some (by kernel_rfl))
  f286 := Tryz.func134.trans (congrArg some (by kernel_rfl))
  f317 := Tryz.func144.trans (congrArg some (by kernel_rfl))
  f318 := Tryz.func146.trans (congrArg some (by kernel_rfl))
  f319 := Tryz.func147.trans (congrArg some (by kernel_rfl))
  f320 := Tryz.func148.trans (congrArg some (by kernel_rfl))
  f337 := Tryz.func155.trans (congrArg some (by kernel_rfl))
  f338 := Tryz.func156.trans (congrArg some (by kernel_rfl))
  t0 := Tryz.underlying0
  a0 := Tryz.isAgg0
  z0 := Tryz.sizeOf0
  v0 := Tryz.zeroValue0
  t2 := Tryz.underlying2
  a2 := Tryz.isAgg2
  z2 := Tryz.sizeOf2
  v2 := Tryz.zeroValue2
  t3 := Tryz.underlying3
  a3 := Tryz.isAgg3
  z3 := Tryz.sizeOf3
  v3 := Tryz.zeroValue3
  t4 := Tryz.underlying4
  a4 := Tryz.isAgg4
  z4 := Tryz.sizeOf4
  v4 := Tryz.zeroValue4
  t5 := Tryz.underlying5
  a5 := Tryz.isAgg5
  z5 := Tryz.sizeOf5
  v5 := Tryz.zeroValue5
  t9 := Tryz.underlying9
  a9 := Tryz.isAgg9
  z9 := Tryz.sizeOf9
  v9 := Tryz.zeroValue9
  t20 := Tryz.underlying20
  a20 := Tryz.isAgg20
  z20 := Tryz.sizeOf20
  v20 := Tryz.zeroValue20
  t37 := Tryz.underlying54
  a37 := Tryz.isAgg54
  z37 := Tryz.sizeOf54
  v37 := Tryz.zeroValue54
  t46 := Tryz.underlying93
  a46 := Tryz.isAgg93
  z46 := Tryz.sizeOf93
  v46 := Tryz.zeroValue93
  t51 := Tryz.underlying158
  a51 := Tryz.isAgg158
  z51 := Tryz.sizeOf158
  v51 := Tryz.zeroValue158
  t53 := Tryz.underlying144
  a53 := Tryz.isAgg144
  z53 := Tryz.sizeOf144
  v53 := Tryz.zeroValue144
  t171 := Tryz.underlying143
  a171 := Tryz.isAgg143
  z171 := Tryz.sizeOf143
  v171 := Tryz.zeroValue143
  t173 := Tryz.underlying147
  a173 := Tryz.isAgg147
  z173 := Tryz.sizeOf147
  v173 := Tryz.zeroValue147
  t212 := Tryz.underlying157
  a212 := Tryz.isAgg157
  z212 := Tryz.sizeOf157
  v212 := Tryz.zeroValue157
  t213 := Tryz.underlying159
  a213 := Tryz.isAgg159
  z213 := Tryz.sizeOf159
  t232 := Tryz.underlying169
  a232 := Tryz.isAgg169
  z232 := Tryz.sizeOf169
  v232 := Tryz.zeroValue169
  t233 := Tryz.underlying170
  a233 := Tryz.isAgg170
  z233 := Tryz.sizeOf170
  v233 := Tryz.zeroValue170
  g17 := by kernel_rfl
  g18 := by kernel_rfl
  g19 := by kernel_rfl
  i0 := by kernel_rfl
  i2 := by kernel_rfl
  i3 := by kernel_rfl
  i4 := by kernel_rfl
  i5 := by kernel_rfl
  i9 := by kernel_rfl
  i20 := by kernel_rfl
  i37 := by kernel_rfl
  i46 := by kernel_rfl
  i51 := by kernel_rfl
  i53 := by kernel_rfl
  i171 := by kernel_rfl
  i173 := by kernel_rfl
  i212 := by kernel_rfl
  i232 := by kernel_rfl
  i233 := by kernel_rfl
  m17 := by kernel_rfl
  m18 := by kernel_rfl
  m19 := by kernel_rfl }
end Go.Proofs
namespace Go.Proofs.YtkfbclopkgnacaaGreatDoor
open Go.RowKit Go.Shelf
/-- the name of the table of powers, as the row lists it -/
def powName : String := ((Rows.fnExactBookReadRow.laid.map (·.1))[2]?).getD default
def Tab (w : World) : Prop := Lib.TabIs Tryz.prog w powName .u64 Lib.pow10Tab
theorem Tab.below {w w' : World} (h : Tab w) (hb : Below w.heap.size w w') : Tab w' := Lib.tabBelow_of_tabIs h w' hb
theorem itoa_nat (n : Nat) : Lib.itoa (n : Int) = Lib.decDigits n := by
  unfold Lib.itoa
  rw [if_neg (by omega)]
  rfl
theorem itoa_any (n : Nat) (hn : (n : Int) ≤ 4611686018427387904) (w : World) (ht : Tab w) :
    Calls Tryz.prog 39 #[.int .i64 n] w fun e w' => e = .returned (.string ⟨(Lib.decDigits n).toArray⟩) ∧ Below w.heap.size w w' := by
  refine (Any.strconv_Itoa Tryz.laysM171 n (by omega) (by omega) w ht).mono ?_
  rintro e w' ⟨rfl, k, os, rfl⟩
  exact ⟨by rw [itoa_nat], Lib.below_grow _ w (Nat.le_refl _) k os⟩
/-- the fields, with a blank between them -/
def joinL (xs : List ByteArray) : List UInt8 := Lib.join (xs.map (·.data.toList)) [32]
theorem join_any (bk o c : Nat) (xs : List ByteArray) (w : World) (hcells : ∀ (j : Nat) x, xs[j]? = some x → w.cell? ⟨bk, o + j, none⟩ = some (.string x)) (hbk : bk < w.heap.size) (hN : (xs.length : Int) ≤ 1099511627776) (hcap : xs.length ≤ c) (hlen : ((joinL xs).length : Int) ≤ 70368744177664) :
    Calls Tryz.prog 108 #[.slice (some ⟨bk, o, none⟩) xs.length c, .string ⟨#[32]⟩] w fun e w' => e = .returned (.string ⟨(joinL xs).toArray⟩) ∧ Below w.heap.size w w' :=
  Any.strings_Join Tryz.lays156 Tryz.Builder_Extra_156 bk o c xs ⟨#[32]⟩ w hcells hbk (by omega) hcap (by have := hlen; unfold joinL at this; simpa using (by omega : (Lib.join (xs.map (·.data.toList)) [32]).length ≤ 140737488355328))
end Go.Proofs.YtkfbclopkgnacaaGreatDoor
namespace Go.Proofs.YtkfbclopkgnacaaGreatDoor
open Go.RowKit
theorem Tryz.infoBuilder : (Tryz.prog.info? 69).map (·.size) = some 2 := by kernel_rfl
theorem Tryz.liesBuilder : liesAt Tryz.prog Tryz.prog.depth 71 (2 / Tryz.prog.cellsOf 71) 0 69 1 = true := by kernel_rfl
/-- the writer: a builder in a block of its own -/
abbrev WrAt (B b : Nat) (p : Value) (l : List UInt8) (w : World) : Prop := Lib.BuilderAt 71 5 B b p (Lib.byteCells l) w
def Wr (B b : Nat) (l : List UInt8) (w : World) : Prop := Lib.IsBuilder 71 5 B b (Lib.byteCells l) w
set_option maxRecDepth 100000 in
set_option maxHeartbeats 1000000 in
theorem copyCheck_any (B b : Nat) (l : List UInt8) (w : World) (h : Wr B b l w) :
    Calls Tryz.prog 107 #[.pointer (some ⟨b, 0, none⟩)] w fun e w' => e = .returned (.tuple #[]) ∧ WrAt B b (.pointer (some ⟨b, 0, none⟩)) l w' ∧ Below B w w' := by
  obtain ⟨j, hj, hjs⟩ := Option.map_eq_some_iff.1 Tryz.infoBuilder
  rcases h with h | h
  · have h0 := h.cell0
    have hsh := h.shape
    have hfz := h.frozen0
    have HH := hid h
    clear h
    go_enter Tryz.func107, Tryz.ntmps107
    go_wp2
    rw [Lib.run_to_unsafe w ⟨b, 0, none⟩ Tryz.underlying67 Tryz.underlying140 hj (by rw [hjs]; decide) hsh (Nat.zero_lt_succ 1)]
    simp only [Result.andThen]
    rw [Oper.upon_value]
    go_wp2
    rw [run_callFunc_extern Tryz.func129 (by kernel_rfl) (by kernel_rfl) (by kernel_rfl) (e := Extern.AbiNoEscape.same) (by kernel_rfl)]
    rw [Lib.run_noEscape]
    simp only [Result.andThen]
    rw [Oper.upon_value]
    go_wp2
    rw [Lib.run_from_unsafe w ⟨b, 0, none⟩ Tryz.underlying140 Tryz.underlying67 hj hsh Tryz.liesBuilder]
    simp only [Result.andThen]
    rw [Oper.upon_value]
    go_wp2
    go_end0
    exact ⟨rfl, HH.out.used _, (Below.refl B w).setCell (p := ⟨b, 0, none⟩) HH.out.1 _⟩
  · have h0 := h.cell0
    have HH := hid h
    clear h
    go_enter Tryz.func107, Tryz.ntmps107
    go_wp2
    rw [Lib.run_neq_ptr_same w _ Tryz.underlying67 hj]
    go_wp2
    go_end0
    exact ⟨rfl, HH.out, Below.refl B _⟩
set_option maxRecDepth 100000 in
set_option maxHeartbeats 2000000 in
theorem writeString_any (B b : Nat) (l : List UInt8) (s : ByteArray) (w : World) (h : Wr B b l w) (hlen : (l.length : Int) + s.size ≤ 70368744177664) (hBw : B ≤ w.heap.size) :
    Calls Tryz.prog 70 #[.pointer (some ⟨b, 0, none⟩), .string s] w fun e w' => e = .returned (.tuple #[.int .i64 s.size, .nilIface]) ∧ Wr B b (l ++ s.data.toList) w' ∧ Below B w w' := by
  obtain ⟨i0, hi, hz0, hz1, hz2⟩ := info_parts Tryz.info5
  go_enter Tryz.func70, Tryz.ntmps70
  go_wp2_with (go_at_call 107; refine (copyCheck_any B b l _ h).mono ?_)
  rintro e w1 ⟨rfl, h1, hb1⟩
  obtain ⟨hB, v, hbk, hown0, hne⟩ := h1
  have hown : w1.ownsRow B 5 1 v l.length (Lib.byteCells l) := by rw [Lib.byteCells_length] at hown0; exact hown0
  have c0 : w1.cell? ⟨b, 0, none⟩ = some (.pointer (some ⟨b, 0, none⟩)) := by rw [Lib.cell_of_heap hbk]; rfl
  have c1 : w1.cell? ⟨b, 1, none⟩ = some v := by rw [Lib.cell_of_heap hbk]; rfl
  clear hown0
  go_wp2_with (at_builtin; refine Lib.wpList_append_own_string _ rfl _ _ 54 9 rfl B 5 i0 Tryz.underlying54 Tryz.underlying9 hi hz0 hz1 hz2 _ _ _ rfl hown s rfl ?c3 ?c4 ?c5 ?_)
  case c3 => unfold maxLen; omega
  case c4 => omega
  case c5 => have := hb1.size; omega
  intro v' w2 hown' hgrow _
  have hlt : b < w1.heap.size := by
    rcases Nat.lt_or_ge b w1.heap.size with h' | h'
    · exact h'
    · simp [Array.getElem?_eq_none h'] at hbk
  have hb2 : w2.heap[b]? = some (.cells #[.pointer (some ⟨b, 0, none⟩), v] 71 (0, 0)) := by
    rw [hgrow.block b hlt (fun e => hne e.symm)]
    exact hbk
  have d0 : w2.cell? ⟨b, 0, none⟩ = some (.pointer (some ⟨b, 0, none⟩)) := by rw [Lib.cell_of_heap hb2]; rfl
  have d1 : w2.cell? ⟨b, 1, none⟩ = some v := by rw [Lib.cell_of_heap hb2]; rfl
  have f1 : w2.frozen? ⟨b, 1, none⟩ = false := Lib.frozen_of_heap hb2 1
  obtain ⟨ao, n', cap, rfl⟩ : ∃ ao n' cap, v' = .slice ao n' cap := by
    rcases hown'.2 with ⟨hv, _⟩ | ⟨g, cap, cur, hv, _⟩
    · exact ⟨_, _, _, hv⟩
    · exact ⟨_, _, _, hv⟩
  have HO' := hid hown'
  have HO := hid hown
  clear hown hown'
  go_wp2
  go_ret2
  have es : Lib.byteCells l ++ Lib.strCells s = Lib.byteCells (l ++ s.data.toList) := by simp [Lib.byteCells, Lib.strCells]
  refine ⟨rfl, Or.inr ?_, ?_⟩
  · refine Lib.BuilderAt.put (T := 71) (e := 5) hB hb2 (bs' := Lib.byteCells (l ++ s.data.toList)) ?_ (by decide)
    rw [← es, List.length_append, Lib.byteCells_length, Lib.strCells_length]
    exact HO'.out
  · exact (hb1.grown hgrow (by have := hb1.size; omega) (fun k hk => (HO.out.lt k hk).1)).setCell (p := ⟨b, 1, none⟩) hB _
theorem Wr.form {B b : Nat} {l : List UInt8} {w : World} (h : Wr B b l w) : ∃ p v, B ≤ b ∧ w.heap[b]? = some (.cells #[p, v] 71 (0, 0)) ∧ w.ownsRow B 5 1 v l.length (Lib.byteCells l) ∧ v.ownBlock ≠ some b := by
  rcases h with ⟨h1, v, h2, h3, h4⟩ | ⟨h1, v, h2, h3, h4⟩
  · rw [Lib.byteCells_length] at h3; exact ⟨_, v, h1, h2, h3, h4⟩
  · rw [Lib.byteCells_length] at h3; exact ⟨_, v, h1, h2, h3, h4⟩
set_option maxRecDepth 100000 in
set_option maxHeartbeats 1000000 in
theorem len_any (B b : Nat) (l : List UInt8) (w : World) (h : Wr B b l w) :
    Calls Tryz.prog 43 #[.pointer (some ⟨b, 0, none⟩)] w fun e w' => e = .returned (.int .i64 l.length) ∧ w' = w := by
  obtain ⟨p, v, hB, hbk, hown, hne⟩ := h.form
  obtain ⟨ao, cap, rfl⟩ : ∃ ao cap, v = .slice ao l.length cap := by
    rcases hown.2 with ⟨hv, h0⟩ | ⟨g, cap, cur, hv, _⟩
    · exact ⟨none, 0, by rw [hv, h0]⟩
    · exact ⟨_, _, hv⟩
  have c1 : w.cell? ⟨b, 1, none⟩ = some (.slice ao l.length cap) := by rw [Lib.cell_of_heap hbk]; rfl
  clear hown h
  go_enter Tryz.func43, Tryz.ntmps43
  go_wp2
  go_ret
  exact ⟨rfl, rfl⟩
theorem Tryz.cellsByte : Tryz.prog.cellsOf 5 = 1 := by kernel_rfl
set_option maxRecDepth 100000 in
set_option maxHeartbeats 1000000 in
theorem string_any (B b : Nat) (l : List UInt8) (w : World) (h : Wr B b l w) (h0 : l ≠ []) :
    Calls Tryz.prog 44 #[.pointer (some ⟨b, 0, none⟩)] w fun e w' => e = .returned (.string ⟨l.toArray⟩) ∧ Below B w w' := by
  obtain ⟨p, v, hB, hbk, hown, hne⟩ := h.form
  have hl0 : l.length ≠ 0 := by simpa using h0
  obtain ⟨g, cap, cur, rfl, hbg, hg, hnc, hcm, hcs, htake⟩ : ∃ g cap cur, v = .slice (some ⟨g, 0, none⟩) l.length cap ∧ B ≤ g ∧ w.heap[g]? = some (.cells cur 5 (0, 0)) ∧ l.length ≤ cap ∧ cap ≤ maxLen ∧ cur.size = cap * 1 ∧ cur.toList.take (l.length * 1) = Lib.byteCells l := by
    rcases hown.2 with ⟨_, hz⟩ | ⟨g, cap, cur, hv, r⟩
    · exact absurd hz hl0
    · exact ⟨g, cap, cur, hv, r⟩
  have c1 : w.drew.cell? ⟨b, 1, none⟩ = some (.slice (some ⟨g, 0, none⟩) l.length cap) := by
    have : w.drew.heap[b]? = some (.cells #[p, .slice (some ⟨g, 0, none⟩) l.length cap] 71 (0, 0)) := hbk
    rw [Lib.cell_of_heap this]; rfl
  have hSD : (Builtin.unsafeSliceData_ #[54] 94 #[.slice (some ⟨g, 0, none⟩) l.length cap]).run Tryz.prog w.drew = .ok (.pointer (some ⟨g, 0, none⟩)) w.drew :=
    Lib.run_unsafeSliceData_row _ _ _ _ _ _ (by omega)
  have hUS : (Builtin.unsafeString_ #[94, 3] 9 #[.pointer (some ⟨g, 0, none⟩), .int .i64 l.length]).run Tryz.prog w.drew = .ok (.string ⟨l.toArray⟩) (w.drew.freeze ⟨g, 0, none⟩ l.length) := by
    refine Lib.run_unsafeString_row w.drew 94 3 9 5 Tryz.underlying94 Tryz.cellsByte g cur.size (by have hg' : w.drew.heap[g]? = some (.cells cur 5 (0, 0)) := hg; simp [World.shape?, hg']) l h0 (by omega) (by unfold maxLen at hcm; omega) ?_
    intro j x hx
    have := hown.cells (g := g) rfl j (.int .u8 x.toNat) (by simp [Lib.byteCells, hx])
    exact this
  clear h hown htake
  go_enter Tryz.func44, Tryz.ntmps44
  go_wp2
  have mixed : Tryz.prog.follows .mixedOrders = true := by kernel_rfl
  go_region_o
  all_goals (go_wp2; go_ret; exact ⟨rfl, Lib.below_freeze (Below.drew (Below.refl B w)) (p := ⟨g, 0, none⟩) hbg _⟩)
end Go.Proofs.YtkfbclopkgnacaaGreatDoor
namespace Go.Proofs.YtkfbclopkgnacaaGreatDoor
open Go.RowKit
theorem Tryz.info38 : (Tryz.prog.info? 38).map (fun i => (i.zero, i.size, i.bytes)) = some (some (.agg #[.string ByteArray.empty, .string ByteArray.empty, .int .i64 0, .int .i64 0, .string ByteArray.empty, .bool false, .slice none 0 0]), 7, 96) := by kernel_rfl
/-- block g has cells 0 .. m, none of them frozen -/
structure Room (w : World) (g m : Nat) : Prop where
  has : ∀ j, j < m → ∃ u, w.cell? ⟨g, j, none⟩ = some u
  free : ∀ j, w.frozen? ⟨g, j, none⟩ = false
  lt : g < w.heap.size
theorem room_made {w' : World} {g n sz : Nat} {base : Nat} {e : TypeId} {xs : List Value}
    (ho : w'.ownsRow base e sz (.slice (some ⟨g, 0, none⟩) n n) n xs) : Room w' g (n * sz) := by
  refine ⟨fun j hj => ?_, fun j => ho.frozenAt j, ?_⟩
  · rw [ho.cellAt j hj]
    have : j < xs.length := by rw [ho.1]; omega
    exact ⟨xs[j], by simp [this]⟩
  · rcases ho.2 with ⟨h, _⟩ | ⟨g', cap, cur, h, _, hh, _⟩
    · simp at h
    · simp only [Value.slice.injEq, Option.some.injEq, Addr.mk.injEq, and_true, true_and] at h
      obtain ⟨rfl, rfl⟩ := h
      exact (Array.getElem?_eq_some_iff.1 hh).1
theorem Room.below {w w' : World} {g m B : Nat} (h : Room w g m) (hb : Below B w w') (hg : g < B) : Room w' g m := by
  refine ⟨fun j hj => ?_, fun j => (hb.frozen (p := ⟨g, j, none⟩) hg).trans (h.free j), Nat.lt_of_lt_of_le h.lt hb.size⟩
  obtain ⟨u, hu⟩ := h.has j hj
  exact ⟨u, (hb.cell (p := ⟨g, j, none⟩) hg).trans hu⟩
theorem size_setCells (b : Nat) : ∀ (vs : List Value) (o : Nat) (w : World), (w.setCells b o vs).heap.size = w.heap.size
  | [], _, _ => rfl
  | v :: r, o, w => by rw [World.setCells, size_setCells b r, World.size_setCell]
theorem Room.setCells {w : World} {g m o : Nat} (h : Room w g m) (vs : List Value) (ho : o + vs.length ≤ m) : Room (w.setCells g o vs) g m := by
  refine ⟨fun j hj => ?_, fun j => by rw [World.frozen?_setCells]; exact h.free j, by rw [size_setCells]; exact h.lt⟩
  by_cases hj2 : j < o ∨ o + vs.length ≤ j
  · rw [World.cell?_setCells_out g vs o w _ (fun _ _ => hj2)]
    exact h.has j hj
  · obtain ⟨i, rfl⟩ : ∃ i, j = o + i := ⟨j - o, by omega⟩
    have hi : i < vs.length := by omega
    exact ⟨vs[i], World.cell?_setCells_in g vs o w (fun j hj => by
      obtain ⟨u, hu⟩ := h.has (o + j) (by omega)
      rw [hu]; rfl) i hi⟩
theorem fr_setCells (b : Nat) : ∀ (vs : List Value) (o : Nat) (w : World), Fr b (b + 1) w (w.setCells b o vs)
  | [], _, w => Fr.refl _ _ w
  | v :: r, o, w => ((Fr.refl b (b+1) w).setCell (p := ⟨b, o, none⟩) (Nat.le_refl _) (Nat.lt_succ_self _) v).trans (fr_setCells b r (o+1) _)
/-- the n objects of block g, their holds in blocks behind it, one behind the other -/
structure ObjsOwnAt (w : World) (g hi n m : Nat) (x : Nat → Ob) (r : Nat → Nat) : Prop where
  room : Room w g (m * 7)
  r0 : g < r 0
  mono : ∀ i, i < n → r i ≤ r (i + 1)
  rn : r n ≤ hi
  hi : hi ≤ w.heap.size
  at_ : ∀ i, i < n → ∃ ah ch, ObCells w g (i * 7) (x i) ah ch ∧ StrsOwn w (r i) (r (i + 1)) ah (x i).hn (x i).hs
theorem r_mono {r : Nat → Nat} {n : Nat} (h : ∀ i, i < n → r i ≤ r (i + 1)) : ∀ {i j : Nat}, i ≤ j → j ≤ n → r i ≤ r j := by
  intro i j hij hj
  induction j with
  | zero => have : i = 0 := by omega
            subst this; exact Nat.le_refl _
  | succ j ih => rcases Nat.lt_or_ge j i with h1 | h1
                 · have : i = j + 1 := by omega
                   subst this; exact Nat.le_refl _
                 · exact Nat.le_trans (ih h1 (by omega)) (h j (by omega))
theorem ObCells.fr {w w' : World} {b o : Nat} {x : Ob} {ad : Option Addr} {cap : Nat} (h : ObCells w b o x ad cap) (e : ∀ j, j < 7 → w'.cell? ⟨b, o + j, none⟩ = w.cell? ⟨b, o + j, none⟩) : ObCells w' b o x ad cap :=
  ⟨(e 0 (by omega)).trans h.c0, (e 1 (by omega)).trans h.c1, (e 2 (by omega)).trans h.c2, (e 3 (by omega)).trans h.c3, (e 4 (by omega)).trans h.c4, (e 5 (by omega)).trans h.c5, (e 6 (by omega)).trans h.c6⟩
theorem ObjsOwnAt.step {wr w1 : World} {g k n : Nat} {x : Nat → Ob} {r : Nat → Nat} (h : ObjsOwnAt wr g wr.heap.size k n x r) (hk : k < n) (hb : Below wr.heap.size wr w1) {ah : Option Addr} {ch : Nat}
    (hs : StrsOwn w1 wr.heap.size w1.heap.size ah (x k).hn (x k).hs) :
    ∃ r', ObjsOwnAt (w1.setCells g (k * 7) [.string (x k).kind, .string (x k).name, .int .i64 (x k).ver, .int .i64 (x k).born, .string (x k).text, .bool (x k).ending, .slice ah (x k).hn ch]) g (w1.setCells g (k * 7) [.string (x k).kind, .string (x k).name, .int .i64 (x k).ver, .int .i64 (x k).born, .string (x k).text, .bool (x k).ending, .slice ah (x k).hn ch]).heap.size (k + 1) n x r' := by
  have hg := h.room.lt
  have hR := h.room.below hb hg
  generalize hvs : [Value.string (x k).kind, .string (x k).name, .int .i64 (x k).ver, .int .i64 (x k).born, .string (x k).text, .bool (x k).ending, .slice ah (x k).hn ch] = vs
  have hlen : vs.length = 7 := by rw [← hvs]; rfl
  have hF := fr_setCells g vs (k * 7) w1
  have hin := World.cell?_setCells_in g vs (k * 7) w1 (fun j hj => by
    obtain ⟨u, hu⟩ := hR.has (k * 7 + j) (by omega)
    rw [hu]; rfl)
  refine ⟨fun i => if i ≤ k then r i else w1.heap.size, hR.setCells vs (by omega), by simpa using h.r0, fun i hi => ?_, ?_, Nat.le_refl _, fun i hi => ?_⟩
  · by_cases e : i < k
    · rw [if_pos (by omega), if_pos (by omega)]; exact h.mono i e
    · have : i = k := by omega
      subst this
      rw [if_pos (by omega), if_neg (by omega)]; exact Nat.le_trans h.rn hb.size
  · rw [if_neg (by omega), size_setCells]; exact Nat.le_refl _
  · by_cases e : i < k
    · obtain ⟨ah', ch', c, s⟩ := h.at_ i e
      refine ⟨ah', ch', ?_, ?_⟩
      · refine (c.below hb hg).fr (fun j hj => ?_)
        exact World.cell?_setCells_out g vs (k * 7) w1 _ (fun _ _ => Or.inl (by show i * 7 + j < k * 7; omega))
      · rw [if_pos (by omega), if_pos (by omega)]
        have h1 : r (i + 1) ≤ wr.heap.size := Nat.le_trans (r_mono h.mono (by omega) (Nat.le_refl _)) h.rn
        have h2 : g < r i := Nat.lt_of_lt_of_le h.r0 (r_mono h.mono (Nat.zero_le _) (by omega))
        exact (s.fr (Fr.of_below (lo := 0) (hi := 0) hb) h1 (Or.inr (Nat.zero_le _))).fr hF (Nat.le_trans h1 hb.size) (Or.inr (by omega))
    · have : i = k := by omega
      subst this
      refine ⟨ah, ch, ?_, ?_⟩
      · have f := fun j (hj : j < 7) => hin j (by omega)
        have f0 := f 0 (by omega); have f1 := f 1 (by omega); have f2 := f 2 (by omega); have f3 := f 3 (by omega); have f4 := f 4 (by omega); have f5 := f 5 (by omega); have f6 := f 6 (by omega)
        subst hvs
        exact ⟨f0, f1, f2, f3, f4, f5, f6⟩
      · rw [if_pos (by omega), if_neg (by omega)]
        exact (hs.fr hF (Nat.le_refl _) (Or.inr (by omega))).mono h.rn (Nat.le_refl _)
theorem ObjsOwnAt.start {w1 : World} {g n : Nat} (x : Nat → Ob) (h : Room w1 g (n * 7)) : ObjsOwnAt w1 g w1.heap.size 0 n x (fun _ => g + 1) :=
  ⟨h, Nat.lt_succ_self _, fun _ h => absurd h (Nat.not_lt_zero _), h.lt, Nat.le_refl _, fun _ h => absurd h (Nat.not_lt_zero _)⟩
end Go.Proofs.YtkfbclopkgnacaaGreatDoor
namespace Go.Proofs.YtkfbclopkgnacaaGreatDoor
open Go.RowKit
theorem Tryz.info41 : (Tryz.prog.info? 41).map (fun i => (i.zero, i.size, i.bytes)) = some (some (.agg #[.int .i64 0, .bool false, .string ByteArray.empty, .string ByteArray.empty, .int .i64 0, .int .i64 0, .string ByteArray.empty, .bool false, .slice none 0 0]), 9, 112) := by kernel_rfl
/-- the n objects of block g, their holds in blocks behind it, one behind the other -/
structure ChgsOwnAt (w : World) (g hi n m : Nat) (x : Nat → Ch) (r : Nat → Nat) : Prop where
  room : Room w g (m * 9)
  r0 : g < r 0
  mono : ∀ i, i < n → r i ≤ r (i + 1)
  rn : r n ≤ hi
  hi : hi ≤ w.heap.size
  at_ : ∀ i, i < n → ∃ ah ch, ChCells w g (i * 9) (x i) ah ch ∧ StrsOwn w (r i) (r (i + 1)) ah (x i).ob.hn (x i).ob.hs
theorem ChCells.fr {w w' : World} {b o : Nat} {x : Ch} {ad : Option Addr} {cap : Nat} (h : ChCells w b o x ad cap) (e : ∀ j, j < 9 → w'.cell? ⟨b, o + j, none⟩ = w.cell? ⟨b, o + j, none⟩) : ChCells w' b o x ad cap :=
  ⟨(e 0 (by omega)).trans h.c0, (e 1 (by omega)).trans h.c1, (e 2 (by omega)).trans h.c2, (e 3 (by omega)).trans h.c3, (e 4 (by omega)).trans h.c4, (e 5 (by omega)).trans h.c5, (e 6 (by omega)).trans h.c6, (e 7 (by omega)).trans h.c7, (e 8 (by omega)).trans h.c8⟩
theorem ChgsOwnAt.step {wr w1 : World} {g k n : Nat} {x : Nat → Ch} {r : Nat → Nat} (h : ChgsOwnAt wr g wr.heap.size k n x r) (hk : k < n) (hb : Below wr.heap.size wr w1) {ah : Option Addr} {ch : Nat}
    (hs : StrsOwn w1 wr.heap.size w1.heap.size ah (x k).ob.hn (x k).ob.hs) :
    ∃ r', ChgsOwnAt (w1.setCells g (k * 9) [.int .i64 (x k).ver, .bool (x k).gone, .string (x k).ob.kind, .string (x k).ob.name, .int .i64 (x k).ob.ver, .int .i64 (x k).ob.born, .string (x k).ob.text, .bool (x k).ob.ending, .slice ah (x k).ob.hn ch]) g (w1.setCells g (k * 9) [.int .i64 (x k).ver, .bool (x k).gone, .string (x k).ob.kind, .string (x k).ob.name, .int .i64 (x k).ob.ver, .int .i64 (x k).ob.born, .string (x k).ob.text, .bool (x k).ob.ending, .slice ah (x k).ob.hn ch]).heap.size (k + 1) n x r' := by
  have hg := h.room.lt
  have hR := h.room.below hb hg
  generalize hvs : [Value.int .i64 (x k).ver, .bool (x k).gone, .string (x k).ob.kind, .string (x k).ob.name, .int .i64 (x k).ob.ver, .int .i64 (x k).ob.born, .string (x k).ob.text, .bool (x k).ob.ending, .slice ah (x k).ob.hn ch] = vs
  have hlen : vs.length = 9 := by rw [← hvs]; rfl
  have hF := fr_setCells g vs (k * 9) w1
  have hin := World.cell?_setCells_in g vs (k * 9) w1 (fun j hj => by
    obtain ⟨u, hu⟩ := hR.has (k * 9 + j) (by omega)
    rw [hu]; rfl)
  refine ⟨fun i => if i ≤ k then r i else w1.heap.size, hR.setCells vs (by omega), by simpa using h.r0, fun i hi => ?_, ?_, Nat.le_refl _, fun i hi => ?_⟩
  · by_cases e : i < k
    · rw [if_pos (by omega), if_pos (by omega)]; exact h.mono i e
    · have : i = k := by omega
      subst this
      rw [if_pos (by omega), if_neg (by omega)]; exact Nat.le_trans h.rn hb.size
  · rw [if_neg (by omega), size_setCells]; exact Nat.le_refl _
  · by_cases e : i < k
    · obtain ⟨ah', ch', c, s⟩ := h.at_ i e
      refine ⟨ah', ch', ?_, ?_⟩
      · refine (c.below hb hg).fr (fun j hj => ?_)
        exact World.cell?_setCells_out g vs (k * 9) w1 _ (fun _ _ => Or.inl (by show i * 9 + j < k * 9; omega))
      · rw [if_pos (by omega), if_pos (by omega)]
        have h1 : r (i + 1) ≤ wr.heap.size := Nat.le_trans (r_mono h.mono (by omega) (Nat.le_refl _)) h.rn
        have h2 : g < r i := Nat.lt_of_lt_of_le h.r0 (r_mono h.mono (Nat.zero_le _) (by omega))
        exact (s.fr (Fr.of_below (lo := 0) (hi := 0) hb) h1 (Or.inr (Nat.zero_le _))).fr hF (Nat.le_trans h1 hb.size) (Or.inr (by omega))
    · have : i = k := by omega
      subst this
      refine ⟨ah, ch, ?_, ?_⟩
      · have f := fun j (hj : j < 9) => hin j (by omega)
        have f0 := f 0 (by omega); have f1 := f 1 (by omega); have f2 := f 2 (by omega); have f3 := f 3 (by omega); have f4 := f 4 (by omega); have f5 := f 5 (by omega); have f6 := f 6 (by omega); have f7 := f 7 (by omega); have f8 := f 8 (by omega)
        subst hvs
        exact ⟨f0, f1, f2, f3, f4, f5, f6, f7, f8⟩
      · rw [if_pos (by omega), if_neg (by omega)]
        exact (hs.fr hF (Nat.le_refl _) (Or.inr (by omega))).mono h.rn (Nat.le_refl _)
theorem ChgsOwnAt.start {w1 : World} {g n : Nat} (x : Nat → Ch) (h : Room w1 g (n * 9)) : ChgsOwnAt w1 g w1.heap.size 0 n x (fun _ => g + 1) :=
  ⟨h, Nat.lt_succ_self _, fun _ h => absurd h (Nat.not_lt_zero _), h.lt, Nat.le_refl _, fun _ h => absurd h (Nat.not_lt_zero _)⟩
end Go.Proofs.YtkfbclopkgnacaaGreatDoor
namespace Go.Proofs.YtkfbclopkgnacaaGreatDoor
open Go.RowKit
/-- bytes of one's own, in a row that may be marked behind its end -/
def BL (w : World) (base : Nat) (v : Value) (l : List UInt8) : Prop :=
  ∃ g cap, v = .slice (some ⟨g, 0, none⟩) l.length cap ∧ base ≤ g ∧ g < w.heap.size ∧ l.length ≤ cap ∧ (∀ j, j < cap → (w.cell? ⟨g, j, none⟩).isSome = true ∧ w.frozen? ⟨g, j, none⟩ = false) ∧ (∀ j (h : j < l.length), w.cell? ⟨g, j, none⟩ = some (.int .u8 (l[j].toNat : Int)))
theorem BL.grow {w w' : World} {base : Nat} {v : Value} {l : List UInt8} (h : BL w base v l) (hb : Below w.heap.size w w') : BL w' base v l := by
  obtain ⟨g, cap, e1, e2, e3, e4, e5, e6⟩ := h
  have hc : ∀ j, w'.cell? ⟨g, j, none⟩ = w.cell? ⟨g, j, none⟩ := fun j => hb.cell (p := ⟨g, j, none⟩) e3
  have hf : ∀ j, w'.frozen? ⟨g, j, none⟩ = w.frozen? ⟨g, j, none⟩ := fun j => hb.frozen (p := ⟨g, j, none⟩) e3
  exact ⟨g, cap, e1, e2, Nat.lt_of_lt_of_le e3 hb.size, e4, fun j hj => by rw [hc, hf]; exact e5 j hj, fun j hj => by rw [hc]; exact e6 j hj⟩
theorem add_zero_addr (g j : Nat) : ((⟨g, 0, none⟩ : Addr).add j) = ⟨g, j, none⟩ := by unfold Addr.add; split <;> simp_all
theorem BL.conv {W : World} {base : Nat} {v : Value} {l : List UInt8} (h : BL W base v l) : (convert 54 9 v).run Tryz.prog W = .ok (.string ⟨l.toArray⟩) W := by
  obtain ⟨g, cap, rfl, e2, e3, e4, e5, e6⟩ := h
  refine run_convert_bytes_back (P := Tryz.prog) W 54 9 5 ⟨g, 0, none⟩ cap l Tryz.underlying54 Tryz.underlying5 Tryz.underlying9 ?_
  intro i hi
  rw [add_zero_addr]
  exact e6 i hi
theorem BL.len {W : World} {base : Nat} {v : Value} {l : List UInt8} (h : BL W base v l) : ∃ ad cap, v = .slice ad l.length cap := by
  obtain ⟨g, cap, e, _⟩ := h
  exact ⟨_, _, e⟩
theorem BL.new (w : World) (s : ByteArray) : ∃ v w2, (convert 9 54 (.string s)).run Tryz.prog w = .ok v w2 ∧ BL w2 w.heap.size v s.data.toList ∧ Below w.heap.size w w2 := by
  refine ⟨_, _, run_bytes_of_string (P := Tryz.prog) w 9 54 5 s Tryz.underlying9 Tryz.underlying54 Tryz.underlying5, ?_, ((Below.refl _ _).drew).alloc (Nat.le_refl _) _⟩
  have hz : s.data.toList.length = s.size := by rw [Array.length_toList]; rfl
  have hcs : (bytesRow s (grownCap w s.size 0 5)).size = grownCap w s.size 0 5 := by
    have := grownCap_ge w s.size 0 5
    have e : s.data.size = s.size := rfl
    simp [bytesRow]
    omega
  refine ⟨w.heap.size, grownCap w s.size 0 5, by rw [hz], Nat.le_refl _, by rw [World.size_alloc]; exact Nat.lt_succ_self _, by rw [hz]; exact grownCap_ge w s.size 0 5, fun j hj => ⟨?_, ?_⟩, fun j hj => ?_⟩
  · have := World.cell?_alloc_mark w.drew (bytesRow s (grownCap w s.size 0 5)) 5 ((bytesRow s (grownCap w s.size 0 5)).size, (bytesRow s (grownCap w s.size 0 5)).size + 1) j
    rw [show w.drew.heap.size = w.heap.size from rfl] at this
    rw [this, Array.getElem?_eq_getElem (by omega)]
    rfl
  · have := World.frozen?_alloc_mark w.drew (bytesRow s (grownCap w s.size 0 5)) 5 (bytesRow s (grownCap w s.size 0 5)).size ((bytesRow s (grownCap w s.size 0 5)).size + 1) j
    rw [show w.drew.heap.size = w.heap.size from rfl] at this
    rw [this]
    simp
    omega
  · have := World.cell?_alloc_mark w.drew (bytesRow s (grownCap w s.size 0 5)) 5 ((bytesRow s (grownCap w s.size 0 5)).size, (bytesRow s (grownCap w s.size 0 5)).size + 1) j
    rw [show w.drew.heap.size = w.heap.size from rfl] at this
    rw [this, bytesRow_at s _ j (by rw [Array.length_toList] at hj; exact hj)]
    simp
theorem BL.app {w : World} {base : Nat} {v : Value} {l : List UInt8} (h : BL w base v l) (s : ByteArray) (hl : (l.length : Int) + s.size ≤ 70368744177664) (hbase : base ≤ w.heap.size) (ty : TypeId) :
    ∃ v2 w2, (Builtin.append_ #[54, 9] ty #[v, .string s]).run Tryz.prog w = .ok v2 w2 ∧ BL w2 base v2 (l ++ s.data.toList) ∧ Below base w w2 := by
  obtain ⟨i0, hi0, hz0, hz1, hz2⟩ := info_parts Tryz.info5
  obtain ⟨g, cap, rfl, e2, e3, e4, e5, e6⟩ := h
  have hz : s.data.toList.length = s.size := by rw [Array.length_toList]; rfl
  have hbl : (byteCells s).length = s.size := byteCells_length s
  have src := Src.ofString (P := Tryz.prog) w (tx := 9) Tryz.underlying9 s
  by_cases hr : l.length + s.size ≤ cap
  · have hrun := run_append_room_src (P := Tryz.prog) w 54 9 ty 5 i0 Tryz.underlying54 hi0 g 0 l.length cap (.string s) s.size (byteCells s) (by rw [hz1]; exact src) hr (fun j hj => (by rw [hz1, Nat.zero_add, Nat.mul_one]; exact (e5 _ (by omega)).1)) (fun j hj => (by rw [hz1, Nat.zero_add, Nat.mul_one]; exact (e5 _ (by omega)).2))
    rw [hz1, Nat.zero_add, Nat.mul_one] at hrun
    refine ⟨_, _, hrun, ⟨g, cap, by rw [List.length_append, hz], e2, by rw [size_setCells]; exact e3, by rw [List.length_append, hz]; exact hr, fun j hj => ⟨?_, ?_⟩, fun j hj => ?_⟩, (fr_setCells g (byteCells s) l.length w).below e2 hbase⟩
    · by_cases hin : l.length ≤ j ∧ j < l.length + s.size
      · obtain ⟨k, rfl⟩ : ∃ k, j = l.length + k := ⟨j - l.length, by omega⟩
        rw [World.cell?_setCells_in g (byteCells s) l.length w (fun j hj => (e5 _ (by omega)).1) k (by omega)]
        rfl
      · rw [World.cell?_setCells_out g (byteCells s) l.length w ⟨g, j, none⟩ (fun _ _ => by show j < _ ∨ _ ≤ j; omega)]
        exact (e5 j hj).1
    · rw [World.frozen?_setCells]; exact (e5 j hj).2
    · rw [List.length_append, hz] at hj
      by_cases hjl : j < l.length
      · rw [World.cell?_setCells_out g (byteCells s) l.length w ⟨g, j, none⟩ (fun _ _ => Or.inl hjl), e6 j hjl, List.getElem_append_left hjl]
      · obtain ⟨k, rfl⟩ : ∃ k, j = l.length + k := ⟨j - l.length, by omega⟩
        have := World.cell?_setCells_in g (byteCells s) l.length w (fun j hj => (e5 _ (by omega)).1) k (by omega)
        rw [this, List.getElem_append_right (by omega)]
        simp [byteCells]
  · have hnl : ((Lib.byteCells l)).length = l.length := by simp [Lib.byteCells]
    have hold := (Src.ofSlice (P := Tryz.prog) w (size := 1) (tx := 54) Tryz.underlying54 ⟨g, 0, none⟩ l.length cap (Lib.byteCells l) (by rw [hnl, Nat.mul_one]) (fun j u hu => by
      rw [add_zero_addr]
      have hj : j < l.length := by
        rcases Nat.lt_or_ge j l.length with h | h
        · exact h
        · rw [List.getElem?_eq_none (by omega)] at hu; cases hu
      rw [e6 j hj]
      rw [List.getElem?_eq_getElem (by omega)] at hu
      simpa [Lib.byteCells] using hu) (by simp [Lib.byteCells, Value.oneCell'])).cellsD
    have hrun := run_append_grow_src (P := Tryz.prog) w 54 9 ty 5 i0 (.int .u8 0) Tryz.underlying54 hi0 hz0 (some ⟨g, 0, none⟩) l.length cap (Lib.byteCells l) (by rw [hz1]; exact hold) (.string s) s.size (byteCells s) (by rw [hz1]; exact src) (by omega) (by omega) (growslice_fits (by omega) (by rw [hz2]; omega))
    have hcg := grownCap_ge w (l.length + s.size) cap 5
    obtain ⟨gc, hgc⟩ : ∃ gc, grownCap w (l.length + s.size) cap 5 = gc := ⟨_, rfl⟩
    rw [hgc] at hrun hcg
    have hcs : ((Lib.byteCells l ++ byteCells s).toArray ++ Builtin.zeroCells (Value.int .u8 0).cells (gc - (l.length + s.size))).size = gc := by
      rw [Array.size_append, size_zeroCells]
      simp [hnl, hbl, Value.cells]
      omega
    refine ⟨_, _, hrun, ⟨w.heap.size, gc, by rw [List.length_append, hz], hbase, by rw [World.size_alloc]; exact Nat.lt_succ_self _, by rw [List.length_append, hz]; exact hcg, fun j hj => ⟨?_, ?_⟩, fun j hj => ?_⟩, ((Below.refl _ _).drew).alloc hbase _⟩
    · have := World.cell?_alloc_new w.drew ((Lib.byteCells l ++ byteCells s).toArray ++ Builtin.zeroCells (Value.int .u8 0).cells (gc - (l.length + s.size))) 5 j
      rw [show w.drew.heap.size = w.heap.size from rfl] at this
      rw [this, Array.getElem?_eq_getElem (by omega)]
      rfl
    · have := World.frozen?_alloc_mark w.drew ((Lib.byteCells l ++ byteCells s).toArray ++ Builtin.zeroCells (Value.int .u8 0).cells (gc - (l.length + s.size))) 5 0 0 j
      rw [show w.drew.heap.size = w.heap.size from rfl] at this
      simpa using this
    · have := World.cell?_alloc_new w.drew ((Lib.byteCells l ++ byteCells s).toArray ++ Builtin.zeroCells (Value.int .u8 0).cells (gc - (l.length + s.size))) 5 j
      rw [show w.drew.heap.size = w.heap.size from rfl] at this
      rw [List.length_append, hz] at hj
      rw [this, Array.getElem?_append_left (by simp [hnl, hbl]; omega)]
      rw [show Lib.byteCells l ++ byteCells s = Lib.byteCells (l ++ s.data.toList) by simp [Lib.byteCells, byteCells]]
      rw [List.getElem?_toArray, List.getElem?_eq_getElem (by simp [Lib.byteCells]; omega)]
      simp only [Lib.byteCells, List.getElem_map]
theorem BL.mono {w : World} {base base' : Nat} {v : Value} {l : List UInt8} (h : BL w base v l) (hb : base' ≤ base) : BL w base' v l := by
  obtain ⟨g, cap, e1, e2, e⟩ := h
  exact ⟨g, cap, e1, Nat.le_trans hb e2, e⟩
theorem operBL {o : Oper} {a : Act} {w : World} {K : Act → World → Prop} {Q : Exit → Act → World → Prop} (s x : Operand) (hop : o.op = Op.call { callee := Callee.builtin Builtin.append, args := #[s, x], argTypes := #[54, 9] })
    (base : Nat) (v : Value) (l : List UInt8) (str : ByteArray) (hs : a.eval s = v) (hx : a.eval x = .string str) (ho : BL w base v l) (hl : (l.length : Int) + str.size ≤ 70368744177664) (hbase : base ≤ w.heap.size)
    (hK : ∀ v2 w2, BL w2 base v2 (l ++ str.data.toList) → Below base w w2 → K (a.put o.dst v2) w2) : o.wp Tryz.prog a w K Q := by
  obtain ⟨v2, w2, hr, h2, h3⟩ := ho.app str hl hbase o.type
  unfold Oper.wp execOp
  simp only [hop, resolve, invoke, builtin, Sem.run_bind, Sem.run_pure, Result.andThen_ok, List.map_toArray, List.map_cons, List.map_nil, hs, hx, hr]
  exact hK v2 w2 h2 h3
theorem wpListBL {w : World} {ops : Array Oper} {rest : List Oper} {o : Oper} {a : Act} {Q : Exit → Act → World → Prop} (hgd : o.guard = none) (s x : Operand) (hop : o.op = Op.call { callee := Callee.builtin Builtin.append, args := #[s, x], argTypes := #[54, 9] })
    (base : Nat) (v : Value) (l : List UInt8) (str : ByteArray) (hs : a.eval s = v) (hx : a.eval x = .string str) (ho : BL w base v l) (hl : (l.length : Int) + str.size ≤ 70368744177664) (hbase : base ≤ w.heap.size)
    (h : ∀ v2 w2, BL w2 base v2 (l ++ str.data.toList) → Below base w w2 → wpList Tryz.prog ops Q rest (a.put o.dst v2) w2) : wpList Tryz.prog ops Q (o :: rest) a w := by
  refine wpList_plain hgd fun K hK => ?_
  exact operBL s x hop base v l str hs hx ho hl hbase (fun v2 w2 h1 h2 => hK _ _ (h v2 w2 h1 h2))
end Go.Proofs.YtkfbclopkgnacaaGreatDoor
namespace Go.Proofs.YtkfbclopkgnacaaGreatDoor
open Go.RowKit
def sCells (xs : List ByteArray) : List Value := xs.map Value.string
/-- texts of one's own, in a row -/
def SL (w : World) (base : Nat) (v : Value) (xs : List ByteArray) : Prop :=
  ∃ g cap, v = .slice (some ⟨g, 0, none⟩) xs.length cap ∧ base ≤ g ∧ g < w.heap.size ∧ xs.length ≤ cap ∧ (∀ j, j < cap → (w.cell? ⟨g, j, none⟩).isSome = true ∧ w.frozen? ⟨g, j, none⟩ = false) ∧ (∀ j (h : j < xs.length), w.cell? ⟨g, j, none⟩ = some (.string xs[j]))
theorem SL.grow {w w' : World} {base B : Nat} {v : Value} {xs : List ByteArray} (h : SL w base v xs) (hb : Below B w w') (hB : w.heap.size ≤ B) : SL w' base v xs := by
  obtain ⟨g, cap, e1, e2, e3, e4, e5, e6⟩ := h
  have hc : ∀ j, w'.cell? ⟨g, j, none⟩ = w.cell? ⟨g, j, none⟩ := fun j => hb.cell (p := ⟨g, j, none⟩) (Nat.lt_of_lt_of_le e3 hB)
  have hf : ∀ j, w'.frozen? ⟨g, j, none⟩ = w.frozen? ⟨g, j, none⟩ := fun j => hb.frozen (p := ⟨g, j, none⟩) (Nat.lt_of_lt_of_le e3 hB)
  exact ⟨g, cap, e1, e2, Nat.lt_of_lt_of_le e3 hb.size, e4, fun j hj => by rw [hc, hf]; exact e5 j hj, fun j hj => by rw [hc]; exact e6 j hj⟩
theorem SL.new (w : World) (xs : List ByteArray) : SL (w.alloc (.cells (sCells xs).toArray 9)) w.heap.size (.slice (some ⟨w.heap.size, 0, none⟩) xs.length xs.length) xs := by
  have hl : (sCells xs).length = xs.length := by simp [sCells]
  refine ⟨w.heap.size, xs.length, rfl, Nat.le_refl _, by rw [World.size_alloc]; exact Nat.lt_succ_self _, Nat.le_refl _, fun j hj => ⟨?_, ?_⟩, fun j hj => ?_⟩
  · rw [World.cell?_alloc_new, List.getElem?_toArray, List.getElem?_eq_getElem (by omega)]; rfl
  · simp
  · rw [World.cell?_alloc_new, List.getElem?_toArray, List.getElem?_eq_getElem (by omega)]
    simp [sCells]
theorem SL.app {w : World} {base : Nat} {v : Value} {xs : List ByteArray} (h : SL w base v xs) (x : Value) (news : List ByteArray) (src : Src Tryz.prog 1 32 x news.length (sCells news) w) (hl : (xs.length : Int) + news.length ≤ 1000000000) (hbase : base ≤ w.heap.size) (ty : TypeId) :
    ∃ v2 w2, (Builtin.append_ #[32, 32] ty #[v, x]).run Tryz.prog w = .ok v2 w2 ∧ SL w2 base v2 (xs ++ news) ∧ Below base w w2 ∧ (∀ k, k < w.heap.size → v.ownBlock ≠ some k → w2.heap[k]? = w.heap[k]?) := by
  obtain ⟨i0, hi0, hz0, hz1, hz2⟩ := info_parts Tryz.info9
  obtain ⟨g, cap, rfl, e2, e3, e4, e5, e6⟩ := h
  have hbl : (sCells news).length = news.length := by simp [sCells]
  by_cases hr : xs.length + news.length ≤ cap
  · have hrun := run_append_room_src (P := Tryz.prog) w 32 32 ty 9 i0 Tryz.underlying32 hi0 g 0 xs.length cap x news.length (sCells news) (by rw [hz1]; exact src) hr (fun j hj => (by rw [hz1, Nat.zero_add, Nat.mul_one]; exact (e5 _ (by omega)).1)) (fun j hj => (by rw [hz1, Nat.zero_add, Nat.mul_one]; exact (e5 _ (by omega)).2))
    rw [hz1, Nat.zero_add, Nat.mul_one] at hrun
    refine ⟨_, _, hrun, ⟨g, cap, by rw [List.length_append], e2, by rw [size_setCells]; exact e3, by rw [List.length_append]; exact hr, fun j hj => ⟨?_, ?_⟩, fun j hj => ?_⟩, (fr_setCells g (sCells news) xs.length w).below e2 hbase, fun k hk hne => (fr_setCells g (sCells news) xs.length w).block k hk (by have : g ≠ k := fun e => hne (by rw [← e]; rfl); omega)⟩
    · by_cases hin : xs.length ≤ j ∧ j < xs.length + news.length
      · obtain ⟨k, rfl⟩ : ∃ k, j = xs.length + k := ⟨j - xs.length, by omega⟩
        rw [World.cell?_setCells_in g (sCells news) xs.length w (fun j hj => (e5 _ (by omega)).1) k (by omega)]
        rfl
      · rw [World.cell?_setCells_out g (sCells news) xs.length w ⟨g, j, none⟩ (fun _ _ => by show j < _ ∨ _ ≤ j; omega)]
        exact (e5 j hj).1
    · rw [World.frozen?_setCells]; exact (e5 j hj).2
    · rw [List.length_append] at hj
      by_cases hjl : j < xs.length
      · rw [World.cell?_setCells_out g (sCells news) xs.length w ⟨g, j, none⟩ (fun _ _ => Or.inl hjl), e6 j hjl, List.getElem_append_left hjl]
      · obtain ⟨k, rfl⟩ : ∃ k, j = xs.length + k := ⟨j - xs.length, by omega⟩
        have := World.cell?_setCells_in g (sCells news) xs.length w (fun j hj => (e5 _ (by omega)).1) k (by omega)
        rw [this, List.getElem_append_right (by omega)]
        simp [sCells]
  · have hnl : (sCells xs).length = xs.length := by simp [sCells]
    have hold := (Src.ofSlice (P := Tryz.prog) w (size := 1) (tx := 32) Tryz.underlying32 ⟨g, 0, none⟩ xs.length cap (sCells xs) (by rw [hnl, Nat.mul_one]) (fun j u hu => by
      rw [add_zero_addr]
      have hj : j < xs.length := by
        rcases Nat.lt_or_ge j xs.length with h | h
        · exact h
        · rw [List.getElem?_eq_none (by omega)] at hu; cases hu
      rw [e6 j hj]
      rw [List.getElem?_eq_getElem (by omega)] at hu
      simpa [sCells] using hu) (by simp [sCells, Value.oneCell'])).cellsD
    have hrun := run_append_grow_src (P := Tryz.prog) w 32 32 ty 9 i0 (.string ByteArray.empty) Tryz.underlying32 hi0 hz0 (some ⟨g, 0, none⟩) xs.length cap (sCells xs) (by rw [hz1]; exact hold) x news.length (sCells news) (by rw [hz1]; exact src) (by omega) (by omega) (growslice_fits (by omega) (by rw [hz2]; omega))
    have hcg := grownCap_ge w (xs.length + news.length) cap 9
    obtain ⟨gc, hgc⟩ : ∃ gc, grownCap w (xs.length + news.length) cap 9 = gc := ⟨_, rfl⟩
    rw [hgc] at hrun hcg
    have hcs : ((sCells xs ++ sCells news).toArray ++ Builtin.zeroCells (Value.string ByteArray.empty).cells (gc - (xs.length + news.length))).size = gc := by
      rw [Array.size_append, size_zeroCells]
      simp [hnl, hbl, Value.cells]
      omega
    refine ⟨_, _, hrun, ⟨w.heap.size, gc, by rw [List.length_append], hbase, by rw [World.size_alloc]; exact Nat.lt_succ_self _, by rw [List.length_append]; exact hcg, fun j hj => ⟨?_, ?_⟩, fun j hj => ?_⟩, ((Below.refl _ _).drew).alloc hbase _, fun k hk _ => (((Below.refl w.heap.size w).drew).alloc (Nat.le_refl _) _).block k hk⟩
    · have := World.cell?_alloc_new w.drew ((sCells xs ++ sCells news).toArray ++ Builtin.zeroCells (Value.string ByteArray.empty).cells (gc - (xs.length + news.length))) 9 j
      rw [show w.drew.heap.size = w.heap.size from rfl] at this
      rw [this, Array.getElem?_eq_getElem (by omega)]
      rfl
    · have := World.frozen?_alloc_mark w.drew ((sCells xs ++ sCells news).toArray ++ Builtin.zeroCells (Value.string ByteArray.empty).cells (gc - (xs.length + news.length))) 9 0 0 j
      rw [show w.drew.heap.size = w.heap.size from rfl] at this
      simpa using this
    · have := World.cell?_alloc_new w.drew ((sCells xs ++ sCells news).toArray ++ Builtin.zeroCells (Value.string ByteArray.empty).cells (gc - (xs.length + news.length))) 9 j
      rw [show w.drew.heap.size = w.heap.size from rfl] at this
      rw [List.length_append] at hj
      rw [this, Array.getElem?_append_left (by simp [hnl, hbl]; omega)]
      rw [show sCells xs ++ sCells news = sCells (xs ++ news) by simp [sCells]]
      rw [List.getElem?_toArray, List.getElem?_eq_getElem (by simp [sCells]; omega)]
      simp only [sCells, List.getElem_map]
theorem Wr.grow {B b : Nat} {l : List UInt8} {w w' : World} (h : Wr B b l w) (hb : Below w.heap.size w w') : Wr B b l w' := by
  have hk : ∀ k, k < w.heap.size → w'.heap[k]? = w.heap[k]? := fun k hk => hb.block k hk
  have key : ∀ p, Lib.BuilderAt 71 5 B b p (Lib.byteCells l) w → Lib.BuilderAt 71 5 B b p (Lib.byteCells l) w' := by
    rintro p ⟨h1, v, h2, h3, h4⟩
    have hlt : b < w.heap.size := by
      rcases Nat.lt_or_ge b w.heap.size with h' | h'
      · exact h'
      · simp [Array.getElem?_eq_none h'] at h2
    refine ⟨h1, v, by rw [hk b hlt]; exact h2, ⟨h3.1, ?_⟩, h4⟩
    rcases h3.2 with hn | ⟨g, cap, cur, hv, hbg, hg, r⟩
    · exact Or.inl hn
    · have hgl : g < w.heap.size := by
        rcases Nat.lt_or_ge g w.heap.size with h' | h'
        · exact h'
        · simp [Array.getElem?_eq_none h'] at hg
      exact Or.inr ⟨g, cap, cur, hv, hbg, by rw [hk g hgl]; exact hg, r⟩
  rcases h with h | h
  · exact Or.inl (key _ h)
  · exact Or.inr (key _ h)
def wrdS (b : Bool) (s : ByteArray) : ByteArray := if b then s else ⟨#[45]⟩
set_option maxRecDepth 100000 in
theorem wordIf_any (b : Bool) (s : ByteArray) (w : World) : Calls Tryz.prog 41 #[.bool b, .string s] w fun e w' => e = .returned (.string (wrdS b s)) ∧ w' = w := by
  cases b
  all_goals
    go_enter Tryz.func41, Tryz.ntmps41
    go_wp2
    go_ret
    exact ⟨rfl, rfl⟩
def lineS (xs : List ByteArray) : ByteArray := (⟨(joinL xs).toArray⟩ : ByteArray) ++ (⟨#[10]⟩ : ByteArray)
set_option maxRecDepth 100000 in
set_option maxHeartbeats 1000000 in
theorem bookLine_any (base : Nat) (v : Value) (xs : List ByteArray) (w : World) (h : SL w base v xs) (hN : (xs.length : Int) ≤ 1000000000) (hlen : ((joinL xs).length : Int) ≤ 1000000000000) :
    Calls Tryz.prog 71 #[v] w fun e w' => e = .returned (.string (lineS xs)) ∧ Below w.heap.size w w' := by
  obtain ⟨g, cap, rfl, e2, e3, e4, e5, e6⟩ := h
  have hJ := join_any g 0 cap xs w (fun j x hx => by
    have hj : j < xs.length := by
      rcases Nat.lt_or_ge j xs.length with h | h
      · exact h
      · rw [List.getElem?_eq_none (by omega)] at hx; cases hx
    rw [List.getElem?_eq_getElem hj] at hx
    obtain rfl := Option.some.inj hx
    rw [Nat.zero_add]
    exact e6 j hj) e3 (by omega) e4 (by omega)
  have hsz : (⟨(joinL xs).toArray⟩ : ByteArray).size = (joinL xs).length := by simp [ByteArray.size]
  obtain ⟨jl, hjl⟩ : ∃ jl : ByteArray, jl = ⟨(joinL xs).toArray⟩ := ⟨_, rfl⟩
  rw [← hjl] at hsz hJ
  have hz : (jl.size : Int) ≤ 1000000000000 := by omega
  have HE : Hid (lineS xs = jl ++ (⟨#[10]⟩ : ByteArray)) := by rw [hjl]; exact hid rfl
  clear e5 e6 hlen hjl hsz
  go_enter Tryz.func71, Tryz.ntmps71
  go_wp2_with (go_at_call 108; refine hJ.mono ?_; rintro e w1 ⟨rfl, hb1⟩)
  go_ret
  exact ⟨by rw [HE.out]; rfl, hb1⟩
set_option maxRecDepth 100000 in
set_option maxHeartbeats 1000000 in
theorem line_any (B b : Nat) (l : List UInt8) (base : Nat) (v : Value) (xs : List ByteArray) (w : World) (hW : Wr B b l w) (hBw : B ≤ w.heap.size) (hS : SL w base v xs) (hN : (xs.length : Int) ≤ 1000000000) (hlen : ((joinL xs).length : Int) ≤ 1000000000000) (hl : (l.length : Int) ≤ 1000000000000) :
    Calls Tryz.prog 38 #[.pointer (some ⟨b, 0, none⟩), v] w fun e w' => e = .returned (.tuple #[]) ∧ Wr B b (l ++ (lineS xs).data.toList) w' ∧ Below B w w' := by
  have zz : ((lineS xs).size : Int) ≤ 1000000000001 := by
    have e1 : ((⟨#[10]⟩ : ByteArray)).size = 1 := rfl
    have hsz : (⟨(joinL xs).toArray⟩ : ByteArray).size = (joinL xs).length := by simp [ByteArray.size]
    unfold lineS
    rw [ByteArray.size_append, e1, hsz]
    omega
  have HS := hid hS
  have HW := hid hW
  clear hS hW
  go_enter Tryz.func38, Tryz.ntmps38
  go_wp2_with fail
  go_region_with (first
    | (go_at_call 71; go_must (refine (bookLine_any base v xs _ (HS.out.grow (B := w.heap.size) ((Below.refl _ _).drew) (Nat.le_refl _)) hN hlen).mono ?_; rintro e w1 ⟨rfl, hb0⟩; have hb1 : Below w.heap.size w w1 := ((Below.refl w.heap.size w).drew).trans hb0; clear hb0))
    | (go_at_call 70; go_must (refine (writeString_any B b l (lineS xs) _ (HW.out.grow hb1) (by omega) (by have := hb1.size; exact Nat.le_trans hBw this)).mono ?_; rintro e w2 ⟨rfl, hw2, hb2⟩)))
  go_wp2
  go_end0
  exact ⟨rfl, hw2, (hb1.mono hBw).trans hb2⟩
theorem SL.src {w : World} {base : Nat} {v : Value} {xs : List ByteArray} (h : SL w base v xs) : Src Tryz.prog 1 32 v xs.length (sCells xs) w := by
  obtain ⟨g, cap, rfl, e2, e3, e4, e5, e6⟩ := h
  have hnl : (sCells xs).length = xs.length := by simp [sCells]
  refine Src.ofSlice (P := Tryz.prog) w (size := 1) (tx := 32) Tryz.underlying32 ⟨g, 0, none⟩ xs.length cap (sCells xs) (by rw [hnl, Nat.mul_one]) (fun j u hu => ?_) (by simp [sCells, Value.oneCell'])
  rw [add_zero_addr]
  have hj : j < xs.length := by
    rcases Nat.lt_or_ge j xs.length with h | h
    · exact h
    · rw [List.getElem?_eq_none (by omega)] at hu; cases hu
  rw [e6 j hj]
  rw [List.getElem?_eq_getElem (by omega)] at hu
  simpa [sCells] using hu
/-- texts wherever they lie, as what is appended -/
theorem strs_src {w : World} {lo hi : Nat} {ad : Option Addr} {n cap : Nat} {s : Nat → ByteArray} (h : StrsIn w lo hi ad n s) : Src Tryz.prog 1 32 (.slice ad n cap) ((List.range n).map s).length (sCells ((List.range n).map s)) w := by
  have hl : ((List.range n).map s).length = n := by simp
  have hl2 : (sCells ((List.range n).map s)).length = n := by simp [sCells]
  rw [hl]
  cases ad with
  | none =>
    have h0 : n = 0 := by
      rcases Nat.eq_zero_or_pos n with h0 | h0
      · exact h0
      · obtain ⟨b, off, e, _⟩ := h 0 h0
        cases e
    subst h0
    exact Src.ofNil (P := Tryz.prog) w (tx := 32) Tryz.underlying32 cap
  | some a =>
    refine Src.ofSlice (P := Tryz.prog) w (size := 1) (tx := 32) Tryz.underlying32 a n cap _ (by rw [hl2, Nat.mul_one]) (fun j u hu => ?_) (by simp [sCells, Value.oneCell'])
    have hj : j < n := by
      rcases Nat.lt_or_ge j n with h | h
      · exact h
      · rw [List.getElem?_eq_none (by omega)] at hu; cases hu
    obtain ⟨b, off, e, _, _, e4⟩ := h j hj
    cases e
    rw [show ((⟨b, off, none⟩ : Addr).add j) = ⟨b, off + j, none⟩ by unfold Addr.add; split <;> simp_all, e4]
    rw [List.getElem?_eq_getElem (by omega)] at hu
    simpa [sCells] using hu
theorem operSL {o : Oper} {a : Act} {w : World} {K : Act → World → Prop} {Q : Exit → Act → World → Prop} (s x : Operand) (hop : o.op = Op.call { callee := Callee.builtin Builtin.append, args := #[s, x], argTypes := #[32, 32] })
    (base : Nat) (v xv : Value) (xs news : List ByteArray) (hs : a.eval s = v) (hx : a.eval x = xv) (ho : SL w base v xs) (src : Src Tryz.prog 1 32 xv news.length (sCells news) w) (hl : (xs.length : Int) + news.length ≤ 1000000000) (hbase : base ≤ w.heap.size)
    (hK : ∀ v2 w2, SL w2 base v2 (xs ++ news) → Below base w w2 → (∀ k, k < w.heap.size → v.ownBlock ≠ some k → w2.heap[k]? = w.heap[k]?) → K (a.put o.dst v2) w2) : o.wp Tryz.prog a w K Q := by
  obtain ⟨v2, w2, hr, h2, h3, h4⟩ := ho.app xv news src hl hbase o.type
  unfold Oper.wp execOp
  simp only [hop, resolve, invoke, builtin, Sem.run_bind, Sem.run_pure, Result.andThen_ok, List.map_toArray, List.map_cons, List.map_nil, hs, hx, hr]
  exact hK v2 w2 h2 h3 h4
theorem wpListSL {w : World} {ops : Array Oper} {rest : List Oper} {o : Oper} {a : Act} {Q : Exit → Act → World → Prop} (hgd : o.guard = none) (s x : Operand) (hop : o.op = Op.call { callee := Callee.builtin Builtin.append, args := #[s, x], argTypes := #[32, 32] })
    (base : Nat) (v xv : Value) (xs news : List ByteArray) (hs : a.eval s = v) (hx : a.eval x = xv) (ho : SL w base v xs) (src : Src Tryz.prog 1 32 xv news.length (sCells news) w) (hl : (xs.length : Int) + news.length ≤ 1000000000) (hbase : base ≤ w.heap.size)
    (h : ∀ v2 w2, SL w2 base v2 (xs ++ news) → Below base w w2 → (∀ k, k < w.heap.size → v.ownBlock ≠ some k → w2.heap[k]? = w.heap[k]?) → wpList Tryz.prog ops Q rest (a.put o.dst v2) w2) : wpList Tryz.prog ops Q (o :: rest) a w := by
  refine wpList_plain hgd fun K hK => ?_
  exact operSL s x hop base v xv xs news hs hx ho src hl hbase (fun v2 w2 h1 h2 h3 => hK _ _ (h v2 w2 h1 h2 h3))
end Go.Proofs.YtkfbclopkgnacaaGreatDoor
