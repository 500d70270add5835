import Derived.Test.YtkfbclopkgnacaaGreatDoorPa
import Derived.Test.YtkfbclopkgnacaaGreatDoorFp
import Derived.Shelf.Strconv.Atoi
import Derived.Shelf.Strconv.AtoiErrFast
import Derived.Shelf.Strconv.AtoiFail
import Derived.Shelf.LaysC
import Derived.Shelf.Strconv.AtoiLong
import Derived.Shelf.Strconv.AtoiInnerAll
import Derived.Shelf.Strconv.AtoiAll
import Derived.Shelf.LaysM
import Derived.Shelf.Strconv.Clone
import Derived.Shelf.Strings.IndexAny
import Derived.Shelf.Strings.IndexAnyAll
import Derived.Test.YtkfbclopkgnacaaGreatDoorRows
import Derived.Test.YtkfbclopkgnacaaGreatDoorOa
import Derived.Laws.RangeAny
import Derived.Laws.Runes
import Derived.Lib.OthersKept
import Derived.Shelf.Small.Utf8
namespace Go.Proofs.YtkfbclopkgnacaaGreatDoor
open Go.RowKit
theorem mem_byte {s : ByteArray} {c : UInt8} (h : c ∈ s.data.toList) : ∃ j, j < s.size ∧ byteAt s j = c := by
  obtain ⟨j, hj, e⟩ := List.getElem_of_mem h
  exact ⟨j, by rw [← pa_len]; exact hj, by rw [byteAt_list, List.getElem?_eq_getElem hj, e]; rfl⟩
/-- bytes that can be printed, and those of a word -/
def Prt (l : List UInt8) : Prop := ∀ c ∈ l, 32 ≤ c.toNat ∧ c.toNat < 128
def Wrd (l : List UInt8) : Prop := ∀ c ∈ l, 32 < c.toNat ∧ c.toNat < 128
theorem Wrd.prt {l : List UInt8} (h : Wrd l) : Prt l := fun c hc => ⟨by have := (h c hc).1; omega, (h c hc).2⟩
theorem Prt.app {l m : List UInt8} (h : Prt l) (k : Prt m) : Prt (l ++ m) := fun c hc => (List.mem_append.1 hc).elim (h c) (k c)
theorem Wrd.app {l m : List UInt8} (h : Wrd l) (k : Wrd m) : Wrd (l ++ m) := fun c hc => (List.mem_append.1 hc).elim (h c) (k c)
theorem Prt.cons {c : UInt8} {m : List UInt8} (h : 32 ≤ c.toNat ∧ c.toNat < 128) (k : Prt m) : Prt (c :: m) := fun d hd => by
  rcases List.mem_cons.1 hd with e | e
  · subst e; exact h
  · exact k d e
theorem Prt.nil : Prt [] := fun c hc => absurd hc (by simp)
theorem Wrd.nil : Wrd [] := fun c hc => absurd hc (by simp)
theorem Wrd.ne {l : List UInt8} (h : Wrd l) : ∀ c ∈ l, c ≠ 32 ∧ c ≠ 10 := fun c hc => ⟨fun e => by have := (h c hc).1; rw [e] at this; exact absurd this (by decide), fun e => by have := (h c hc).1; rw [e] at this; exact absurd this (by decide)⟩
theorem Prt.ne {l : List UInt8} (h : Prt l) : ∀ c ∈ l, c ≠ 10 := fun c hc e => by have := (h c hc).1; rw [e] at this; exact absurd this (by decide)
theorem nbB_wrd : ∀ c : UInt8, nbB c = true → 32 < c.toNat ∧ c.toNat < 128 := by
  intro c h
  unfold nbB at h
  simp only [Bool.or_eq_true, Bool.and_eq_true, decide_eq_true_eq, beq_iff_eq] at h
  omega
theorem wrd_name {s : ByteArray} (h : nameB s = true) : Wrd s.data.toList := fun c hc => by
  unfold nameB at h
  rw [Bool.and_eq_true] at h
  obtain ⟨j, hj, e⟩ := mem_byte hc
  have := allTo_iff.1 h.2 j hj
  rw [e] at this
  exact nbB_wrd c this
theorem wrd_dec (n : Nat) : Wrd (dS n).data.toList := fun c hc => by
  have hc' : c ∈ Lib.decDigits n := by simpa [dS] using hc
  rw [Lib.decDigits_eq] at hc'
  obtain ⟨k, _, rfl⟩ := List.mem_map.1 hc'
  unfold Lib.dg
  rw [UInt8.toNat_ofNat']
  have : n / 10 ^ (Lib.nDigits n - 1 - k) % 10 < 10 := Nat.mod_lt _ (by omega)
  omega
theorem digs_prt : ∀ x : Fin 16, 32 ≤ (byteAt digs x.val).toNat ∧ (byteAt digs x.val).toNat < 128 := by decide
theorem prt_qB (b : UInt8) : Prt (qB b) := by
  unfold qB
  cases h : plainB b
  · have hb := UInt8.toNat_lt b
    rw [if_neg (by decide)]
    refine Prt.cons (by decide) (Prt.cons (digs_prt ⟨b.toNat / 16, by omega⟩) (Prt.cons (digs_prt ⟨b.toNat % 16, by omega⟩) Prt.nil))
  · rw [if_pos rfl]
    unfold plainB at h
    simp only [Bool.and_eq_true, decide_eq_true_eq] at h
    exact Prt.cons (by omega) Prt.nil
theorem prt_qTo (s : ByteArray) : ∀ k, Prt (qTo s k)
  | 0 => Prt.cons (by decide) Prt.nil
  | k + 1 => (prt_qTo s k).app (prt_qB _)
theorem prt_quS (s : ByteArray) : Prt (quS s).data.toList := by
  show Prt (quL s).toArray.toList
  exact (prt_qTo s s.size).app (Prt.cons (by decide) Prt.nil)
theorem wrd_end (b : Bool) : Wrd (wrdS b endW).data.toList := by cases b <;> (intro c hc; revert c; decide)
theorem wrd_gone (b : Bool) : Wrd (wrdS b goneW).data.toList := by cases b <;> (intro c hc; revert c; decide)
/-- texts one behind the other, a space ahead of each -/
def spL (xs : List ByteArray) : List UInt8 := xs.flatMap (fun s => 32 :: s.data.toList)
theorem spL_nil : spL [] = [] := rfl
theorem spL_cons (a : ByteArray) (xs : List ByteArray) : spL (a :: xs) = 32 :: (a.data.toList ++ spL xs) := rfl
theorem spL_app (a b : List ByteArray) : spL (a ++ b) = spL a ++ spL b := by simp [spL]
theorem prt_spL : ∀ xs : List ByteArray, (∀ s ∈ xs, Prt s.data.toList) → Prt (spL xs)
  | [], _ => Prt.nil
  | a :: xs, h => Prt.cons (by decide) ((h a (by simp)).app (prt_spL xs fun s hs => h s (by simp [hs])))
theorem wrd_obj : Wrd (⟨#[111, 98, 106, 101, 99, 116]⟩ : ByteArray).data.toList := by intro c hc; revert c; decide
theorem wrd_chg : Wrd (⟨#[99, 104, 97, 110, 103, 101]⟩ : ByteArray).data.toList := by intro c hc; revert c; decide
theorem wrd_tic : Wrd (⟨#[116, 105, 99, 107, 101, 116]⟩ : ByteArray).data.toList := by intro c hc; revert c; decide
theorem wrd_bok : Wrd (⟨#[98, 111, 111, 107]⟩ : ByteArray).data.toList := by intro c hc; revert c; decide
/-- what stands on a line behind its first word -/
def obW (o : Ob) : List ByteArray := six o ++ hol o
def chW (c : Ch) : List ByteArray := wrdS c.gone goneW :: obW c.ob
def tiW (t : Ti) : List ByteArray := [t.client, dS t.num.toNat, dS t.code.toNat, dS t.ver.toNat, quS t.print]
def bkW (x : Bk) : List ByteArray := [dS x.now.toNat, dS x.floor.toNat]
/-- a line: its first word, and the others -/
structure Ln where
  hd : ByteArray
  ws : List ByteArray
def Ln.l (n : Ln) : List UInt8 := n.hd.data.toList ++ spL n.ws
def lnB (x : Bk) : Ln := ⟨⟨#[98, 111, 111, 107]⟩, bkW x⟩
def lnO (o : Ob) : Ln := ⟨⟨#[111, 98, 106, 101, 99, 116]⟩, obW o⟩
def lnC (c : Ch) : Ln := ⟨⟨#[99, 104, 97, 110, 103, 101]⟩, chW c⟩
def lnT (t : Ti) : Ln := ⟨⟨#[116, 105, 99, 107, 101, 116]⟩, tiW t⟩
theorem joinL_ln (a : ByteArray) (xs : List ByteArray) : joinL (a :: xs) = a.data.toList ++ spL xs := joinL_cons a xs
theorem oLine_ln (o : Ob) : (oLine o).data.toList = (lnO o).l ++ [10] := by
  rw [← oLine_l, lineS_l]
  exact congrArg (· ++ [10]) (joinL_ln _ _)
theorem cLine_ln (c : Ch) : (cLine c).data.toList = (lnC c).l ++ [10] := by
  rw [← cLine_l, lineS_l]
  exact congrArg (· ++ [10]) (joinL_ln _ _)
theorem tLine_ln (t : Ti) : (tLine t).data.toList = (lnT t).l ++ [10] := by
  rw [← tLine_l, lineS_l]
  exact congrArg (· ++ [10]) (joinL_ln _ _)
theorem headS_ln (x : Bk) : (headS x.now.toNat x.floor.toNat).data.toList = (lnB x).l ++ [10] := by
  rw [← headS_l, lineS_l]
  exact congrArg (· ++ [10]) (joinL_ln _ _)
/-- the lines of a book -/
def lnsO (x : Bk) : List Ln := (List.range x.on).map fun i => lnO (x.os i)
def lnsH (x : Bk) : List Ln := (List.range x.hn).map fun i => lnC (x.hs i)
def lnsT (x : Bk) : List Ln := (List.range x.tn).map fun i => lnT (x.ts i)
def lns (x : Bk) : List Ln := lnB x :: (lnsO x ++ (lnsH x ++ lnsT x))
def lnF (l : List Ln) : List UInt8 := l.flatMap fun n => n.l ++ [10]
theorem lnF_app (a b : List Ln) : lnF (a ++ b) = lnF a ++ lnF b := by simp [lnF]
theorem lnF_cons (a : Ln) (b : List Ln) : lnF (a :: b) = a.l ++ 10 :: lnF b := by simp [lnF]
theorem linesTo_lnF (f : Nat → ByteArray) (g : Nat → Ln) (h : ∀ i, (f i).data.toList = (g i).l ++ [10]) (l0 : List UInt8) : ∀ k, linesTo f l0 k = l0 ++ lnF ((List.range k).map g)
  | 0 => by simp [linesTo, lnF]
  | k + 1 => by
    rw [linesTo, linesTo_lnF f g h l0 k, List.range_succ, List.map_append, lnF_app, h k, List.append_assoc]
    simp [lnF]
theorem form_lns (x : Bk) : formT x x.tn = lnF (lns x) := by
  unfold formT formH formO
  rw [linesTo_lnF _ (fun i => lnT (x.ts i)) (fun i => tLine_ln _), linesTo_lnF _ (fun i => lnC (x.hs i)) (fun i => cLine_ln _), linesTo_lnF _ (fun i => lnO (x.os i)) (fun i => oLine_ln _), headS_ln]
  unfold lns
  rw [lnF_cons, lnF_app, lnF_app]
  simp [lnsO, lnsH, lnsT]
theorem lns_len (x : Bk) : (lns x).length = 1 + x.on + x.hn + x.tn := by
  unfold lns lnsO lnsH lnsT
  simp
  omega
theorem lns_0 (x : Bk) : (lns x)[0]? = some (lnB x) := rfl
theorem lns_o (x : Bk) (i : Nat) (h : i < x.on) : (lns x)[1 + i]? = some (lnO (x.os i)) := by
  unfold lns lnsO
  rw [Nat.add_comm, List.getElem?_cons_succ, List.getElem?_append_left (by simp [h])]
  simp [h]
theorem lns_h (x : Bk) (i : Nat) (h : i < x.hn) : (lns x)[1 + x.on + i]? = some (lnC (x.hs i)) := by
  unfold lns lnsO lnsH
  rw [show 1 + x.on + i = (x.on + i) + 1 by omega, List.getElem?_cons_succ, List.getElem?_append_right (by simp), List.getElem?_append_left (by simp [h])]
  simp [h]
theorem lns_t (x : Bk) (i : Nat) (h : i < x.tn) : (lns x)[1 + x.on + x.hn + i]? = some (lnT (x.ts i)) := by
  unfold lns lnsO lnsH lnsT
  rw [show 1 + x.on + x.hn + i = (x.on + (x.hn + i)) + 1 by omega, List.getElem?_cons_succ, List.getElem?_append_right (by simp), List.getElem?_append_right (by simp)]
  simp [h]
/-- what a text says that is the form of a valid book -/
structure TolB (s : ByteArray) (x : Bk) : Prop where
  ok : allTo (chk x) 7 = true
  fm : s.data.toList = lnF (lns x)
theorem told_of {s : ByteArray} {x : Bk} (h : formS x = s) (h0 : s ≠ ⟨#[]⟩) : TolB s x := by
  unfold formS at h
  cases hv : allTo (chk x) 7
  · rw [hv] at h
    exact absurd h.symm h0
  · rw [hv, if_pos rfl] at h
    by_cases hl : 200000 < ((formT x x.tn).length : Int)
    · rw [if_pos hl] at h
      exact absurd h.symm h0
    · rw [if_neg hl] at h
      refine ⟨hv, ?_⟩
      rw [← h, ← form_lns]
theorem TolB.form {s : ByteArray} {x : Bk} (h : TolB s x) (hs : (s.size : Int) ≤ 200000) : formS x = s := by
  unfold formS
  have e : (formT x x.tn).length = s.size := by rw [form_lns, ← h.fm, pa_len]
  rw [h.ok, if_pos rfl, if_neg (by omega), form_lns, ← h.fm]
/-- what a valid book is, as far as its words go -/
structure ObT (o : Ob) : Prop where
  k : nameB o.kind = true
  n : nameB o.name = true
  v : o.ver = (o.ver.toNat : Int)
  b : o.born = (o.born.toNat : Int)
  lv : o.ver.toNat ≤ 1000000
  lb : o.born.toNat ≤ 1000000
  h : ∀ i, i < o.hn → nameB (o.hs i) = true
structure TiT (t : Ti) : Prop where
  c : nameB t.client = true
  n : t.num = (t.num.toNat : Int)
  d : t.code = (t.code.toNat : Int)
  v : t.ver = (t.ver.toNat : Int)
  ln : t.num.toNat ≤ 1000000
  ld : t.code.toNat ≤ 1000000
  lv : t.ver.toNat ≤ 1000000
theorem partsB_t {o : Ob} {now : Int} (h : partsB o now = true) (hn : now ≤ 1000000) : ObT o := by
  have hv := partsB_v h hn
  unfold partsB holdsB ascB at h
  simp only [Bool.and_eq_true, decide_eq_true_eq] at h
  obtain ⟨h1, h2, h3, h4, h5, h6, h7⟩ := h
  refine ⟨h1, h2, hv.ev, hv.eb, by have := hv.lv; omega, by have := hv.lb; omega, fun i hi => ?_⟩
  have := allTo_iff.1 h7 i hi
  simp only [Bool.and_eq_true] at this
  exact this.1
theorem tiB_t {t : Ti} {now : Int} (h : tiB t now = true) (hn : now ≤ 1000000) : TiT t := by
  have hv := tiB_v h hn
  unfold tiB at h
  simp only [Bool.and_eq_true, decide_eq_true_eq] at h
  exact ⟨h.1, hv.en, hv.ec, hv.ev, by have := hv.ln; omega, by have := hv.lc; omega, by have := hv.lv; omega⟩
structure BkT (x : Bk) : Prop where
  v : BkV x
  os : ∀ i, i < x.on → ObT (x.os i)
  hs : ∀ i, i < x.hn → ObT (x.hs i).ob ∧ (x.hs i).ver = (x.hs i).ob.ver
  ts : ∀ i, i < x.tn → TiT (x.ts i)
theorem valid_t {x : Bk} (h : allTo (chk x) 7 = true) : BkT x := by
  have hv := valid_v h
  have c := fun i (hi : i < 7) => allTo_iff.1 h i hi
  have c0 : numB x.now x.floor = true := c 0 (by omega)
  have c1 : objs1B x.on x.os x.now = true := c 1 (by omega)
  have c3 : histB x.now x.floor x.hn x.hs = true := c 3 (by omega)
  have c6 : tisB x.tn x.ts x.now = true := c 6 (by omega)
  obtain ⟨n1, n2, n3⟩ := numB_yes c0
  unfold objs1B objFit at c1
  unfold histB at c3
  unfold tisB at c6
  simp only [Bool.and_eq_true, decide_eq_true_eq] at c1 c3 c6
  refine ⟨hv, fun i hi => ?_, fun i hi => ?_, fun i hi => ?_⟩
  · have := allTo_iff.1 c1.2.2 i hi
    simp only [Bool.and_eq_true] at this
    exact partsB_t this.1 n3
  · have := allTo_iff.1 c3.2.2 i hi
    unfold chgB at this
    simp only [Bool.and_eq_true, decide_eq_true_eq] at this
    exact ⟨partsB_t this.2.2.1 n3, (beq_iff_eq.1 this.2.1).symm⟩
  · exact tiB_t (allTo_iff.1 c6.2.2 i hi) n3
end Go.Proofs.YtkfbclopkgnacaaGreatDoor
namespace Go.Proofs
open Go.Shelf
def Tryz.laysC172_ren : Go.Shelf.Ren := ⟨fun | 172 => 58 | 244 => 87 | 245 => 88 | 247 => 116 | 279 => 117 | 280 => 118 | 281 => 119 | 282 => 120 | 287 => 136 | 316 => 86 | 171 => 39 | 205 => 137 | 321 => 150 | 322 => 151 | 243 => 72 | 246 => 109 | 283 => 131 | 284 => 132 | 285 => 133 | 286 => 134 | 129 => 145 | 317 => 144 | 318 => 146 | 319 => 147 | 320 => 148 | 337 => 155 | 338 => 156 | n => n, fun | 9 => 9 | 3 => 3 | 75 => 83 | 76 => 84 | 4 => 4 | 5 => 5 | 167 => 133 | 37 => 54 | 0 => 0 | 85 => 134 | 2 => 2 | 168 => 136 | 53 => 144 | 175 => 149 | 46 => 93 | 210 => 152 | 127 => 94 | 145 => 164 | 143 => 162 | 21 => 21 | 171 => 143 | 173 => 147 | 212 => 157 | 51 => 158 | 20 => 20 | 213 => 159 | 232 => 169 | 233 => 170 | 80 => 61 | n => n, fun | 15 => 1 | 16 => 2 | 17 => 3 | 18 => 4 | 19 => 5 | n => n⟩
theorem Tryz.laysC172 : Go.Proofs.LaysC.n172 Tryz.prog Tryz.laysC172_ren := {
  mixed := by kernel_rfl
  f129 := Tryz.func145.trans (congrArg some (by kernel_rfl))
  f171 := Tryz.func39.trans (congrArg some (by kernel_rfl))
  f172 := Tryz.func58.trans (congrArg some (by kernel_rfl))
  f205 := Tryz.func137.trans (congrArg some (by kernel_rfl))
  f243 := Tryz.func72.trans (congrArg some (by kernel_rfl))
  f244 := Tryz.func87.trans (congrArg some (by kernel_rfl))
  f245 := Tryz.func88.trans (congrArg some (by kernel_rfl))
  f246 := Tryz.func109.trans (congrArg some (by kernel_rfl))
  f247 := Tryz.func116.trans (congrArg some (by kernel_rfl))
  f279 := Tryz.func117.trans (congrArg some (by kernel_rfl))
  f280 := Tryz.func118.trans (congrArg some (by kernel_rfl))
  f281 := Tryz.func119.trans (congrArg some (by kernel_rfl))
  f282 := Tryz.func120.trans (congrArg some (by kernel_rfl))
  f283 := Tryz.func131.trans (congrArg some (by kernel_rfl))
  f284 := Tryz.func132.trans (congrArg some (by kernel_rfl))
  f285 := Tryz.func133.trans (congrArg some (by kernel_rfl))
  f286 := Tryz.func134.trans (congrArg some (by kernel_rfl))
  f287 := Tryz.func136.trans (congrArg some (by kernel_rfl))
  f316 := Tryz.func86.trans (congrArg some (by kernel_rfl))
  f317 := Tryz.func144.trans (congrArg some (by kernel_rfl))
  f318 := Tryz.func146.trans (congrArg some (by kernel_rfl))
  f319 := Tryz.func147.trans (congrArg some (by kernel_rfl))
  f320 := Tryz.func148.trans (congrArg some (by kernel_rfl))
  f321 := Tryz.func150.trans (congrArg some (by kernel_rfl))
  f322 := Tryz.func151.trans (congrArg some (by kernel_rfl))
  f337 := Tryz.func155.trans (congrArg some (by kernel_rfl))
  f338 := Tryz.func156.trans (congrArg some (by kernel_rfl))
  t0 := Tryz.underlying0
  a0 := Tryz.isAgg0
  z0 := Tryz.sizeOf0
  v0 := Tryz.zeroValue0
  t2 := Tryz.underlying2
  a2 := Tryz.isAgg2
  z2 := Tryz.sizeOf2
  v2 := Tryz.zeroValue2
  t3 := Tryz.underlying3
  a3 := Tryz.isAgg3
  z3 := Tryz.sizeOf3
  v3 := Tryz.zeroValue3
  t4 := Tryz.underlying4
  a4 := Tryz.isAgg4
  z4 := Tryz.sizeOf4
  v4 := Tryz.zeroValue4
  t5 := Tryz.underlying5
  a5 := Tryz.isAgg5
  z5 := Tryz.sizeOf5
  v5 := Tryz.zeroValue5
  t9 := Tryz.underlying9
  a9 := Tryz.isAgg9
  z9 := Tryz.sizeOf9
  v9 := Tryz.zeroValue9
  t20 := Tryz.underlying20
  a20 := Tryz.isAgg20
  z20 := Tryz.sizeOf20
  v20 := Tryz.zeroValue20
  t21 := Tryz.underlying21
  a21 := Tryz.isAgg21
  z21 := Tryz.sizeOf21
  v21 := Tryz.zeroValue21
  t37 := Tryz.underlying54
  a37 := Tryz.isAgg54
  z37 := Tryz.sizeOf54
  v37 := Tryz.zeroValue54
  t46 := Tryz.underlying93
  a46 := Tryz.isAgg93
  z46 := Tryz.sizeOf93
  v46 := Tryz.zeroValue93
  t51 := Tryz.underlying158
  a51 := Tryz.isAgg158
  z51 := Tryz.sizeOf158
  v51 := Tryz.zeroValue158
  t53 := Tryz.underlying144
  a53 := Tryz.isAgg144
  z53 := Tryz.sizeOf144
  v53 := Tryz.zeroValue144
  t75 := Tryz.underlying83
  a75 := Tryz.isAgg83
  z75 := Tryz.sizeOf83
  v75 := Tryz.zeroValue83
  t76 := Tryz.underlying84
  a76 := Tryz.isAgg84
  z76 := Tryz.sizeOf84
  v76 := Tryz.zeroValue84
  t85 := Tryz.underlying134
  a85 := Tryz.isAgg134
  z85 := Tryz.sizeOf134
  v85 := Tryz.zeroValue134
  t127 := Tryz.underlying94
  a127 := Tryz.isAgg94
  z127 := Tryz.sizeOf94
  v127 := Tryz.zeroValue94
  t143 := Tryz.underlying162
  a143 := Tryz.isAgg162
  z143 := Tryz.sizeOf162
  v143 := Tryz.zeroValue162
  t145 := Tryz.underlying164
  a145 := Tryz.isAgg164
  z145 := Tryz.sizeOf164
  v145 := Tryz.zeroValue164
  t167 := Tryz.underlying133
  a167 := Tryz.isAgg133
  z167 := Tryz.sizeOf133
  v167 := Tryz.zeroValue133
  t168 := Tryz.underlying136
  a168 := Tryz.isAgg136
  z168 := Tryz.sizeOf136
  v168 := Tryz.zeroValue136
  t171 := Tryz.underlying143
  a171 := Tryz.isAgg143
  z171 := Tryz.sizeOf143
  v171 := Tryz.zeroValue143
  t173 := Tryz.underlying147
  a173 := Tryz.isAgg147
  z173 := Tryz.sizeOf147
  v173 := Tryz.zeroValue147
  t175 := Tryz.underlying149
  a175 := Tryz.isAgg149
  z175 := Tryz.sizeOf149
  v175 := Tryz.zeroValue149
  t210 := Tryz.underlying152
  a210 := Tryz.isAgg152
  z210 := Tryz.sizeOf152
  v210 := Tryz.zeroValue152
  t212 := Tryz.underlying157
  a212 := Tryz.isAgg157
  z212 := Tryz.sizeOf157
  v212 := Tryz.zeroValue157
  t213 := Tryz.underlying159
  a213 := Tryz.isAgg159
  z213 := Tryz.sizeOf159
  t232 := Tryz.underlying169
  a232 := Tryz.isAgg169
  z232 := Tryz.sizeOf169
  v232 := Tryz.zeroValue169
  t233 := Tryz.underlying170
  a233 := Tryz.isAgg170
  z233 := Tryz.sizeOf170
  v233 := Tryz.zeroValue170
  g15 := by kernel_rfl
  g16 := by kernel_rfl
  g17 := by kernel_rfl
  g18 := by kernel_rfl
  g19 := by kernel_rfl
  t80 := Tryz.underlying61
  a80 := Tryz.isAgg61
  z80 := Tryz.sizeOf61
  v80 := Tryz.zeroValue61
  i0 := by kernel_rfl
  i2 := by kernel_rfl
  i3 := by kernel_rfl
  i4 := by kernel_rfl
  i5 := by kernel_rfl
  i9 := by kernel_rfl
  i20 := by kernel_rfl
  i21 := by kernel_rfl
  i37 := by kernel_rfl
  i46 := by kernel_rfl
  i51 := by kernel_rfl
  i53 := by kernel_rfl
  i75 := by kernel_rfl
  i76 := by kernel_rfl
  i80 := by kernel_rfl
  i85 := by kernel_rfl
  i127 := by kernel_rfl
  i143 := by kernel_rfl
  i145 := by kernel_rfl
  i167 := by kernel_rfl
  i168 := by kernel_rfl
  i171 := by kernel_rfl
  i173 := by kernel_rfl
  i175 := by kernel_rfl
  i210 := by kernel_rfl
  i212 := by kernel_rfl
  i232 := by kernel_rfl
  i233 := by kernel_rfl
  m15 := by kernel_rfl
  m16 := by kernel_rfl
  m17 := by kernel_rfl
  m18 := by kernel_rfl
  m19 := by kernel_rfl
  c0 := by kernel_rfl
  c2 := by kernel_rfl
  c3 := by kernel_rfl
  c4 := by kernel_rfl
  c5 := by kernel_rfl
  c9 := by kernel_rfl
  c20 := by kernel_rfl
  c21 := by kernel_rfl
  c37 := by kernel_rfl
  c46 := by kernel_rfl
  c51 := by kernel_rfl
  c53 := by kernel_rfl
  c75 := by kernel_rfl
  c76 := by kernel_rfl
  c80 := by kernel_rfl
  c85 := by kernel_rfl
  c127 := by kernel_rfl
  c143 := by kernel_rfl
  c145 := by kernel_rfl
  c167 := by kernel_rfl
  c168 := by kernel_rfl
  c171 := by kernel_rfl
  c173 := by kernel_rfl
  c175 := by kernel_rfl
  c210 := by kernel_rfl
  c212 := by kernel_rfl
  c213 := by kernel_rfl
  c232 := by kernel_rfl
  c233 := by kernel_rfl }
open Go.RowKit in
theorem Tryz.strconv_Atoi_ok (s : ByteArray) (hmax : s.size ≤ 9223372036854775806) (v : Int) (h : Lib.atoiAll s.data.toList = .ok v) (w : World) :
    Calls Tryz.prog 58 #[.string s] w fun e w' => e = .returned (.tuple #[.int .i64 v, .nilIface]) ∧ (w' = w ∨ ∃ t, w' = Lib.bytesWorld w 5 t) := Any.strconv_Atoi_ok Tryz.laysC172 s hmax v h w
open Go.RowKit in
theorem Tryz.strconv_Atoi_syntax (s : ByteArray) (hlim : s.size ≤ 281474976710656) (h : Lib.atoiAll s.data.toList = .«syntax») (ev : Value) (w : World) (hv : w.cell? ⟨1, 0, none⟩ = some ev) (hev : ev = .nilIface ∨ ∃ te pe, ev = .iface te pe) :
    Calls Tryz.prog 58 #[.string s] w fun e w' => ∃ N, e = .returned (.tuple #[.int .i64 (0), .iface 136 (.pointer (some ⟨N, 0, none⟩))]) ∧ w.heap.size ≤ N ∧ w'.heap[N]? = some (.cells #[.string ⟨#[65, 116, 111, 105]⟩, .string s, ev] 152 (0, 0)) ∧ Below w.heap.size w w' := Any.strconv_Atoi_syntax Tryz.laysC172 s hlim h ev w hv hev
open Go.RowKit in
theorem Tryz.strconv_Atoi_range (s : ByteArray) (hlim : s.size ≤ 281474976710656) (h : Lib.atoiAll s.data.toList = .range) (ev : Value) (w : World) (hv : w.cell? ⟨2, 0, none⟩ = some ev) (hev : ev = .nilIface ∨ ∃ te pe, ev = .iface te pe) :
    Calls Tryz.prog 58 #[.string s] w fun e w' => ∃ N, e = .returned (.tuple #[.int .i64 (Lib.atoiSat s.data.toList), .iface 136 (.pointer (some ⟨N, 0, none⟩))]) ∧ w.heap.size ≤ N ∧ w'.heap[N]? = some (.cells #[.string ⟨#[65, 116, 111, 105]⟩, .string s, ev] 152 (0, 0)) ∧ Below w.heap.size w w' := Any.strconv_Atoi_range Tryz.laysC172 s hlim h ev w hv hev
def Tryz.laysM316_ren : Go.Shelf.Ren := ⟨fun | 316 => 86 | n => n, fun | 9 => 9 | 3 => 3 | 4 => 4 | 37 => 54 | 0 => 0 | 127 => 94 | 5 => 5 | n => n, fun | n => n⟩
theorem Tryz.laysM316 : Go.Proofs.LaysM.n316 Tryz.prog Tryz.laysM316_ren := {
  mixed := by kernel_rfl
  f316 := Tryz.func86.trans (congrArg some (by kernel_rfl))
  t0 := Tryz.underlying0
  a0 := Tryz.isAgg0
  z0 := Tryz.sizeOf0
  v0 := Tryz.zeroValue0
  t3 := Tryz.underlying3
  a3 := Tryz.isAgg3
  z3 := Tryz.sizeOf3
  v3 := Tryz.zeroValue3
  t4 := Tryz.underlying4
  a4 := Tryz.isAgg4
  z4 := Tryz.sizeOf4
  v4 := Tryz.zeroValue4
  t9 := Tryz.underlying9
  a9 := Tryz.isAgg9
  z9 := Tryz.sizeOf9
  v9 := Tryz.zeroValue9
  t37 := Tryz.underlying54
  a37 := Tryz.isAgg54
  z37 := Tryz.sizeOf54
  v37 := Tryz.zeroValue54
  t127 := Tryz.underlying94
  a127 := Tryz.isAgg94
  z127 := Tryz.sizeOf94
  v127 := Tryz.zeroValue94
  t5 := Tryz.underlying5
  a5 := Tryz.isAgg5
  z5 := Tryz.sizeOf5
  v5 := Tryz.zeroValue5
  i0 := by kernel_rfl
  i3 := by kernel_rfl
  i4 := by kernel_rfl
  i5 := by kernel_rfl
  i9 := by kernel_rfl
  i37 := by kernel_rfl
  i127 := by kernel_rfl }
open Go.RowKit in
theorem Tryz.stringslite_Clone (s : ByteArray) (w : World) (hlim : s.size ≤ 281474976710656) :
    Calls Tryz.prog 86 #[.string s] w fun e w' => e = .returned (.string s) ∧ Below w.heap.size w w' := Any.stringslite_Clone Tryz.laysM316 s w hlim
def Tryz.lays153_ren : Go.Shelf.Ren := ⟨fun | 153 => 55 | 152 => 82 | 226 => 83 | 227 => 84 | 228 => 85 | 137 => 112 | 119 => 113 | 224 => 114 | 225 => 115 | 217 => 135 | 266 => 149 | n => n, fun | 9 => 9 | 3 => 3 | 4 => 4 | 5 => 5 | 21 => 21 | 117 => 106 | 116 => 105 | 0 => 0 | 46 => 93 | 124 => 132 | n => n, fun | n => n⟩
theorem Tryz.lays153 : Go.Proofs.Lays.n153 Tryz.prog Tryz.lays153_ren := {
  mixed := by kernel_rfl
  f119 := Tryz.func113.trans (congrArg some (by kernel_rfl))
  f137 := Tryz.func112.trans (congrArg some (by kernel_rfl))
  f152 := Tryz.func82.trans (congrArg some (by kernel_rfl))
  f153 := Tryz.func55.trans (congrArg some (by kernel_rfl))
  f217 := Tryz.func135.trans (congrArg some (by kernel_rfl))
  f224 := Tryz.func114.trans (congrArg some (by kernel_rfl))
  f225 := Tryz.func115.trans (congrArg some (by kernel_rfl))
  f226 := Tryz.func83.trans (congrArg some (by kernel_rfl))
  f227 := Tryz.func84.trans (congrArg some (by kernel_rfl))
  f228 := Tryz.func85.trans (congrArg some (by kernel_rfl))
  f266 := Tryz.func149.trans (congrArg some (by kernel_rfl))
  t0 := Tryz.underlying0
  a0 := Tryz.isAgg0
  z0 := Tryz.sizeOf0
  v0 := Tryz.zeroValue0
  t3 := Tryz.underlying3
  a3 := Tryz.isAgg3
  z3 := Tryz.sizeOf3
  v3 := Tryz.zeroValue3
  t4 := Tryz.underlying4
  a4 := Tryz.isAgg4
  z4 := Tryz.sizeOf4
  v4 := Tryz.zeroValue4
  t5 := Tryz.underlying5
  a5 := Tryz.isAgg5
  z5 := Tryz.sizeOf5
  v5 := Tryz.zeroValue5
  t9 := Tryz.underlying9
  a9 := Tryz.isAgg9
  z9 := Tryz.sizeOf9
  v9 := Tryz.zeroValue9
  t21 := Tryz.underlying21
  a21 := Tryz.isAgg21
  z21 := Tryz.sizeOf21
  v21 := Tryz.zeroValue21
  t46 := Tryz.underlying93
  a46 := Tryz.isAgg93
  z46 := Tryz.sizeOf93
  v46 := Tryz.zeroValue93
  t116 := Tryz.underlying105
  a116 := Tryz.isAgg105
  z116 := Tryz.sizeOf105
  t117 := Tryz.underlying106
  a117 := Tryz.isAgg106
  z117 := Tryz.sizeOf106
  v117 := Tryz.zeroValue106
  t124 := Tryz.underlying132
  a124 := Tryz.isAgg132
  z124 := Tryz.sizeOf132
  v124 := Tryz.zeroValue132 }
open Go.RowKit Go.Lib in
theorem Tryz.strings_IndexAny_short (s chars : ByteArray) (w : World) (h2 : 2 ≤ chars.size) (h8 : s.size ≤ 8) (hascii : ∀ (j : Nat) b, s.data.toList[j]? = some b → b.toNat < 128) :
    Calls Tryz.prog 55 #[.string s, .string chars] w fun e w' => e = .returned (.int .i64 (Lib.indexAny s.data.toList chars.data.toList)) ∧ ∃ pos, w' = w.iter s pos := Any.strings_IndexAny_short Tryz.lays153 s chars w h2 h8 hascii
open Go.RowKit Go.Lib in
theorem Tryz.strings_IndexAny_long (hv116 : ∀ w, (zeroValue 105).run Tryz.prog w = .ok (.agg (Array.replicate 256 (.bool false))) w) (s chars : ByteArray) (w : World) (h2 : 2 ≤ chars.size) (h8 : 8 < s.size) (hs : s.size < 4294967281) (hcs : chars.size < 4294967281) (hascii : ∀ (j : Nat) b, chars.data.toList[j]? = some b → b.toNat < 128) :
    Calls Tryz.prog 55 #[.string s, .string chars] w fun e w' => e = .returned (.int .i64 (Lib.indexAny s.data.toList chars.data.toList)) ∧ w' = ((w.alloc (.cells (Lib.setCells chars.data.toList) 105)).alloc (.cells (Lib.setCells chars.data.toList) 105)) := Any.strings_IndexAny_long Tryz.lays153 hv116 (by kernel_rfl) s chars w h2 h8 hs hcs hascii
end Go.Proofs
namespace Go.Proofs.YtkfbclopkgnacaaGreatDoor
open Go.RowKit Go.Shelf
theorem validRune_any (r : Int) (w : World) : Calls Tryz.prog 113 #[.int .i32 r] w fun e w' => e = .returned (.bool (Lib.validRune r)) ∧ w' = w := Any.utf8_ValidRune (P := Tryz.prog) (ρ := Tryz.lays153_ren) { Tryz.lays153 with } r w
theorem indexRune_lo (r : Int) (h0 : 0 ≤ r) (h1 : r < 128) (w : World) : Calls Tryz.prog 82 #[.string ⟨#[32, 10]⟩, .int .i32 r] w fun e w' => (∃ i : Int, e = .returned (.int .i64 i)) ∧ w' = w :=
  (Any.strings_IndexRune_ascii (P := Tryz.prog) (ρ := Tryz.lays153_ren) { Tryz.lays153 with } ⟨#[32, 10]⟩ r w h0 h1).mono fun _e _w' ⟨h, k⟩ => ⟨⟨_, h⟩, k⟩
theorem indexByte_nil (c : UInt8) (w : World) : Calls Tryz.prog 112 #[.string ⟨#[]⟩, .int .u8 (c.toNat : Int)] w fun e w' => e = .returned (.int .i64 (-1)) ∧ w' = w :=
  (Any.strings_IndexByte (P := Tryz.prog) (ρ := Tryz.lays153_ren) { Tryz.lays153 with } ⟨#[]⟩ (c.toNat : Int) w).mono fun _e _w' ⟨h, k⟩ => ⟨h, k⟩
set_option maxRecDepth 100000 in
set_option maxHeartbeats 4000000 in
theorem indexRune_bad (w : World) : Calls Tryz.prog 82 #[.string ⟨#[32, 10]⟩, .int .i32 65533] w fun e w' => e = .returned (.int .i64 (-1)) ∧ Below w.heap.size w w' := by
  go_enter Tryz.func82, Tryz.ntmps82
  go_wp2
  go_loopg [5, 6] 2 (fun g _ _ wx => ∃ i : Nat, i + g = 2 ∧ wx = w.iter ⟨#[32, 10]⟩ i)
  case atStart => exact ⟨0, by omega, rfl⟩
  case round =>
    obtain ⟨i, hig, rfl⟩ := hrel
    cases gk with
    | zero =>
      obtain rfl : i = 2 := by omega
      have hnx := run_next_end (P := Tryz.prog) w ⟨#[32, 10]⟩ 2
      go_wp2
      go_ret
      exact ⟨rfl, below_alloc' _ _⟩
    | succ g =>
      rcases (show i = 0 ∨ i = 1 by omega) with rfl | rfl
      · have hnx := fun ty => run_next_ascii (P := Tryz.prog) w ⟨#[32, 10]⟩ 0 ty (by decide) (by decide)
        go_wp2
        go_roundg g
        case measure => omega
        case rel => exact ⟨1, by omega, rfl⟩
      · have hnx := fun ty => run_next_ascii (P := Tryz.prog) w ⟨#[32, 10]⟩ 1 ty (by decide) (by decide)
        go_wp2
        go_roundg g
        case measure => omega
        case rel => exact ⟨2, by omega, rfl⟩
theorem ba_two {rs : ByteArray} (h : rs.size = 2) : ∃ a c, rs = ⟨#[a, c]⟩ := by
  obtain ⟨⟨l⟩⟩ := rs
  match l, h with
  | [a, c], _ => exact ⟨a, c, rfl⟩
set_option maxRecDepth 100000 in
set_option maxHeartbeats 4000000 in
theorem indexRune_hi (r : Int) (h0 : 128 ≤ r) (_h1 : r ≤ 2147483647) (w : World) : Calls Tryz.prog 82 #[.string ⟨#[32, 10]⟩, .int .i32 r] w fun e w' => e = .returned (.int .i64 (-1)) ∧ Below w.heap.size w w' := by
  by_cases hb : r = 65533
  · subst hb
    exact indexRune_bad w
  · have HV := hid (validRune_any r)
    cases hv : Lib.validRune r with
    | false =>
      rw [hv] at HV
      clear hv
      go_enter Tryz.func82, Tryz.ntmps82
      go_wp2_with (go_at_call 113; go_must (refine (HV.out _).mono ?_; rintro e w1 ⟨rfl, hw1⟩; rw [hw1]; clear hw1))
      go_ret
      exact ⟨rfl, Below.refl _ _⟩
    | true =>
      rw [hv] at HV
      have hvu : Utf8.valid r = true := by
        unfold Lib.validRune at hv
        unfold Utf8.valid
        simp only [decide_eq_true_eq, Bool.or_eq_true, Bool.and_eq_true] at hv ⊢
        omega
      obtain ⟨f1, f2, f3⟩ := encode_facts r hvu h0
      have HE := hid (fun w => run_convert_int_string (P := Tryz.prog) w 21 9 .i32 r (by rw [Tryz.underlying21]; rfl) Tryz.underlying9)
      obtain ⟨rs, hrs⟩ : ∃ rs, rs = Utf8.encode r := ⟨_, rfl⟩
      rw [← hrs] at f1 f2 f3 HE
      clear hrs hv hvu
      go_enter Tryz.func82, Tryz.ntmps82
      go_wp2_with (go_at_call 113; go_must (refine (HV.out _).mono ?_; rintro e w1 ⟨rfl, hw1⟩; rw [hw1]; clear hw1))
      have cv := HE.out w
      clear HE HV
      go_step3
      go_wp2
      go_loop [9, 10] (fun i f => i = .int .i64 ((rs.size : Int) - 1) ∧ f = .int .i64 0) (fun _ _ => 0)
      case atStart => exact ⟨by go_num, rfl⟩
      case round =>
        obtain ⟨rfl, rfl⟩ := hrel
        by_cases h2 : rs.size = 2
        · obtain ⟨a, c, rfl⟩ := ba_two h2
          have h128 : 128 ≤ c.toNat := f3 (show 1 < 2 by omega)
          have h10 : ((((⟨#[32, 10]⟩ : ByteArray)[1]'(show 1 < 2 by omega)).toNat : Int) != (((⟨#[a, c]⟩ : ByteArray)[1]'(show 1 < 2 by omega)).toNat : Int)) = true := by
            simp only [bne_iff_ne, ne_eq]
            show ¬ ((10 : Int) = (c.toNat : Int))
            omega
          clear f1 f2 f3 h2 cv h128
          go_wp2
          go_step3
          go_wp2
          go_region
          go_wp2
          go_region_with (go_at_call 112; go_must (refine (indexByte_nil c _).mono ?_; rintro e w2 ⟨rfl, hw2⟩; rw [hw2]; clear hw2))
          all_goals
            go_wp2
            change bodyPost Tryz.prog Tryz.f82 (fun e w' => e = .returned (.int .i64 (-1)) ∧ Below w.heap.size w w') Exit.ret _ _
            go_ret
            exact ⟨rfl, ⟨rfl, rfl, rfl, Nat.le_refl _, fun _ _ => rfl⟩⟩
        · go_wp2
          go_ret
          exact ⟨rfl, Below.refl _ _⟩
theorem below_iterAt {w wx : World} (h : Below w.heap.size w wx) (s : ByteArray) (p : Nat) : Below w.heap.size w (wx.iterAt w.heap.size s p) :=
  ⟨h.os, h.tape, h.output, by simpa [World.iterAt] using h.size, fun i hi => by
    have e : (wx.iterAt w.heap.size s p).heap[i]? = wx.heap[i]? := by
      simp only [World.iterAt]
      rw [Array.getElem?_setIfInBounds_ne (by omega)]
    exact e.trans (h.block i hi)⟩
set_option maxRecDepth 100000 in
set_option maxHeartbeats 4000000 in
theorem indexAny_some (s : ByteArray) (h8 : s.size ≤ 8) (w : World) :
    Calls Tryz.prog 55 #[.string s, .string ⟨#[32, 10]⟩] w fun e w' => ∃ i : Int, e = .returned (.int .i64 i) ∧ (i = -1 ∨ ∃ k : Nat, i = k ∧ k < s.size) ∧ Below w.heap.size w w' := by
  have h8z : decide ((8 : Int) < (s.size : Int)) = false := decide_eq_false (by omega)
  have HA := hid (fun W => Any.strings_shouldUseASCIISet (P := Tryz.prog) (ρ := Tryz.lays153_ren) { Tryz.lays153 with } (s.size : Int) W)
  have HI0 := hid (show (w.alloc (.stringIter s 0)).heap[w.heap.size]? = some (.stringIter s 0) by rw [World.alloc]; exact Array.getElem?_push_size)
  go_enter Tryz.func55, Tryz.ntmps55
  go_wp2_with (go_at_call 83; go_must (refine (HA.out _).mono ?_; rintro e w1 ⟨rfl, hw1⟩; rw [hw1, h8z]; clear hw1))
  go_loopg [9, 10] s.size (fun g _ _ wx => ∃ p : Nat, s.size ≤ p + g ∧ Hid (wx.heap[w.heap.size]? = some (.stringIter s p)) ∧ Hid (Below w.heap.size w wx))
  case atStart => exact ⟨0, by omega, HI0, hid (below_alloc' _ _)⟩
  case round =>
    obtain ⟨p, hpg, HI, HB⟩ := hrel
    clear HI0
    by_cases hp : p < s.size
    · cases gk with
      | zero => omega
      | succ g =>
        by_cases hlo : s[p].toNat < 128
        · have hnx := fun ty => Lib.run_next_ascii_at (P := Tryz.prog) wr w.heap.size s p ty HI.out hp hlo
          have HR := hid (indexRune_lo (s[p].toNat : Int) (by omega) (by omega))
          have HX := hid (Lib.iterAt_heap wr w.heap.size s p (p + 1) HI.out)
          have HBX := hid (below_iterAt HB.out s (p + 1))
          go_wp2_with (go_at_call 82; go_must (refine (HR.out _).mono ?_; rintro e w2 ⟨⟨i, rfl⟩, hw2⟩; rw [hw2]; clear hw2; by_cases hi : (0 : Int) ≤ i))
          · go_wp2
            go_ret
            exact ⟨_, rfl, Or.inr ⟨p, rfl, hp⟩, HBX.out⟩
          · go_wp2
            go_roundg g
            case measure => omega
            case rel => exact ⟨p + 1, by omega, HX, HBX⟩
        · have hnx := fun ty => Lib.run_next_any_at (P := Tryz.prog) wr w.heap.size s p ty HI.out hp
          have hle := decode_le s p
          obtain ⟨hge, hpos⟩ := decode_high s p hp (by omega)
          obtain ⟨r, hr⟩ : ∃ r, r = (Utf8.decode s p).1 := ⟨_, rfl⟩
          obtain ⟨d, hd⟩ : ∃ d, d = (Utf8.decode s p).2 := ⟨_, rfl⟩
          rw [← hr] at hle hge
          rw [← hd] at hpos
          rw [← hr, ← hd] at hnx
          clear hr hd
          have HR := hid (indexRune_hi (r : Int) (by omega) (by omega))
          have HX := hid (Lib.iterAt_heap wr w.heap.size s p (p + d) HI.out)
          have HBX := hid (below_iterAt HB.out s (p + d))
          go_wp2_with (go_at_call 82; go_must (refine (HR.out _).mono ?_; rintro e w2 ⟨rfl, hb2⟩; have HB2 := hid hb2; clear hb2))
          go_roundg g
          case measure => omega
          case rel => exact ⟨p + d, by omega, hid ((HB2.out.block _ (Array.getElem?_eq_some_iff.1 HX.out).1).trans HX.out), hid (HBX.out.trans (HB2.out.mono HBX.out.size))⟩
    · have hnx := fun ty => Lib.run_next_end_at (P := Tryz.prog) wr w.heap.size s p ty HI.out hp
      go_wp2
      go_ret
      exact ⟨_, rfl, Or.inl rfl, HB.out⟩
/-- where the next space or newline is -/
theorem indexAny_any (s : ByteArray) (hs : (s.size : Int) ≤ 1048576) (w : World) :
    Calls Tryz.prog 55 #[.string s, .string ⟨#[32, 10]⟩] w fun e w' => ∃ i : Int, e = .returned (.int .i64 i) ∧ (i = -1 ∨ ∃ k : Nat, i = k ∧ k < s.size) ∧ ((∀ c ∈ s.data.toList, c.toNat < 128) → i = Lib.indexAny s.data.toList [32, 10]) ∧ Below w.heap.size w w' := by
  have hch : ∀ (j : Nat) b, (⟨#[32, 10]⟩ : ByteArray).data.toList[j]? = some b → b.toNat < 128 := by
    intro j b h
    match j, h with
    | 0, h => cases h; decide
    | 1, h => cases h; decide
  have hr : ∀ l : List UInt8, Lib.indexAny l [32, 10] = -1 ∨ ∃ k : Nat, Lib.indexAny l [32, 10] = k ∧ k < l.length := by
    intro l
    induction l with
    | nil => exact Or.inl rfl
    | cons c l ih =>
      rw [Lib.indexAny]
      split
      · exact Or.inr ⟨0, rfl, by simp⟩
      · rcases ih with h | ⟨k, h, hk⟩
        · rw [h]
          exact Or.inl rfl
        · rw [h]
          refine Or.inr ⟨k + 1, ?_, by simpa using hk⟩
          rw [if_neg (by simp)]
          rfl
  have hr2 : Lib.indexAny s.data.toList [32, 10] = -1 ∨ ∃ k : Nat, Lib.indexAny s.data.toList [32, 10] = k ∧ k < s.size := by
    have h := hr s.data.toList
    rw [Array.length_toList] at h
    exact h
  by_cases h8 : 8 < s.size
  · have h105 : (Tryz.prog.info? 105).map (fun i => (i.zero, i.size)) = some (some (.agg (Array.replicate 256 (.bool false))), 256) := by kernel_rfl
    refine (Any.strings_IndexAny_long Tryz.lays153 (zero_of_info h105).1 (zero_of_info h105).2 s ⟨#[32, 10]⟩ w (by decide) h8 (by omega) (by decide) hch).mono ?_
    rintro e w' ⟨rfl, rfl⟩
    exact ⟨_, rfl, hr2, fun _ => rfl, (below_alloc' _ _).trans ((below_alloc' _ _).mono (by simp))⟩
  · by_cases ha : ∀ c ∈ s.data.toList, c.toNat < 128
    · refine (Tryz.strings_IndexAny_short s ⟨#[32, 10]⟩ w (by decide) (by omega) (fun j b h => ha b (List.mem_of_getElem? h))).mono ?_
      rintro e w' ⟨rfl, pos, rfl⟩
      exact ⟨_, rfl, hr2, fun _ => rfl, below_alloc' _ _⟩
    · refine (indexAny_some s (by omega) w).mono ?_
      rintro e w' ⟨i, rfl, h1, h2⟩
      exact ⟨i, rfl, h1, fun h => absurd h ha, h2⟩
end Go.Proofs.YtkfbclopkgnacaaGreatDoor
namespace Go.Proofs.YtkfbclopkgnacaaGreatDoor
open Go.RowKit
theorem toList_inj0 {a b : ByteArray} (h : a.toList = b.toList) : a = b := by
  cases a with | mk a => cases b with | mk b =>
  have h2 : a.toList = b.toList := by simpa [ByteArray.toList_eq] using h
  exact congrArg ByteArray.mk (Array.ext' h2)
theorem em_ne {s : ByteArray} (h : ¬ s = ⟨#[]⟩) : (s.toList == (⟨#[]⟩ : ByteArray).toList) = false := by
  cases hb : (s.toList == (⟨#[]⟩ : ByteArray).toList) with
  | false => rfl
  | true => exact absurd (toList_inj0 (by simpa using hb)) h
theorem em_list {s : ByteArray} (h : ¬ s = ⟨#[]⟩) : ¬ s.toList = [] := fun e => h (toList_inj0 (e.trans (by simp [ByteArray.toList_eq])))
/-- what a hexadecimal digit stands for -/
def hexZ (x : Nat) : Int := if 48 ≤ x ∧ x ≤ 57 then (x : Int) - 48 else if 97 ≤ x ∧ x ≤ 102 then (x : Int) - 87 else -1
set_option maxRecDepth 100000 in
set_option maxHeartbeats 1000000 in
theorem hexN_any (x : Nat) (hx : x < 256) (w : World) : Calls Tryz.prog 27 #[.int .u8 (x : Int)] w fun e w' => e = .returned (.int .i64 (hexZ x)) ∧ w' = w := by
  by_cases h1 : 48 ≤ x ∧ x ≤ 57
  · have HE := hid (show hexZ x = (x : Int) - 48 from if_pos h1)
    obtain ⟨h1a, h1b⟩ := h1
    go_enter Tryz.func27, Tryz.ntmps27
    go_wp2
    go_ret
    exact ⟨ret_int (by rw [HE.out]), rfl⟩
  · by_cases h2 : 97 ≤ x ∧ x ≤ 102
    · have HE := hid (show hexZ x = (x : Int) - 87 by unfold hexZ; rw [if_neg h1, if_pos h2])
      obtain ⟨h2a, h2b⟩ := h2
      have h3 : ¬ ((x : Int) ≤ 57) := by omega
      clear h1
      go_enter Tryz.func27, Tryz.ntmps27
      go_wp2
      go_ret
      exact ⟨ret_int (by rw [HE.out]; omega), rfl⟩
    · have HE := hid (show hexZ x = -1 by unfold hexZ; rw [if_neg h1, if_neg h2])
      by_cases h3 : 48 ≤ x
      · have h4 : ¬ ((x : Int) ≤ 57) := by omega
        by_cases h5 : 97 ≤ x
        · have h6 : ¬ ((x : Int) ≤ 102) := by omega
          clear h1 h2
          go_enter Tryz.func27, Tryz.ntmps27
          go_wp2
          go_ret
          exact ⟨ret_int HE.out.symm, rfl⟩
        · clear h1 h2
          go_enter Tryz.func27, Tryz.ntmps27
          go_wp2
          go_ret
          exact ⟨ret_int HE.out.symm, rfl⟩
      · clear h1 h2
        have h5 : ¬ ((97 : Int) ≤ x) := by omega
        go_enter Tryz.func27, Tryz.ntmps27
        go_wp2
        go_ret
        exact ⟨ret_int HE.out.symm, rfl⟩
theorem toListNe {a b : ByteArray} (h : ¬ a = b) : (a.toList == b.toList) = false := by
  cases hb : (a.toList == b.toList) with
  | false => rfl
  | true => exact absurd (toList_inj0 (by simpa using hb)) h
theorem dS_len (n : Nat) : (dS n).size = Lib.nDigits n := by
  have : (dS n).size = (Lib.decDigits n).length := by simp [dS, ByteArray.size]
  rw [this, Lib.decDigits_length]
theorem nDigits_le7 {n : Nat} (h : n ≤ 9999999) : Lib.nDigits n ≤ 7 := by
  rcases Nat.lt_or_ge (Lib.nDigits n) 8 with h1 | h1
  · omega
  · exfalso
    by_cases h0 : n < 10
    · rw [Lib.nDigits_small h0] at h1; omega
    · have key : ∀ k u, k + 1 ≤ Lib.nDigits u → 0 < k → 10 ^ k ≤ u := by
        intro k
        induction k with
        | zero => intro u _ hk; omega
        | succ k ih =>
          intro u hu _
          by_cases hs : u < 10
          · rw [Lib.nDigits_small hs] at hu; omega
          · rw [Lib.nDigits_big hs] at hu
            by_cases hk0 : k = 0
            · subst hk0; simp; omega
            · have := ih (u / 10) (by omega) (by omega)
              rw [Nat.pow_succ]
              omega
      have := key 7 n (by omega) (by omega)
      omega
theorem dS_at (n k : Nat) (hk : k < (dS n).size) : (byteAt (dS n) k).toNat = 48 + n / 10 ^ ((dS n).size - 1 - k) % 10 := by
  rw [dS_len] at hk ⊢
  rw [byteAt_list]
  show (((Lib.decDigits n).toArray.toList[k]?).getD 0).toNat = _
  simp only []
  rw [Lib.decDigits_eq, List.getElem?_map, List.getElem?_range hk]
  show (Lib.dg n (Lib.nDigits n - 1 - k)).toNat = _
  unfold Lib.dg
  rw [UInt8.toNat_ofNat']
  have : n / 10 ^ (Lib.nDigits n - 1 - k) % 10 < 10 := Nat.mod_lt _ (by omega)
  omega
theorem div_step (m j : Nat) : m / 10 ^ (j + 1) * 10 + m / 10 ^ j % 10 = m / 10 ^ j := by
  rw [Nat.pow_succ, ← Nat.div_div_eq_div_mul]
  omega
theorem dS_inj_size {n m : Nat} (h : dS n = dS m) : (dS n).size = (dS m).size := by rw [h]
set_option maxRecDepth 100000 in
set_option maxHeartbeats 4000000 in
theorem number_any (s : ByteArray) (hs : (s.size : Int) ≤ 1048576) (w : World) :
    Calls Tryz.prog 11 #[.string s] w fun e w' => ∃ r : Int, e = .returned (.int .i64 r) ∧ (-1 ≤ r ∧ r ≤ 9999999) ∧ (∀ m : Nat, m ≤ 9999999 → s = dS m → r = m) ∧ Below w.heap.size w w' := by
  by_cases h1 : s.size < 1
  · have HX := hid (show ∀ m : Nat, m ≤ 9999999 → s = dS m → (-1 : Int) = m from fun m _ e => by
      have := Lib.nDigits_pos m
      rw [e, dS_len] at h1
      omega)
    go_enter Tryz.func11, Tryz.ntmps11
    go_wp2
    go_ret
    exact ⟨-1, rfl, by omega, HX.out, Below.refl _ _⟩
  by_cases h7 : 7 < s.size
  · have HX := hid (show ∀ m : Nat, m ≤ 9999999 → s = dS m → (-1 : Int) = m from fun m hm e => by
      have := nDigits_le7 hm
      rw [e, dS_len] at h7
      omega)
    go_enter Tryz.func11, Tryz.ntmps11
    go_wp2
    go_ret
    exact ⟨-1, rfl, by omega, HX.out, Below.refl _ _⟩
  go_enter Tryz.func11, Tryz.ntmps11
  go_wp2
  go_loop [3, 4] (fun n i => ∃ k q : Nat, k ≤ s.size ∧ i = .int .i64 k ∧ n = .int .i64 q ∧ q ≤ 9999999 ∧ Hid (q < 10 ^ k) ∧ Hid (∀ m : Nat, s = dS m → q = m / 10 ^ (s.size - k))) (fun _ i => s.size - (intOf i).toNat)
  case atStart => exact ⟨0, 0, Nat.zero_le _, rfl, rfl, by omega, hid (by simp), hid (fun m e => by
    rw [Nat.sub_zero, e, dS_len]
    exact (Nat.div_eq_of_lt (Lib.lt_pow_nDigits m)).symm)⟩
  case round =>
    obtain ⟨k, q, hk, rfl, rfl, hq, HQ, HM⟩ := hrel
    by_cases hkn : k < s.size
    · have HB := hid (byteAt_eq s k hkn)
      have hb256 : s[k].toNat < 256 := UInt8.toNat_lt _
      by_cases hd : 48 ≤ s[k].toNat ∧ s[k].toNat ≤ 57
      · obtain ⟨hd1, hd2⟩ := hd
        have hpow := HQ.out
        have h10 : 10 ^ (k + 1) = 10 * 10 ^ k := by rw [Nat.pow_succ]; omega
        have hk6 : 10 ^ k ≤ 10 ^ 6 := Nat.pow_le_pow_right (by omega) (by omega)
        have hq6 : q ≤ 999999 := by
          have : (10 : Nat) ^ 6 = 1000000 := by decide
          omega
        have HN := hid (show q * 10 + (s[k].toNat - 48) < 10 ^ (k + 1) by omega)
        have HM2 := hid (show ∀ m : Nat, s = dS m → q * 10 + (s[k].toNat - 48) = m / 10 ^ (s.size - (k + 1)) from fun m e => by
          have e1 := HM.out m e
          have e2 : (byteAt s k).toNat = 48 + m / 10 ^ (s.size - 1 - k) % 10 := by
            have := dS_at m k (by rw [← e]; exact hkn)
            rw [← e] at this
            exact this
          rw [HB.out] at e2
          have e3 : s.size - k = (s.size - (k + 1)) + 1 := by omega
          have e4 : s.size - 1 - k = s.size - (k + 1) := by omega
          rw [e3] at e1
          rw [e4] at e2
          have := div_step m (s.size - (k + 1))
          omega)
        clear hpow h10 hk6
        go_wp2
        go_round
        case rel => exact ⟨k + 1, q * 10 + (s[k].toNat - 48), by omega, by go_num, congrArg (Value.int .i64) (by omega), by omega, HN, HM2⟩
        case measure => simp [intOf]; omega
      · have HX := hid (show ∀ m : Nat, m ≤ 9999999 → s = dS m → (-1 : Int) = m from fun m _ e => by
          exfalso
          have e2 : (byteAt s k).toNat = 48 + m / 10 ^ (s.size - 1 - k) % 10 := by
            have := dS_at m k (by rw [← e]; exact hkn)
            rw [← e] at this
            exact this
          rw [HB.out] at e2
          have : m / 10 ^ (s.size - 1 - k) % 10 < 10 := Nat.mod_lt _ (by omega)
          omega)
        by_cases hd1 : s[k].toNat < 48
        · clear hd
          go_wp2
          go_ret
          exact ⟨-1, rfl, by omega, HX.out, Below.refl _ _⟩
        · have hd2 : 57 < s[k].toNat := by omega
          clear hd
          go_wp2
          go_ret
          exact ⟨-1, rfl, by omega, HX.out, Below.refl _ _⟩
    · obtain rfl : k = s.size := by omega
      have HM3 := hid (show ∀ m : Nat, s = dS m → q = m from fun m e => by
        have := HM.out m e
        rw [Nat.sub_self, Nat.pow_zero, Nat.div_one] at this
        exact this)
      by_cases he : dS q = s
      · have HX := hid (show ∀ m : Nat, m ≤ 9999999 → s = dS m → (q : Int) = m from fun m _ e => by rw [HM3.out m e])
        have hD := hid (decS_any q (by omega) w)
        rw [he] at hD
        clear he
        go_wp2_with (go_at_call 26; go_must (refine hD.out.mono ?_; rintro e w1 ⟨rfl, hb1⟩))
        go_ret
        exact ⟨q, rfl, by omega, HX.out, hb1⟩
      · have HX := hid (show ∀ m : Nat, m ≤ 9999999 → s = dS m → (-1 : Int) = m from fun m _ e => by
          exfalso
          have := HM3.out m e
          subst this
          exact he e.symm)
        have hne := toListNe he
        have hD := hid (decS_any q (by omega) w)
        clear he
        go_wp2_with (go_at_call 26; go_must (refine hD.out.mono ?_; rintro e w1 ⟨rfl, hb1⟩))
        go_ret
        exact ⟨-1, rfl, by omega, HX.out, hb1⟩
def sC (l : List ByteArray) : List Value := l.map Value.string
end Go.Proofs.YtkfbclopkgnacaaGreatDoor
