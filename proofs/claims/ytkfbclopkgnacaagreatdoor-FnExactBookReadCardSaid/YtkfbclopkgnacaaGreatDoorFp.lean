import Derived.Test.YtkfbclopkgnacaaGreatDoorZg
import Derived.Test.YtkfbclopkgnacaaGreatDoorZh
import Derived.Test.YtkfbclopkgnacaaGreatDoorZi
import Derived.Test.YtkfbclopkgnacaaGreatDoorFl
namespace Go.Proofs.YtkfbclopkgnacaaGreatDoor
open Go.RowKit Go.Maps
def bvS (B : Bk) : Bool := numB B.now B.floor && (objsB B.on B.os B.now && (histS B.now B.floor B.on B.os B.hn B.hs && tkS B.tn B.ts B.now))
theorem allTo_and (p q : Nat → Bool) : ∀ n, allTo (fun i => p i && q i) n = (allTo p n && allTo q n)
  | 0 => rfl
  | n + 1 => by
    simp only [allTo, allTo_and p q n]
    cases allTo p n <;> cases allTo q n <;> cases p n <;> cases q n <;> rfl
theorem objs_eq (n : Nat) (x : Nat → Ob) (now : Int) : objsB n x now = (objs1B n x now && verDiff n x) := by
  unfold objsB objs1B
  cases decide (n ≤ 100) <;> cases objAsc n x <;> cases objFit n x now <;> cases verDiff n x <;> rfl
theorem hist_eq (now floor : Int) (m : Nat) (x : Nat → Ob) (n : Nat) (h : Nat → Ch) : histS now floor m x n h = (histB now floor n h && (allTo (livB floor h) n && agB floor m x n h)) := by
  have h1 : allTo (hisB now floor h) n = (allTo (fun i => decide ((h i).ver = floor + 1 + i) && chgB (h i) now) n && allTo (livB floor h) n) := by
    rw [← allTo_and]
    exact congrArg (fun p => allTo p n) (funext fun i => by
      unfold hisB
      cases decide ((h i).ver = floor + 1 + i) <;> cases chgB (h i) now <;> cases livB floor h i <;> rfl)
  unfold histS histB
  rw [h1]
  cases decide (n ≤ 200) <;> cases decide ((n : Int) = now - floor) <;> cases allTo (fun i => decide ((h i).ver = floor + 1 + i) && chgB (h i) now) n <;> cases allTo (livB floor h) n <;> cases agB floor m x n h <;> rfl
theorem tics_eq (n : Nat) (x : Nat → Ti) (now : Int) : tkS n x now = tisB n x now := by
  unfold tkS tisB
  have h1 : allTo (tkB x now) n = (allTo (fun i => tiB (x i) now) n && allTo (fun i => i == 0 || ltB (x (i - 1)).client (x i).client) n) := by
    rw [← allTo_and]
    rfl
  rw [h1]
  unfold tiAsc
  cases decide (n ≤ 50) <;> cases allTo (fun i => tiB (x i) now) n <;> cases allTo (fun i => i == 0 || ltB (x (i - 1)).client (x i).client) n <;> rfl
theorem valid_eq (B : Bk) : bvS B = allTo (chk B) 7 := by
  unfold bvS
  rw [objs_eq, hist_eq, tics_eq]
  simp only [allTo, chk]
  cases numB B.now B.floor <;> cases objs1B B.on B.os B.now <;> cases verDiff B.on B.os <;> cases histB B.now B.floor B.hn B.hs <;> cases allTo (livB B.floor B.hs) B.hn <;> cases agB B.floor B.on B.os B.hn B.hs <;> cases tisB B.tn B.ts B.now <;> rfl
set_option maxRecDepth 100000 in
set_option maxHeartbeats 2000000 in
theorem specValid_any (B : Bk) (a1 a2 a3 : Option Addr) (c1 c2 c3 : Nat) (w : World) (lo hi : Nat) (hhi : hi ≤ w.heap.size) (hfit : BkFit B) (hin : BkIn w lo hi B a1 a2 a3) :
    Calls Tryz.prog 28 #[.agg #[.int .i64 B.now, .int .i64 B.floor, .slice a1 B.on c1, .slice a2 B.hn c2, .slice a3 B.tn c3]] w fun e w' => e = .returned (.bool (allTo (chk B) 7)) ∧ Below w.heap.size w w' := by
  rw [← valid_eq]
  obtain ⟨f1, f2, f3, f4, f5, f6⟩ := hfit
  cases h1 : inB B.now 0 1000000 with
  | false =>
    have HE := hid (show bvS B = false by unfold bvS numB; rw [h1]; rfl)
    go_enter Tryz.func28, Tryz.ntmps28
    go_wp2_with (go_at_call 51; refine (in_any _ _ _ _).mono ?_; rintro e w1 ⟨rfl, rfl⟩; rw [h1])
    go_ret
    exact ⟨ret_bool HE.out.symm, below_alloc' _ _⟩
  | true =>
  cases h2 : inB B.floor 0 B.now with
  | false =>
    have HE := hid (show bvS B = false by unfold bvS numB; rw [h2]; simp)
    go_enter Tryz.func28, Tryz.ntmps28
    go_wp2_with (go_at_call 51; refine (in_any _ _ _ _).mono ?_; rintro e w1 ⟨rfl, rfl⟩; first | rw [h1] | rw [h2])
    go_ret
    exact ⟨ret_bool HE.out.symm, below_alloc' _ _⟩
  | true =>
  have HN := hid (show numB B.now B.floor = true by unfold numB; rw [h1, h2]; rfl)
  obtain ⟨n1, n2, n3⟩ := numB_yes HN.out
  have N1 := hid n1
  have N2 := hid n2
  have N3 := hid n3
  clear n1 n2 n3
  have hA := hid (show BkIn (w.alloc (.cells #[.int .i64 B.now, .int .i64 B.floor, .slice a1 B.on c1, .slice a2 B.hn c2, .slice a3 B.tn c3] 26)) lo hi B a1 a2 a3 from hin.below (below_alloc' _ _) hhi)
  clear hin
  go_enter Tryz.func28, Tryz.ntmps28
  go_wp2_with (go_at_call 51; refine (in_any _ _ _ _).mono ?_; rintro e w1 ⟨rfl, rfl⟩; first | rw [h1] | rw [h2])
  refine (specObjs_any B.now B.floor B.on B.os a1 a2 a3 c1 B.hn c2 B.tn c3 _ lo hi (by simp; omega) (by omega) f4 hA.out.o).mono ?_
  rintro e w1 ⟨rfl, hb1⟩
  cases ho : objsB B.on B.os B.now with
  | false =>
    have HE := hid (show bvS B = false by unfold bvS; rw [ho]; simp)
    go_wp2
    go_ret
    exact ⟨ret_bool HE.out.symm, (below_alloc' _ _).trans (hb1.mono (by simp))⟩
  | true =>
  have HO := hid ho
  have p0 := box_cell hb1 0
  have p1 := box_cell hb1 1
  have p2 := box_cell hb1 2
  have p3 := box_cell hb1 3
  have p4 := box_cell hb1 4
  simp only [List.getElem?_toArray, List.getElem?_cons_succ, List.getElem?_cons_zero] at p0 p1 p2 p3 p4
  have hz1 : w.heap.size < w1.heap.size := by have := hb1.size; simp at this; omega
  have hA1 := hid (hA.out.below hb1 (by simp; omega))
  have hB1 : Below w.heap.size w w1 := (below_alloc' _ _).trans (hb1.mono (by simp))
  clear hb1 hA ho
  go_wp2_with fail
  refine (specHist_any B.now B.floor B.on B.hn B.os B.hs a1 a2 a3 c1 c2 B.tn c3 w1 lo hi (by omega) (by omega) (by omega) N1.out N2.out N3.out f4 f5 hA1.out.o hA1.out.h).mono ?_
  rintro e w2 ⟨rfl, hb2⟩
  cases hh : histS B.now B.floor B.on B.os B.hn B.hs with
  | false =>
    have HE := hid (show bvS B = false by unfold bvS; rw [hh]; simp)
    go_wp2
    go_ret
    exact ⟨ret_bool HE.out.symm, hB1.trans (hb2.mono (by omega))⟩
  | true =>
  have HH := hid hh
  have q0 := (hb2.cell (p := ⟨w.heap.size, 0, none⟩) hz1).trans p0
  have q1 := (hb2.cell (p := ⟨w.heap.size, 1, none⟩) hz1).trans p1
  have q2 := (hb2.cell (p := ⟨w.heap.size, 2, none⟩) hz1).trans p2
  have q3 := (hb2.cell (p := ⟨w.heap.size, 3, none⟩) hz1).trans p3
  have q4 := (hb2.cell (p := ⟨w.heap.size, 4, none⟩) hz1).trans p4
  have hA2 := hid (hA1.out.below hb2 (by omega))
  have hB2 : Below w.heap.size w w2 := hB1.trans (hb2.mono (by omega))
  have hz2 : w.heap.size < w2.heap.size := by have := hb2.size; omega
  clear hb2 hA1 hh p0 p1 p2 p3 p4
  go_wp2_with fail
  refine (specTics_any B.now B.floor B.tn B.ts a1 a2 a3 B.on c1 B.hn c2 c3 w2 lo hi (by omega) (by omega) f6 hA2.out.t).mono ?_
  rintro e w3 ⟨rfl, hb3⟩
  have HE := hid (show bvS B = tkS B.tn B.ts B.now by unfold bvS; rw [HN.out, HO.out, HH.out]; rfl)
  clear q0 q1 q2 q3 q4
  go_wp2
  go_ret
  exact ⟨ret_bool HE.out.symm, hB2.trans (hb3.mono (by omega))⟩
end Go.Proofs.YtkfbclopkgnacaaGreatDoor
namespace Go.Proofs.YtkfbclopkgnacaaGreatDoor
open Go.RowKit
theorem nameB_size {s : ByteArray} (h : nameB s = true) : (s.size : Int) ≤ 20 := by
  unfold nameB at h
  rw [Bool.and_eq_true] at h
  exact (inB_of h.1).2
/-- an object whose line is of a size -/
structure ObV (o : Ob) : Prop where
  sm : ObSm o
  ev : o.ver = (o.ver.toNat : Int)
  eb : o.born = (o.born.toNat : Int)
  lv : (o.ver.toNat : Int) ≤ 1000000
  lb : (o.born.toNat : Int) ≤ 1000000
theorem partsB_v {o : Ob} {now : Int} (h : partsB o now = true) (hn : now ≤ 1000000) : ObV o := by
  unfold partsB holdsB ascB at h
  simp only [Bool.and_eq_true, decide_eq_true_eq] at h
  obtain ⟨h1, h2, h3, h4, h5, h6, h7⟩ := h
  have k1 := nameB_size h1
  have k2 := nameB_size h2
  have k3 := inB_of h3
  have k4 := inB_of h4
  refine ⟨⟨by omega, by omega, by omega, by omega, fun i hi => ?_⟩, by omega, by omega, by omega, by omega⟩
  have := allTo_iff.1 h7 i hi
  simp only [Bool.and_eq_true] at this
  have := nameB_size this.1
  omega
structure TiV (t : Ti) : Prop where
  c : (t.client.size : Int) ≤ 1000000
  p : (t.print.size : Int) ≤ 1000000
  en : t.num = (t.num.toNat : Int)
  ec : t.code = (t.code.toNat : Int)
  ev : t.ver = (t.ver.toNat : Int)
  ln : (t.num.toNat : Int) ≤ 1000000
  lc : (t.code.toNat : Int) ≤ 1000000
  lv : (t.ver.toNat : Int) ≤ 1000000
theorem tiB_v {t : Ti} {now : Int} (h : tiB t now = true) (hn : now ≤ 1000000) : TiV t := by
  unfold tiB at h
  simp only [Bool.and_eq_true, decide_eq_true_eq] at h
  obtain ⟨h1, h2, h3, h4, h5⟩ := h
  have k1 := nameB_size h1
  have k2 := inB_of h2
  have k4 := inB_of h4
  have k5 := inB_of h5
  exact ⟨by omega, by omega, by omega, by omega, by omega, by omega, by omega, by omega⟩
/-- what a valid book is, as far as its form goes -/
structure BkV (x : Bk) : Prop where
  en : x.now = (x.now.toNat : Int)
  ef : x.floor = (x.floor.toNat : Int)
  ln : (x.now.toNat : Int) ≤ 1000000
  lf : (x.floor.toNat : Int) ≤ 1000000
  o : x.on ≤ 100
  h : x.hn ≤ 200
  t : x.tn ≤ 50
  os : ∀ i, i < x.on → ObV (x.os i)
  hs : ∀ i, i < x.hn → ObV (x.hs i).ob
  ts : ∀ i, i < x.tn → TiV (x.ts i)
theorem valid_v {x : Bk} (h : allTo (chk x) 7 = true) : BkV x := by
  have c := fun i (hi : i < 7) => allTo_iff.1 h i hi
  have c0 : numB x.now x.floor = true := c 0 (by omega)
  have c1 : objs1B x.on x.os x.now = true := c 1 (by omega)
  have c3 : histB x.now x.floor x.hn x.hs = true := c 3 (by omega)
  have c6 : tisB x.tn x.ts x.now = true := c 6 (by omega)
  obtain ⟨n1, n2, n3⟩ := numB_yes c0
  unfold objs1B objFit at c1
  unfold histB at c3
  unfold tisB at c6
  simp only [Bool.and_eq_true, decide_eq_true_eq] at c1 c3 c6
  refine ⟨by omega, by omega, by omega, by omega, c1.1, c3.1, c6.1, fun i hi => ?_, fun i hi => ?_, fun i hi => ?_⟩
  · have := allTo_iff.1 c1.2.2 i hi
    simp only [Bool.and_eq_true] at this
    exact partsB_v this.1 n3
  · have := allTo_iff.1 c3.2.2 i hi
    unfold chgB at this
    simp only [Bool.and_eq_true] at this
    exact partsB_v this.2.2.1 n3
  · exact tiB_v (allTo_iff.1 c6.2.2 i hi) n3
abbrev sp1 : ByteArray := ⟨#[32]⟩
abbrev nl1 : ByteArray := ⟨#[10]⟩
def headS (a b : Nat) : ByteArray := (⟨#[98, 111, 111, 107, 32]⟩ : ByteArray) ++ dS a ++ (⟨#[32]⟩ : ByteArray) ++ dS b ++ (⟨#[10]⟩ : ByteArray)
def oLine (o : Ob) : ByteArray := (⟨#[111, 98, 106, 101, 99, 116, 32]⟩ : ByteArray) ++ objS o o.ver.toNat o.born.toNat
def gS (b : Bool) : ByteArray := if b then ⟨#[103, 111, 110, 101, 32]⟩ else ⟨#[45, 32]⟩
def cLine (c : Ch) : ByteArray := (⟨#[99, 104, 97, 110, 103, 101, 32]⟩ : ByteArray) ++ gS c.gone ++ objS c.ob c.ob.ver.toNat c.ob.born.toNat
def tLine (t : Ti) : ByteArray := (⟨#[116, 105, 99, 107, 101, 116, 32]⟩ : ByteArray) ++ t.client ++ (⟨#[32]⟩ : ByteArray) ++ dS t.num.toNat ++ (⟨#[32]⟩ : ByteArray) ++ dS t.code.toNat ++ (⟨#[32]⟩ : ByteArray) ++ dS t.ver.toNat ++ (⟨#[32]⟩ : ByteArray) ++ quS t.print ++ (⟨#[10]⟩ : ByteArray)
def linesTo (f : Nat → ByteArray) (l0 : List UInt8) : Nat → List UInt8 | 0 => l0 | k + 1 => linesTo f l0 k ++ (f k).data.toList
theorem linesTo_len {f : Nat → ByteArray} {l0 : List UInt8} {n m : Nat} (h : ∀ i, i < n → (f i).size ≤ m) : ∀ k, k ≤ n → (linesTo f l0 k).length ≤ l0.length + m * k
  | 0, _ => by simp [linesTo]
  | k + 1, hk => by
    have h1 := linesTo_len (l0 := l0) h k (by omega)
    have h2 := h k (by omega)
    have e : (f k).data.toList.length = (f k).size := by rw [Array.length_toList]; rfl
    rw [linesTo, List.length_append, e, Nat.mul_succ]
    omega
theorem headS_size {a b : Nat} (ha : (a : Int) ≤ 1000000) (hb : (b : Int) ≤ 1000000) : ((headS a b).size : Int) ≤ 3000000 := by
  have := dS_size ha
  have := dS_size hb
  have e1 : ((⟨#[32]⟩ : ByteArray)).size = 1 := rfl
  have e2 : ((⟨#[10]⟩ : ByteArray)).size = 1 := rfl
  have e3 : ((⟨#[98, 111, 111, 107, 32]⟩ : ByteArray)).size = 5 := rfl
  unfold headS
  simp only [ByteArray.size_append, e1, e2, e3]
  omega
theorem oLine_size {o : Ob} (h : ObV o) : ((oLine o).size : Int) ≤ 1200000000 := by
  have := objS_size h.sm h.lv h.lb
  have e3 : ((⟨#[111, 98, 106, 101, 99, 116, 32]⟩ : ByteArray)).size = 7 := rfl
  unfold oLine
  simp only [ByteArray.size_append, e3]
  omega
theorem cLine_size {c : Ch} (h : ObV c.ob) : ((cLine c).size : Int) ≤ 1200000000 := by
  have := objS_size h.sm h.lv h.lb
  have e3 : ((⟨#[99, 104, 97, 110, 103, 101, 32]⟩ : ByteArray)).size = 7 := rfl
  have e4 : (gS c.gone).size ≤ 5 := by unfold gS; split <;> simp [ByteArray.size]
  unfold cLine
  simp only [ByteArray.size_append, e3]
  omega
theorem tLine_size {t : Ti} (h : TiV t) : ((tLine t).size : Int) ≤ 1200000000 := by
  have := h.c
  have := quS_size h.p
  have := dS_size h.ln
  have := dS_size h.lc
  have := dS_size h.lv
  have e1 : ((⟨#[32]⟩ : ByteArray)).size = 1 := rfl
  have e2 : ((⟨#[10]⟩ : ByteArray)).size = 1 := rfl
  have e3 : ((⟨#[116, 105, 99, 107, 101, 116, 32]⟩ : ByteArray)).size = 7 := rfl
  unfold tLine
  simp only [ByteArray.size_append, e1, e2, e3]
  omega
def formO (x : Bk) (k : Nat) : List UInt8 := linesTo (fun i => oLine (x.os i)) (headS x.now.toNat x.floor.toNat).data.toList k
def formH (x : Bk) (k : Nat) : List UInt8 := linesTo (fun i => cLine (x.hs i)) (formO x x.on) k
def formT (x : Bk) (k : Nat) : List UInt8 := linesTo (fun i => tLine (x.ts i)) (formH x x.hn) k
theorem formO_len {x : Bk} (h : BkV x) (k : Nat) (hk : k ≤ x.on) : ((formO x k).length : Int) ≤ 130000000000 := by
  have h1 := linesTo_len (l0 := (headS x.now.toNat x.floor.toNat).data.toList) (fun i hi => (by have := oLine_size (h.os i hi); omega : (oLine (x.os i)).size ≤ 1200000000)) k hk
  have h2 := headS_size h.ln h.lf
  have h3 := h.o
  have e : (headS x.now.toNat x.floor.toNat).data.toList.length = (headS x.now.toNat x.floor.toNat).size := by rw [Array.length_toList]; rfl
  rw [e] at h1
  unfold formO
  omega
theorem formH_len {x : Bk} (h : BkV x) (k : Nat) (hk : k ≤ x.hn) : ((formH x k).length : Int) ≤ 400000000000 := by
  have h1 := linesTo_len (l0 := formO x x.on) (fun i hi => (by have := cLine_size (h.hs i hi); omega : (cLine (x.hs i)).size ≤ 1200000000)) k hk
  have h2 := formO_len h x.on (Nat.le_refl _)
  have h3 := h.h
  unfold formH
  omega
theorem formT_len {x : Bk} (h : BkV x) (k : Nat) (hk : k ≤ x.tn) : ((formT x k).length : Int) ≤ 500000000000 := by
  have h1 := linesTo_len (l0 := formH x x.hn) (fun i hi => (by have := tLine_size (h.ts i hi); omega : (tLine (x.ts i)).size ≤ 1200000000)) k hk
  have h2 := formH_len h x.hn (Nat.le_refl _)
  have h3 := h.t
  unfold formT
  omega
/-- the form of a book, or nothing -/
def formS (x : Bk) : ByteArray := if allTo (chk x) 7 then (if 200000 < ((formT x x.tn).length : Int) then ⟨#[]⟩ else ⟨(formT x x.tn).toArray⟩) else ⟨#[]⟩
end Go.Proofs.YtkfbclopkgnacaaGreatDoor
namespace Go.Proofs.YtkfbclopkgnacaaGreatDoor
open Go.RowKit
theorem ba_append (a b : ByteArray) : (a ++ b).data.toList = a.data.toList ++ b.data.toList := by simp
theorem ba_mk (l : List UInt8) : (⟨l.toArray⟩ : ByteArray).data.toList = l := by simp
theorem ba_ext {a b : ByteArray} (h : a.data.toList = b.data.toList) : a = b := by
  cases a; cases b
  simp only at h
  rw [Array.toList_inj.1 h]
theorem inter_cons (sep : List UInt8) : ∀ (a : List UInt8) (xs : List (List UInt8)), sep.intercalate (a :: xs) = a ++ xs.flatMap (fun s => sep ++ s)
  | a, [] => by simp [List.intercalate]
  | a, b :: xs => by
    have ih := inter_cons sep b xs
    unfold List.intercalate at ih ⊢
    rw [List.intersperse_cons_cons]
    simp only [List.flatten_cons, List.flatMap_cons]
    rw [ih]
    simp
theorem joinL_cons (a : ByteArray) (xs : List ByteArray) : joinL (a :: xs) = a.data.toList ++ xs.flatMap (fun s => 32 :: s.data.toList) := by
  unfold joinL Lib.join
  rw [List.map_cons, inter_cons, List.flatMap_map]
  rfl
theorem lineS_l (xs : List ByteArray) : (lineS xs).data.toList = joinL xs ++ [10] := by
  unfold lineS
  rw [ba_append, ba_mk]
theorem flat_len {m : Nat} : ∀ (xs : List ByteArray), (∀ s ∈ xs, s.size ≤ m) → (xs.flatMap (fun s => 32 :: s.data.toList)).length ≤ xs.length * (m + 1)
  | [], _ => by simp
  | a :: xs, h => by
    have ih := flat_len xs (fun s hs => h s (List.mem_cons_of_mem _ hs))
    have ha := h a (by simp)
    have e : a.data.toList.length = a.size := by rw [Array.length_toList]; rfl
    rw [List.flatMap_cons, List.length_append, List.length_cons, e, List.length_cons, Nat.succ_mul]
    omega
theorem joinL_len {m : Nat} {a : ByteArray} {xs : List ByteArray} (h : ∀ s ∈ a :: xs, s.size ≤ m) : (joinL (a :: xs)).length ≤ (xs.length + 1) * (m + 1) := by
  have h1 := flat_len xs (fun s hs => h s (List.mem_cons_of_mem _ hs))
  have ha := h a (by simp)
  have e : a.data.toList.length = a.size := by rw [Array.length_toList]; rfl
  rw [joinL_cons, List.length_append, e, Nat.succ_mul]
  omega
theorem hdTo_l (s0 : ByteArray) (hs : Nat → ByteArray) : ∀ k, (hdTo s0 hs k).data.toList = s0.data.toList ++ ((List.range k).map hs).flatMap (fun s => 32 :: s.data.toList)
  | 0 => by simp [hdTo]
  | k + 1 => by
    rw [hdTo, ba_append, ba_append, hdTo_l s0 hs k, List.range_succ, List.map_append, List.flatMap_append]
    simp
def endW : ByteArray := ⟨#[101, 110, 100, 105, 110, 103]⟩
def goneW : ByteArray := ⟨#[103, 111, 110, 101]⟩
def six (o : Ob) : List ByteArray := [o.kind, o.name, dS o.ver.toNat, dS o.born.toNat, wrdS o.ending endW, quS o.text]
def hol (o : Ob) : List ByteArray := (List.range o.hn).map o.hs
theorem en_l (b : Bool) : (enS b).data.toList = (wrdS b endW).data.toList ++ [32] := by cases b <;> rfl
theorem gn_l (b : Bool) : (gS b).data.toList = (wrdS b goneW).data.toList ++ [32] := by cases b <;> rfl
theorem objS_l (o : Ob) : (objS o o.ver.toNat o.born.toNat).data.toList = o.kind.data.toList ++ ((six o).tail ++ hol o).flatMap (fun s => 32 :: s.data.toList) ++ [10] := by
  unfold objS obj0
  rw [ba_append, hdTo_l]
  simp only [ba_append, en_l]
  unfold six hol
  simp
theorem oLine_l (o : Ob) : (lineS ([⟨#[111, 98, 106, 101, 99, 116]⟩] ++ six o ++ hol o)).data.toList = (oLine o).data.toList := by
  rw [lineS_l]
  show joinL (⟨#[111, 98, 106, 101, 99, 116]⟩ :: (six o ++ hol o)) ++ [10] = _
  rw [joinL_cons]
  unfold oLine
  rw [ba_append, objS_l]
  unfold six
  simp
theorem cLine_l (c : Ch) : (lineS ([⟨#[99, 104, 97, 110, 103, 101]⟩, wrdS c.gone goneW] ++ six c.ob ++ hol c.ob)).data.toList = (cLine c).data.toList := by
  rw [lineS_l]
  show joinL (⟨#[99, 104, 97, 110, 103, 101]⟩ :: (wrdS c.gone goneW :: (six c.ob ++ hol c.ob))) ++ [10] = _
  rw [joinL_cons]
  unfold cLine
  rw [ba_append, ba_append, objS_l, gn_l]
  unfold six
  simp
theorem headS_l (a b : Nat) : (lineS [⟨#[98, 111, 111, 107]⟩, dS a, dS b]).data.toList = (headS a b).data.toList := by
  rw [lineS_l, joinL_cons]
  unfold headS
  simp only [ba_append]
  simp
theorem tLine_l (t : Ti) : (lineS [⟨#[116, 105, 99, 107, 101, 116]⟩, t.client, dS t.num.toNat, dS t.code.toNat, dS t.ver.toNat, quS t.print]).data.toList = (tLine t).data.toList := by
  rw [lineS_l, joinL_cons]
  unfold tLine
  simp only [ba_append]
  simp
theorem six_size {o : Ob} (h : ObV o) : ∀ s ∈ six o ++ hol o, s.size ≤ 3000002 := by
  intro s hs
  have h1 := h.sm.k
  have h2 := h.sm.n
  have h3 := dS_size h.lv
  have h4 := dS_size h.lb
  have h5 := quS_size h.sm.t
  have h6 : (wrdS o.ending endW).size ≤ 6 := by cases o.ending <;> decide
  unfold six hol at hs
  simp only [List.mem_append, List.mem_cons, List.not_mem_nil, or_false, List.mem_map, List.mem_range] at hs
  rcases hs with (rfl | rfl | rfl | rfl | rfl | rfl) | ⟨i, hi, rfl⟩
  · omega
  · omega
  · omega
  · omega
  · omega
  · omega
  · have := h.sm.s i hi
    omega
end Go.Proofs.YtkfbclopkgnacaaGreatDoor
