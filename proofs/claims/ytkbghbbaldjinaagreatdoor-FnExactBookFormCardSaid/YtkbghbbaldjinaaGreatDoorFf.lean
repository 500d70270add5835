import Derived.Test.YtkbghbbaldjinaaGreatDoorFe
import Derived.Test.YtkbghbbaldjinaaGreatDoorZj
namespace Go.Proofs.YtkbghbbaldjinaaGreatDoor
open Go.RowKit
theorem nameB_size {s : ByteArray} (h : nameB s = true) : (s.size : Int) ≤ 20 := by
  unfold nameB at h
  rw [Bool.and_eq_true] at h
  exact (inB_of h.1).2
/-- an object whose line is of a size -/
structure ObV (o : Ob) : Prop where
  sm : ObSm o
  ev : o.ver = (o.ver.toNat : Int)
  eb : o.born = (o.born.toNat : Int)
  lv : (o.ver.toNat : Int) ≤ 1000000
  lb : (o.born.toNat : Int) ≤ 1000000
theorem partsB_v {o : Ob} {now : Int} (h : partsB o now = true) (hn : now ≤ 1000000) : ObV o := by
  unfold partsB holdsB ascB at h
  simp only [Bool.and_eq_true, decide_eq_true_eq] at h
  obtain ⟨h1, h2, h3, h4, h5, h6, h7⟩ := h
  have k1 := nameB_size h1
  have k2 := nameB_size h2
  have k3 := inB_of h3
  have k4 := inB_of h4
  refine ⟨⟨by omega, by omega, by omega, by omega, fun i hi => ?_⟩, by omega, by omega, by omega, by omega⟩
  have := allTo_iff.1 h7 i hi
  simp only [Bool.and_eq_true] at this
  have := nameB_size this.1
  omega
structure TiV (t : Ti) : Prop where
  c : (t.client.size : Int) ≤ 1000000
  p : (t.print.size : Int) ≤ 1000000
  en : t.num = (t.num.toNat : Int)
  ec : t.code = (t.code.toNat : Int)
  ev : t.ver = (t.ver.toNat : Int)
  ln : (t.num.toNat : Int) ≤ 1000000
  lc : (t.code.toNat : Int) ≤ 1000000
  lv : (t.ver.toNat : Int) ≤ 1000000
theorem tiB_v {t : Ti} {now : Int} (h : tiB t now = true) (hn : now ≤ 1000000) : TiV t := by
  unfold tiB at h
  simp only [Bool.and_eq_true, decide_eq_true_eq] at h
  obtain ⟨h1, h2, h3, h4, h5⟩ := h
  have k1 := nameB_size h1
  have k2 := inB_of h2
  have k4 := inB_of h4
  have k5 := inB_of h5
  exact ⟨by omega, by omega, by omega, by omega, by omega, by omega, by omega, by omega⟩
/-- what a valid book is, as far as its form goes -/
structure BkV (x : Bk) : Prop where
  en : x.now = (x.now.toNat : Int)
  ef : x.floor = (x.floor.toNat : Int)
  ln : (x.now.toNat : Int) ≤ 1000000
  lf : (x.floor.toNat : Int) ≤ 1000000
  o : x.on ≤ 100
  h : x.hn ≤ 200
  t : x.tn ≤ 50
  os : ∀ i, i < x.on → ObV (x.os i)
  hs : ∀ i, i < x.hn → ObV (x.hs i).ob
  ts : ∀ i, i < x.tn → TiV (x.ts i)
theorem valid_v {x : Bk} (h : allTo (chk x) 7 = true) : BkV x := by
  have c := fun i (hi : i < 7) => allTo_iff.1 h i hi
  have c0 : numB x.now x.floor = true := c 0 (by omega)
  have c1 : objs1B x.on x.os x.now = true := c 1 (by omega)
  have c3 : histB x.now x.floor x.hn x.hs = true := c 3 (by omega)
  have c6 : tisB x.tn x.ts x.now = true := c 6 (by omega)
  obtain ⟨n1, n2, n3⟩ := numB_yes c0
  unfold objs1B objFit at c1
  unfold histB at c3
  unfold tisB at c6
  simp only [Bool.and_eq_true, decide_eq_true_eq] at c1 c3 c6
  refine ⟨by omega, by omega, by omega, by omega, c1.1, c3.1, c6.1, fun i hi => ?_, fun i hi => ?_, fun i hi => ?_⟩
  · have := allTo_iff.1 c1.2.2 i hi
    simp only [Bool.and_eq_true] at this
    exact partsB_v this.1 n3
  · have := allTo_iff.1 c3.2.2 i hi
    unfold chgB at this
    simp only [Bool.and_eq_true] at this
    exact partsB_v this.2.2.1 n3
  · exact tiB_v (allTo_iff.1 c6.2.2 i hi) n3
abbrev sp1 : ByteArray := ⟨#[32]⟩
abbrev nl1 : ByteArray := ⟨#[10]⟩
def headS (a b : Nat) : ByteArray := (⟨#[98, 111, 111, 107, 32]⟩ : ByteArray) ++ dS a ++ (⟨#[32]⟩ : ByteArray) ++ dS b ++ (⟨#[10]⟩ : ByteArray)
def oLine (o : Ob) : ByteArray := (⟨#[111, 98, 106, 101, 99, 116, 32]⟩ : ByteArray) ++ objS o o.ver.toNat o.born.toNat
def gS (b : Bool) : ByteArray := if b then ⟨#[103, 111, 110, 101, 32]⟩ else ⟨#[45, 32]⟩
def cLine (c : Ch) : ByteArray := (⟨#[99, 104, 97, 110, 103, 101, 32]⟩ : ByteArray) ++ gS c.gone ++ objS c.ob c.ob.ver.toNat c.ob.born.toNat
def tLine (t : Ti) : ByteArray := (⟨#[116, 105, 99, 107, 101, 116, 32]⟩ : ByteArray) ++ t.client ++ (⟨#[32]⟩ : ByteArray) ++ dS t.num.toNat ++ (⟨#[32]⟩ : ByteArray) ++ dS t.code.toNat ++ (⟨#[32]⟩ : ByteArray) ++ dS t.ver.toNat ++ (⟨#[32]⟩ : ByteArray) ++ quS t.print ++ (⟨#[10]⟩ : ByteArray)
def linesTo (f : Nat → ByteArray) (l0 : List UInt8) : Nat → List UInt8 | 0 => l0 | k + 1 => linesTo f l0 k ++ (f k).data.toList
theorem linesTo_len {f : Nat → ByteArray} {l0 : List UInt8} {n m : Nat} (h : ∀ i, i < n → (f i).size ≤ m) : ∀ k, k ≤ n → (linesTo f l0 k).length ≤ l0.length + m * k
  | 0, _ => by simp [linesTo]
  | k + 1, hk => by
    have h1 := linesTo_len (l0 := l0) h k (by omega)
    have h2 := h k (by omega)
    have e : (f k).data.toList.length = (f k).size := by rw [Array.length_toList]; rfl
    rw [linesTo, List.length_append, e, Nat.mul_succ]
    omega
theorem headS_size {a b : Nat} (ha : (a : Int) ≤ 1000000) (hb : (b : Int) ≤ 1000000) : ((headS a b).size : Int) ≤ 3000000 := by
  have := dS_size ha
  have := dS_size hb
  have e1 : ((⟨#[32]⟩ : ByteArray)).size = 1 := rfl
  have e2 : ((⟨#[10]⟩ : ByteArray)).size = 1 := rfl
  have e3 : ((⟨#[98, 111, 111, 107, 32]⟩ : ByteArray)).size = 5 := rfl
  unfold headS
  simp only [ByteArray.size_append, e1, e2, e3]
  omega
theorem oLine_size {o : Ob} (h : ObV o) : ((oLine o).size : Int) ≤ 1200000000 := by
  have := objS_size h.sm h.lv h.lb
  have e3 : ((⟨#[111, 98, 106, 101, 99, 116, 32]⟩ : ByteArray)).size = 7 := rfl
  unfold oLine
  simp only [ByteArray.size_append, e3]
  omega
theorem cLine_size {c : Ch} (h : ObV c.ob) : ((cLine c).size : Int) ≤ 1200000000 := by
  have := objS_size h.sm h.lv h.lb
  have e3 : ((⟨#[99, 104, 97, 110, 103, 101, 32]⟩ : ByteArray)).size = 7 := rfl
  have e4 : (gS c.gone).size ≤ 5 := by unfold gS; split <;> simp [ByteArray.size]
  unfold cLine
  simp only [ByteArray.size_append, e3]
  omega
theorem tLine_size {t : Ti} (h : TiV t) : ((tLine t).size : Int) ≤ 1200000000 := by
  have := h.c
  have := quS_size h.p
  have := dS_size h.ln
  have := dS_size h.lc
  have := dS_size h.lv
  have e1 : ((⟨#[32]⟩ : ByteArray)).size = 1 := rfl
  have e2 : ((⟨#[10]⟩ : ByteArray)).size = 1 := rfl
  have e3 : ((⟨#[116, 105, 99, 107, 101, 116, 32]⟩ : ByteArray)).size = 7 := rfl
  unfold tLine
  simp only [ByteArray.size_append, e1, e2, e3]
  omega
def formO (x : Bk) (k : Nat) : List UInt8 := linesTo (fun i => oLine (x.os i)) (headS x.now.toNat x.floor.toNat).data.toList k
def formH (x : Bk) (k : Nat) : List UInt8 := linesTo (fun i => cLine (x.hs i)) (formO x x.on) k
def formT (x : Bk) (k : Nat) : List UInt8 := linesTo (fun i => tLine (x.ts i)) (formH x x.hn) k
theorem formO_len {x : Bk} (h : BkV x) (k : Nat) (hk : k ≤ x.on) : ((formO x k).length : Int) ≤ 130000000000 := by
  have h1 := linesTo_len (l0 := (headS x.now.toNat x.floor.toNat).data.toList) (fun i hi => (by have := oLine_size (h.os i hi); omega : (oLine (x.os i)).size ≤ 1200000000)) k hk
  have h2 := headS_size h.ln h.lf
  have h3 := h.o
  have e : (headS x.now.toNat x.floor.toNat).data.toList.length = (headS x.now.toNat x.floor.toNat).size := by rw [Array.length_toList]; rfl
  rw [e] at h1
  unfold formO
  omega
theorem formH_len {x : Bk} (h : BkV x) (k : Nat) (hk : k ≤ x.hn) : ((formH x k).length : Int) ≤ 400000000000 := by
  have h1 := linesTo_len (l0 := formO x x.on) (fun i hi => (by have := cLine_size (h.hs i hi); omega : (cLine (x.hs i)).size ≤ 1200000000)) k hk
  have h2 := formO_len h x.on (Nat.le_refl _)
  have h3 := h.h
  unfold formH
  omega
theorem formT_len {x : Bk} (h : BkV x) (k : Nat) (hk : k ≤ x.tn) : ((formT x k).length : Int) ≤ 500000000000 := by
  have h1 := linesTo_len (l0 := formH x x.hn) (fun i hi => (by have := tLine_size (h.ts i hi); omega : (tLine (x.ts i)).size ≤ 1200000000)) k hk
  have h2 := formH_len h x.hn (Nat.le_refl _)
  have h3 := h.t
  unfold formT
  omega
/-- the form of a book, or nothing -/
def formS (x : Bk) : ByteArray := if allTo (chk x) 7 then (if 200000 < ((formT x x.tn).length : Int) then ⟨#[]⟩ else ⟨(formT x x.tn).toArray⟩) else ⟨#[]⟩
end Go.Proofs.YtkbghbbaldjinaaGreatDoor
