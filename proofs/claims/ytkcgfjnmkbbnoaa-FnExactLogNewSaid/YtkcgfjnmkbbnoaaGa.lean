import Derived.Test.YtkcgfjnmkbbnoaaM
import Derived.Test.YtkcgfjnmkbbnoaaQ
namespace Go.Proofs.Ytkcgfjnmkbbnoaa
open Go.RowKit
/-- the blocks lo .. hi hold the same -/
def Same (lo hi : Nat) (w w' : World) : Prop := ∀ b j, lo ≤ b → b < hi → w'.cell? ⟨b, j, none⟩ = w.cell? ⟨b, j, none⟩
theorem Fr.same {lo hi a b : Nat} {w w' : World} (h : Fr lo hi w w') (hb : b ≤ w.heap.size) (ho : b ≤ lo ∨ hi ≤ a) : Same a b w w' := fun k j h1 h2 => h.cell (p := ⟨k, j, none⟩) (by show k < _; omega) (by show k < _ ∨ _ ≤ k; omega)
theorem Same.mono {lo hi a b : Nat} {w w' : World} (h : Same lo hi w w') (h1 : lo ≤ a) (h2 : b ≤ hi) : Same a b w w' := fun k j k1 k2 => h k j (by omega) (by omega)
theorem SlsIn.same {w w' : World} {lo hi : Nat} {ad : Option Addr} {n : Nat} {x : Nat → Sl} (h : SlsIn w lo hi ad n x) (s : Same lo hi w w') : SlsIn w' lo hi ad n x := fun i hi' => by
  obtain ⟨b, off, e1, e2, e3, e4⟩ := h i hi'
  exact ⟨b, off, e1, e2, e3, ⟨(s b _ e2 e3).trans e4.c0, (s b _ e2 e3).trans e4.c1⟩⟩
theorem StrsIn.same {w w' : World} {lo hi : Nat} {ad : Option Addr} {n : Nat} {x : Nat → ByteArray} (h : StrsIn w lo hi ad n x) (s : Same lo hi w w') : StrsIn w' lo hi ad n x := fun i hi' => by
  obtain ⟨b, off, e1, e2, e3, e4⟩ := h i hi'
  exact ⟨b, off, e1, e2, e3, (s b _ e2 e3).trans e4⟩
theorem IntsIn.same {w w' : World} {lo hi : Nat} {ad : Option Addr} {n : Nat} {x : Nat → Int} (h : IntsIn w lo hi ad n x) (s : Same lo hi w w') : IntsIn w' lo hi ad n x := fun i hi' => by
  obtain ⟨b, off, e1, e2, e3, e4⟩ := h i hi'
  exact ⟨b, off, e1, e2, e3, (s b _ e2 e3).trans e4⟩
theorem MssIn.same {w w' : World} {lo hi : Nat} {ad : Option Addr} {n : Nat} {x : Nat → Ms} (h : MssIn w lo hi ad n x) (s : Same lo hi w w') : MssIn w' lo hi ad n x := fun i hi' => by
  obtain ⟨b, off, ah, ch, e1, e2, e3, e4, e5⟩ := h i hi'
  exact ⟨b, off, ah, ch, e1, e2, e3, e4.fr (fun j _ => s b _ e2 e3), e5.same s⟩
theorem AksIn.same {w w' : World} {lo hi : Nat} {ad : Option Addr} {n : Nat} {x : Nat → Ak} (h : AksIn w lo hi ad n x) (s : Same lo hi w w') : AksIn w' lo hi ad n x := fun i hi' => by
  obtain ⟨b, off, ah, ch, e1, e2, e3, e4, e5⟩ := h i hi'
  exact ⟨b, off, ah, ch, e1, e2, e3, e4.fr (fun j _ => s b _ e2 e3), e5.same s⟩
theorem RcIn.same {w w' : World} {lo hi : Nat} {r : Rc} {A : RcA} (h : RcIn w lo hi r A) (s : Same lo hi w w') : RcIn w' lo hi r A :=
  ⟨h.sf.same s, h.dk.same s, h.hs.same s, h.ws.same s, h.ys.same s, h.bs.same s, h.as_.same s⟩
theorem RcIn.widen {w : World} {lo hi lo2 hi2 : Nat} {r : Rc} {A : RcA} (h : RcIn w lo hi r A) (h1 : lo2 ≤ lo) (h2 : hi ≤ hi2) : RcIn w lo2 hi2 r A :=
  ⟨h.sf.mono h1 h2, h.dk.mono h1 h2, h.hs.mono h1 h2, h.ws.mono h1 h2, h.ys.mono h1 h2, h.bs.mono h1 h2, h.as_.mono h1 h2⟩
abbrev rcCs (r : Rc) (A : RcA) : List Value := [.int .i64 r.num, .int .i64 r.of, .bool r.up, .int .i64 r.sf.pr, .int .i64 r.sf.kn, .slice A.sa r.sf.n A.sc, .int .i64 r.dk.pr, .int .i64 r.dk.kn, .slice A.da r.dk.n A.dc, .slice A.ha r.hn A.hc, .slice A.wa r.wn A.wc, .bool r.ld, .bool r.tr, .int .i64 r.bal, .slice A.ya r.yn A.yc, .slice A.ba r.bn A.bc, .slice A.aa r.an A.ac, .int .i64 r.hd]
/-- n recorders in a row, their lists anywhere -/
def RcsIn (w : World) (lo hi : Nat) (ad : Option Addr) (n : Nat) (x : Nat → Rc) (A : Nat → RcA) : Prop :=
  ∀ i, i < n → ∃ b off, ad = some ⟨b, off, none⟩ ∧ lo ≤ b ∧ b < hi ∧ w.rangeAt b (off + i * 18) (rcCs (x i) (A i)) ∧ RcIn w lo hi (x i) (A i)
theorem rangeAt_same {w w' : World} {b o : Nat} {cs : List Value} (h : w.rangeAt b o cs) (e : ∀ j, w'.cell? ⟨b, j, none⟩ = w.cell? ⟨b, j, none⟩) : w'.rangeAt b o cs := fun j v hv => (e _).trans (h j v hv)
theorem RcsIn.same {w w' : World} {lo hi : Nat} {ad : Option Addr} {n : Nat} {x : Nat → Rc} {A : Nat → RcA} (h : RcsIn w lo hi ad n x A) (s : Same lo hi w w') : RcsIn w' lo hi ad n x A := fun i hi' => by
  obtain ⟨b, off, e1, e2, e3, e4, e5⟩ := h i hi'
  exact ⟨b, off, e1, e2, e3, rangeAt_same e4 (fun j => s b _ e2 e3), e5.same s⟩
theorem Below.same {B lo hi : Nat} {w w' : World} (h : Below B w w') (hb : hi ≤ B) : Same lo hi w w' := fun k j _ h2 => h.cell (p := ⟨k, j, none⟩) (by show k < _; omega)
theorem RcsIn.below {w w' : World} {B lo hi : Nat} {ad : Option Addr} {n : Nat} {x : Nat → Rc} {A : Nat → RcA} (h : RcsIn w lo hi ad n x A) (hb : Below B w w') (hB : hi ≤ B) : RcsIn w' lo hi ad n x A := h.same (Below.same hb hB)
theorem RcsIn.mono {w : World} {lo hi lo2 hi2 : Nat} {ad : Option Addr} {n : Nat} {x : Nat → Rc} {A : Nat → RcA} (h : RcsIn w lo hi ad n x A) (h1 : lo2 ≤ lo) (h2 : hi ≤ hi2) : RcsIn w lo2 hi2 ad n x A := fun i hi' => by
  obtain ⟨b, off, e1, e2, e3, e4, e5⟩ := h i hi'
  exact ⟨b, off, e1, by omega, by omega, e4, e5.widen h1 h2⟩
/-- a world -/
structure Rw where
  n : Nat
  x : Nat → Rc
  fn : Nat
  fs : Nat → Ms
  gn : Nat
  gs : Nat → Sl
/-- where its lists lie -/
structure RwA where
  ra : Option Addr
  fa : Option Addr
  ga : Option Addr
  rc : Nat
  fc : Nat
  gc : Nat
  A : Nat → RcA
abbrev rwV (v : Rw) (V : RwA) : Value := .agg #[.slice V.ra v.n V.rc, .slice V.fa v.fn V.fc, .slice V.ga v.gn V.gc]
structure RwIn (w : World) (lo hi : Nat) (v : Rw) (V : RwA) : Prop where
  rs : RcsIn w lo hi V.ra v.n v.x V.A
  fs : MssIn w lo hi V.fa v.fn v.fs
  gs : SlsIn w lo hi V.ga v.gn v.gs
structure RwFit (v : Rw) : Prop where
  n : (v.n : Int) ≤ 8796093022208
  x : ∀ i, i < v.n → RcFit (v.x i)
  fn : (v.fn : Int) ≤ 8796093022208
  fs : ∀ i, i < v.fn → MsFit (v.fs i)
  gn : (v.gn : Int) ≤ 8796093022208
  gs : ∀ i, i < v.gn → SlFit (v.gs i)
structure RwSmall (v : Rw) : Prop where
  n : (v.n : Int) ≤ 1048576
  x : ∀ i, i < v.n → RcSmall (v.x i)
  fn : (v.fn : Int) ≤ 1048576
  fs : ∀ i, i < v.fn → ((v.fs i).n : Int) ≤ 1048576
  gn : (v.gn : Int) ≤ 1048576
theorem RwIn.same {w w' : World} {lo hi : Nat} {v : Rw} {V : RwA} (h : RwIn w lo hi v V) (s : Same lo hi w w') : RwIn w' lo hi v V := ⟨h.rs.same s, h.fs.same s, h.gs.same s⟩
theorem RwIn.below {w w' : World} {B lo hi : Nat} {v : Rw} {V : RwA} (h : RwIn w lo hi v V) (hb : Below B w w') (hB : hi ≤ B) : RwIn w' lo hi v V := h.same (Below.same hb hB)
end Go.Proofs.Ytkcgfjnmkbbnoaa
