import Derived.Test.YtkcgfjnmkbbnoaaMc
import Derived.Test.YtkcgfjnmkbbnoaaMd
namespace Go.Proofs.Ytkcgfjnmkbbnoaa
open Go.RowKit
/-- where the lists of a recorder lie: a block each, and a block for each message's slots and each ack's numbers -/
structure RcP where
  A : RcA
  g0 : Nat
  g1 : Nat
  g2 : Nat
  g3 : Nat
  g4 : Nat
  g5 : Nat
  g6 : Nat
  HA : Nat → Option Addr
  HC : Nat → Nat
  Hb : Nat → Nat
  AA : Nat → Option Addr
  AC : Nat → Nat
  Ab : Nat → Nat
/-- the blocks of list j -/
def rb (p : RcP) (r : Rc) (j k : Nat) : Prop :=
  match j with
  | 0 => r.sf.n ≠ 0 ∧ k = p.g0
  | 1 => r.dk.n ≠ 0 ∧ k = p.g1
  | 2 => blkH p.g2 r.hn (fun i => (r.hs i).n) p.Hb k
  | 3 => r.wn ≠ 0 ∧ k = p.g3
  | 4 => r.yn ≠ 0 ∧ k = p.g4
  | 5 => r.bn ≠ 0 ∧ k = p.g5
  | _ => blkH p.g6 r.an (fun i => (r.as_ i).n) p.Ab k
def rbs (p : RcP) (r : Rc) (k : Nat) : Prop := ∃ j, j < 7 ∧ rb p r j k
structure RcAt (w : World) (r : Rc) (p : RcP) : Prop where
  o0 : SlsAt w p.A.sa p.g0 r.sf.n r.sf.s
  o1 : SlsAt w p.A.da p.g1 r.dk.n r.dk.s
  o2 : MssAt w p.A.ha p.g2 r.hn r.hs p.HA p.HC p.Hb
  o3 : StrsOwn w p.g3 (p.g3 + 1) p.A.wa r.wn r.ws
  o4 : IntsOwn w p.g4 (p.g4 + 1) p.A.ya r.yn r.ys
  o5 : SlsAt w p.A.ba p.g5 r.bn r.bs
  o6 : AksAt w p.A.aa p.g6 r.an r.as_ p.AA p.AC p.Ab
  lt : ∀ k, rbs p r k → k < w.heap.size
  ap : ∀ i j k, i < 7 → j < 7 → rb p r i k → rb p r j k → i = j
theorem rb_lt {w : World} {r : Rc} {p : RcP} (h : RcAt w r p) {j k : Nat} (hj : j < 7) (hk : rb p r j k) : k < w.heap.size := h.lt k ⟨j, hj, hk⟩
theorem RcAt.fr {w w' : World} {r : Rc} {p : RcP} {P : Nat → Prop} (h : RcAt w r p) (hf : FrP P w w') (hp : ∀ k, rbs p r k → ¬ P k) : RcAt w' r p :=
  ⟨h.o0.frP hf (fun h0 => ⟨hp _ ⟨0, by omega, h0, rfl⟩, rb_lt h (j := 0) (by omega) ⟨h0, rfl⟩⟩),
   h.o1.frP hf (fun h0 => ⟨hp _ ⟨1, by omega, h0, rfl⟩, rb_lt h (j := 1) (by omega) ⟨h0, rfl⟩⟩),
   h.o2.fr hf (fun k hk => hp k ⟨2, by omega, hk⟩),
   h.o3.frP hf (fun h0 => ⟨hp _ ⟨3, by omega, h0, rfl⟩, rb_lt h (j := 3) (by omega) ⟨h0, rfl⟩⟩),
   h.o4.frP hf (fun h0 => ⟨hp _ ⟨4, by omega, h0, rfl⟩, rb_lt h (j := 4) (by omega) ⟨h0, rfl⟩⟩),
   h.o5.frP hf (fun h0 => ⟨hp _ ⟨5, by omega, h0, rfl⟩, rb_lt h (j := 5) (by omega) ⟨h0, rfl⟩⟩),
   h.o6.fr hf (fun k hk => hp k ⟨6, by omega, hk⟩),
   fun k hk => Nat.lt_of_lt_of_le (h.lt k hk) hf.size, h.ap⟩
theorem RcAt.grow {w w' : World} {r : Rc} {p : RcP} (h : RcAt w r p) (hf : Below w.heap.size w w') : RcAt w' r p := h.fr (FrP.of_below (P := fun _ => False) hf) (fun _ _ h => h)
theorem ykMs_n (k0 : Nat) (x : Nat → Ms) (n : Nat) : (fun i => (ykMs k0 x n i).n) = fun i => (x i).n := funext fun i => ykMs_hn k0 x n i
theorem ykAk_n (k0 : Nat) (x : Nat → Ak) (n : Nat) : (fun i => (ykAk k0 x n i).n) = fun i => (x i).n := funext fun i => ykAk_hn k0 x n i
theorem RcAt.set0 {w w' : World} {r : Rc} {p : RcP} (h : RcAt w r p) {s : Nat → Sl} (o : SlsAt w' p.A.sa p.g0 r.sf.n s) (hf : FrP (rb p r 0) w w') : RcAt w' { r with sf := { r.sf with s := s } } p := by
  have hrb : ∀ i k, rb p { r with sf := { r.sf with s := s } } i k ↔ rb p r i k := fun i k => by
    unfold rb
    split <;> first | exact Iff.rfl
  exact ⟨o, h.o1.frP hf (fun h0 => ⟨fun hq => by have := h.ap 1 0 _ (by omega) (by omega) ⟨h0, rfl⟩ hq; omega, rb_lt h (j := 1) (by omega) ⟨h0, rfl⟩⟩), h.o2.fr hf (fun k hk hq => by have := h.ap 2 0 k (by omega) (by omega) hk hq; omega), h.o3.frP hf (fun h0 => ⟨fun hq => by have := h.ap 3 0 _ (by omega) (by omega) ⟨h0, rfl⟩ hq; omega, rb_lt h (j := 3) (by omega) ⟨h0, rfl⟩⟩), h.o4.frP hf (fun h0 => ⟨fun hq => by have := h.ap 4 0 _ (by omega) (by omega) ⟨h0, rfl⟩ hq; omega, rb_lt h (j := 4) (by omega) ⟨h0, rfl⟩⟩), h.o5.frP hf (fun h0 => ⟨fun hq => by have := h.ap 5 0 _ (by omega) (by omega) ⟨h0, rfl⟩ hq; omega, rb_lt h (j := 5) (by omega) ⟨h0, rfl⟩⟩), h.o6.fr hf (fun k hk hq => by have := h.ap 6 0 k (by omega) (by omega) hk hq; omega),
    fun k hk => Nat.lt_of_lt_of_le (h.lt k (by obtain ⟨i, hi, hk⟩ := hk; exact ⟨i, hi, (hrb i k).1 hk⟩)) hf.size, fun i i' k h1 h2 h3 h4 => h.ap i i' k h1 h2 ((hrb i k).1 h3) ((hrb i' k).1 h4)⟩
theorem RcAt.set1 {w w' : World} {r : Rc} {p : RcP} (h : RcAt w r p) {s : Nat → Sl} (o : SlsAt w' p.A.da p.g1 r.dk.n s) (hf : FrP (rb p r 1) w w') : RcAt w' { r with dk := { r.dk with s := s } } p := by
  have hrb : ∀ i k, rb p { r with dk := { r.dk with s := s } } i k ↔ rb p r i k := fun i k => by
    unfold rb
    split <;> first | exact Iff.rfl
  exact ⟨h.o0.frP hf (fun h0 => ⟨fun hq => by have := h.ap 0 1 _ (by omega) (by omega) ⟨h0, rfl⟩ hq; omega, rb_lt h (j := 0) (by omega) ⟨h0, rfl⟩⟩), o, h.o2.fr hf (fun k hk hq => by have := h.ap 2 1 k (by omega) (by omega) hk hq; omega), h.o3.frP hf (fun h0 => ⟨fun hq => by have := h.ap 3 1 _ (by omega) (by omega) ⟨h0, rfl⟩ hq; omega, rb_lt h (j := 3) (by omega) ⟨h0, rfl⟩⟩), h.o4.frP hf (fun h0 => ⟨fun hq => by have := h.ap 4 1 _ (by omega) (by omega) ⟨h0, rfl⟩ hq; omega, rb_lt h (j := 4) (by omega) ⟨h0, rfl⟩⟩), h.o5.frP hf (fun h0 => ⟨fun hq => by have := h.ap 5 1 _ (by omega) (by omega) ⟨h0, rfl⟩ hq; omega, rb_lt h (j := 5) (by omega) ⟨h0, rfl⟩⟩), h.o6.fr hf (fun k hk hq => by have := h.ap 6 1 k (by omega) (by omega) hk hq; omega),
    fun k hk => Nat.lt_of_lt_of_le (h.lt k (by obtain ⟨i, hi, hk⟩ := hk; exact ⟨i, hi, (hrb i k).1 hk⟩)) hf.size, fun i i' k h1 h2 h3 h4 => h.ap i i' k h1 h2 ((hrb i k).1 h3) ((hrb i' k).1 h4)⟩
theorem RcAt.set2 {w w' : World} {r : Rc} {p : RcP} (h : RcAt w r p) {s : Nat → Ms} (o : MssAt w' p.A.ha p.g2 r.hn s p.HA p.HC p.Hb) (hf : FrP (rb p r 2) w w') (e : (fun i => (s i).n) = fun i => (r.hs i).n) : RcAt w' { r with hs := s } p := by
  have hrb : ∀ i k, rb p { r with hs := s } i k ↔ rb p r i k := fun i k => by
    unfold rb
    split <;> first | exact Iff.rfl | (dsimp only; rw [e])
  exact ⟨h.o0.frP hf (fun h0 => ⟨fun hq => by have := h.ap 0 2 _ (by omega) (by omega) ⟨h0, rfl⟩ hq; omega, rb_lt h (j := 0) (by omega) ⟨h0, rfl⟩⟩), h.o1.frP hf (fun h0 => ⟨fun hq => by have := h.ap 1 2 _ (by omega) (by omega) ⟨h0, rfl⟩ hq; omega, rb_lt h (j := 1) (by omega) ⟨h0, rfl⟩⟩), o, h.o3.frP hf (fun h0 => ⟨fun hq => by have := h.ap 3 2 _ (by omega) (by omega) ⟨h0, rfl⟩ hq; omega, rb_lt h (j := 3) (by omega) ⟨h0, rfl⟩⟩), h.o4.frP hf (fun h0 => ⟨fun hq => by have := h.ap 4 2 _ (by omega) (by omega) ⟨h0, rfl⟩ hq; omega, rb_lt h (j := 4) (by omega) ⟨h0, rfl⟩⟩), h.o5.frP hf (fun h0 => ⟨fun hq => by have := h.ap 5 2 _ (by omega) (by omega) ⟨h0, rfl⟩ hq; omega, rb_lt h (j := 5) (by omega) ⟨h0, rfl⟩⟩), h.o6.fr hf (fun k hk hq => by have := h.ap 6 2 k (by omega) (by omega) hk hq; omega),
    fun k hk => Nat.lt_of_lt_of_le (h.lt k (by obtain ⟨i, hi, hk⟩ := hk; exact ⟨i, hi, (hrb i k).1 hk⟩)) hf.size, fun i i' k h1 h2 h3 h4 => h.ap i i' k h1 h2 ((hrb i k).1 h3) ((hrb i' k).1 h4)⟩
theorem RcAt.set3 {w w' : World} {r : Rc} {p : RcP} (h : RcAt w r p) {s : Nat → ByteArray} (o : StrsOwn w' p.g3 (p.g3 + 1) p.A.wa r.wn s) (hf : FrP (rb p r 3) w w') : RcAt w' { r with ws := s } p := by
  have hrb : ∀ i k, rb p { r with ws := s } i k ↔ rb p r i k := fun i k => by
    unfold rb
    split <;> first | exact Iff.rfl
  exact ⟨h.o0.frP hf (fun h0 => ⟨fun hq => by have := h.ap 0 3 _ (by omega) (by omega) ⟨h0, rfl⟩ hq; omega, rb_lt h (j := 0) (by omega) ⟨h0, rfl⟩⟩), h.o1.frP hf (fun h0 => ⟨fun hq => by have := h.ap 1 3 _ (by omega) (by omega) ⟨h0, rfl⟩ hq; omega, rb_lt h (j := 1) (by omega) ⟨h0, rfl⟩⟩), h.o2.fr hf (fun k hk hq => by have := h.ap 2 3 k (by omega) (by omega) hk hq; omega), o, h.o4.frP hf (fun h0 => ⟨fun hq => by have := h.ap 4 3 _ (by omega) (by omega) ⟨h0, rfl⟩ hq; omega, rb_lt h (j := 4) (by omega) ⟨h0, rfl⟩⟩), h.o5.frP hf (fun h0 => ⟨fun hq => by have := h.ap 5 3 _ (by omega) (by omega) ⟨h0, rfl⟩ hq; omega, rb_lt h (j := 5) (by omega) ⟨h0, rfl⟩⟩), h.o6.fr hf (fun k hk hq => by have := h.ap 6 3 k (by omega) (by omega) hk hq; omega),
    fun k hk => Nat.lt_of_lt_of_le (h.lt k (by obtain ⟨i, hi, hk⟩ := hk; exact ⟨i, hi, (hrb i k).1 hk⟩)) hf.size, fun i i' k h1 h2 h3 h4 => h.ap i i' k h1 h2 ((hrb i k).1 h3) ((hrb i' k).1 h4)⟩
theorem RcAt.set4 {w w' : World} {r : Rc} {p : RcP} (h : RcAt w r p) {s : Nat → Int} (o : IntsOwn w' p.g4 (p.g4 + 1) p.A.ya r.yn s) (hf : FrP (rb p r 4) w w') : RcAt w' { r with ys := s } p := by
  have hrb : ∀ i k, rb p { r with ys := s } i k ↔ rb p r i k := fun i k => by
    unfold rb
    split <;> first | exact Iff.rfl
  exact ⟨h.o0.frP hf (fun h0 => ⟨fun hq => by have := h.ap 0 4 _ (by omega) (by omega) ⟨h0, rfl⟩ hq; omega, rb_lt h (j := 0) (by omega) ⟨h0, rfl⟩⟩), h.o1.frP hf (fun h0 => ⟨fun hq => by have := h.ap 1 4 _ (by omega) (by omega) ⟨h0, rfl⟩ hq; omega, rb_lt h (j := 1) (by omega) ⟨h0, rfl⟩⟩), h.o2.fr hf (fun k hk hq => by have := h.ap 2 4 k (by omega) (by omega) hk hq; omega), h.o3.frP hf (fun h0 => ⟨fun hq => by have := h.ap 3 4 _ (by omega) (by omega) ⟨h0, rfl⟩ hq; omega, rb_lt h (j := 3) (by omega) ⟨h0, rfl⟩⟩), o, h.o5.frP hf (fun h0 => ⟨fun hq => by have := h.ap 5 4 _ (by omega) (by omega) ⟨h0, rfl⟩ hq; omega, rb_lt h (j := 5) (by omega) ⟨h0, rfl⟩⟩), h.o6.fr hf (fun k hk hq => by have := h.ap 6 4 k (by omega) (by omega) hk hq; omega),
    fun k hk => Nat.lt_of_lt_of_le (h.lt k (by obtain ⟨i, hi, hk⟩ := hk; exact ⟨i, hi, (hrb i k).1 hk⟩)) hf.size, fun i i' k h1 h2 h3 h4 => h.ap i i' k h1 h2 ((hrb i k).1 h3) ((hrb i' k).1 h4)⟩
theorem RcAt.set5 {w w' : World} {r : Rc} {p : RcP} (h : RcAt w r p) {s : Nat → Sl} (o : SlsAt w' p.A.ba p.g5 r.bn s) (hf : FrP (rb p r 5) w w') : RcAt w' { r with bs := s } p := by
  have hrb : ∀ i k, rb p { r with bs := s } i k ↔ rb p r i k := fun i k => by
    unfold rb
    split <;> first | exact Iff.rfl
  exact ⟨h.o0.frP hf (fun h0 => ⟨fun hq => by have := h.ap 0 5 _ (by omega) (by omega) ⟨h0, rfl⟩ hq; omega, rb_lt h (j := 0) (by omega) ⟨h0, rfl⟩⟩), h.o1.frP hf (fun h0 => ⟨fun hq => by have := h.ap 1 5 _ (by omega) (by omega) ⟨h0, rfl⟩ hq; omega, rb_lt h (j := 1) (by omega) ⟨h0, rfl⟩⟩), h.o2.fr hf (fun k hk hq => by have := h.ap 2 5 k (by omega) (by omega) hk hq; omega), h.o3.frP hf (fun h0 => ⟨fun hq => by have := h.ap 3 5 _ (by omega) (by omega) ⟨h0, rfl⟩ hq; omega, rb_lt h (j := 3) (by omega) ⟨h0, rfl⟩⟩), h.o4.frP hf (fun h0 => ⟨fun hq => by have := h.ap 4 5 _ (by omega) (by omega) ⟨h0, rfl⟩ hq; omega, rb_lt h (j := 4) (by omega) ⟨h0, rfl⟩⟩), o, h.o6.fr hf (fun k hk hq => by have := h.ap 6 5 k (by omega) (by omega) hk hq; omega),
    fun k hk => Nat.lt_of_lt_of_le (h.lt k (by obtain ⟨i, hi, hk⟩ := hk; exact ⟨i, hi, (hrb i k).1 hk⟩)) hf.size, fun i i' k h1 h2 h3 h4 => h.ap i i' k h1 h2 ((hrb i k).1 h3) ((hrb i' k).1 h4)⟩
theorem RcAt.set6 {w w' : World} {r : Rc} {p : RcP} (h : RcAt w r p) {s : Nat → Ak} (o : AksAt w' p.A.aa p.g6 r.an s p.AA p.AC p.Ab) (hf : FrP (rb p r 6) w w') (e : (fun i => (s i).n) = fun i => (r.as_ i).n) : RcAt w' { r with as_ := s } p := by
  have hrb : ∀ i k, rb p { r with as_ := s } i k ↔ rb p r i k := fun i k => by
    unfold rb
    split <;> first | exact Iff.rfl | (dsimp only; rw [e])
  exact ⟨h.o0.frP hf (fun h0 => ⟨fun hq => by have := h.ap 0 6 _ (by omega) (by omega) ⟨h0, rfl⟩ hq; omega, rb_lt h (j := 0) (by omega) ⟨h0, rfl⟩⟩), h.o1.frP hf (fun h0 => ⟨fun hq => by have := h.ap 1 6 _ (by omega) (by omega) ⟨h0, rfl⟩ hq; omega, rb_lt h (j := 1) (by omega) ⟨h0, rfl⟩⟩), h.o2.fr hf (fun k hk hq => by have := h.ap 2 6 k (by omega) (by omega) hk hq; omega), h.o3.frP hf (fun h0 => ⟨fun hq => by have := h.ap 3 6 _ (by omega) (by omega) ⟨h0, rfl⟩ hq; omega, rb_lt h (j := 3) (by omega) ⟨h0, rfl⟩⟩), h.o4.frP hf (fun h0 => ⟨fun hq => by have := h.ap 4 6 _ (by omega) (by omega) ⟨h0, rfl⟩ hq; omega, rb_lt h (j := 4) (by omega) ⟨h0, rfl⟩⟩), h.o5.frP hf (fun h0 => ⟨fun hq => by have := h.ap 5 6 _ (by omega) (by omega) ⟨h0, rfl⟩ hq; omega, rb_lt h (j := 5) (by omega) ⟨h0, rfl⟩⟩), o,
    fun k hk => Nat.lt_of_lt_of_le (h.lt k (by obtain ⟨i, hi, hk⟩ := hk; exact ⟨i, hi, (hrb i k).1 hk⟩)) hf.size, fun i i' k h1 h2 h3 h4 => h.ap i i' k h1 h2 ((hrb i k).1 h3) ((hrb i' k).1 h4)⟩
def kk1 (k0 : Nat) (r : Rc) : Nat := k0 + 2 * r.sf.n
def kk2 (k0 : Nat) (r : Rc) : Nat := kk1 k0 r + 2 * r.dk.n
def kk3 (k0 : Nat) (r : Rc) : Nat := mkMss (kk2 k0 r) r.hs r.hn
def kk4 (k0 : Nat) (r : Rc) : Nat := kk3 k0 r + r.wn
def kk5 (k0 : Nat) (r : Rc) : Nat := kk4 k0 r + r.yn
def kk6 (k0 : Nat) (r : Rc) : Nat := kk5 k0 r + 2 * r.bn
theorem Holds.frP {W W' : World} {B : Nat} {c : Array Value} {P : Nat → Prop} (h : Holds W B c) (hb : FrP P W W') (hB : B < W.heap.size) (ho : ¬ P B) : Holds W' B c := fun i => (hb.cell (p := ⟨B, i, none⟩) hB ho).trans (h i)
/-- how far marks go -/
def mkRc (k0 : Nat) (r : Rc) : Nat := mkAks (kk6 k0 r) r.as_ r.an
/-- a recorder whose lists are marked -/
def ykRc (k0 : Nat) (r : Rc) : Rc := { r with sf := { r.sf with s := fun i => slM (k0 + 2 * i) }, dk := { r.dk with s := fun i => slM (kk1 k0 r + 2 * i) }, hs := ykMs (kk2 k0 r) r.hs r.hn, ws := fun i => mt (kk3 k0 r + i), ys := fun i => ((kk4 k0 r + i : Nat) : Int), bs := fun i => slM (kk5 k0 r + 2 * i), as_ := ykAk (kk6 k0 r) r.as_ r.an }
theorem rb_yk (p : RcP) (k0 : Nat) (r : Rc) (j k : Nat) : rb p (ykRc k0 r) j k ↔ rb p r j k := by
  unfold rb ykRc
  split <;> first | exact Iff.rfl | (dsimp only; rw [ykMs_n]) | (dsimp only; rw [ykAk_n])
theorem rbs_yk (p : RcP) (k0 : Nat) (r : Rc) (k : Nat) : rbs p (ykRc k0 r) k ↔ rbs p r k :=
  ⟨fun ⟨j, h1, h2⟩ => ⟨j, h1, (rb_yk p k0 r j k).1 h2⟩, fun ⟨j, h1, h2⟩ => ⟨j, h1, (rb_yk p k0 r j k).2 h2⟩⟩
theorem kk_mono (k0 : Nat) (r : Rc) : k0 ≤ kk1 k0 r ∧ kk1 k0 r ≤ kk2 k0 r ∧ kk2 k0 r ≤ kk3 k0 r ∧ kk3 k0 r ≤ kk4 k0 r ∧ kk4 k0 r ≤ kk5 k0 r ∧ kk5 k0 r ≤ kk6 k0 r ∧ kk6 k0 r ≤ mkRc k0 r :=
  ⟨by unfold kk1; omega, by unfold kk2; omega, by unfold kk3; exact mkMss_mono (kk2 k0 r) r.hs (k := 0) (n := r.hn) (Nat.zero_le _), by unfold kk4; omega, by unfold kk5; omega, by unfold kk6; omega, by unfold mkRc; exact mkAks_mono (kk6 k0 r) r.as_ (k := 0) (n := r.an) (Nat.zero_le _)⟩
end Go.Proofs.Ytkcgfjnmkbbnoaa
