import Derived.Test.YtjepponnhieocaaMc
import Derived.Test.YtjepponnhieocaaMd
namespace Go.Proofs.Ytjepponnhieocaa
open Go.RowKit
/-- where the lists of a recorder lie: a block each, and a block for each message's slots and each ack's numbers -/
structure RcP where
  A : RcA
  g0 : Nat
  g1 : Nat
  g2 : Nat
  g3 : Nat
  g4 : Nat
  g5 : Nat
  g6 : Nat
  HA : Nat → Option Addr
  HC : Nat → Nat
  Hb : Nat → Nat
  AA : Nat → Option Addr
  AC : Nat → Nat
  Ab : Nat → Nat
/-- the blocks of list j -/
def rb (p : RcP) (r : Rc) (j k : Nat) : Prop :=
  match j with
  | 0 => r.sf.n ≠ 0 ∧ k = p.g0
  | 1 => r.dk.n ≠ 0 ∧ k = p.g1
  | 2 => blkH p.g2 r.hn (fun i => (r.hs i).n) p.Hb k
  | 3 => r.wn ≠ 0 ∧ k = p.g3
  | 4 => r.yn ≠ 0 ∧ k = p.g4
  | 5 => r.bn ≠ 0 ∧ k = p.g5
  | _ => blkH p.g6 r.an (fun i => (r.as_ i).n) p.Ab k
def rbs (p : RcP) (r : Rc) (k : Nat) : Prop := ∃ j, j < 7 ∧ rb p r j k
structure RcAt (w : World) (r : Rc) (p : RcP) : Prop where
  o0 : SlsAt w p.A.sa p.g0 r.sf.n r.sf.s
  o1 : SlsAt w p.A.da p.g1 r.dk.n r.dk.s
  o2 : MssAt w p.A.ha p.g2 r.hn r.hs p.HA p.HC p.Hb
  o3 : StrsOwn w p.g3 (p.g3 + 1) p.A.wa r.wn r.ws
  o4 : IntsOwn w p.g4 (p.g4 + 1) p.A.ya r.yn r.ys
  o5 : SlsAt w p.A.ba p.g5 r.bn r.bs
  o6 : AksAt w p.A.aa p.g6 r.an r.as_ p.AA p.AC p.Ab
  lt : ∀ k, rbs p r k → k < w.heap.size
  ap : ∀ i j k, i < 7 → j < 7 → rb p r i k → rb p r j k → i = j
theorem rb_lt {w : World} {r : Rc} {p : RcP} (h : RcAt w r p) {j k : Nat} (hj : j < 7) (hk : rb p r j k) : k < w.heap.size := h.lt k ⟨j, hj, hk⟩
theorem RcAt.fr {w w' : World} {r : Rc} {p : RcP} {P : Nat → Prop} (h : RcAt w r p) (hf : FrP P w w') (hp : ∀ k, rbs p r k → ¬ P k) : RcAt w' r p :=
  ⟨h.o0.frP hf (fun h0 => ⟨hp _ ⟨0, by omega, h0, rfl⟩, rb_lt h (j := 0) (by omega) ⟨h0, rfl⟩⟩),
   h.o1.frP hf (fun h0 => ⟨hp _ ⟨1, by omega, h0, rfl⟩, rb_lt h (j := 1) (by omega) ⟨h0, rfl⟩⟩),
   h.o2.fr hf (fun k hk => hp k ⟨2, by omega, hk⟩),
   h.o3.frP hf (fun h0 => ⟨hp _ ⟨3, by omega, h0, rfl⟩, rb_lt h (j := 3) (by omega) ⟨h0, rfl⟩⟩),
   h.o4.frP hf (fun h0 => ⟨hp _ ⟨4, by omega, h0, rfl⟩, rb_lt h (j := 4) (by omega) ⟨h0, rfl⟩⟩),
   h.o5.frP hf (fun h0 => ⟨hp _ ⟨5, by omega, h0, rfl⟩, rb_lt h (j := 5) (by omega) ⟨h0, rfl⟩⟩),
   h.o6.fr hf (fun k hk => hp k ⟨6, by omega, hk⟩),
   fun k hk => Nat.lt_of_lt_of_le (h.lt k hk) hf.size, h.ap⟩
theorem RcAt.grow {w w' : World} {r : Rc} {p : RcP} (h : RcAt w r p) (hf : Below w.heap.size w w') : RcAt w' r p := h.fr (FrP.of_below (P := fun _ => False) hf) (fun _ _ h => h)
theorem ykMs_n (k0 : Nat) (x : Nat → Ms) (n : Nat) : (fun i => (ykMs k0 x n i).n) = fun i => (x i).n := funext fun i => ykMs_hn k0 x n i
theorem ykAk_n (k0 : Nat) (x : Nat → Ak) (n : Nat) : (fun i => (ykAk k0 x n i).n) = fun i => (x i).n := funext fun i => ykAk_hn k0 x n i
theorem RcAt.set0 {w w' : World} {r : Rc} {p : RcP} (h : RcAt w r p) {s : Nat → Sl} (o : SlsAt w' p.A.sa p.g0 r.sf.n s) (hf : FrP (rb p r 0) w w') : RcAt w' { r with sf := { r.sf with s := s } } p := by
  have hrb : ∀ i k, rb p { r with sf := { r.sf with s := s } } i k ↔ rb p r i k := fun i k => by
    unfold rb
    split <;> first | exact Iff.rfl
  exact ⟨o, h.o1.frP hf (fun h0 => ⟨fun hq => by have := h.ap 1 0 _ (by omega) (by omega) ⟨h0, rfl⟩ hq; omega, rb_lt h (j := 1) (by omega) ⟨h0, rfl⟩⟩), h.o2.fr hf (fun k hk hq => by have := h.ap 2 0 k (by omega) (by omega) hk hq; omega), h.o3.frP hf (fun h0 => ⟨fun hq => by have := h.ap 3 0 _ (by omega) (by omega) ⟨h0, rfl⟩ hq; omega, rb_lt h (j := 3) (by omega) ⟨h0, rfl⟩⟩), h.o4.frP hf (fun h0 => ⟨fun hq => by have := h.ap 4 0 _ (by omega) (by omega) ⟨h0, rfl⟩ hq; omega, rb_lt h (j := 4) (by omega) ⟨h0, rfl⟩⟩), h.o5.frP hf (fun h0 => ⟨fun hq => by have := h.ap 5 0 _ (by omega) (by omega) ⟨h0, rfl⟩ hq; omega, rb_lt h (j := 5) (by omega) ⟨h0, rfl⟩⟩), h.o6.fr hf (fun k hk hq => by have := h.ap 6 0 k (by omega) (by omega) hk hq; omega),
    fun k hk => Nat.lt_of_lt_of_le (h.lt k (by obtain ⟨i, hi, hk⟩ := hk; exact ⟨i, hi, (hrb i k).1 hk⟩)) hf.size, fun i i' k h1 h2 h3 h4 => h.ap i i' k h1 h2 ((hrb i k).1 h3) ((hrb i' k).1 h4)⟩
theorem RcAt.set1 {w w' : World} {r : Rc} {p : RcP} (h : RcAt w r p) {s : Nat → Sl} (o : SlsAt w' p.A.da p.g1 r.dk.n s) (hf : FrP (rb p r 1) w w') : RcAt w' { r with dk := { r.dk with s := s } } p := by
  have hrb : ∀ i k, rb p { r with dk := { r.dk with s := s } } i k ↔ rb p r i k := fun i k => by
    unfold rb
    split <;> first | exact Iff.rfl
  exact ⟨h.o0.frP hf (fun h0 => ⟨fun hq => by have := h.ap 0 1 _ (by omega) (by omega) ⟨h0, rfl⟩ hq; omega, rb_lt h (j := 0) (by omega) ⟨h0, rfl⟩⟩), o, h.o2.fr hf (fun k hk hq => by have := h.ap 2 1 k (by omega) (by omega) hk hq; omega), h.o3.frP hf (fun h0 => ⟨fun hq => by have := h.ap 3 1 _ (by omega) (by omega) ⟨h0, rfl⟩ hq; omega, rb_lt h (j := 3) (by omega) ⟨h0, rfl⟩⟩), h.o4.frP hf (fun h0 => ⟨fun hq => by have := h.ap 4 1 _ (by omega) (by omega) ⟨h0, rfl⟩ hq; omega, rb_lt h (j := 4) (by omega) ⟨h0, rfl⟩⟩), h.o5.frP hf (fun h0 => ⟨fun hq => by have := h.ap 5 1 _ (by omega) (by omega) ⟨h0, rfl⟩ hq; omega, rb_lt h (j := 5) (by omega) ⟨h0, rfl⟩⟩), h.o6.fr hf (fun k hk hq => by have := h.ap 6 1 k (by omega) (by omega) hk hq; omega),
    fun k hk => Nat.lt_of_lt_of_le (h.lt k (by obtain ⟨i, hi, hk⟩ := hk; exact ⟨i, hi, (hrb i k).1 hk⟩)) hf.size, fun i i' k h1 h2 h3 h4 => h.ap i i' k h1 h2 ((hrb i k).1 h3) ((hrb i' k).1 h4)⟩
theorem RcAt.set2 {w w' : World} {r : Rc} {p : RcP} (h : RcAt w r p) {s : Nat → Ms} (o : MssAt w' p.A.ha p.g2 r.hn s p.HA p.HC p.Hb) (hf : FrP (rb p r 2) w w') (e : (fun i => (s i).n) = fun i => (r.hs i).n) : RcAt w' { r with hs := s } p := by
  have hrb : ∀ i k, rb p { r with hs := s } i k ↔ rb p r i k := fun i k => by
    unfold rb
    split <;> first | exact Iff.rfl | (dsimp only; rw [e])
  exact ⟨h.o0.frP hf (fun h0 => ⟨fun hq => by have := h.ap 0 2 _ (by omega) (by omega) ⟨h0, rfl⟩ hq; omega, rb_lt h (j := 0) (by omega) ⟨h0, rfl⟩⟩), h.o1.frP hf (fun h0 => ⟨fun hq => by have := h.ap 1 2 _ (by omega) (by omega) ⟨h0, rfl⟩ hq; omega, rb_lt h (j := 1) (by omega) ⟨h0, rfl⟩⟩), o, h.o3.frP hf (fun h0 => ⟨fun hq => by have := h.ap 3 2 _ (by omega) (by omega) ⟨h0, rfl⟩ hq; omega, rb_lt h (j := 3) (by omega) ⟨h0, rfl⟩⟩), h.o4.frP hf (fun h0 => ⟨fun hq => by have := h.ap 4 2 _ (by omega) (by omega) ⟨h0, rfl⟩ hq; omega, rb_lt h (j := 4) (by omega) ⟨h0, rfl⟩⟩), h.o5.frP hf (fun h0 => ⟨fun hq => by have := h.ap 5 2 _ (by omega) (by omega) ⟨h0, rfl⟩ hq; omega, rb_lt h (j := 5) (by omega) ⟨h0, rfl⟩⟩), h.o6.fr hf (fun k hk hq => by have := h.ap 6 2 k (by omega) (by omega) hk hq; omega),
    fun k hk => Nat.lt_of_lt_of_le (h.lt k (by obtain ⟨i, hi, hk⟩ := hk; exact ⟨i, hi, (hrb i k).1 hk⟩)) hf.size, fun i i' k h1 h2 h3 h4 => h.ap i i' k h1 h2 ((hrb i k).1 h3) ((hrb i' k).1 h4)⟩
theorem RcAt.set3 {w w' : World} {r : Rc} {p : RcP} (h : RcAt w r p) {s : Nat → ByteArray} (o : StrsOwn w' p.g3 (p.g3 + 1) p.A.wa r.wn s) (hf : FrP (rb p r 3) w w') : RcAt w' { r with ws := s } p := by
  have hrb : ∀ i k, rb p { r with ws := s } i k ↔ rb p r i k := fun i k => by
    unfold rb
    split <;> first | exact Iff.rfl
  exact ⟨h.o0.frP hf (fun h0 => ⟨fun hq => by have := h.ap 0 3 _ (by omega) (by omega) ⟨h0, rfl⟩ hq; omega, rb_lt h (j := 0) (by omega) ⟨h0, rfl⟩⟩), h.o1.frP hf (fun h0 => ⟨fun hq => by have := h.ap 1 3 _ (by omega) (by omega) ⟨h0, rfl⟩ hq; omega, rb_lt h (j := 1) (by omega) ⟨h0, rfl⟩⟩), h.o2.fr hf (fun k hk hq => by have := h.ap 2 3 k (by omega) (by omega) hk hq; omega), o, h.o4.frP hf (fun h0 => ⟨fun hq => by have := h.ap 4 3 _ (by omega) (by omega) ⟨h0, rfl⟩ hq; omega, rb_lt h (j := 4) (by omega) ⟨h0, rfl⟩⟩), h.o5.frP hf (fun h0 => ⟨fun hq => by have := h.ap 5 3 _ (by omega) (by omega) ⟨h0, rfl⟩ hq; omega, rb_lt h (j := 5) (by omega) ⟨h0, rfl⟩⟩), h.o6.fr hf (fun k hk hq => by have := h.ap 6 3 k (by omega) (by omega) hk hq; omega),
    fun k hk => Nat.lt_of_lt_of_le (h.lt k (by obtain ⟨i, hi, hk⟩ := hk; exact ⟨i, hi, (hrb i k).1 hk⟩)) hf.size, fun i i' k h1 h2 h3 h4 => h.ap i i' k h1 h2 ((hrb i k).1 h3) ((hrb i' k).1 h4)⟩
theorem RcAt.set4 {w w' : World} {r : Rc} {p : RcP} (h : RcAt w r p) {s : Nat → Int} (o : IntsOwn w' p.g4 (p.g4 + 1) p.A.ya r.yn s) (hf : FrP (rb p r 4) w w') : RcAt w' { r with ys := s } p := by
  have hrb : ∀ i k, rb p { r with ys := s } i k ↔ rb p r i k := fun i k => by
    unfold rb
    split <;> first | exact Iff.rfl
  exact ⟨h.o0.frP hf (fun h0 => ⟨fun hq => by have := h.ap 0 4 _ (by omega) (by omega) ⟨h0, rfl⟩ hq; omega, rb_lt h (j := 0) (by omega) ⟨h0, rfl⟩⟩), h.o1.frP hf (fun h0 => ⟨fun hq => by have := h.ap 1 4 _ (by omega) (by omega) ⟨h0, rfl⟩ hq; omega, rb_lt h (j := 1) (by omega) ⟨h0, rfl⟩⟩), h.o2.fr hf (fun k hk hq => by have := h.ap 2 4 k (by omega) (by omega) hk hq; omega), h.o3.frP hf (fun h0 => ⟨fun hq => by have := h.ap 3 4 _ (by omega) (by omega) ⟨h0, rfl⟩ hq; omega, rb_lt h (j := 3) (by omega) ⟨h0, rfl⟩⟩), o, h.o5.frP hf (fun h0 => ⟨fun hq => by have := h.ap 5 4 _ (by omega) (by omega) ⟨h0, rfl⟩ hq; omega, rb_lt h (j := 5) (by omega) ⟨h0, rfl⟩⟩), h.o6.fr hf (fun k hk hq => by have := h.ap 6 4 k (by omega) (by omega) hk hq; omega),
    fun k hk => Nat.lt_of_lt_of_le (h.lt k (by obtain ⟨i, hi, hk⟩ := hk; exact ⟨i, hi, (hrb i k).1 hk⟩)) hf.size, fun i i' k h1 h2 h3 h4 => h.ap i i' k h1 h2 ((hrb i k).1 h3) ((hrb i' k).1 h4)⟩
theorem RcAt.set5 {w w' : World} {r : Rc} {p : RcP} (h : RcAt w r p) {s : Nat → Sl} (o : SlsAt w' p.A.ba p.g5 r.bn s) (hf : FrP (rb p r 5) w w') : RcAt w' { r with bs := s } p := by
  have hrb : ∀ i k, rb p { r with bs := s } i k ↔ rb p r i k := fun i k => by
    unfold rb
    split <;> first | exact Iff.rfl
  exact ⟨h.o0.frP hf (fun h0 => ⟨fun hq => by have := h.ap 0 5 _ (by omega) (by omega) ⟨h0, rfl⟩ hq; omega, rb_lt h (j := 0) (by omega) ⟨h0, rfl⟩⟩), h.o1.frP hf (fun h0 => ⟨fun hq => by have := h.ap 1 5 _ (by omega) (by omega) ⟨h0, rfl⟩ hq; omega, rb_lt h (j := 1) (by omega) ⟨h0, rfl⟩⟩), h.o2.fr hf (fun k hk hq => by have := h.ap 2 5 k (by omega) (by omega) hk hq; omega), h.o3.frP hf (fun h0 => ⟨fun hq => by have := h.ap 3 5 _ (by omega) (by omega) ⟨h0, rfl⟩ hq; omega, rb_lt h (j := 3) (by omega) ⟨h0, rfl⟩⟩), h.o4.frP hf (fun h0 => ⟨fun hq => by have := h.ap 4 5 _ (by omega) (by omega) ⟨h0, rfl⟩ hq; omega, rb_lt h (j := 4) (by omega) ⟨h0, rfl⟩⟩), o, h.o6.fr hf (fun k hk hq => by have := h.ap 6 5 k (by omega) (by omega) hk hq; omega),
    fun k hk => Nat.lt_of_lt_of_le (h.lt k (by obtain ⟨i, hi, hk⟩ := hk; exact ⟨i, hi, (hrb i k).1 hk⟩)) hf.size, fun i i' k h1 h2 h3 h4 => h.ap i i' k h1 h2 ((hrb i k).1 h3) ((hrb i' k).1 h4)⟩
theorem RcAt.set6 {w w' : World} {r : Rc} {p : RcP} (h : RcAt w r p) {s : Nat → Ak} (o : AksAt w' p.A.aa p.g6 r.an s p.AA p.AC p.Ab) (hf : FrP (rb p r 6) w w') (e : (fun i => (s i).n) = fun i => (r.as_ i).n) : RcAt w' { r with as_ := s } p := by
  have hrb : ∀ i k, rb p { r with as_ := s } i k ↔ rb p r i k := fun i k => by
    unfold rb
    split <;> first | exact Iff.rfl | (dsimp only; rw [e])
  exact ⟨h.o0.frP hf (fun h0 => ⟨fun hq => by have := h.ap 0 6 _ (by omega) (by omega) ⟨h0, rfl⟩ hq; omega, rb_lt h (j := 0) (by omega) ⟨h0, rfl⟩⟩), h.o1.frP hf (fun h0 => ⟨fun hq => by have := h.ap 1 6 _ (by omega) (by omega) ⟨h0, rfl⟩ hq; omega, rb_lt h (j := 1) (by omega) ⟨h0, rfl⟩⟩), h.o2.fr hf (fun k hk hq => by have := h.ap 2 6 k (by omega) (by omega) hk hq; omega), h.o3.frP hf (fun h0 => ⟨fun hq => by have := h.ap 3 6 _ (by omega) (by omega) ⟨h0, rfl⟩ hq; omega, rb_lt h (j := 3) (by omega) ⟨h0, rfl⟩⟩), h.o4.frP hf (fun h0 => ⟨fun hq => by have := h.ap 4 6 _ (by omega) (by omega) ⟨h0, rfl⟩ hq; omega, rb_lt h (j := 4) (by omega) ⟨h0, rfl⟩⟩), h.o5.frP hf (fun h0 => ⟨fun hq => by have := h.ap 5 6 _ (by omega) (by omega) ⟨h0, rfl⟩ hq; omega, rb_lt h (j := 5) (by omega) ⟨h0, rfl⟩⟩), o,
    fun k hk => Nat.lt_of_lt_of_le (h.lt k (by obtain ⟨i, hi, hk⟩ := hk; exact ⟨i, hi, (hrb i k).1 hk⟩)) hf.size, fun i i' k h1 h2 h3 h4 => h.ap i i' k h1 h2 ((hrb i k).1 h3) ((hrb i' k).1 h4)⟩
def kk1 (k0 : Nat) (r : Rc) : Nat := k0 + 2 * r.sf.n
def kk2 (k0 : Nat) (r : Rc) : Nat := kk1 k0 r + 2 * r.dk.n
def kk3 (k0 : Nat) (r : Rc) : Nat := mkMss (kk2 k0 r) r.hs r.hn
def kk4 (k0 : Nat) (r : Rc) : Nat := kk3 k0 r + r.wn
def kk5 (k0 : Nat) (r : Rc) : Nat := kk4 k0 r + r.yn
def kk6 (k0 : Nat) (r : Rc) : Nat := kk5 k0 r + 2 * r.bn
theorem Holds.frP {W W' : World} {B : Nat} {c : Array Value} {P : Nat → Prop} (h : Holds W B c) (hb : FrP P W W') (hB : B < W.heap.size) (ho : ¬ P B) : Holds W' B c := fun i => (hb.cell (p := ⟨B, i, none⟩) hB ho).trans (h i)
/-- how far marks go -/
def mkRc (k0 : Nat) (r : Rc) : Nat := mkAks (kk6 k0 r) r.as_ r.an
/-- a recorder whose lists are marked -/
def ykRc (k0 : Nat) (r : Rc) : Rc := { r with sf := { r.sf with s := fun i => slM (k0 + 2 * i) }, dk := { r.dk with s := fun i => slM (kk1 k0 r + 2 * i) }, hs := ykMs (kk2 k0 r) r.hs r.hn, ws := fun i => mt (kk3 k0 r + i), ys := fun i => ((kk4 k0 r + i : Nat) : Int), bs := fun i => slM (kk5 k0 r + 2 * i), as_ := ykAk (kk6 k0 r) r.as_ r.an }
theorem rb_yk (p : RcP) (k0 : Nat) (r : Rc) (j k : Nat) : rb p (ykRc k0 r) j k ↔ rb p r j k := by
  unfold rb ykRc
  split <;> first | exact Iff.rfl | (dsimp only; rw [ykMs_n]) | (dsimp only; rw [ykAk_n])
theorem rbs_yk (p : RcP) (k0 : Nat) (r : Rc) (k : Nat) : rbs p (ykRc k0 r) k ↔ rbs p r k :=
  ⟨fun ⟨j, h1, h2⟩ => ⟨j, h1, (rb_yk p k0 r j k).1 h2⟩, fun ⟨j, h1, h2⟩ => ⟨j, h1, (rb_yk p k0 r j k).2 h2⟩⟩
theorem kk_mono (k0 : Nat) (r : Rc) : k0 ≤ kk1 k0 r ∧ kk1 k0 r ≤ kk2 k0 r ∧ kk2 k0 r ≤ kk3 k0 r ∧ kk3 k0 r ≤ kk4 k0 r ∧ kk4 k0 r ≤ kk5 k0 r ∧ kk5 k0 r ≤ kk6 k0 r ∧ kk6 k0 r ≤ mkRc k0 r :=
  ⟨by unfold kk1; omega, by unfold kk2; omega, by unfold kk3; exact mkMss_mono (kk2 k0 r) r.hs (k := 0) (n := r.hn) (Nat.zero_le _), by unfold kk4; omega, by unfold kk5; omega, by unfold kk6; omega, by unfold mkRc; exact mkAks_mono (kk6 k0 r) r.as_ (k := 0) (n := r.an) (Nat.zero_le _)⟩
set_option maxRecDepth 100000 in
set_option maxHeartbeats 4000000 in
theorem markDk_in (d : Dk) (ad : Option Addr) (cap : Nat) (k : Int) (m : Nat) (hk : k = m) (w : World) (b : Nat) (hlt : d.n ≠ 0 → b < w.heap.size) (hl : (d.n : Int) ≤ 1073741824) (hk1 : 1 ≤ k) (hk2 : k + 2 * d.n ≤ 1073741824) (hc : SlsAt w ad b d.n d.s) :
    Calls Try.prog 75 #[dkV d ad cap, .int .i64 k] w fun e w' => e = .returned (.int .i64 (k + 2 * d.n)) ∧ SlsAt w' ad b d.n (fun i => slM (m + 2 * i)) ∧ FrP (fun q => d.n ≠ 0 ∧ q = b) w w' := by
  subst hk
  have HC := hid hc
  clear hc
  go_enter Try.func75, Try.ntmps75
  go_wp2_with fail
  refine (markSls_in d.n d.s ad cap _ m rfl _ b (fun h => Nat.lt_of_lt_of_le (hlt h) (by simp)) hl hk1 hk2 (HC.out.grow (below_alloc _ _))).mono ?_
  rintro e w1 ⟨rfl, h1, f1⟩
  have H1 := hid h1
  have F1 := hid ((FrP.of_below (below_alloc _ _)).trans f1)
  clear h1 f1
  go_wp2
  go_ret
  exact ⟨rfl, H1.out, F1.out⟩
set_option maxRecDepth 100000 in
set_option maxHeartbeats 4000000 in
theorem markRc_any (r : Rc) (p : RcP) (k0 : Nat) (w : World) (hm : RcSmall r) (hk1 : 1 ≤ k0) (hk2 : mkRc k0 r ≤ 1073741824) (hc : RcAt w r p) :
    Calls Try.prog 27 #[rcV r p.A, .int .i64 k0] w fun e w' => e = .returned (.int .i64 (mkRc k0 r)) ∧ RcAt w' (ykRc k0 r) p ∧ FrP (rbs p r) w w' := by
  have HM := hid hm
  have HC := hid hc
  clear hm hc
  obtain ⟨m0, m1, m2, m3, m4, m5, m6⟩ := kk_mono k0 r
  have e1 : kk1 k0 r ≤ k0 + 2 * r.sf.n := Nat.le_refl _
  have d1 : k0 + 2 * r.sf.n ≤ kk1 k0 r := Nat.le_refl _
  have e2 : kk2 k0 r ≤ kk1 k0 r + 2 * r.dk.n := Nat.le_refl _
  have d2 : kk1 k0 r + 2 * r.dk.n ≤ kk2 k0 r := Nat.le_refl _
  have e4 : kk4 k0 r ≤ kk3 k0 r + r.wn := Nat.le_refl _
  have d4 : kk3 k0 r + r.wn ≤ kk4 k0 r := Nat.le_refl _
  have e5 : kk5 k0 r ≤ kk4 k0 r + r.yn := Nat.le_refl _
  have d5 : kk4 k0 r + r.yn ≤ kk5 k0 r := Nat.le_refl _
  have e6 : kk6 k0 r ≤ kk5 k0 r + 2 * r.bn := Nat.le_refl _
  have d6 : kk5 k0 r + 2 * r.bn ≤ kk6 k0 r := Nat.le_refl _
  have E3 := hid (show kk3 k0 r = mkMss (kk2 k0 r) r.hs r.hn from rfl)
  have E7 := hid (show mkRc k0 r = mkAks (kk6 k0 r) r.as_ r.an from rfl)
  have Y := hid (show ykRc k0 r = { r with sf := { r.sf with s := fun i => slM (k0 + 2 * i) }, dk := { r.dk with s := fun i => slM (kk1 k0 r + 2 * i) }, hs := ykMs (kk2 k0 r) r.hs r.hn, ws := fun i => mt (kk3 k0 r + i), ys := fun i => ((kk4 k0 r + i : Nat) : Int), bs := fun i => slM (kk5 k0 r + 2 * i), as_ := ykAk (kk6 k0 r) r.as_ r.an } from rfl)
  generalize mkRc k0 r = k7 at *
  generalize kk6 k0 r = k6 at *
  generalize kk5 k0 r = k5 at *
  generalize kk4 k0 r = k4 at *
  generalize kk3 k0 r = k3 at *
  generalize kk2 k0 r = k2 at *
  generalize kk1 k0 r = k1 at *
  have hB0 := below_alloc w (.cells (rcC r p.A) 58)
  have H0 := holds_new w (rcC r p.A) 58
  have hz0 : w.heap.size < (w.alloc (.cells (rcC r p.A) 58)).heap.size := by simp
  have R0 := hid (HC.out.grow hB0)
  have F0 := hid (FrP.of_below (P := rbs p r) hB0)
  go_enter Try.func27, Try.ntmps27
  go_wp2_with fail
  refine (markDk_in r.sf p.A.sa p.A.sc _ k0 (by omega) _ p.g0 (fun h0 => R0.out.lt _ ⟨0, by omega, h0, rfl⟩) (by have := HM.out.sf; omega) (by omega) (by omega) R0.out.o0).mono ?_
  rintro e w1 ⟨rfl, o0, f0⟩
  rw [show (k0 : Int) + 2 * r.sf.n = k1 by omega]
  have R1 := hid (R0.out.set0 o0 f0)
  have F1 := hid (F0.out.trans (f0.mono (fun q hq => (⟨0, by omega, hq⟩ : rbs p r q))))
  have H1 : Holds w1 w.heap.size (rcC r p.A) := Holds.frP H0 f0 (by first | exact hz0 | omega) (fun hq => by have := HC.out.lt _ (⟨0, by omega, hq⟩ : rbs p r _); omega)
  have hz1 : w.heap.size < w1.heap.size := Nat.lt_of_lt_of_le hz0 f0.size
  clear o0 f0 R0 F0 H0
  obtain ⟨p0, p1, p2, p3, p4, p5, p6, p7, p8, p9, p10, p11, p12, p13, p14, p15, p16, p17⟩ := holds18 H1
  go_wp2_with fail
  refine (markDk_in r.dk p.A.da p.A.dc _ k1 (by omega) _ p.g1 (fun h0 => R1.out.lt _ ⟨1, by omega, h0, rfl⟩) (by have := HM.out.dk; omega) (by omega) (by omega) R1.out.o1).mono ?_
  rintro e w2 ⟨rfl, o1, f1⟩
  rw [show (k1 : Int) + 2 * r.dk.n = k2 by omega]
  have R2 := hid (R1.out.set1 o1 f1)
  have F2 := hid (F1.out.trans (f1.mono (fun q hq => (⟨1, by omega, hq⟩ : rbs p r q))))
  have H2 : Holds w2 w.heap.size (rcC r p.A) := Holds.frP H1 f1 (by first | exact hz1 | omega) (fun hq => by have := HC.out.lt _ (⟨1, by omega, hq⟩ : rbs p r _); omega)
  have hz2 : w.heap.size < w2.heap.size := Nat.lt_of_lt_of_le hz1 f1.size
  clear o1 f1 R1 F1 H1 p0 p1 p2 p3 p4 p5 p6 p7 p8 p9 p10 p11 p12 p13 p14 p15 p16 p17
  obtain ⟨p0, p1, p2, p3, p4, p5, p6, p7, p8, p9, p10, p11, p12, p13, p14, p15, p16, p17⟩ := holds18 H2
  go_wp2_with fail
  refine (markMss_own p.A.ha p.g2 r.hn r.hs p.HA p.HC p.Hb p.A.hc k2 _ HM.out.hn (by omega) (by rw [← E3.out]; omega) R2.out.o2).mono ?_
  rintro e w3 ⟨rfl, o2, f2⟩
  rw [← E3.out]
  have R3 := hid (R2.out.set2 o2 f2 (ykMs_n _ _ _))
  have F3 := hid (F2.out.trans (f2.mono (fun q hq => (⟨2, by omega, hq⟩ : rbs p r q))))
  have H3 : Holds w3 w.heap.size (rcC r p.A) := Holds.frP H2 f2 (by first | exact hz2 | omega) (fun hq => by have := HC.out.lt _ (⟨2, by omega, hq⟩ : rbs p r _); omega)
  have hz3 : w.heap.size < w3.heap.size := Nat.lt_of_lt_of_le hz2 f2.size
  clear o2 f2 R2 F2 H2 p0 p1 p2 p3 p4 p5 p6 p7 p8 p9 p10 p11 p12 p13 p14 p15 p16 p17
  obtain ⟨p0, p1, p2, p3, p4, p5, p6, p7, p8, p9, p10, p11, p12, p13, p14, p15, p16, p17⟩ := holds18 H3
  go_wp2_with fail
  refine (markStrs_own r.wn r.ws p.A.wa p.A.wc _ k3 (by omega) _ p.g3 (fun h0 => R3.out.lt _ ⟨3, by omega, h0, rfl⟩) (by have := HM.out.wn; omega) (by omega) (by omega) R3.out.o3).mono ?_
  rintro e w4 ⟨rfl, o3, f3⟩
  rw [show (k3 : Int) + r.wn = k4 by omega]
  have R4 := hid (R3.out.set3 o3 f3)
  have F4 := hid (F3.out.trans (f3.mono (fun q hq => (⟨3, by omega, hq⟩ : rbs p r q))))
  have H4 : Holds w4 w.heap.size (rcC r p.A) := Holds.frP H3 f3 (by first | exact hz3 | omega) (fun hq => by have := HC.out.lt _ (⟨3, by omega, hq⟩ : rbs p r _); omega)
  have hz4 : w.heap.size < w4.heap.size := Nat.lt_of_lt_of_le hz3 f3.size
  clear o3 f3 R3 F3 H3 p0 p1 p2 p3 p4 p5 p6 p7 p8 p9 p10 p11 p12 p13 p14 p15 p16 p17
  obtain ⟨p0, p1, p2, p3, p4, p5, p6, p7, p8, p9, p10, p11, p12, p13, p14, p15, p16, p17⟩ := holds18 H4
  go_wp2_with fail
  refine (markInts_own r.yn r.ys p.A.ya p.A.yc _ k4 (by omega) _ p.g4 (fun h0 => R4.out.lt _ ⟨4, by omega, h0, rfl⟩) (by have := HM.out.yn; omega) (by omega) (by omega) R4.out.o4).mono ?_
  rintro e w5 ⟨rfl, o4, f4⟩
  rw [show (k4 : Int) + r.yn = k5 by omega]
  have R5 := hid (R4.out.set4 o4 f4)
  have F5 := hid (F4.out.trans (f4.mono (fun q hq => (⟨4, by omega, hq⟩ : rbs p r q))))
  have H5 : Holds w5 w.heap.size (rcC r p.A) := Holds.frP H4 f4 (by first | exact hz4 | omega) (fun hq => by have := HC.out.lt _ (⟨4, by omega, hq⟩ : rbs p r _); omega)
  have hz5 : w.heap.size < w5.heap.size := Nat.lt_of_lt_of_le hz4 f4.size
  clear o4 f4 R4 F4 H4 p0 p1 p2 p3 p4 p5 p6 p7 p8 p9 p10 p11 p12 p13 p14 p15 p16 p17
  obtain ⟨p0, p1, p2, p3, p4, p5, p6, p7, p8, p9, p10, p11, p12, p13, p14, p15, p16, p17⟩ := holds18 H5
  go_wp2_with fail
  refine (markSls_in r.bn r.bs p.A.ba p.A.bc _ k5 (by omega) _ p.g5 (fun h0 => R5.out.lt _ ⟨5, by omega, h0, rfl⟩) (by have := HM.out.bn; omega) (by omega) (by omega) R5.out.o5).mono ?_
  rintro e w6 ⟨rfl, o5, f5⟩
  rw [show (k5 : Int) + 2 * r.bn = k6 by omega]
  have R6 := hid (R5.out.set5 o5 f5)
  have F6 := hid (F5.out.trans (f5.mono (fun q hq => (⟨5, by omega, hq⟩ : rbs p r q))))
  have H6 : Holds w6 w.heap.size (rcC r p.A) := Holds.frP H5 f5 (by first | exact hz5 | omega) (fun hq => by have := HC.out.lt _ (⟨5, by omega, hq⟩ : rbs p r _); omega)
  have hz6 : w.heap.size < w6.heap.size := Nat.lt_of_lt_of_le hz5 f5.size
  clear o5 f5 R5 F5 H5 p0 p1 p2 p3 p4 p5 p6 p7 p8 p9 p10 p11 p12 p13 p14 p15 p16 p17
  obtain ⟨p0, p1, p2, p3, p4, p5, p6, p7, p8, p9, p10, p11, p12, p13, p14, p15, p16, p17⟩ := holds18 H6
  go_wp2_with fail
  refine (markAks_own p.A.aa p.g6 r.an r.as_ p.AA p.AC p.Ab p.A.ac k6 _ HM.out.an (by omega) (by rw [← E7.out]; omega) R6.out.o6).mono ?_
  rintro e w7 ⟨rfl, o6, f6⟩
  rw [← E7.out]
  have R7 := hid (R6.out.set6 o6 f6 (ykAk_n _ _ _))
  have F7 := hid (F6.out.trans (f6.mono (fun q hq => (⟨6, by omega, hq⟩ : rbs p r q))))
  clear o6 f6 R6 F6 H6 p0 p1 p2 p3 p4 p5 p6 p7 p8 p9 p10 p11 p12 p13 p14 p15 p16 p17
  go_wp2
  go_ret
  exact ⟨rfl, Y.out ▸ R7.out, F7.out⟩
end Go.Proofs.Ytjepponnhieocaa
