import Derived.Test.YtcmimbohmninkaaGreatDoorLc
import Derived.Laws.IdiomStrings
import Derived.Deep.RegionWith
import Derived.BigQuiet
import Derived.BigCall
import Derived.BigGuard
namespace Go.Proofs.YtcmimbohmninkaaGreatDoor
open Go.RowKit
/-- a world that w has grown into -/
structure GW (w : World) where
  val : World
  prop : Below w.heap.size w val
/-- A REGION THAT DRAWS, WHOSE OPERATIONS READ AND WHOSE CALLEES READ AND MAKE NEW MEMORY: one walk in the order of the text -/
theorem wp_region_grow {P : Program} {id : Nat} {Q : Exit → Act → World → Prop} {a : Act} {w : World} {l : List Oper} (hm : P.follows .mixedOrders = true) (hB : Region.lexB .any l.toArray = true)
    (h : wpQuiet P l.toArray (fun w' => ∃ u : GW w, w' = u.val) (fun a' => ∀ w', (∃ u : GW w, w' = u.val) → Q .normal a' w') l a) : (Code.region id l.toArray true).wp P Q a w :=
  wp_region_quiet (C := fun w' => ∃ u : GW w, w' = u.val) hm hB ⟨⟨w.drew, (Below.refl _ _).drew⟩, rfl⟩ (by simpa using h)
theorem grow_of {P : Program} {f : FuncId} {args : Array Value} {w : World} {v : Value} {u : GW w}
    (h : Calls P f args u.val fun e w' => e = .returned v ∧ Below u.val.heap.size u.val w') : Calls P f args u.val fun e w'' => e = .returned v ∧ ∃ u' : GW w, w'' = u'.val :=
  h.mono fun _ w'' ⟨he, hb⟩ => ⟨he, ⟨w'', u.prop.trans (hb.mono u.prop.size)⟩, rfl⟩
theorem subcell {W1 : World} {p : Addr} {v : Value} (h : W1.cell? p = some v) (hp : p.block < W1.heap.size) : ∀ u : GW W1, u.val.cell? p = some v := fun u => (u.prop.cell hp).trans h
set_option maxRecDepth 100000 in
set_option maxHeartbeats 400000 in
theorem markText_any (k : Nat) (w : World) (h1 : 1 ≤ (k : Int)) (h2 : (k : Int) ≤ 1099511627776) :
    Calls Tryz.prog 38 #[.int .i64 k] w fun e w' => e = .returned (.string (mt k)) ∧ Below w.heap.size w w' := by
  go_enter Tryz.func38, Tryz.ntmps38
  go_wp2
  go_loopw [0, 3] (fun t o wr => ∃ (j f : Nat) (acc : List UInt8), t = .int .i64 j ∧ o = .string ⟨acc.toArray⟩ ∧ j ≤ f ∧ acc.length + j ≤ k ∧ mtGo f j acc = mtGo k k [] ∧ Below w.heap.size w wr) (fun t _ _ => (intOf t).toNat)
  case atStart => exact ⟨k, k, [], rfl, rfl, Nat.le_refl _, by simp, rfl, Below.refl _ _⟩
  case round =>
    obtain ⟨j, f, acc, rfl, rfl, hjf, hal, hgo, hb⟩ := hrel
    have HG := hid hgo
    clear hgo
    have hsz : ((⟨acc.toArray⟩ : ByteArray).size) = acc.length := by simp [ByteArray.size]
    by_cases hj0 : 0 < (j : Int)
    · have hcv' := mt_conv wr (48 + (j : Int) % 10) (by omega) (by omega)
      go_wp2
      go_roundw
      case rel => exact ⟨j / 10, f - 1, _ :: acc, by go_num, rfl, by omega, by simp; omega, by rw [← HG.out, mtGo_succ f j acc hjf (by omega)], hb.alloc hb.size _⟩
      case measure => simp [intOf]; omega
    · have hj : j = 0 := by omega
      subst hj
      have HG2 : Hid (acc = mtGo k k []) := by have := HG.out; rw [mtGo_zero] at this; exact this
      clear HG
      go_wp2
      go_ret
      refine ⟨?_, hb⟩
      rw [mt, ← HG2.out]
      exact congrArg (fun x => Ending.returned (Value.string x)) rfl
/-- w' is w but for the blocks of P, and for new blocks -/
structure FrP (P : Nat → Prop) (w w' : World) : Prop where
  os : w'.os = w.os
  tape : w'.tape = w.tape
  output : w'.output = w.output
  size : w.heap.size ≤ w'.heap.size
  block : ∀ k, k < w.heap.size → ¬ P k → w'.heap[k]? = w.heap[k]?
theorem FrP.refl (P : Nat → Prop) (w : World) : FrP P w w := ⟨rfl, rfl, rfl, Nat.le_refl _, fun _ _ _ => rfl⟩
theorem FrP.trans {P : Nat → Prop} {a b c : World} (h : FrP P a b) (k : FrP P b c) : FrP P a c :=
  ⟨k.os.trans h.os, k.tape.trans h.tape, k.output.trans h.output, Nat.le_trans h.size k.size, fun i hi ho => (k.block i (Nat.lt_of_lt_of_le hi h.size) ho).trans (h.block i hi ho)⟩
theorem FrP.of_below {P : Nat → Prop} {w w' : World} (h : Below w.heap.size w w') : FrP P w w' := ⟨h.os, h.tape, h.output, h.size, fun i hi _ => h.block i hi⟩
theorem FrP.mono {P Q : Nat → Prop} {w w' : World} (h : FrP P w w') (e : ∀ k, P k → Q k) : FrP Q w w' := ⟨h.os, h.tape, h.output, h.size, fun i hi hq => h.block i hi (fun hp => hq (e i hp))⟩
theorem FrP.setCell {P : Nat → Prop} {a w : World} (h : FrP P a w) {p : Addr} (hp : P p.block) (u : Value) : FrP P a (w.setCell p u) :=
  h.trans ⟨rfl, rfl, rfl, by simp [World.setCell], fun k _ ho => Below.heap_setCell _ _ _ _ (fun e => ho (e ▸ hp))⟩
theorem FrP.cell {P : Nat → Prop} {w w' : World} (h : FrP P w w') {p : Addr} (hp : p.block < w.heap.size) (ho : ¬ P p.block) : w'.cell? p = w.cell? p := World.cell?_of_block (w := w) (h.block p.block hp ho)
theorem FrP.frozen {P : Nat → Prop} {w w' : World} (h : FrP P w w') {p : Addr} (hp : p.block < w.heap.size) (ho : ¬ P p.block) : w'.frozen? p = w.frozen? p := World.frozen?_of_block (w := w) (h.block p.block hp ho)
theorem FrP.below {P : Nat → Prop} {w w' : World} (h : FrP P w w') {B : Nat} (hB : ∀ k, k < B → ¬ P k) (hs : B ≤ w.heap.size) : Below B w w' := ⟨h.os, h.tape, h.output, h.size, fun k hk => h.block k (by omega) (hB k hk)⟩
theorem FrP.of_fr {P : Nat → Prop} {lo hi : Nat} {w w' : World} (h : Fr lo hi w w') (e : ∀ k, lo ≤ k → k < hi → P k) : FrP P w w' := ⟨h.os, h.tape, h.output, h.size, fun k hk ho => h.block k hk (by
  rcases Nat.lt_or_ge k lo with h1 | h1
  · exact Or.inl h1
  · rcases Nat.lt_or_ge k hi with h2 | h2
    · exact absurd (e k h1 h2) ho
    · exact Or.inr h2)⟩
theorem FrP.link {P Q : Nat → Prop} {a b c : World} (h : FrP P a b) (_ : FrP Q b c) : FrP P a b := h
/-- the first m cells of block g, of which none is frozen -/
structure RowF (w : World) (g m : Nat) (c : Nat → Value) : Prop where
  lt : g < w.heap.size
  free : ∀ j, w.frozen? ⟨g, j, none⟩ = false
  cell : ∀ j, j < m → w.cell? ⟨g, j, none⟩ = some (c j)
def setF (c : Nat → Value) (o : Nat) (v : Value) : Nat → Value := fun j => if j = o then v else c j
theorem RowF.set {w : World} {g m : Nat} {c : Nat → Value} (h : RowF w g m c) {o : Nat} (ho : o < m) (v : Value) : RowF (w.setCell ⟨g, o, none⟩ v) g m (setF c o v) :=
  ⟨by rw [World.size_setCell]; exact h.lt, fun j => by rw [World.frozen?_setCell]; exact h.free j, fun j hj => by
    unfold setF
    by_cases e : j = o
    · subst e; rw [if_pos rfl]; exact World.cell?_setCell_same _ _ _ (h.cell j hj)
    · rw [if_neg e, World.cell?_setCell_other _ _ _ _ (fun q => e (by injection q with _ q2; exact q2.symm))]; exact h.cell j hj⟩
theorem RowF.below {w w' : World} {g m B : Nat} {c : Nat → Value} (h : RowF w g m c) (hb : Below B w w') (hB : g < B) : RowF w' g m c :=
  ⟨Nat.lt_of_lt_of_le h.lt hb.size, fun j => (hb.frozen (p := ⟨g, j, none⟩) hB).trans (h.free j), fun j hj => (hb.cell (p := ⟨g, j, none⟩) hB).trans (h.cell j hj)⟩
theorem RowF.fr {w w' : World} {g m : Nat} {c : Nat → Value} {P : Nat → Prop} (h : RowF w g m c) (hb : FrP P w w') (hg : ¬ P g) : RowF w' g m c :=
  ⟨Nat.lt_of_lt_of_le h.lt hb.size, fun j => (hb.frozen (p := ⟨g, j, none⟩) h.lt hg).trans (h.free j), fun j hj => (hb.cell (p := ⟨g, j, none⟩) h.lt hg).trans (h.cell j hj)⟩
theorem markText_at (k : Int) (m : Nat) (hk : k = m) (w : World) (h1 : 1 ≤ k) (h2 : k ≤ 1099511627776) :
    Calls Tryz.prog 38 #[.int .i64 k] w fun e w' => e = .returned (.string (mt m)) ∧ Below w.heap.size w w' := by
  subst hk
  exact markText_any m w h1 h2
theorem rem3 {a b : Int} (h : a = b) : (a % 3 == 0) = decide (b % 3 = 0) := by subst h; rfl
def atWt (c : Nat → Value) (i : Nat) (y : Wt) : Prop := c (i * 3) = .string y.kind ∧ c (i * 3 + 1) = .string y.name ∧ c (i * 3 + 2) = .int .i64 y.ver
theorem atWt_set {c : Nat → Value} {i : Nat} {y : Wt} (h : atWt c i y) {k o : Nat} (hik : ¬ i = k) (h1 : k * 3 ≤ o) (h2 : o < k * 3 + 3) (v : Value) : atWt (setF c o v) i y := by
  obtain ⟨a0, a1, a2⟩ := h
  exact ⟨(if_neg (by omega)).trans a0, (if_neg (by omega)).trans a1, (if_neg (by omega)).trans a2⟩
def mkWt (m : Nat) (_ : Wt) : Wt := ⟨mt m, mt (m + 1), ((m + 2 : Nat) : Int)⟩
def mkWts (k0 : Nat) (x : Nat → Wt) : Nat → Nat | 0 => k0 | n + 1 => mkWts k0 x n + 3
theorem mkWts_mono (k0 : Nat) (x : Nat → Wt) {k n : Nat} (h : k ≤ n) : mkWts k0 x k ≤ mkWts k0 x n := by
  induction n with
  | zero => have : k = 0 := by omega
            subst this; exact Nat.le_refl _
  | succ m ih => rcases Nat.lt_or_ge m k with h1 | h1
                 · have : k = m + 1 := by omega
                   subst this; exact Nat.le_refl _
                 · exact Nat.le_trans (ih h1) (by simp only [mkWts]; omega)
theorem mkWts_pos (k0 : Nat) (x : Nat → Wt) (k : Nat) (h : 1 ≤ k0) : 1 ≤ mkWts k0 x k := Nat.le_trans h (mkWts_mono k0 x (Nat.zero_le k))
def ykWt (k0 : Nat) (x : Nat → Wt) (k i : Nat) : Wt := if i < k then mkWt (mkWts k0 x i) (x i) else x i
theorem ykWt_zero (k0 : Nat) (x : Nat → Wt) : ykWt k0 x 0 = x := funext fun i => if_neg (Nat.not_lt_zero i)
theorem ykWt_lt {k0 : Nat} {x : Nat → Wt} {k i : Nat} (h : i < k) : ykWt k0 x k i = mkWt (mkWts k0 x i) (x i) := if_pos h
theorem ykWt_ge {k0 : Nat} {x : Nat → Wt} {k i : Nat} (h : k ≤ i) : ykWt k0 x k i = x i := if_neg (by omega)
theorem ykWt_ne {k0 : Nat} {x : Nat → Wt} {k i : Nat} (h : ¬ i = k) : ykWt k0 x (k + 1) i = ykWt k0 x k i := by
  unfold ykWt
  by_cases h1 : i < k
  · rw [if_pos h1, if_pos (by omega)]
  · rw [if_neg h1, if_neg (by omega)]
structure WtsAt (w : World) (ad : Option Addr) (g n : Nat) (x : Nat → Wt) : Prop where
  addr : 0 < n → ad = some ⟨g, 0, none⟩
  row : 0 < n → ∃ c, RowF w g (n * 3) c ∧ ∀ i, i < n → atWt c i (x i)
theorem WtsAt.fr {w w' : World} {ad : Option Addr} {g n : Nat} {x : Nat → Wt} {P : Nat → Prop} (h : WtsAt w ad g n x) (hf : FrP P w w') (hp : ∀ k, (fun k => 0 < n ∧ k = g) k → ¬ P k) : WtsAt w' ad g n x :=
  ⟨h.addr, fun h0 => by obtain ⟨c, r, e⟩ := h.row h0; exact ⟨c, r.fr hf (hp g (⟨h0, rfl⟩)), e⟩⟩
theorem WtsAt.grow {w w' : World} {ad : Option Addr} {g n : Nat} {x : Nat → Wt} (h : WtsAt w ad g n x) (hf : Below w.heap.size w w') : WtsAt w' ad g n x := h.fr (FrP.of_below (P := fun _ => False) hf) (fun _ _ h => h)
set_option maxRecDepth 100000 in
set_option maxHeartbeats 2000000 in
theorem markWts_own (ad : Option Addr) (g n : Nat) (x : Nat → Wt) (cap k0 : Nat) (w : World) (hl : (n : Int) ≤ 1048576) (hk1 : 1 ≤ (k0 : Int)) (hk2 : (mkWts k0 x n : Int) ≤ 1073741824) (hc : WtsAt w ad g n x) :
    Calls Tryz.prog 25 #[.slice ad n cap, .int .i64 k0] w fun e w' => e = .returned (.int .i64 (mkWts k0 x n)) ∧ WtsAt w' ad g n (ykWt k0 x n) ∧ FrP (fun k => 0 < n ∧ k = g) w w' := by
  go_enter Tryz.func25, Tryz.ntmps25
  go_wp2
  go_loopw [1, 5] (fun t i wr => ∃ k : Nat, k ≤ n ∧ i = .int .i64 k ∧ t = .int .i64 (mkWts k0 x k) ∧ FrP (fun k => 0 < n ∧ k = g) w wr ∧ WtsAt wr ad g n (ykWt k0 x k)) (fun _ i _ => n - (intOf i).toNat)
  case atStart => exact ⟨0, Nat.zero_le _, rfl, rfl, FrP.refl _ _, by rw [ykWt_zero]; exact hc⟩
  case round =>
    obtain ⟨k, hk, rfl, rfl, hfr, ho⟩ := hrel
    clear hc
    by_cases hkn : k < n
    · have hmo := mkWts_mono k0 x (k := k + 1) (n := n) (by omega)
      have hm1 := mkWts_pos k0 x k (by omega)
      have hms : mkWts k0 x (k + 1) = mkWts k0 x k + 3 := rfl
      have HM : Hid (mkWts k0 x (k + 1) = mkWts k0 x k + 3) := hms
      have hm : mkWts k0 x k + 3 ≤ 1073741824 := by omega
      clear hmo hms
      obtain ⟨m, hme⟩ : ∃ m, mkWts k0 x k = m := ⟨_, rfl⟩
      rw [hme] at hm1 hm HM ⊢
      have HME := hid hme
      clear hme
      obtain rfl := ho.addr (by omega)
      obtain ⟨c, r0, hat⟩ := ho.row (by omega)
      have HO := hid ho
      have HAT := hid hat
      have hfr' := hid hfr
      clear ho hat hfr
      have f0 : FrP (fun q => q = g) wr wr := FrP.refl _ _
      go_wp2_with fail
      refine (markText_at _ (m + 0) (by omega) _ (by omega) (by omega)).mono ?_
      rintro e w1 ⟨rfl, b1⟩
      have r1 := r0.below b1 (by first | exact r0.lt | (simp only [World.size_setCell]; exact r0.lt))
      have f1 := f0.trans (FrP.of_below b1)
      clear r0 f0 b1
      have q0 := r1.cell (k * 3) (by omega)
      have qf1 := r1.free
      go_wp2_with fail
      refine (markText_at _ (m + 1) (by omega) _ (by omega) (by omega)).mono ?_
      rintro e w2 ⟨rfl, b2⟩
      have r2 := (r1.set (o := k * 3) (by omega) _).below b2 (by first | exact r1.lt | (simp only [World.size_setCell]; exact r1.lt))
      have f2 := (f1.setCell (p := ⟨g, k * 3, none⟩) rfl _).trans (FrP.of_below b2)
      clear q0 qf1 r1 f1 b2
      have q1 := r2.cell (k * 3 + 1) (by omega)
      have q2 := r2.cell (k * 3 + 2) (by omega)
      have qf2 := r2.free
      go_wp2
      go_roundw
      case rel =>
        refine ⟨k + 1, by omega, by go_num, by rw [HM.out]; apply congrArg; omega, hfr'.out.trans (FrP.mono ((f2.setCell (p := ⟨g, k * 3 + 1, none⟩) rfl _).setCell (p := ⟨g, k * 3 + 2, none⟩) rfl _) (fun q hq => ⟨by omega, hq⟩)), fun _ => rfl, fun _ => ⟨_, ((r2.set (o := k * 3 + 1) (by omega) _).set (o := k * 3 + 2) (by omega) _), fun i hi => ?_⟩⟩
        by_cases e : i = k
        · subst e
          rw [ykWt_lt (Nat.lt_succ_self i), HME.out]
          refine ⟨?_, ?_, ?_⟩
          all_goals first | (simp [setF, mkWt]; done) | (simp [setF, mkWt]; omega) | (simp [setF, mkWt]; exact rem3 (by omega))
        · rw [ykWt_ne e]
          exact (atWt_set (atWt_set (atWt_set (HAT.out i hi) e (k := k) (by omega) (by omega) _) e (k := k) (by omega) (by omega) _) e (k := k) (by omega) (by omega) _)
      case measure => simp [intOf]; omega
    · have : k = n := by omega
      subst this
      have HO := hid ho
      clear ho
      go_wp2
      go_ret
      exact ⟨rfl, HO.out, hfr⟩
set_option maxRecDepth 100000 in
set_option maxHeartbeats 2000000 in
theorem heldWts_own (ad : Option Addr) (g n : Nat) (x : Nat → Wt) (cap k0 : Nat) (w : World) (hl : (n : Int) ≤ 1048576) (hk1 : 1 ≤ (k0 : Int)) (hk2 : (mkWts k0 x n : Int) ≤ 1073741824) (hc : WtsAt w ad g n (ykWt k0 x n)) :
    Calls Tryz.prog 27 #[.slice ad n cap, .int .i64 k0] w fun e w' => e = .returned (.int .i64 (mkWts k0 x n)) ∧ Below w.heap.size w w' := by
  have HO := hid hc
  clear hc
  go_enter Tryz.func27, Tryz.ntmps27
  go_wp2
  go_loopw [1, 5] (fun t i wr => ∃ k : Nat, k ≤ n ∧ i = .int .i64 k ∧ t = .int .i64 (mkWts k0 x k) ∧ Below w.heap.size w wr) (fun _ i _ => n - (intOf i).toNat)
  case atStart => exact ⟨0, Nat.zero_le _, rfl, rfl, Below.refl _ _⟩
  case round =>
    obtain ⟨k, hk, rfl, rfl, b0⟩ := hrel
    by_cases hkn : k < n
    · have hmo := mkWts_mono k0 x (k := k + 1) (n := n) (by omega)
      have hm1 := mkWts_pos k0 x k (by omega)
      have hms : mkWts k0 x (k + 1) = mkWts k0 x k + 3 := rfl
      have HM : Hid (mkWts k0 x (k + 1) = mkWts k0 x k + 3) := hms
      have hm : mkWts k0 x k + 3 ≤ 1073741824 := by omega
      clear hmo hms
      have hadr := HO.out.addr (by omega)
      obtain ⟨c, rr, hat⟩ := HO.out.row (by omega)
      have hak := hat k hkn
      rw [ykWt_lt hkn] at hak
      obtain ⟨m, hme⟩ : ∃ m, mkWts k0 x k = m := ⟨_, rfl⟩
      rw [hme] at hm1 hm HM hak ⊢
      clear hme hat
      subst hadr
      obtain ⟨a0, a1, a2⟩ := hak
      replace a0 : c (k * 3) = .string (mt m) := a0
      replace a1 : c (k * 3 + 1) = .string (mt (m + 1)) := a1
      replace a2 : c (k * 3 + 2) = .int .i64 ((m : Int) + 1 + 1) := a2.trans (by first | (exact congrArg (Value.int .i64) (by first | rfl | (simp only [mkWt]; omega))) | (exact congrArg Value.bool (rem3 (by omega)).symm))
      have A0 := hid a0
      have A1 := hid a1
      have A2 := hid a2
      have RR := hid rr
      have hgw := rr.lt
      clear rr a0 a1 a2
      have z1 := b0.size
      have qq0 := ((RR.out.below b0 hgw).cell (k * 3) (by omega)).trans (congrArg some A0.out)
      have y0 := subcell qq0 (by show g < _; omega)
      have hne1 : Nonempty (GW wr) := ⟨⟨_, Below.refl _ _⟩⟩
      go_wp2
      refine wp_region_grow (by kernel_rfl) (by kernel_rfl) ?_
      repeat (go_big_quiet_step ((go_at_call 38; go_must (exact grow_of (markText_at _ (m + 0) (by omega) _ (by omega) (by omega))))))
      refine wpQuiet_nil ?_
      rintro w1 ⟨u, hu⟩
      have c1 : Below wr.heap.size wr w1 := hu ▸ u.prop
      have b1 := b0.trans (c1.mono (by omega))
      clear hu u hne1 qq0 y0 c1 
      have z2 := b1.size
      have qq1 := ((RR.out.below b1 hgw).cell (k * 3 + 1) (by omega)).trans (congrArg some A1.out)
      have y1 := subcell qq1 (by show g < _; omega)
      have hne2 : Nonempty (GW w1) := ⟨⟨_, Below.refl _ _⟩⟩
      go_wp2
      refine wp_region_grow (by kernel_rfl) (by kernel_rfl) ?_
      repeat (go_big_quiet_step ((go_at_call 38; go_must (exact grow_of (markText_at _ (m + 1) (by omega) _ (by omega) (by omega))))))
      refine wpQuiet_nil ?_
      rintro w2 ⟨u, hu⟩
      have c2 : Below w1.heap.size w1 w2 := hu ▸ u.prop
      have b2 := b1.trans (c2.mono (by omega))
      clear hu u hne2 qq1 y1 c2 
      have q2 := ((RR.out.below b2 hgw).cell (k * 3 + 2) (by omega)).trans (congrArg some A2.out)
      go_wp2
      go_roundw
      case rel => exact ⟨k + 1, by omega, by go_num, by rw [HM.out]; apply congrArg; omega, b2⟩
      case measure => simp [intOf]; omega
    · have : k = n := by omega
      subst this
      go_wp2
      go_ret
      exact ⟨rfl, b0⟩
def atWr (c : Nat → Value) (i : Nat) (y : Wr) : Prop := c (i * 6) = .int .i64 y.op ∧ c (i * 6 + 1) = .string y.kind ∧ c (i * 6 + 2) = .string y.name ∧ c (i * 6 + 3) = .int .i64 y.seen ∧ c (i * 6 + 4) = .string y.text ∧ c (i * 6 + 5) = .string y.hold
theorem atWr_set {c : Nat → Value} {i : Nat} {y : Wr} (h : atWr c i y) {k o : Nat} (hik : ¬ i = k) (h1 : k * 6 ≤ o) (h2 : o < k * 6 + 6) (v : Value) : atWr (setF c o v) i y := by
  obtain ⟨a0, a1, a2, a3, a4, a5⟩ := h
  exact ⟨(if_neg (by omega)).trans a0, (if_neg (by omega)).trans a1, (if_neg (by omega)).trans a2, (if_neg (by omega)).trans a3, (if_neg (by omega)).trans a4, (if_neg (by omega)).trans a5⟩
def mkWr (m : Nat) (_ : Wr) : Wr := ⟨(m : Int), mt (m + 1), mt (m + 2), ((m + 3 : Nat) : Int), mt (m + 4), mt (m + 5)⟩
def mkWrs (k0 : Nat) (x : Nat → Wr) : Nat → Nat | 0 => k0 | n + 1 => mkWrs k0 x n + 6
theorem mkWrs_mono (k0 : Nat) (x : Nat → Wr) {k n : Nat} (h : k ≤ n) : mkWrs k0 x k ≤ mkWrs k0 x n := by
  induction n with
  | zero => have : k = 0 := by omega
            subst this; exact Nat.le_refl _
  | succ m ih => rcases Nat.lt_or_ge m k with h1 | h1
                 · have : k = m + 1 := by omega
                   subst this; exact Nat.le_refl _
                 · exact Nat.le_trans (ih h1) (by simp only [mkWrs]; omega)
theorem mkWrs_pos (k0 : Nat) (x : Nat → Wr) (k : Nat) (h : 1 ≤ k0) : 1 ≤ mkWrs k0 x k := Nat.le_trans h (mkWrs_mono k0 x (Nat.zero_le k))
def ykWr (k0 : Nat) (x : Nat → Wr) (k i : Nat) : Wr := if i < k then mkWr (mkWrs k0 x i) (x i) else x i
theorem ykWr_zero (k0 : Nat) (x : Nat → Wr) : ykWr k0 x 0 = x := funext fun i => if_neg (Nat.not_lt_zero i)
theorem ykWr_lt {k0 : Nat} {x : Nat → Wr} {k i : Nat} (h : i < k) : ykWr k0 x k i = mkWr (mkWrs k0 x i) (x i) := if_pos h
theorem ykWr_ge {k0 : Nat} {x : Nat → Wr} {k i : Nat} (h : k ≤ i) : ykWr k0 x k i = x i := if_neg (by omega)
theorem ykWr_ne {k0 : Nat} {x : Nat → Wr} {k i : Nat} (h : ¬ i = k) : ykWr k0 x (k + 1) i = ykWr k0 x k i := by
  unfold ykWr
  by_cases h1 : i < k
  · rw [if_pos h1, if_pos (by omega)]
  · rw [if_neg h1, if_neg (by omega)]
structure WrsAt (w : World) (ad : Option Addr) (g n : Nat) (x : Nat → Wr) : Prop where
  addr : 0 < n → ad = some ⟨g, 0, none⟩
  row : 0 < n → ∃ c, RowF w g (n * 6) c ∧ ∀ i, i < n → atWr c i (x i)
theorem WrsAt.fr {w w' : World} {ad : Option Addr} {g n : Nat} {x : Nat → Wr} {P : Nat → Prop} (h : WrsAt w ad g n x) (hf : FrP P w w') (hp : ∀ k, (fun k => 0 < n ∧ k = g) k → ¬ P k) : WrsAt w' ad g n x :=
  ⟨h.addr, fun h0 => by obtain ⟨c, r, e⟩ := h.row h0; exact ⟨c, r.fr hf (hp g (⟨h0, rfl⟩)), e⟩⟩
theorem WrsAt.grow {w w' : World} {ad : Option Addr} {g n : Nat} {x : Nat → Wr} (h : WrsAt w ad g n x) (hf : Below w.heap.size w w') : WrsAt w' ad g n x := h.fr (FrP.of_below (P := fun _ => False) hf) (fun _ _ h => h)
set_option maxRecDepth 100000 in
set_option maxHeartbeats 2000000 in
theorem markWrs_own (ad : Option Addr) (g n : Nat) (x : Nat → Wr) (cap k0 : Nat) (w : World) (hl : (n : Int) ≤ 1048576) (hk1 : 1 ≤ (k0 : Int)) (hk2 : (mkWrs k0 x n : Int) ≤ 1073741824) (hc : WrsAt w ad g n x) :
    Calls Tryz.prog 26 #[.slice ad n cap, .int .i64 k0] w fun e w' => e = .returned (.int .i64 (mkWrs k0 x n)) ∧ WrsAt w' ad g n (ykWr k0 x n) ∧ FrP (fun k => 0 < n ∧ k = g) w w' := by
  go_enter Tryz.func26, Tryz.ntmps26
  go_wp2
  go_loopw [1, 5] (fun t i wr => ∃ k : Nat, k ≤ n ∧ i = .int .i64 k ∧ t = .int .i64 (mkWrs k0 x k) ∧ FrP (fun k => 0 < n ∧ k = g) w wr ∧ WrsAt wr ad g n (ykWr k0 x k)) (fun _ i _ => n - (intOf i).toNat)
  case atStart => exact ⟨0, Nat.zero_le _, rfl, rfl, FrP.refl _ _, by rw [ykWr_zero]; exact hc⟩
  case round =>
    obtain ⟨k, hk, rfl, rfl, hfr, ho⟩ := hrel
    clear hc
    by_cases hkn : k < n
    · have hmo := mkWrs_mono k0 x (k := k + 1) (n := n) (by omega)
      have hm1 := mkWrs_pos k0 x k (by omega)
      have hms : mkWrs k0 x (k + 1) = mkWrs k0 x k + 6 := rfl
      have HM : Hid (mkWrs k0 x (k + 1) = mkWrs k0 x k + 6) := hms
      have hm : mkWrs k0 x k + 6 ≤ 1073741824 := by omega
      clear hmo hms
      obtain ⟨m, hme⟩ : ∃ m, mkWrs k0 x k = m := ⟨_, rfl⟩
      rw [hme] at hm1 hm HM ⊢
      have HME := hid hme
      clear hme
      obtain rfl := ho.addr (by omega)
      obtain ⟨c, r0, hat⟩ := ho.row (by omega)
      have HO := hid ho
      have HAT := hid hat
      have hfr' := hid hfr
      clear ho hat hfr
      have f0 : FrP (fun q => q = g) wr wr := FrP.refl _ _
      have q0 := r0.cell (k * 6) (by omega)
      have qf0 := r0.free
      go_wp2_with fail
      refine (markText_at _ (m + 1) (by omega) _ (by omega) (by omega)).mono ?_
      rintro e w1 ⟨rfl, b1⟩
      have r1 := (r0.set (o := k * 6) (by omega) _).below b1 (by first | exact r0.lt | (simp only [World.size_setCell]; exact r0.lt))
      have f1 := (f0.setCell (p := ⟨g, k * 6, none⟩) rfl _).trans (FrP.of_below b1)
      clear q0 qf0 r0 f0 b1
      have q1 := r1.cell (k * 6 + 1) (by omega)
      have qf1 := r1.free
      go_wp2_with fail
      refine (markText_at _ (m + 2) (by omega) _ (by omega) (by omega)).mono ?_
      rintro e w2 ⟨rfl, b2⟩
      have r2 := (r1.set (o := k * 6 + 1) (by omega) _).below b2 (by first | exact r1.lt | (simp only [World.size_setCell]; exact r1.lt))
      have f2 := (f1.setCell (p := ⟨g, k * 6 + 1, none⟩) rfl _).trans (FrP.of_below b2)
      clear q1 qf1 r1 f1 b2
      have q2 := r2.cell (k * 6 + 2) (by omega)
      have q3 := r2.cell (k * 6 + 3) (by omega)
      have qf2 := r2.free
      go_wp2_with fail
      refine (markText_at _ (m + 4) (by omega) _ (by omega) (by omega)).mono ?_
      rintro e w3 ⟨rfl, b3⟩
      have r3 := ((r2.set (o := k * 6 + 2) (by omega) _).set (o := k * 6 + 3) (by omega) _).below b3 (by first | exact r2.lt | (simp only [World.size_setCell]; exact r2.lt))
      have f3 := ((f2.setCell (p := ⟨g, k * 6 + 2, none⟩) rfl _).setCell (p := ⟨g, k * 6 + 3, none⟩) rfl _).trans (FrP.of_below b3)
      clear q2 q3 qf2 r2 f2 b3
      have q4 := r3.cell (k * 6 + 4) (by omega)
      have qf3 := r3.free
      go_wp2_with fail
      refine (markText_at _ (m + 5) (by omega) _ (by omega) (by omega)).mono ?_
      rintro e w4 ⟨rfl, b4⟩
      have r4 := (r3.set (o := k * 6 + 4) (by omega) _).below b4 (by first | exact r3.lt | (simp only [World.size_setCell]; exact r3.lt))
      have f4 := (f3.setCell (p := ⟨g, k * 6 + 4, none⟩) rfl _).trans (FrP.of_below b4)
      clear q4 qf3 r3 f3 b4
      have q5 := r4.cell (k * 6 + 5) (by omega)
      have qf4 := r4.free
      go_wp2
      go_roundw
      case rel =>
        refine ⟨k + 1, by omega, by go_num, by rw [HM.out]; apply congrArg; omega, hfr'.out.trans (FrP.mono (f4.setCell (p := ⟨g, k * 6 + 5, none⟩) rfl _) (fun q hq => ⟨by omega, hq⟩)), fun _ => rfl, fun _ => ⟨_, (r4.set (o := k * 6 + 5) (by omega) _), fun i hi => ?_⟩⟩
        by_cases e : i = k
        · subst e
          rw [ykWr_lt (Nat.lt_succ_self i), HME.out]
          refine ⟨?_, ?_, ?_, ?_, ?_, ?_⟩
          all_goals first | (simp [setF, mkWr]; done) | (simp [setF, mkWr]; omega) | (simp [setF, mkWr]; exact rem3 (by omega))
        · rw [ykWr_ne e]
          exact (atWr_set (atWr_set (atWr_set (atWr_set (atWr_set (atWr_set (HAT.out i hi) e (k := k) (by omega) (by omega) _) e (k := k) (by omega) (by omega) _) e (k := k) (by omega) (by omega) _) e (k := k) (by omega) (by omega) _) e (k := k) (by omega) (by omega) _) e (k := k) (by omega) (by omega) _)
      case measure => simp [intOf]; omega
    · have : k = n := by omega
      subst this
      have HO := hid ho
      clear ho
      go_wp2
      go_ret
      exact ⟨rfl, HO.out, hfr⟩
set_option maxRecDepth 100000 in
set_option maxHeartbeats 2000000 in
theorem heldWrs_own (ad : Option Addr) (g n : Nat) (x : Nat → Wr) (cap k0 : Nat) (w : World) (hl : (n : Int) ≤ 1048576) (hk1 : 1 ≤ (k0 : Int)) (hk2 : (mkWrs k0 x n : Int) ≤ 1073741824) (hc : WrsAt w ad g n (ykWr k0 x n)) :
    Calls Tryz.prog 28 #[.slice ad n cap, .int .i64 k0] w fun e w' => e = .returned (.int .i64 (mkWrs k0 x n)) ∧ Below w.heap.size w w' := by
  have HO := hid hc
  clear hc
  go_enter Tryz.func28, Tryz.ntmps28
  go_wp2
  go_loopw [1, 5] (fun t i wr => ∃ k : Nat, k ≤ n ∧ i = .int .i64 k ∧ t = .int .i64 (mkWrs k0 x k) ∧ Below w.heap.size w wr) (fun _ i _ => n - (intOf i).toNat)
  case atStart => exact ⟨0, Nat.zero_le _, rfl, rfl, Below.refl _ _⟩
  case round =>
    obtain ⟨k, hk, rfl, rfl, b0⟩ := hrel
    by_cases hkn : k < n
    · have hmo := mkWrs_mono k0 x (k := k + 1) (n := n) (by omega)
      have hm1 := mkWrs_pos k0 x k (by omega)
      have hms : mkWrs k0 x (k + 1) = mkWrs k0 x k + 6 := rfl
      have HM : Hid (mkWrs k0 x (k + 1) = mkWrs k0 x k + 6) := hms
      have hm : mkWrs k0 x k + 6 ≤ 1073741824 := by omega
      clear hmo hms
      have hadr := HO.out.addr (by omega)
      obtain ⟨c, rr, hat⟩ := HO.out.row (by omega)
      have hak := hat k hkn
      rw [ykWr_lt hkn] at hak
      obtain ⟨m, hme⟩ : ∃ m, mkWrs k0 x k = m := ⟨_, rfl⟩
      rw [hme] at hm1 hm HM hak ⊢
      clear hme hat
      subst hadr
      obtain ⟨a0, a1, a2, a3, a4, a5⟩ := hak
      replace a0 : c (k * 6) = .int .i64 ((m : Int)) := a0.trans (by first | (exact congrArg (Value.int .i64) (by first | rfl | (simp only [mkWr]; omega))) | (exact congrArg Value.bool (rem3 (by omega)).symm))
      replace a1 : c (k * 6 + 1) = .string (mt (m + 1)) := a1
      replace a2 : c (k * 6 + 2) = .string (mt (m + 2)) := a2
      replace a3 : c (k * 6 + 3) = .int .i64 ((m : Int) + 1 + 1 + 1) := a3.trans (by first | (exact congrArg (Value.int .i64) (by first | rfl | (simp only [mkWr]; omega))) | (exact congrArg Value.bool (rem3 (by omega)).symm))
      replace a4 : c (k * 6 + 4) = .string (mt (m + 4)) := a4
      replace a5 : c (k * 6 + 5) = .string (mt (m + 5)) := a5
      have A0 := hid a0
      have A1 := hid a1
      have A2 := hid a2
      have A3 := hid a3
      have A4 := hid a4
      have A5 := hid a5
      have RR := hid rr
      have hgw := rr.lt
      clear rr a0 a1 a2 a3 a4 a5
      have q0 := ((RR.out.below b0 hgw).cell (k * 6) (by omega)).trans (congrArg some A0.out)
      have z1 := b0.size
      have qq1 := ((RR.out.below b0 hgw).cell (k * 6 + 1) (by omega)).trans (congrArg some A1.out)
      have y1 := subcell qq1 (by show g < _; omega)
      have hne1 : Nonempty (GW wr) := ⟨⟨_, Below.refl _ _⟩⟩
      go_wp2
      refine wp_region_grow (by kernel_rfl) (by kernel_rfl) ?_
      repeat (go_big_quiet_step ((go_at_call 38; go_must (exact grow_of (markText_at _ (m + 1) (by omega) _ (by omega) (by omega))))))
      refine wpQuiet_nil ?_
      rintro w1 ⟨u, hu⟩
      have c1 : Below wr.heap.size wr w1 := hu ▸ u.prop
      have b1 := b0.trans (c1.mono (by omega))
      clear hu u hne1 qq1 y1 c1 q0
      have z2 := b1.size
      have qq2 := ((RR.out.below b1 hgw).cell (k * 6 + 2) (by omega)).trans (congrArg some A2.out)
      have y2 := subcell qq2 (by show g < _; omega)
      have hne2 : Nonempty (GW w1) := ⟨⟨_, Below.refl _ _⟩⟩
      go_wp2
      refine wp_region_grow (by kernel_rfl) (by kernel_rfl) ?_
      repeat (go_big_quiet_step ((go_at_call 38; go_must (exact grow_of (markText_at _ (m + 2) (by omega) _ (by omega) (by omega))))))
      refine wpQuiet_nil ?_
      rintro w2 ⟨u, hu⟩
      have c2 : Below w1.heap.size w1 w2 := hu ▸ u.prop
      have b2 := b1.trans (c2.mono (by omega))
      clear hu u hne2 qq2 y2 c2 
      have q3 := ((RR.out.below b2 hgw).cell (k * 6 + 3) (by omega)).trans (congrArg some A3.out)
      have z3 := b2.size
      have qq4 := ((RR.out.below b2 hgw).cell (k * 6 + 4) (by omega)).trans (congrArg some A4.out)
      have y4 := subcell qq4 (by show g < _; omega)
      have hne3 : Nonempty (GW w2) := ⟨⟨_, Below.refl _ _⟩⟩
      go_wp2
      refine wp_region_grow (by kernel_rfl) (by kernel_rfl) ?_
      repeat (go_big_quiet_step ((go_at_call 38; go_must (exact grow_of (markText_at _ (m + 4) (by omega) _ (by omega) (by omega))))))
      refine wpQuiet_nil ?_
      rintro w3 ⟨u, hu⟩
      have c3 : Below w2.heap.size w2 w3 := hu ▸ u.prop
      have b3 := b2.trans (c3.mono (by omega))
      clear hu u hne3 qq4 y4 c3 q3
      have z4 := b3.size
      have qq5 := ((RR.out.below b3 hgw).cell (k * 6 + 5) (by omega)).trans (congrArg some A5.out)
      have y5 := subcell qq5 (by show g < _; omega)
      have hne4 : Nonempty (GW w3) := ⟨⟨_, Below.refl _ _⟩⟩
      go_wp2
      refine wp_region_grow (by kernel_rfl) (by kernel_rfl) ?_
      repeat (go_big_quiet_step ((go_at_call 38; go_must (exact grow_of (markText_at _ (m + 5) (by omega) _ (by omega) (by omega))))))
      refine wpQuiet_nil ?_
      rintro w4 ⟨u, hu⟩
      have c4 : Below w3.heap.size w3 w4 := hu ▸ u.prop
      have b4 := b3.trans (c4.mono (by omega))
      clear hu u hne4 qq5 y5 c4 
      go_wp2
      go_roundw
      case rel => exact ⟨k + 1, by omega, by go_num, by rw [HM.out]; apply congrArg; omega, b4⟩
      case measure => simp [intOf]; omega
    · have : k = n := by omega
      subst this
      go_wp2
      go_ret
      exact ⟨rfl, b0⟩
end Go.Proofs.YtcmimbohmninkaaGreatDoor
