import Derived.Test.YtjepponnhieocaaB
namespace Go.Proofs.Ytjepponnhieocaa
open Go.RowKit
/-- a slot -/
structure Sl where
  bal : Int
  text : ByteArray
structure SlCells (w : World) (b o : Nat) (x : Sl) : Prop where
  c0 : w.cell? ⟨b, o, none⟩ = some (.int .i64 x.bal)
  c1 : w.cell? ⟨b, o + 1, none⟩ = some (.string x.text)
def SlsIn (w : World) (lo hi : Nat) (ad : Option Addr) (n : Nat) (x : Nat → Sl) : Prop :=
  ∀ i, i < n → ∃ b off, ad = some ⟨b, off, none⟩ ∧ lo ≤ b ∧ b < hi ∧ SlCells w b (off + i * 2) (x i)
structure SlFit (x : Sl) : Prop where
  t : (x.text.size : Int) ≤ 140737488355328
def szSl (c : Sl) : Nat := c.text.size
abbrev slV (x : Sl) : Value := .agg #[.int .i64 x.bal, .string x.text]
theorem SlCells.below {w w' : World} {B b o : Nat} {x : Sl} (h : SlCells w b o x) (hb : Below B w w') (hB : b < B) : SlCells w' b o x :=
  ⟨(hb.cell (p := ⟨b, o, none⟩) hB).trans h.c0, (hb.cell (p := ⟨b, o + 1, none⟩) hB).trans h.c1⟩
theorem SlsIn.below {w w' : World} {B lo hi : Nat} {ad : Option Addr} {n : Nat} {x : Nat → Sl} (h : SlsIn w lo hi ad n x) (hb : Below B w w') (hB : hi ≤ B) : SlsIn w' lo hi ad n x := fun i hi' => by
  obtain ⟨b, off, e1, e2, e3, e4⟩ := h i hi'
  exact ⟨b, off, e1, e2, e3, e4.below hb (by omega)⟩
theorem SlsIn.mono {w : World} {lo hi lo2 hi2 : Nat} {ad : Option Addr} {n : Nat} {x : Nat → Sl} (h : SlsIn w lo hi ad n x) (h1 : lo2 ≤ lo) (h2 : hi ≤ hi2) : SlsIn w lo2 hi2 ad n x := fun i hi' => by
  obtain ⟨b, off, e1, e2, e3, e4⟩ := h i hi'
  exact ⟨b, off, e1, by omega, by omega, e4⟩
theorem SlsIn.drewN {w : World} {lo hi : Nat} {ad : Option Addr} {n : Nat} {x : Nat → Sl} (h : SlsIn w lo hi ad n x) (q : Nat) : SlsIn (w.drewN q) lo hi ad n x := h.below (B := hi) ⟨rfl, rfl, rfl, Nat.le_refl _, fun _ _ => rfl⟩ (Nat.le_refl _)
set_option maxRecDepth 100000 in
set_option maxHeartbeats 1000000 in
theorem szSl_any (x : Sl) (left : Int) (w : World) (h0 : 0 ≤ left) (h1 : left ≤ 1048576) (hf : SlFit x) :
    Calls Try.prog 105 #[slV x, .int .i64 left] w fun e w' => e = .returned (.int .i64 (szOut left (szSl x))) ∧ Below w.heap.size w w' := by
  obtain ⟨f1⟩ := hf
  unfold szSl
  go_enter Try.func105, Try.ntmps105
  go_wp2
  · go_ret
    exact ⟨ret_int (szOut_no (by omega)).symm, (Below.refl _ _).alloc (Nat.le_refl _) _⟩
  · go_ret
    exact ⟨ret_int (by rw [szOut_yes (by omega)]), (Below.refl _ _).alloc (Nat.le_refl _) _⟩
def szSls (n : Nat) (x : Nat → Sl) : Nat := n + sumTo (fun i => szSl (x i)) n
set_option maxRecDepth 100000 in
set_option maxHeartbeats 1000000 in
theorem szSls_any (n : Nat) (x : Nat → Sl) (ad : Option Addr) (cap : Nat) (left : Int) (w : World) (lo hi : Nat) (hhi : hi ≤ w.heap.size) (hl : (n : Int) ≤ 8796093022208) (h0 : 0 ≤ left) (h1 : left ≤ 1048576) (hf : ∀ i, i < n → SlFit (x i))
    (hc : SlsIn w lo hi ad n x) :
    Calls Try.prog 63 #[.slice ad n cap, .int .i64 left] w fun e w' => e = .returned (.int .i64 (szOut left (szSls n x))) ∧ Below w.heap.size w w' := by
  by_cases hlt : left - n < 0
  · go_enter Try.func63, Try.ntmps63
    go_wp2
    go_ret
    exact ⟨ret_int (szOut_no (by unfold szSls; omega)).symm, Below.refl _ _⟩
  · go_enter Try.func63, Try.ntmps63
    go_wp2
    go_loopw [1, 5] (fun t i wr => ∃ k : Nat, k ≤ n ∧ i = .int .i64 k ∧ t = .int .i64 (left - n - (sumTo (fun i => szSl (x i)) k : Nat)) ∧ 0 ≤ left - n - (sumTo (fun i => szSl (x i)) k : Nat) ∧ Below w.heap.size w wr) (fun _ i _ => n - (intOf i).toNat)
    case atStart => exact ⟨0, Nat.zero_le _, rfl, by simp [sumTo], by simp [sumTo]; omega, Below.refl _ _⟩
    case round =>
      obtain ⟨k, hk, rfl, rfl, hnn, hb⟩ := hrel
      have hst : sumTo (fun i => szSl (x i)) (k+1) = sumTo (fun i => szSl (x i)) k + szSl (x k) := rfl
      have hmo : k < n → sumTo (fun i => szSl (x i)) (k+1) ≤ sumTo (fun i => szSl (x i)) n := fun h => sumTo_mono _ h
      generalize hq : sumTo (fun i => szSl (x i)) k = q at *
      generalize hq1 : sumTo (fun i => szSl (x i)) (k+1) = q1 at *
      by_cases hkn : k < n
      · obtain ⟨b, off, rfl, hlo, hbh, hcx⟩ := hc k hkn
        have hmo := hmo hkn
        have hfk := hf k hkn
        have HS : Hid (q1 = q + szSl (x k)) := hst
        have HQ : Hid (sumTo (fun i => szSl (x i)) (k+1) = q1) := hq1
        clear hst hq hq1 hc hf
        have hcell : ∀ j, wr.cell? ⟨b, off + k * 2 + j, none⟩ = w.cell? ⟨b, off + k * 2 + j, none⟩ := fun j => hb.cell (p := ⟨b, off + k * 2 + j, none⟩) (by show b < _; omega)
        have hcell0 : wr.cell? ⟨b, off + k * 2, none⟩ = w.cell? ⟨b, off + k * 2, none⟩ := hb.cell (p := ⟨b, off + k * 2, none⟩) (by show b < _; omega)
        obtain ⟨d0, d1⟩ := hcx
        rw [← hcell] at d1
        rw [← hcell0] at d0
        clear hcell hcell0
        generalize x k = y at *
        clear hmo
        rename_i hmo
        go_wp2_with (go_at_call 105; refine (szSl_any y _ wr (by omega) (by omega) hfk).mono ?_; rintro e w1 ⟨rfl, hb1⟩)
        · go_ret
          refine ⟨ret_int (szOut_no ?_).symm, hb.trans (hb1.mono hb.size)⟩
          have := HS.out
          have := szOut_lt (by assumption)
          have := hmo hkn
          unfold szSls; omega
        · have hs := HS.out
          obtain ⟨g1, g2⟩ := szOut_ge (by assumption)
          go_roundw
          case rel => exact ⟨k + 1, by omega, by go_num, by rw [HQ.out, g2]; apply congrArg; omega, by rw [HQ.out]; omega, hb.trans (hb1.mono hb.size)⟩
          case measure => simp [intOf]; omega
      · have : k = n := by omega
        subst this
        clear hc hf hst hmo hq1
        have HQ : Hid (sumTo (fun i => szSl (x i)) k = q) := hq
        clear hq
        go_wp2
        go_ret
        refine ⟨ret_int ?_, hb⟩
        have := HQ.out
        rw [szOut_yes (by unfold szSls; omega)]
        unfold szSls; omega
theorem Try.info100 : (Try.prog.info? 100).map (fun i => (i.zero, i.size, i.bytes)) = some (some (.agg #[.int .i64 0, .string ByteArray.empty]), 2, 24) := by kernel_rfl
set_option maxRecDepth 100000 in
set_option maxHeartbeats 1000000 in
theorem toSl_any (x : Sl) (w : World) :
    Calls Try.prog 107 #[slV x] w fun e w' => e = .returned (slV x) ∧ Below w.heap.size w w' := by
  go_enter Try.func107, Try.ntmps107
  go_wp2
  refine bodyPost_ret (v := slV x) (by simp [results, Try.results107, go_sem]) rfl ⟨rfl, ?_⟩
  exact ((((Below.refl _ _).alloc (Nat.le_refl _) _).alloc (by simp) _).alloc (by simp; omega) _)
structure SlsOwnAt (w : World) (g n m : Nat) (x : Nat → Sl) : Prop where
  room : Room w g (m * 2)
  at_ : ∀ i, i < n → SlCells w g (i * 2) (x i)
theorem SlsOwnAt.step {wr w1 : World} {g k n : Nat} {x : Nat → Sl} (h : SlsOwnAt wr g k n x) (hk : k < n) (hb : Below wr.heap.size wr w1) :
    SlsOwnAt (w1.setCells g (k * 2) [.int .i64 (x k).bal, .string (x k).text]) g (k + 1) n x := by
  have hg := h.room.lt
  have hR := h.room.below hb hg
  generalize hvs : [Value.int .i64 (x k).bal, .string (x k).text] = vs
  have hlen : vs.length = 2 := by rw [← hvs]; rfl
  have hin := World.cell?_setCells_in g vs (k * 2) w1 (fun j hj => by
    obtain ⟨u, hu⟩ := hR.has (k * 2 + j) (by omega)
    rw [hu]; rfl)
  refine ⟨hR.setCells vs (by omega), fun i hi => ?_⟩
  by_cases e : i < k
  · have c := (h.at_ i e).below hb hg
    have ee : ∀ j, j < 2 → (w1.setCells g (k * 2) vs).cell? ⟨g, i * 2 + j, none⟩ = w1.cell? ⟨g, i * 2 + j, none⟩ := fun j hj => World.cell?_setCells_out g vs (k * 2) w1 _ (fun _ _ => Or.inl (by show i * 2 + j < k * 2; omega))
    exact ⟨(ee 0 (by omega)).trans c.c0, (ee 1 (by omega)).trans c.c1⟩
  · have : i = k := by omega
    subst this
    have f := fun j (hj : j < 2) => hin j (by omega)
    have f0 := f 0 (by omega); have f1 := f 1 (by omega)
    subst hvs
    exact ⟨f0, f1⟩
set_option maxRecDepth 100000 in
set_option maxHeartbeats 1000000 in
theorem toSls_any (n : Nat) (x : Nat → Sl) (ad : Option Addr) (cap : Nat) (w : World) (lo hi : Nat) (hhi : hi ≤ w.heap.size) (hl : (n : Int) ≤ 1099511627776) (hc : SlsIn w lo hi ad n x) :
    Calls Try.prog 68 #[.slice ad n cap] w fun e w' => e = .returned (.slice (some ⟨w.heap.size, 0, none⟩) n n) ∧ SlsOwnAt w' w.heap.size n n x ∧ Below w.heap.size w w' := by
  obtain ⟨i0, hi0, hz0, hz1, hz2⟩ := info_parts Try.info100
  go_enter Try.func68, Try.ntmps68
  go_wp2_with (first
    | (at_make; refine wpList_make_full _ rfl _ _ 53 rfl w.heap.size 100 i0 _ 2 Try.underlying53 hi0 hz0 hz1 .i64 .i64 _ _ n rfl rfl (by omega) (by omega) (by rw [hz2]; omega) (by unfold maxLen; omega) (by omega) ?_; intro w1 hown1 hgrow1)
    )
  have r1 : SlsOwnAt w1 w.heap.size 0 n x := ⟨room_made hown1, fun _ h => absurd h (Nat.not_lt_zero _)⟩
  have hb1 : Below w.heap.size w w1 := (Below.refl _ _).grown hgrow1 (Nat.le_refl _) (by simp)
  clear hown1 hgrow1 hi0 hz0 hz1 hz2
  go_loopw [4] (fun i wr => ∃ k : Nat, k ≤ n ∧ i = .int .i64 k ∧ Below w.heap.size w wr ∧ SlsOwnAt wr w.heap.size k n x) (fun i _ => n - (intOf i).toNat)
  case atStart => exact ⟨0, Nat.zero_le _, rfl, hb1, r1⟩
  case round =>
    obtain ⟨k, hk, rfl, hb, ho⟩ := hrel
    clear r1 hb1
    by_cases hkn : k < n
    · obtain ⟨b, off, rfl, hlo, hbh, hcx⟩ := hc k hkn
      obtain ⟨d0, d1⟩ := hcx.below hb (by omega)
      clear hc hcx
      have HO := hid ho
      have hrm := ho.room
      clear ho
      go_wp2_with (fail)
      refine (toSl_any (x k) wr).mono ?_
      rintro e w1 ⟨rfl, hb1⟩
      have R := HO.out.step hkn hb1
      have HR := hid R
      have HB := hid ((hb.trans (hb1.mono hb.size)).trans ((fr_setCells w.heap.size [Value.int .i64 (x k).bal, .string (x k).text] (k * 2) w1).below (Nat.le_refl _) (hb.trans (hb1.mono hb.size)).size))
      have hrm1 := hrm.below hb1 hrm.lt
      obtain ⟨_, q0⟩ := hrm1.has (k * 2) (by omega)
      obtain ⟨_, q1⟩ := hrm1.has (k * 2 + 1) (by omega)
      have qf := hrm1.free
      clear hrm hrm1 R HO d0 d1
      go_wp2
      go_roundw
      case rel => exact ⟨k + 1, by omega, by go_num, HB.out, HR.out⟩
      case measure => simp [intOf]; omega
    · have : k = n := by omega
      subst this
      have HO := hid ho
      clear hc ho
      go_wp2
      go_ret
      exact ⟨rfl, HO.out, hb⟩
theorem SlsOwnAt.fr {w w' : World} {g n m lo2 hi2 : Nat} {x : Nat → Sl} (h : SlsOwnAt w g n m x) (hb : Fr lo2 hi2 w w') (ho : g < lo2 ∨ hi2 ≤ g) : SlsOwnAt w' g n m x := by
  have hc : ∀ j, w'.cell? ⟨g, j, none⟩ = w.cell? ⟨g, j, none⟩ := fun j => hb.cell (p := ⟨g, j, none⟩) h.room.lt ho
  refine ⟨⟨fun j hj => ?_, fun j => (hb.frozen (p := ⟨g, j, none⟩) h.room.lt ho).trans (h.room.free j), Nat.lt_of_lt_of_le h.room.lt hb.size⟩, fun i hi' => ?_⟩
  · obtain ⟨u, hu⟩ := h.room.has j hj; exact ⟨u, (hc j).trans hu⟩
  · have c := h.at_ i hi'
    exact ⟨(hc _).trans c.c0, (hc _).trans c.c1⟩
theorem SlsOwnAt.isIn {w : World} {g n : Nat} {x : Nat → Sl} (h : SlsOwnAt w g n n x) {lo hi2 : Nat} (hlo : lo ≤ g) (hh : g < hi2) : SlsIn w lo hi2 (some ⟨g, 0, none⟩) n x := fun i hi' =>
  ⟨g, 0, rfl, hlo, hh, by rw [Nat.zero_add]; exact h.at_ i hi'⟩
/-- n slots of the call's own, in a block of lo .. hi -/
def SlsOwn (w : World) (lo hi : Nat) (ad : Option Addr) (n : Nat) (x : Nat → Sl) : Prop := ∃ g, ad = some ⟨g, 0, none⟩ ∧ lo ≤ g ∧ g < hi ∧ SlsOwnAt w g n n x
theorem SlsOwn.fr {w w' : World} {lo hi lo2 hi2 : Nat} {ad : Option Addr} {n : Nat} {x : Nat → Sl} (h : SlsOwn w lo hi ad n x) (hb : Fr lo2 hi2 w w') (ho : hi ≤ lo2 ∨ hi2 ≤ lo) : SlsOwn w' lo hi ad n x := by
  obtain ⟨g, e1, e2, e3, e4⟩ := h
  exact ⟨g, e1, e2, e3, e4.fr hb (by omega)⟩
theorem SlsOwn.mono {w : World} {lo hi lo2 hi2 : Nat} {ad : Option Addr} {n : Nat} {x : Nat → Sl} (h : SlsOwn w lo hi ad n x) (h1 : lo2 ≤ lo) (h2 : hi ≤ hi2) : SlsOwn w lo2 hi2 ad n x := by
  obtain ⟨g, e1, e2, e3, e4⟩ := h
  exact ⟨g, e1, by omega, by omega, e4⟩
theorem SlsOwn.isIn {w : World} {lo hi : Nat} {ad : Option Addr} {n : Nat} {x : Nat → Sl} (h : SlsOwn w lo hi ad n x) : SlsIn w lo hi ad n x := by
  obtain ⟨g, rfl, e2, e3, e4⟩ := h
  exact e4.isIn e2 e3
set_option maxRecDepth 100000 in
set_option maxHeartbeats 1000000 in
theorem eqSl_any (x : Sl) (w : World) :
    Calls Try.prog 117 #[slV x, slV x] w fun e w' => e = .returned (.bool true) ∧ Below w.heap.size w w' := by
  go_enter Try.func117, Try.ntmps117
  go_wp2
  go_ret
  exact ⟨rfl, ((below_alloc _ _).alloc (by simp) _)⟩
set_option maxRecDepth 100000 in
set_option maxHeartbeats 1000000 in
theorem eqSls_any (n : Nat) (x : Nat → Sl) (ad ad2 : Option Addr) (cap cap2 : Nat) (w : World) (lo hi lo2 hi2 : Nat) (hh : hi ≤ w.heap.size) (hh2 : hi2 ≤ w.heap.size) (hl : (n : Int) ≤ 140737488355328)
    (hc : SlsIn w lo hi ad n x) (hc2 : SlsIn w lo2 hi2 ad2 n x) :
    Calls Try.prog 73 #[.slice ad n cap, .slice ad2 n cap2] w fun e w' => e = .returned (.bool true) ∧ Below w.heap.size w w' := by
  go_enter Try.func73, Try.ntmps73
  go_wp2
  go_loopw [5] (fun i wr => ∃ k : Nat, k ≤ n ∧ i = .int .i64 k ∧ Below w.heap.size w wr) (fun i _ => n - (intOf i).toNat)
  case atStart => exact ⟨0, Nat.zero_le _, rfl, Below.refl _ _⟩
  case round =>
    obtain ⟨k, hk, rfl, hb⟩ := hrel
    by_cases hkn : k < n
    · obtain ⟨b, off, rfl, hlo, hbh, hcx⟩ := hc k hkn
      obtain ⟨b2, off2, rfl, hlo2, hbh2, hcx2⟩ := hc2 k hkn
      obtain ⟨d0, d1⟩ := hcx.below hb (by omega)
      obtain ⟨e0, e1⟩ := hcx2.below hb (by omega)
      clear hc hc2 hcx hcx2
      generalize x k = y at *
      go_wp2
      go_region_with (go_at_call 117; refine (eqSl_any y _).mono ?_; rintro e w1 ⟨rfl, hb1⟩)
      all_goals
        go_wp2
        go_roundw
        case rel => exact ⟨k + 1, by omega, by go_num, hb.drew.trans (hb1.mono hb.size)⟩
        case measure => simp [intOf]; omega
    · have : k = n := by omega
      subst this
      clear hc hc2
      go_wp2
      go_ret
      exact ⟨rfl, hb⟩
end Go.Proofs.Ytjepponnhieocaa
