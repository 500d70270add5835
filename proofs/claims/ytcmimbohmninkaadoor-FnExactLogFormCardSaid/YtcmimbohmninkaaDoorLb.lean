import Derived.Test.YtcmimbohmninkaaDoorBa
namespace Go.Proofs.YtcmimbohmninkaaDoor
open Go.RowKit
structure WrCells (w : World) (b o : Nat) (x : Wr) : Prop where
  c0 : w.cell? ⟨b, o, none⟩ = some (.int .i64 x.op)
  c1 : w.cell? ⟨b, o + 1, none⟩ = some (.string x.kind)
  c2 : w.cell? ⟨b, o + 2, none⟩ = some (.string x.name)
  c3 : w.cell? ⟨b, o + 3, none⟩ = some (.int .i64 x.seen)
  c4 : w.cell? ⟨b, o + 4, none⟩ = some (.string x.text)
  c5 : w.cell? ⟨b, o + 5, none⟩ = some (.string x.hold)
def WrsIn (w : World) (lo hi : Nat) (ad : Option Addr) (n : Nat) (x : Nat → Wr) : Prop :=
  ∀ i, i < n → ∃ b off, ad = some ⟨b, off, none⟩ ∧ lo ≤ b ∧ b < hi ∧ WrCells w b (off + i * 6) (x i)
def szWr (c : Wr) : Nat := c.kind.size + c.name.size + c.text.size + c.hold.size
abbrev wrV (x : Wr) : Value := .agg #[.int .i64 x.op, .string x.kind, .string x.name, .int .i64 x.seen, .string x.text, .string x.hold]
theorem WrCells.below {w w' : World} {B b o : Nat} {x : Wr} (h : WrCells w b o x) (hb : Below B w w') (hB : b < B) : WrCells w' b o x :=
  ⟨(hb.cell (p := ⟨b, o, none⟩) hB).trans h.c0, (hb.cell (p := ⟨b, o + 1, none⟩) hB).trans h.c1, (hb.cell (p := ⟨b, o + 2, none⟩) hB).trans h.c2, (hb.cell (p := ⟨b, o + 3, none⟩) hB).trans h.c3, (hb.cell (p := ⟨b, o + 4, none⟩) hB).trans h.c4, (hb.cell (p := ⟨b, o + 5, none⟩) hB).trans h.c5⟩
theorem WrsIn.below {w w' : World} {B lo hi : Nat} {ad : Option Addr} {n : Nat} {x : Nat → Wr} (h : WrsIn w lo hi ad n x) (hb : Below B w w') (hB : hi ≤ B) : WrsIn w' lo hi ad n x := fun i hi' => by
  obtain ⟨b, off, e1, e2, e3, e4⟩ := h i hi'
  exact ⟨b, off, e1, e2, e3, e4.below hb (by omega)⟩
theorem WrsIn.mono {w : World} {lo hi lo2 hi2 : Nat} {ad : Option Addr} {n : Nat} {x : Nat → Wr} (h : WrsIn w lo hi ad n x) (h1 : lo2 ≤ lo) (h2 : hi ≤ hi2) : WrsIn w lo2 hi2 ad n x := fun i hi' => by
  obtain ⟨b, off, e1, e2, e3, e4⟩ := h i hi'
  exact ⟨b, off, e1, by omega, by omega, e4⟩
set_option maxRecDepth 100000 in
set_option maxHeartbeats 1000000 in
theorem szWr_any (x : Wr) (left : Int) (w : World) (h0 : 0 ≤ left) (h1 : left ≤ 1048576) (hf : WrFit x) :
    Calls Tryd.prog 29 #[wrV x, .int .i64 left] w fun e w' => e = .returned (.int .i64 (szOut left (szWr x))) ∧ Below w.heap.size w w' := by
  obtain ⟨f0, f1, f2, f3⟩ := hf
  unfold szWr
  go_enter Tryd.func29, Tryd.ntmps29
  go_wp2
  all_goals go_ret
  all_goals first
    | exact ⟨ret_int (szOut_no (by omega)).symm, (Below.refl _ _).alloc (Nat.le_refl _) _⟩
    | exact ⟨ret_int ((szOut_yes (by omega)).trans (by omega)).symm, (Below.refl _ _).alloc (Nat.le_refl _) _⟩
def szWrs (n : Nat) (x : Nat → Wr) : Nat := n + sumTo (fun i => szWr (x i)) n
set_option maxRecDepth 100000 in
set_option maxHeartbeats 1000000 in
theorem szWrs_any (n : Nat) (x : Nat → Wr) (ad : Option Addr) (cap : Nat) (left : Int) (w : World) (lo hi : Nat) (hhi : hi ≤ w.heap.size) (hl : (n : Int) ≤ 8796093022208) (h0 : 0 ≤ left) (h1 : left ≤ 1048576) (hf : ∀ i, i < n → WrFit (x i))
    (hc : WrsIn w lo hi ad n x) :
    Calls Tryd.prog 17 #[.slice ad n cap, .int .i64 left] w fun e w' => e = .returned (.int .i64 (szOut left (szWrs n x))) ∧ Below w.heap.size w w' := by
  by_cases hlt : left - n < 0
  · go_enter Tryd.func17, Tryd.ntmps17
    go_wp2
    go_ret
    exact ⟨ret_int (szOut_no (by unfold szWrs; omega)).symm, Below.refl _ _⟩
  · go_enter Tryd.func17, Tryd.ntmps17
    go_wp2
    go_loopw [1, 5] (fun t i wr => ∃ k : Nat, k ≤ n ∧ i = .int .i64 k ∧ t = .int .i64 (left - n - (sumTo (fun i => szWr (x i)) k : Nat)) ∧ 0 ≤ left - n - (sumTo (fun i => szWr (x i)) k : Nat) ∧ Below w.heap.size w wr) (fun _ i _ => n - (intOf i).toNat)
    case atStart => exact ⟨0, Nat.zero_le _, rfl, by simp [sumTo], by simp [sumTo]; omega, Below.refl _ _⟩
    case round =>
      obtain ⟨k, hk, rfl, rfl, hnn, hb⟩ := hrel
      have hst : sumTo (fun i => szWr (x i)) (k+1) = sumTo (fun i => szWr (x i)) k + szWr (x k) := rfl
      have hmo : k < n → sumTo (fun i => szWr (x i)) (k+1) ≤ sumTo (fun i => szWr (x i)) n := fun h => sumTo_mono _ h
      generalize hq : sumTo (fun i => szWr (x i)) k = q at *
      generalize hq1 : sumTo (fun i => szWr (x i)) (k+1) = q1 at *
      by_cases hkn : k < n
      · obtain ⟨b, off, rfl, hlo, hbh, hcx⟩ := hc k hkn
        have HMO := hid (hmo hkn)
        have hfk := hf k hkn
        have HS : Hid (q1 = q + szWr (x k)) := hst
        have HQ : Hid (sumTo (fun i => szWr (x i)) (k+1) = q1) := hq1
        clear hst hq hq1 hc hf
        obtain ⟨d0, d1, d2, d3, d4, d5⟩ := hcx.below hb (by omega)
        clear hcx
        generalize x k = y at *
        clear hmo
        go_wp2_with (go_at_call 29; refine (szWr_any y _ wr (by omega) (by omega) hfk).mono ?_; rintro e w1 ⟨rfl, hb1⟩)
        · go_ret
          refine ⟨ret_int (szOut_no ?_).symm, hb.trans (hb1.mono hb.size)⟩
          have := HS.out
          have := szOut_lt (by assumption)
          have := HMO.out
          unfold szWrs; omega
        · have hs := HS.out
          obtain ⟨g1, g2⟩ := szOut_ge (by assumption)
          go_roundw
          case rel => exact ⟨k + 1, by omega, by go_num, by rw [HQ.out, g2]; apply congrArg; omega, by rw [HQ.out]; omega, hb.trans (hb1.mono hb.size)⟩
          case measure => simp [intOf]; omega
      · have : k = n := by omega
        subst this
        clear hc hf hst hmo hq1
        have HQ : Hid (sumTo (fun i => szWr (x i)) k = q) := hq
        clear hq
        go_wp2
        go_ret
        refine ⟨ret_int ?_, hb⟩
        have := HQ.out
        rw [szOut_yes (by unfold szWrs; omega)]
        unfold szWrs; omega
theorem Tryd.info42 : (Tryd.prog.info? 42).map (fun i => (i.zero, i.size, i.bytes)) = some (some (.agg #[.int .i64 0, .string ByteArray.empty, .string ByteArray.empty, .int .i64 0, .string ByteArray.empty, .string ByteArray.empty]), 6, 80) := by kernel_rfl
set_option maxRecDepth 100000 in
set_option maxHeartbeats 1000000 in
theorem toWr_any (x : Wr) (w : World) :
    Calls Tryd.prog 31 #[wrV x] w fun e w' => e = .returned (wrV x) ∧ Below w.heap.size w w' := by
  go_enter Tryd.func31, Tryd.ntmps31
  go_wp2
  refine bodyPost_ret (v := wrV x) (by simp [results, Tryd.results31, go_sem]) rfl ⟨rfl, ?_⟩
  exact ((((Below.refl _ _).alloc (Nat.le_refl _) _).alloc (by simp) _).alloc (by simp; omega) _)
structure WrsOwnAt (w : World) (g n m : Nat) (x : Nat → Wr) : Prop where
  room : Room w g (m * 6)
  at_ : ∀ i, i < n → WrCells w g (i * 6) (x i)
theorem WrsOwnAt.step {wr w1 : World} {g k n : Nat} {x : Nat → Wr} (h : WrsOwnAt wr g k n x) (hk : k < n) (hb : Below wr.heap.size wr w1) :
    WrsOwnAt (w1.setCells g (k * 6) [.int .i64 (x k).op, .string (x k).kind, .string (x k).name, .int .i64 (x k).seen, .string (x k).text, .string (x k).hold]) g (k + 1) n x := by
  have hg := h.room.lt
  have hR := h.room.below hb hg
  generalize hvs : [Value.int .i64 (x k).op, .string (x k).kind, .string (x k).name, .int .i64 (x k).seen, .string (x k).text, .string (x k).hold] = vs
  have hlen : vs.length = 6 := by rw [← hvs]; rfl
  have hin := World.cell?_setCells_in g vs (k * 6) w1 (fun j hj => by
    obtain ⟨u, hu⟩ := hR.has (k * 6 + j) (by omega)
    rw [hu]; rfl)
  refine ⟨hR.setCells vs (by omega), fun i hi => ?_⟩
  by_cases e : i < k
  · have c := (h.at_ i e).below hb hg
    have ee : ∀ j, j < 6 → (w1.setCells g (k * 6) vs).cell? ⟨g, i * 6 + j, none⟩ = w1.cell? ⟨g, i * 6 + j, none⟩ := fun j hj => World.cell?_setCells_out g vs (k * 6) w1 _ (fun _ _ => Or.inl (by show i * 6 + j < k * 6; omega))
    exact ⟨(ee 0 (by omega)).trans c.c0, (ee 1 (by omega)).trans c.c1, (ee 2 (by omega)).trans c.c2, (ee 3 (by omega)).trans c.c3, (ee 4 (by omega)).trans c.c4, (ee 5 (by omega)).trans c.c5⟩
  · have : i = k := by omega
    subst this
    have f := fun j (hj : j < 6) => hin j (by omega)
    have f0 := f 0 (by omega); have f1 := f 1 (by omega); have f2 := f 2 (by omega); have f3 := f 3 (by omega); have f4 := f 4 (by omega); have f5 := f 5 (by omega)
    subst hvs
    exact ⟨f0, f1, f2, f3, f4, f5⟩
set_option maxRecDepth 100000 in
set_option maxHeartbeats 2000000 in
theorem toWrs_any (n : Nat) (x : Nat → Wr) (ad : Option Addr) (cap : Nat) (w : World) (lo hi : Nat) (hhi : hi ≤ w.heap.size) (hl : (n : Int) ≤ 1099511627776) (hc : WrsIn w lo hi ad n x) :
    Calls Tryd.prog 22 #[.slice ad n cap] w fun e w' => e = .returned (.slice (some ⟨w.heap.size, 0, none⟩) n n) ∧ WrsOwnAt w' w.heap.size n n x ∧ Below w.heap.size w w' := by
  obtain ⟨i0, hi0, hz0, hz1, hz2⟩ := info_parts Tryd.info42
  go_enter Tryd.func22, Tryd.ntmps22
  go_wp2_with (first
    | (at_make; refine wpList_make_full _ rfl _ _ 31 rfl w.heap.size 42 i0 _ 6 Tryd.underlying31 hi0 hz0 hz1 .i64 .i64 _ _ n rfl rfl (by omega) (by omega) (by rw [hz2]; omega) (by unfold maxLen; omega) (by omega) ?_; intro w1 hown1 hgrow1)
    )
  have r1 : WrsOwnAt w1 w.heap.size 0 n x := ⟨room_made hown1, fun _ h => absurd h (Nat.not_lt_zero _)⟩
  have hb1 : Below w.heap.size w w1 := (Below.refl _ _).grown hgrow1 (Nat.le_refl _) (by simp)
  clear hown1 hgrow1 hi0 hz0 hz1 hz2
  go_loopw [4] (fun i wr => ∃ k : Nat, k ≤ n ∧ i = .int .i64 k ∧ Below w.heap.size w wr ∧ WrsOwnAt wr w.heap.size k n x) (fun i _ => n - (intOf i).toNat)
  case atStart => exact ⟨0, Nat.zero_le _, rfl, hb1, r1⟩
  case round =>
    obtain ⟨k, hk, rfl, hb, ho⟩ := hrel
    clear r1 hb1
    by_cases hkn : k < n
    · obtain ⟨b, off, rfl, hlo, hbh, hcx⟩ := hc k hkn
      obtain ⟨d0, d1, d2, d3, d4, d5⟩ := hcx.below hb (by omega)
      clear hc hcx
      have HO := hid ho
      have hrm := ho.room
      clear ho
      go_wp2_with (fail)
      refine (toWr_any (x k) wr).mono ?_
      rintro e w1 ⟨rfl, hb1⟩
      have R := HO.out.step hkn hb1
      have HR := hid R
      have HB := hid ((hb.trans (hb1.mono hb.size)).trans ((fr_setCells w.heap.size [Value.int .i64 (x k).op, .string (x k).kind, .string (x k).name, .int .i64 (x k).seen, .string (x k).text, .string (x k).hold] (k * 6) w1).below (Nat.le_refl _) (hb.trans (hb1.mono hb.size)).size))
      have hrm1 := hrm.below hb1 hrm.lt
      obtain ⟨_, q0⟩ := hrm1.has (k * 6) (by omega)
      obtain ⟨_, q1⟩ := hrm1.has (k * 6 + 1) (by omega)
      obtain ⟨_, q2⟩ := hrm1.has (k * 6 + 2) (by omega)
      obtain ⟨_, q3⟩ := hrm1.has (k * 6 + 3) (by omega)
      obtain ⟨_, q4⟩ := hrm1.has (k * 6 + 4) (by omega)
      obtain ⟨_, q5⟩ := hrm1.has (k * 6 + 5) (by omega)
      have qf := hrm1.free
      clear hrm hrm1 R HO d0 d1 d2 d3 d4 d5
      go_wp2
      go_roundw
      case rel => exact ⟨k + 1, by omega, by go_num, HB.out, HR.out⟩
      case measure => simp [intOf]; omega
    · have : k = n := by omega
      subst this
      have HO := hid ho
      clear hc ho
      go_wp2
      go_ret
      exact ⟨rfl, HO.out, hb⟩
theorem WrsOwnAt.fr {w w' : World} {g n m lo2 hi2 : Nat} {x : Nat → Wr} (h : WrsOwnAt w g n m x) (hb : Fr lo2 hi2 w w') (ho : g < lo2 ∨ hi2 ≤ g) : WrsOwnAt w' g n m x := by
  have hc : ∀ j, w'.cell? ⟨g, j, none⟩ = w.cell? ⟨g, j, none⟩ := fun j => hb.cell (p := ⟨g, j, none⟩) h.room.lt ho
  refine ⟨⟨fun j hj => ?_, fun j => (hb.frozen (p := ⟨g, j, none⟩) h.room.lt ho).trans (h.room.free j), Nat.lt_of_lt_of_le h.room.lt hb.size⟩, fun i hi' => ?_⟩
  · obtain ⟨u, hu⟩ := h.room.has j hj; exact ⟨u, (hc j).trans hu⟩
  · have c := h.at_ i hi'
    exact ⟨(hc _).trans c.c0, (hc _).trans c.c1, (hc _).trans c.c2, (hc _).trans c.c3, (hc _).trans c.c4, (hc _).trans c.c5⟩
theorem WrsOwnAt.isIn {w : World} {g n : Nat} {x : Nat → Wr} (h : WrsOwnAt w g n n x) {lo hi2 : Nat} (hlo : lo ≤ g) (hh : g < hi2) : WrsIn w lo hi2 (some ⟨g, 0, none⟩) n x := fun i hi' =>
  ⟨g, 0, rfl, hlo, hh, by rw [Nat.zero_add]; exact h.at_ i hi'⟩
set_option maxRecDepth 100000 in
set_option maxHeartbeats 1000000 in
theorem eqWr_any (x : Wr) (w : World) :
    Calls Tryd.prog 43 #[wrV x, wrV x] w fun e w' => e = .returned (.bool true) ∧ Below w.heap.size w w' := by
  go_enter Tryd.func43, Tryd.ntmps43
  go_wp2
  go_ret
  exact ⟨rfl, ((below_alloc _ _).alloc (by simp) _)⟩
set_option maxRecDepth 100000 in
set_option maxHeartbeats 1000000 in
theorem eqWrs_any (n : Nat) (x : Nat → Wr) (ad ad2 : Option Addr) (cap cap2 : Nat) (w : World) (lo hi lo2 hi2 : Nat) (hh : hi ≤ w.heap.size) (hh2 : hi2 ≤ w.heap.size) (hl : (n : Int) ≤ 140737488355328)
    (hc : WrsIn w lo hi ad n x) (hc2 : WrsIn w lo2 hi2 ad2 n x) :
    Calls Tryd.prog 27 #[.slice ad n cap, .slice ad2 n cap2] w fun e w' => e = .returned (.bool true) ∧ Below w.heap.size w w' := by
  go_enter Tryd.func27, Tryd.ntmps27
  go_wp2
  go_loopw [5] (fun i wr => ∃ k : Nat, k ≤ n ∧ i = .int .i64 k ∧ Below w.heap.size w wr) (fun i _ => n - (intOf i).toNat)
  case atStart => exact ⟨0, Nat.zero_le _, rfl, Below.refl _ _⟩
  case round =>
    obtain ⟨k, hk, rfl, hb⟩ := hrel
    by_cases hkn : k < n
    · obtain ⟨b, off, rfl, hlo, hbh, hcx⟩ := hc k hkn
      obtain ⟨b2, off2, rfl, hlo2, hbh2, hcx2⟩ := hc2 k hkn
      obtain ⟨d0, d1, d2, d3, d4, d5⟩ := hcx.below hb (by omega)
      obtain ⟨e0, e1, e2, e3, e4, e5⟩ := hcx2.below hb (by omega)
      clear hc hc2 hcx hcx2
      generalize x k = y at *
      go_wp2
      go_region_with (go_at_call 43; refine (eqWr_any y _).mono ?_; rintro e w1 ⟨rfl, hb1⟩)
      all_goals
        go_wp2
        go_roundw
        case rel => exact ⟨k + 1, by omega, by go_num, hb.drew.trans (hb1.mono hb.size)⟩
        case measure => simp [intOf]; omega
    · have : k = n := by omega
      subst this
      clear hc hc2
      go_wp2
      go_ret
      exact ⟨rfl, hb⟩
end Go.Proofs.YtcmimbohmninkaaDoor
