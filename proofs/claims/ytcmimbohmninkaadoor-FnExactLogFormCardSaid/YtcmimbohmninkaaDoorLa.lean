import Derived.Test.YtcmimbohmninkaaDoorBa
namespace Go.Proofs.YtcmimbohmninkaaDoor
open Go.RowKit
structure Wt where
  kind : ByteArray
  name : ByteArray
  ver : Int
structure WtFit (x : Wt) : Prop where
  f0 : (x.kind.size : Int) ≤ 140737488355328
  f1 : (x.name.size : Int) ≤ 140737488355328
structure WtCells (w : World) (b o : Nat) (x : Wt) : Prop where
  c0 : w.cell? ⟨b, o, none⟩ = some (.string x.kind)
  c1 : w.cell? ⟨b, o + 1, none⟩ = some (.string x.name)
  c2 : w.cell? ⟨b, o + 2, none⟩ = some (.int .i64 x.ver)
def WtsIn (w : World) (lo hi : Nat) (ad : Option Addr) (n : Nat) (x : Nat → Wt) : Prop :=
  ∀ i, i < n → ∃ b off, ad = some ⟨b, off, none⟩ ∧ lo ≤ b ∧ b < hi ∧ WtCells w b (off + i * 3) (x i)
def szWt (c : Wt) : Nat := c.kind.size + c.name.size
abbrev wtV (x : Wt) : Value := .agg #[.string x.kind, .string x.name, .int .i64 x.ver]
theorem WtCells.below {w w' : World} {B b o : Nat} {x : Wt} (h : WtCells w b o x) (hb : Below B w w') (hB : b < B) : WtCells w' b o x :=
  ⟨(hb.cell (p := ⟨b, o, none⟩) hB).trans h.c0, (hb.cell (p := ⟨b, o + 1, none⟩) hB).trans h.c1, (hb.cell (p := ⟨b, o + 2, none⟩) hB).trans h.c2⟩
theorem WtsIn.below {w w' : World} {B lo hi : Nat} {ad : Option Addr} {n : Nat} {x : Nat → Wt} (h : WtsIn w lo hi ad n x) (hb : Below B w w') (hB : hi ≤ B) : WtsIn w' lo hi ad n x := fun i hi' => by
  obtain ⟨b, off, e1, e2, e3, e4⟩ := h i hi'
  exact ⟨b, off, e1, e2, e3, e4.below hb (by omega)⟩
theorem WtsIn.mono {w : World} {lo hi lo2 hi2 : Nat} {ad : Option Addr} {n : Nat} {x : Nat → Wt} (h : WtsIn w lo hi ad n x) (h1 : lo2 ≤ lo) (h2 : hi ≤ hi2) : WtsIn w lo2 hi2 ad n x := fun i hi' => by
  obtain ⟨b, off, e1, e2, e3, e4⟩ := h i hi'
  exact ⟨b, off, e1, by omega, by omega, e4⟩
set_option maxRecDepth 100000 in
set_option maxHeartbeats 1000000 in
theorem szWt_any (x : Wt) (left : Int) (w : World) (h0 : 0 ≤ left) (h1 : left ≤ 1048576) (hf : WtFit x) :
    Calls Tryd.prog 28 #[wtV x, .int .i64 left] w fun e w' => e = .returned (.int .i64 (szOut left (szWt x))) ∧ Below w.heap.size w w' := by
  obtain ⟨f0, f1⟩ := hf
  unfold szWt
  go_enter Tryd.func28, Tryd.ntmps28
  go_wp2
  all_goals go_ret
  all_goals first
    | exact ⟨ret_int (szOut_no (by omega)).symm, (Below.refl _ _).alloc (Nat.le_refl _) _⟩
    | exact ⟨ret_int ((szOut_yes (by omega)).trans (by omega)).symm, (Below.refl _ _).alloc (Nat.le_refl _) _⟩
def szWts (n : Nat) (x : Nat → Wt) : Nat := n + sumTo (fun i => szWt (x i)) n
set_option maxRecDepth 100000 in
set_option maxHeartbeats 1000000 in
theorem szWts_any (n : Nat) (x : Nat → Wt) (ad : Option Addr) (cap : Nat) (left : Int) (w : World) (lo hi : Nat) (hhi : hi ≤ w.heap.size) (hl : (n : Int) ≤ 8796093022208) (h0 : 0 ≤ left) (h1 : left ≤ 1048576) (hf : ∀ i, i < n → WtFit (x i))
    (hc : WtsIn w lo hi ad n x) :
    Calls Tryd.prog 16 #[.slice ad n cap, .int .i64 left] w fun e w' => e = .returned (.int .i64 (szOut left (szWts n x))) ∧ Below w.heap.size w w' := by
  by_cases hlt : left - n < 0
  · go_enter Tryd.func16, Tryd.ntmps16
    go_wp2
    go_ret
    exact ⟨ret_int (szOut_no (by unfold szWts; omega)).symm, Below.refl _ _⟩
  · go_enter Tryd.func16, Tryd.ntmps16
    go_wp2
    go_loopw [1, 5] (fun t i wr => ∃ k : Nat, k ≤ n ∧ i = .int .i64 k ∧ t = .int .i64 (left - n - (sumTo (fun i => szWt (x i)) k : Nat)) ∧ 0 ≤ left - n - (sumTo (fun i => szWt (x i)) k : Nat) ∧ Below w.heap.size w wr) (fun _ i _ => n - (intOf i).toNat)
    case atStart => exact ⟨0, Nat.zero_le _, rfl, by simp [sumTo], by simp [sumTo]; omega, Below.refl _ _⟩
    case round =>
      obtain ⟨k, hk, rfl, rfl, hnn, hb⟩ := hrel
      have hst : sumTo (fun i => szWt (x i)) (k+1) = sumTo (fun i => szWt (x i)) k + szWt (x k) := rfl
      have hmo : k < n → sumTo (fun i => szWt (x i)) (k+1) ≤ sumTo (fun i => szWt (x i)) n := fun h => sumTo_mono _ h
      generalize hq : sumTo (fun i => szWt (x i)) k = q at *
      generalize hq1 : sumTo (fun i => szWt (x i)) (k+1) = q1 at *
      by_cases hkn : k < n
      · obtain ⟨b, off, rfl, hlo, hbh, hcx⟩ := hc k hkn
        have HMO := hid (hmo hkn)
        have hfk := hf k hkn
        have HS : Hid (q1 = q + szWt (x k)) := hst
        have HQ : Hid (sumTo (fun i => szWt (x i)) (k+1) = q1) := hq1
        clear hst hq hq1 hc hf
        obtain ⟨d0, d1, d2⟩ := hcx.below hb (by omega)
        clear hcx
        generalize x k = y at *
        clear hmo
        go_wp2_with (go_at_call 28; refine (szWt_any y _ wr (by omega) (by omega) hfk).mono ?_; rintro e w1 ⟨rfl, hb1⟩)
        · go_ret
          refine ⟨ret_int (szOut_no ?_).symm, hb.trans (hb1.mono hb.size)⟩
          have := HS.out
          have := szOut_lt (by assumption)
          have := HMO.out
          unfold szWts; omega
        · have hs := HS.out
          obtain ⟨g1, g2⟩ := szOut_ge (by assumption)
          go_roundw
          case rel => exact ⟨k + 1, by omega, by go_num, by rw [HQ.out, g2]; apply congrArg; omega, by rw [HQ.out]; omega, hb.trans (hb1.mono hb.size)⟩
          case measure => simp [intOf]; omega
      · have : k = n := by omega
        subst this
        clear hc hf hst hmo hq1
        have HQ : Hid (sumTo (fun i => szWt (x i)) k = q) := hq
        clear hq
        go_wp2
        go_ret
        refine ⟨ret_int ?_, hb⟩
        have := HQ.out
        rw [szOut_yes (by unfold szWts; omega)]
        unfold szWts; omega
theorem Tryd.info77 : (Tryd.prog.info? 77).map (fun i => (i.zero, i.size, i.bytes)) = some (some (.agg #[.string ByteArray.empty, .string ByteArray.empty, .int .i64 0]), 3, 40) := by kernel_rfl
set_option maxRecDepth 100000 in
set_option maxHeartbeats 1000000 in
theorem toWt_any (x : Wt) (w : World) :
    Calls Tryd.prog 30 #[wtV x] w fun e w' => e = .returned (wtV x) ∧ Below w.heap.size w w' := by
  go_enter Tryd.func30, Tryd.ntmps30
  go_wp2
  refine bodyPost_ret (v := wtV x) (by simp [results, Tryd.results30, go_sem]) rfl ⟨rfl, ?_⟩
  exact ((((Below.refl _ _).alloc (Nat.le_refl _) _).alloc (by simp) _).alloc (by simp; omega) _)
structure WtsOwnAt (w : World) (g n m : Nat) (x : Nat → Wt) : Prop where
  room : Room w g (m * 3)
  at_ : ∀ i, i < n → WtCells w g (i * 3) (x i)
theorem WtsOwnAt.step {wr w1 : World} {g k n : Nat} {x : Nat → Wt} (h : WtsOwnAt wr g k n x) (hk : k < n) (hb : Below wr.heap.size wr w1) :
    WtsOwnAt (w1.setCells g (k * 3) [.string (x k).kind, .string (x k).name, .int .i64 (x k).ver]) g (k + 1) n x := by
  have hg := h.room.lt
  have hR := h.room.below hb hg
  generalize hvs : [Value.string (x k).kind, .string (x k).name, .int .i64 (x k).ver] = vs
  have hlen : vs.length = 3 := by rw [← hvs]; rfl
  have hin := World.cell?_setCells_in g vs (k * 3) w1 (fun j hj => by
    obtain ⟨u, hu⟩ := hR.has (k * 3 + j) (by omega)
    rw [hu]; rfl)
  refine ⟨hR.setCells vs (by omega), fun i hi => ?_⟩
  by_cases e : i < k
  · have c := (h.at_ i e).below hb hg
    have ee : ∀ j, j < 3 → (w1.setCells g (k * 3) vs).cell? ⟨g, i * 3 + j, none⟩ = w1.cell? ⟨g, i * 3 + j, none⟩ := fun j hj => World.cell?_setCells_out g vs (k * 3) w1 _ (fun _ _ => Or.inl (by show i * 3 + j < k * 3; omega))
    exact ⟨(ee 0 (by omega)).trans c.c0, (ee 1 (by omega)).trans c.c1, (ee 2 (by omega)).trans c.c2⟩
  · have : i = k := by omega
    subst this
    have f := fun j (hj : j < 3) => hin j (by omega)
    have f0 := f 0 (by omega); have f1 := f 1 (by omega); have f2 := f 2 (by omega)
    subst hvs
    exact ⟨f0, f1, f2⟩
set_option maxRecDepth 100000 in
set_option maxHeartbeats 2000000 in
theorem toWts_any (n : Nat) (x : Nat → Wt) (ad : Option Addr) (cap : Nat) (w : World) (lo hi : Nat) (hhi : hi ≤ w.heap.size) (hl : (n : Int) ≤ 1099511627776) (hc : WtsIn w lo hi ad n x) :
    Calls Tryd.prog 21 #[.slice ad n cap] w fun e w' => e = .returned (.slice (some ⟨w.heap.size, 0, none⟩) n n) ∧ WtsOwnAt w' w.heap.size n n x ∧ Below w.heap.size w w' := by
  obtain ⟨i0, hi0, hz0, hz1, hz2⟩ := info_parts Tryd.info77
  go_enter Tryd.func21, Tryd.ntmps21
  go_wp2_with (first
    | (at_make; refine wpList_make_full _ rfl _ _ 30 rfl w.heap.size 77 i0 _ 3 Tryd.underlying30 hi0 hz0 hz1 .i64 .i64 _ _ n rfl rfl (by omega) (by omega) (by rw [hz2]; omega) (by unfold maxLen; omega) (by omega) ?_; intro w1 hown1 hgrow1)
    )
  have r1 : WtsOwnAt w1 w.heap.size 0 n x := ⟨room_made hown1, fun _ h => absurd h (Nat.not_lt_zero _)⟩
  have hb1 : Below w.heap.size w w1 := (Below.refl _ _).grown hgrow1 (Nat.le_refl _) (by simp)
  clear hown1 hgrow1 hi0 hz0 hz1 hz2
  go_loopw [4] (fun i wr => ∃ k : Nat, k ≤ n ∧ i = .int .i64 k ∧ Below w.heap.size w wr ∧ WtsOwnAt wr w.heap.size k n x) (fun i _ => n - (intOf i).toNat)
  case atStart => exact ⟨0, Nat.zero_le _, rfl, hb1, r1⟩
  case round =>
    obtain ⟨k, hk, rfl, hb, ho⟩ := hrel
    clear r1 hb1
    by_cases hkn : k < n
    · obtain ⟨b, off, rfl, hlo, hbh, hcx⟩ := hc k hkn
      obtain ⟨d0, d1, d2⟩ := hcx.below hb (by omega)
      clear hc hcx
      have HO := hid ho
      have hrm := ho.room
      clear ho
      go_wp2_with (fail)
      refine (toWt_any (x k) wr).mono ?_
      rintro e w1 ⟨rfl, hb1⟩
      have R := HO.out.step hkn hb1
      have HR := hid R
      have HB := hid ((hb.trans (hb1.mono hb.size)).trans ((fr_setCells w.heap.size [Value.string (x k).kind, .string (x k).name, .int .i64 (x k).ver] (k * 3) w1).below (Nat.le_refl _) (hb.trans (hb1.mono hb.size)).size))
      have hrm1 := hrm.below hb1 hrm.lt
      obtain ⟨_, q0⟩ := hrm1.has (k * 3) (by omega)
      obtain ⟨_, q1⟩ := hrm1.has (k * 3 + 1) (by omega)
      obtain ⟨_, q2⟩ := hrm1.has (k * 3 + 2) (by omega)
      have qf := hrm1.free
      clear hrm hrm1 R HO d0 d1 d2
      go_wp2
      go_roundw
      case rel => exact ⟨k + 1, by omega, by go_num, HB.out, HR.out⟩
      case measure => simp [intOf]; omega
    · have : k = n := by omega
      subst this
      have HO := hid ho
      clear hc ho
      go_wp2
      go_ret
      exact ⟨rfl, HO.out, hb⟩
theorem WtsOwnAt.fr {w w' : World} {g n m lo2 hi2 : Nat} {x : Nat → Wt} (h : WtsOwnAt w g n m x) (hb : Fr lo2 hi2 w w') (ho : g < lo2 ∨ hi2 ≤ g) : WtsOwnAt w' g n m x := by
  have hc : ∀ j, w'.cell? ⟨g, j, none⟩ = w.cell? ⟨g, j, none⟩ := fun j => hb.cell (p := ⟨g, j, none⟩) h.room.lt ho
  refine ⟨⟨fun j hj => ?_, fun j => (hb.frozen (p := ⟨g, j, none⟩) h.room.lt ho).trans (h.room.free j), Nat.lt_of_lt_of_le h.room.lt hb.size⟩, fun i hi' => ?_⟩
  · obtain ⟨u, hu⟩ := h.room.has j hj; exact ⟨u, (hc j).trans hu⟩
  · have c := h.at_ i hi'
    exact ⟨(hc _).trans c.c0, (hc _).trans c.c1, (hc _).trans c.c2⟩
theorem WtsOwnAt.isIn {w : World} {g n : Nat} {x : Nat → Wt} (h : WtsOwnAt w g n n x) {lo hi2 : Nat} (hlo : lo ≤ g) (hh : g < hi2) : WtsIn w lo hi2 (some ⟨g, 0, none⟩) n x := fun i hi' =>
  ⟨g, 0, rfl, hlo, hh, by rw [Nat.zero_add]; exact h.at_ i hi'⟩
set_option maxRecDepth 100000 in
set_option maxHeartbeats 1000000 in
theorem eqWt_any (x : Wt) (w : World) :
    Calls Tryd.prog 42 #[wtV x, wtV x] w fun e w' => e = .returned (.bool true) ∧ Below w.heap.size w w' := by
  go_enter Tryd.func42, Tryd.ntmps42
  go_wp2
  go_ret
  exact ⟨rfl, ((below_alloc _ _).alloc (by simp) _)⟩
set_option maxRecDepth 100000 in
set_option maxHeartbeats 1000000 in
theorem eqWts_any (n : Nat) (x : Nat → Wt) (ad ad2 : Option Addr) (cap cap2 : Nat) (w : World) (lo hi lo2 hi2 : Nat) (hh : hi ≤ w.heap.size) (hh2 : hi2 ≤ w.heap.size) (hl : (n : Int) ≤ 140737488355328)
    (hc : WtsIn w lo hi ad n x) (hc2 : WtsIn w lo2 hi2 ad2 n x) :
    Calls Tryd.prog 26 #[.slice ad n cap, .slice ad2 n cap2] w fun e w' => e = .returned (.bool true) ∧ Below w.heap.size w w' := by
  go_enter Tryd.func26, Tryd.ntmps26
  go_wp2
  go_loopw [5] (fun i wr => ∃ k : Nat, k ≤ n ∧ i = .int .i64 k ∧ Below w.heap.size w wr) (fun i _ => n - (intOf i).toNat)
  case atStart => exact ⟨0, Nat.zero_le _, rfl, Below.refl _ _⟩
  case round =>
    obtain ⟨k, hk, rfl, hb⟩ := hrel
    by_cases hkn : k < n
    · obtain ⟨b, off, rfl, hlo, hbh, hcx⟩ := hc k hkn
      obtain ⟨b2, off2, rfl, hlo2, hbh2, hcx2⟩ := hc2 k hkn
      obtain ⟨d0, d1, d2⟩ := hcx.below hb (by omega)
      obtain ⟨e0, e1, e2⟩ := hcx2.below hb (by omega)
      clear hc hc2 hcx hcx2
      generalize x k = y at *
      go_wp2
      go_region_with (go_at_call 42; refine (eqWt_any y _).mono ?_; rintro e w1 ⟨rfl, hb1⟩)
      all_goals
        go_wp2
        go_roundw
        case rel => exact ⟨k + 1, by omega, by go_num, hb.drew.trans (hb1.mono hb.size)⟩
        case measure => simp [intOf]; omega
    · have : k = n := by omega
      subst this
      clear hc hc2
      go_wp2
      go_ret
      exact ⟨rfl, hb⟩
end Go.Proofs.YtcmimbohmninkaaDoor
