import Derived.Test.YtkbghbbaldjinaaGreatDoorG
namespace Go.Proofs.YtkbghbbaldjinaaGreatDoor
open Go.RowKit
theorem Tryz.info50 : (Tryz.prog.info? 50).map (fun i => (i.zero, i.size, i.bytes)) = some (some (.agg #[.string ByteArray.empty, .int .i64 0, .string ByteArray.empty, .int .i64 0, .int .i64 0]), 5, 56) := by kernel_rfl
set_option maxRecDepth 100000 in
set_option maxHeartbeats 400000 in
theorem toTi_any (x : Ti) (w : World) :
    Calls Tryz.prog 39 #[.agg #[.string x.client, .int .i64 x.num, .string x.print, .int .i64 x.code, .int .i64 x.ver]] w fun e w' => e = .returned (.agg #[.string x.client, .int .i64 x.num, .string x.print, .int .i64 x.code, .int .i64 x.ver]) ∧ Below w.heap.size w w' := by
  go_enter Tryz.func39, Tryz.ntmps39
  go_wp2
  refine bodyPost_ret (v := .agg #[.string x.client, .int .i64 x.num, .string x.print, .int .i64 x.code, .int .i64 x.ver]) (by simp [results, Tryz.results39, go_sem]) rfl ⟨rfl, ?_⟩
  exact ((((Below.refl _ _).alloc (Nat.le_refl _) _).alloc (by simp) _).alloc (by simp; omega) _)
structure TicsOwnAt (w : World) (g n m : Nat) (x : Nat → Ti) : Prop where
  room : Room w g (m * 5)
  at_ : ∀ i, i < n → TiCells w g (i * 5) (x i)
theorem TicsOwnAt.step {wr w1 : World} {g k n : Nat} {x : Nat → Ti} (h : TicsOwnAt wr g k n x) (hk : k < n) (hb : Below wr.heap.size wr w1) :
    TicsOwnAt (w1.setCells g (k * 5) [.string (x k).client, .int .i64 (x k).num, .string (x k).print, .int .i64 (x k).code, .int .i64 (x k).ver]) g (k + 1) n x := by
  have hg := h.room.lt
  have hR := h.room.below hb hg
  generalize hvs : [Value.string (x k).client, .int .i64 (x k).num, .string (x k).print, .int .i64 (x k).code, .int .i64 (x k).ver] = vs
  have hlen : vs.length = 5 := by rw [← hvs]; rfl
  have hin := World.cell?_setCells_in g vs (k * 5) w1 (fun j hj => by
    obtain ⟨u, hu⟩ := hR.has (k * 5 + j) (by omega)
    rw [hu]; rfl)
  refine ⟨hR.setCells vs (by omega), fun i hi => ?_⟩
  by_cases e : i < k
  · have c := (h.at_ i e).below hb hg
    have ee : ∀ j, j < 5 → (w1.setCells g (k * 5) vs).cell? ⟨g, i * 5 + j, none⟩ = w1.cell? ⟨g, i * 5 + j, none⟩ := fun j hj => World.cell?_setCells_out g vs (k * 5) w1 _ (fun _ _ => Or.inl (by show i * 5 + j < k * 5; omega))
    exact ⟨(ee 0 (by omega)).trans c.c0, (ee 1 (by omega)).trans c.c1, (ee 2 (by omega)).trans c.c2, (ee 3 (by omega)).trans c.c3, (ee 4 (by omega)).trans c.c4⟩
  · have : i = k := by omega
    subst this
    have f := fun j (hj : j < 5) => hin j (by omega)
    have f0 := f 0 (by omega); have f1 := f 1 (by omega); have f2 := f 2 (by omega); have f3 := f 3 (by omega); have f4 := f 4 (by omega)
    subst hvs
    exact ⟨f0, f1, f2, f3, f4⟩
set_option maxRecDepth 100000 in
set_option maxHeartbeats 400000 in
theorem toTis_any (n : Nat) (x : Nat → Ti) (ad : Option Addr) (cap : Nat) (w : World) (lo hi : Nat) (hhi : hi ≤ w.heap.size) (hl : (n : Int) ≤ 1099511627776) (hc : TicsIn w lo hi ad n x) :
    Calls Tryz.prog 18 #[.slice ad n cap] w fun e w' => ∃ cap', e = .returned (.slice (some ⟨w.heap.size, 0, none⟩) n cap') ∧ TicsOwnAt w' w.heap.size n n x ∧ Below w.heap.size w w' := by
  obtain ⟨i0, hi0, hz0, hz1, hz2⟩ := info_parts Tryz.info50
  go_enter Tryz.func18, Tryz.ntmps18
  go_wp2_with (first
    | (at_make; refine wpList_make_full _ rfl _ _ 31 rfl w.heap.size 50 i0 _ 5 Tryz.underlying31 hi0 hz0 hz1 .i64 .i64 _ _ n rfl rfl (by omega) (by omega) (by rw [hz2]; omega) (by unfold maxLen; omega) (by omega) ?_; intro w1 hown1 hgrow1)
    )
  have r1 : TicsOwnAt w1 w.heap.size 0 n x := ⟨room_made hown1, fun _ h => absurd h (Nat.not_lt_zero _)⟩
  have hb1 : Below w.heap.size w w1 := (Below.refl _ _).grown hgrow1 (Nat.le_refl _) (by simp)
  clear hown1 hgrow1 hi0 hz0 hz1 hz2
  go_loopw [4] (fun i wr => ∃ k : Nat, k ≤ n ∧ i = .int .i64 k ∧ Below w.heap.size w wr ∧ TicsOwnAt wr w.heap.size k n x) (fun i _ => n - (intOf i).toNat)
  case atStart => exact ⟨0, Nat.zero_le _, rfl, hb1, r1⟩
  case round =>
    obtain ⟨k, hk, rfl, hb, ho⟩ := hrel
    clear r1 hb1
    by_cases hkn : k < n
    · obtain ⟨b, off, rfl, hlo, hbh, hcx⟩ := hc k hkn
      obtain ⟨d0, d1, d2, d3, d4⟩ := hcx.below hb (by omega)
      clear hc hcx
      have HO := hid ho
      have hrm := ho.room
      clear ho
      go_wp2_with (fail)
      refine (toTi_any (x k) wr).mono ?_
      rintro e w1 ⟨rfl, hb1⟩
      have R := HO.out.step hkn hb1
      have HR := hid R
      have HB := hid ((hb.trans (hb1.mono hb.size)).trans ((fr_setCells w.heap.size [Value.string (x k).client, .int .i64 (x k).num, .string (x k).print, .int .i64 (x k).code, .int .i64 (x k).ver] (k * 5) w1).below (Nat.le_refl _) (hb.trans (hb1.mono hb.size)).size))
      have hrm1 := hrm.below hb1 hrm.lt
      obtain ⟨_, q0⟩ := hrm1.has (k * 5) (by omega)
      obtain ⟨_, q1⟩ := hrm1.has (k * 5 + 1) (by omega)
      obtain ⟨_, q2⟩ := hrm1.has (k * 5 + 2) (by omega)
      obtain ⟨_, q3⟩ := hrm1.has (k * 5 + 3) (by omega)
      obtain ⟨_, q4⟩ := hrm1.has (k * 5 + 4) (by omega)
      have qf := hrm1.free
      clear hrm hrm1 R HO d0 d1 d2 d3 d4
      go_wp2
      go_roundw
      case rel => exact ⟨k + 1, by omega, by go_num, HB.out, HR.out⟩
      case measure => simp [intOf]; omega
    · have : k = n := by omega
      subst this
      have HO := hid ho
      clear hc ho
      go_wp2
      go_ret
      exact ⟨_, rfl, HO.out, hb⟩
end Go.Proofs.YtkbghbbaldjinaaGreatDoor
