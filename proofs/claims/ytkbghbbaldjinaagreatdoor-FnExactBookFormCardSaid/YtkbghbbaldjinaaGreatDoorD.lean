import Derived.Test.YtkbghbbaldjinaaGreatDoorC
namespace Go.Proofs.YtkbghbbaldjinaaGreatDoor
open Go.RowKit
/-- the seven cells of an object at (b, o) -/
structure ObCells (w : World) (b o : Nat) (x : Ob) (ad : Option Addr) (cap : Nat) : Prop where
  c0 : w.cell? ⟨b, o, none⟩ = some (.string x.kind)
  c1 : w.cell? ⟨b, o + 1, none⟩ = some (.string x.name)
  c2 : w.cell? ⟨b, o + 2, none⟩ = some (.int .i64 x.ver)
  c3 : w.cell? ⟨b, o + 3, none⟩ = some (.int .i64 x.born)
  c4 : w.cell? ⟨b, o + 4, none⟩ = some (.string x.text)
  c5 : w.cell? ⟨b, o + 5, none⟩ = some (.bool x.ending)
  c6 : w.cell? ⟨b, o + 6, none⟩ = some (.slice ad x.hn cap)
def ObjsIn (w : World) (lo hi : Nat) (ad : Option Addr) (n : Nat) (x : Nat → Ob) : Prop :=
  ∀ i, i < n → ∃ b off ah ch, ad = some ⟨b, off, none⟩ ∧ lo ≤ b ∧ b < hi ∧ ObCells w b (off + i * 7) (x i) ah ch ∧ StrsIn w lo hi ah (x i).hn (x i).hs
/-- what is read is of a size that a machine has -/
structure ObFit (x : Ob) : Prop where
  k : (x.kind.size : Int) ≤ 140737488355328
  n : (x.name.size : Int) ≤ 140737488355328
  t : (x.text.size : Int) ≤ 140737488355328
  h : (x.hn : Int) ≤ 8796093022208
  s : ∀ i, i < x.hn → ((x.hs i).size : Int) ≤ 140737488355328
  v : (Lit.int .i64 x.ver).wf = true
def szObs (n : Nat) (x : Nat → Ob) : Nat := n + sumTo (fun i => szOb (x i)) n
theorem szOb_obj (x : Ob) (ad : Option Addr) (cap : Nat) (left : Int) (w : World) (h0 : 0 ≤ left) (h1 : left ≤ 1048576) (lo hi : Nat) (hhi : hi ≤ w.heap.size) (hf : ObFit x) (hc : StrsIn w lo hi ad x.hn x.hs) :
    Calls Tryz.prog 30 #[.agg #[.string x.kind, .string x.name, .int .i64 x.ver, .int .i64 x.born, .string x.text, .bool x.ending, .slice ad x.hn cap], .int .i64 left] w fun e w' => e = .returned (.int .i64 (szOut left (szOb x))) ∧ Below w.heap.size w w' :=
  szOb_any x.kind x.name x.text x.ver x.born x.ending x.hn x.hs ad cap left w h0 h1 lo hi hhi hf.k hf.n hf.t (by have := hf.h; omega) hf.s hc
set_option maxRecDepth 100000 in
set_option maxHeartbeats 400000 in
theorem szObs_any (n : Nat) (x : Nat → Ob) (ad : Option Addr) (cap : Nat) (left : Int) (w : World) (lo hi : Nat) (hhi : hi ≤ w.heap.size) (hl : (n : Int) ≤ 8796093022208) (h0 : 0 ≤ left) (h1 : left ≤ 1048576) (hf : ∀ i, i < n → ObFit (x i))
    (hc : ObjsIn w lo hi ad n x) :
    Calls Tryz.prog 9 #[.slice ad n cap, .int .i64 left] w fun e w' => e = .returned (.int .i64 (szOut left (szObs n x))) ∧ Below w.heap.size w w' := by
  by_cases hlt : left - n < 0
  · go_enter Tryz.func9, Tryz.ntmps9
    go_wp2
    go_ret
    exact ⟨ret_int (szOut_no (by unfold szObs; omega)).symm, Below.refl _ _⟩
  · go_enter Tryz.func9, Tryz.ntmps9
    go_wp2
    go_loopw [1, 5] (fun t i wr => ∃ k : Nat, k ≤ n ∧ i = .int .i64 k ∧ t = .int .i64 (left - n - (sumTo (fun i => szOb (x i)) k : Nat)) ∧ 0 ≤ left - n - (sumTo (fun i => szOb (x i)) k : Nat) ∧ Below w.heap.size w wr) (fun _ i _ => n - (intOf i).toNat)
    case atStart => exact ⟨0, Nat.zero_le _, rfl, by simp [sumTo], by simp [sumTo]; omega, Below.refl _ _⟩
    case round =>
      obtain ⟨k, hk, rfl, rfl, hnn, hb⟩ := hrel
      have hst : sumTo (fun i => szOb (x i)) (k+1) = sumTo (fun i => szOb (x i)) k + szOb (x k) := rfl
      have hmo : k < n → sumTo (fun i => szOb (x i)) (k+1) ≤ sumTo (fun i => szOb (x i)) n := fun h => sumTo_mono _ h
      generalize hq : sumTo (fun i => szOb (x i)) k = q at *
      generalize hq1 : sumTo (fun i => szOb (x i)) (k+1) = q1 at *
      by_cases hkn : k < n
      · obtain ⟨b, off, ah, ch, rfl, hlo, hbh, hcx, hsx⟩ := hc k hkn
        have hmo := hmo hkn
        have hfk := hf k hkn
        have HS : Hid (q1 = q + szOb (x k)) := hst
        have HQ : Hid (sumTo (fun i => szOb (x i)) (k+1) = q1) := hq1
        clear hst hq hq1 hc hf
        have hcell : ∀ j, wr.cell? ⟨b, off + k * 7 + j, none⟩ = w.cell? ⟨b, off + k * 7 + j, none⟩ := fun j => hb.cell (p := ⟨b, off + k * 7 + j, none⟩) (by show b < _; omega)
        have hcell0 : wr.cell? ⟨b, off + k * 7, none⟩ = w.cell? ⟨b, off + k * 7, none⟩ := hb.cell (p := ⟨b, off + k * 7, none⟩) (by show b < _; omega)
        obtain ⟨d0, d1, d2, d3, d4, d5, d6⟩ := hcx
        rw [← hcell] at d1 d2 d3 d4 d5 d6
        rw [← hcell0] at d0
        clear hcell hcell0
        have hsx' := hsx.below hb hhi
        clear hsx
        generalize x k = y at *
        clear hmo
        rename_i hmo
        go_wp2_with (go_at_call 30; refine (szOb_obj y ah ch _ wr (by omega) (by omega) lo hi (Nat.le_trans hhi hb.size) hfk hsx').mono ?_; rintro e w1 ⟨rfl, hb1⟩)
        · go_ret
          refine ⟨ret_int (szOut_no ?_).symm, hb.trans (hb1.mono hb.size)⟩
          have := HS.out
          have := szOut_lt (by assumption)
          have := hmo hkn
          unfold szObs; omega
        · have hs := HS.out
          obtain ⟨g1, g2⟩ := szOut_ge (by assumption)
          go_roundw
          case rel => exact ⟨k + 1, by omega, by go_num, by rw [HQ.out, g2]; apply congrArg; omega, by rw [HQ.out]; omega, hb.trans (hb1.mono hb.size)⟩
          case measure => simp [intOf]; omega
      · have : k = n := by omega
        subst this
        clear hc hf hst hmo hq1
        have HQ : Hid (sumTo (fun i => szOb (x i)) k = q) := hq
        clear hq
        go_wp2
        go_ret
        refine ⟨ret_int ?_, hb⟩
        have := HQ.out
        rw [szOut_yes (by unfold szObs; omega)]
        unfold szObs; omega
structure Ch where
  ver : Int
  gone : Bool
  ob : Ob
structure Ti where
  client : ByteArray
  num : Int
  print : ByteArray
  code : Int
  ver : Int
structure ChCells (w : World) (b o : Nat) (x : Ch) (ad : Option Addr) (cap : Nat) : Prop where
  c0 : w.cell? ⟨b, o, none⟩ = some (.int .i64 x.ver)
  c1 : w.cell? ⟨b, o + 1, none⟩ = some (.bool x.gone)
  c2 : w.cell? ⟨b, o + 2, none⟩ = some (.string x.ob.kind)
  c3 : w.cell? ⟨b, o + 3, none⟩ = some (.string x.ob.name)
  c4 : w.cell? ⟨b, o + 4, none⟩ = some (.int .i64 x.ob.ver)
  c5 : w.cell? ⟨b, o + 5, none⟩ = some (.int .i64 x.ob.born)
  c6 : w.cell? ⟨b, o + 6, none⟩ = some (.string x.ob.text)
  c7 : w.cell? ⟨b, o + 7, none⟩ = some (.bool x.ob.ending)
  c8 : w.cell? ⟨b, o + 8, none⟩ = some (.slice ad x.ob.hn cap)
structure TiCells (w : World) (b o : Nat) (x : Ti) : Prop where
  c0 : w.cell? ⟨b, o, none⟩ = some (.string x.client)
  c1 : w.cell? ⟨b, o + 1, none⟩ = some (.int .i64 x.num)
  c2 : w.cell? ⟨b, o + 2, none⟩ = some (.string x.print)
  c3 : w.cell? ⟨b, o + 3, none⟩ = some (.int .i64 x.code)
  c4 : w.cell? ⟨b, o + 4, none⟩ = some (.int .i64 x.ver)
def ChgsIn (w : World) (lo hi : Nat) (ad : Option Addr) (n : Nat) (x : Nat → Ch) : Prop :=
  ∀ i, i < n → ∃ b off ah ch, ad = some ⟨b, off, none⟩ ∧ lo ≤ b ∧ b < hi ∧ ChCells w b (off + i * 9) (x i) ah ch ∧ StrsIn w lo hi ah (x i).ob.hn (x i).ob.hs
def TicsIn (w : World) (lo hi : Nat) (ad : Option Addr) (n : Nat) (x : Nat → Ti) : Prop :=
  ∀ i, i < n → ∃ b off, ad = some ⟨b, off, none⟩ ∧ lo ≤ b ∧ b < hi ∧ TiCells w b (off + i * 5) (x i)
structure TiFit (x : Ti) : Prop where
  c : (x.client.size : Int) ≤ 140737488355328
  p : (x.print.size : Int) ≤ 140737488355328
def szCh (c : Ch) : Nat := szOb c.ob
def szTi (c : Ti) : Nat := c.client.size + c.print.size
def szChs (n : Nat) (x : Nat → Ch) : Nat := n + sumTo (fun i => szCh (x i)) n
def szTis (n : Nat) (x : Nat → Ti) : Nat := n + sumTo (fun i => szTi (x i)) n
set_option maxRecDepth 100000 in
set_option maxHeartbeats 400000 in
theorem szCh_any (x : Ch) (ad : Option Addr) (cap : Nat) (left : Int) (w : World) (h0 : 0 ≤ left) (h1 : left ≤ 1048576) (lo hi : Nat) (hhi : hi ≤ w.heap.size) (hf : ObFit x.ob) (hc : StrsIn w lo hi ad x.ob.hn x.ob.hs) :
    Calls Tryz.prog 31 #[.agg #[.int .i64 x.ver, .bool x.gone, .string x.ob.kind, .string x.ob.name, .int .i64 x.ob.ver, .int .i64 x.ob.born, .string x.ob.text, .bool x.ob.ending, .slice ad x.ob.hn cap], .int .i64 left] w fun e w' => e = .returned (.int .i64 (szOut left (szCh x))) ∧ Below w.heap.size w w' := by
  unfold szCh
  generalize x.ob = y at *
  go_enter Tryz.func31, Tryz.ntmps31
  go_wp2_with (go_at_call 30; refine (szOb_obj y ad cap left _ h0 h1 lo hi (by simp; omega) hf (hc.alloc hhi _)).mono ?_; rintro e w1 ⟨rfl, hb1⟩)
  · go_ret
    exact ⟨ret_int (szOut_no (szOut_lt (by assumption))).symm, ((Below.refl _ _).alloc (Nat.le_refl _) _).trans (hb1.mono (by simp))⟩
  · go_ret
    exact ⟨rfl, ((Below.refl _ _).alloc (Nat.le_refl _) _).trans (hb1.mono (by simp))⟩
set_option maxRecDepth 100000 in
set_option maxHeartbeats 400000 in
theorem szTi_any (x : Ti) (left : Int) (w : World) (h0 : 0 ≤ left) (h1 : left ≤ 1048576) (hf : TiFit x) :
    Calls Tryz.prog 32 #[.agg #[.string x.client, .int .i64 x.num, .string x.print, .int .i64 x.code, .int .i64 x.ver], .int .i64 left] w fun e w' => e = .returned (.int .i64 (szOut left (szTi x))) ∧ Below w.heap.size w w' := by
  obtain ⟨f1, f2⟩ := hf
  unfold szTi
  go_enter Tryz.func32, Tryz.ntmps32
  go_wp2
  · go_ret
    exact ⟨ret_int (szOut_no (by omega)).symm, (Below.refl _ _).alloc (Nat.le_refl _) _⟩
  · go_ret
    exact ⟨ret_int (szOut_no (by omega)).symm, (Below.refl _ _).alloc (Nat.le_refl _) _⟩
  · go_ret
    exact ⟨ret_int (by rw [szOut_yes (by omega)]; omega), (Below.refl _ _).alloc (Nat.le_refl _) _⟩
set_option maxRecDepth 100000 in
set_option maxHeartbeats 400000 in
theorem szChs_any (n : Nat) (x : Nat → Ch) (ad : Option Addr) (cap : Nat) (left : Int) (w : World) (lo hi : Nat) (hhi : hi ≤ w.heap.size) (hl : (n : Int) ≤ 8796093022208) (h0 : 0 ≤ left) (h1 : left ≤ 1048576) (hf : ∀ i, i < n → ObFit (x i).ob)
    (hc : ChgsIn w lo hi ad n x) :
    Calls Tryz.prog 10 #[.slice ad n cap, .int .i64 left] w fun e w' => e = .returned (.int .i64 (szOut left (szChs n x))) ∧ Below w.heap.size w w' := by
  by_cases hlt : left - n < 0
  · go_enter Tryz.func10, Tryz.ntmps10
    go_wp2
    go_ret
    exact ⟨ret_int (szOut_no (by unfold szChs; omega)).symm, Below.refl _ _⟩
  · go_enter Tryz.func10, Tryz.ntmps10
    go_wp2
    go_loopw [1, 5] (fun t i wr => ∃ k : Nat, k ≤ n ∧ i = .int .i64 k ∧ t = .int .i64 (left - n - (sumTo (fun i => szCh (x i)) k : Nat)) ∧ 0 ≤ left - n - (sumTo (fun i => szCh (x i)) k : Nat) ∧ Below w.heap.size w wr) (fun _ i _ => n - (intOf i).toNat)
    case atStart => exact ⟨0, Nat.zero_le _, rfl, by simp [sumTo], by simp [sumTo]; omega, Below.refl _ _⟩
    case round =>
      obtain ⟨k, hk, rfl, rfl, hnn, hb⟩ := hrel
      have hst : sumTo (fun i => szCh (x i)) (k+1) = sumTo (fun i => szCh (x i)) k + szCh (x k) := rfl
      have hmo : k < n → sumTo (fun i => szCh (x i)) (k+1) ≤ sumTo (fun i => szCh (x i)) n := fun h => sumTo_mono _ h
      generalize hq : sumTo (fun i => szCh (x i)) k = q at *
      generalize hq1 : sumTo (fun i => szCh (x i)) (k+1) = q1 at *
      by_cases hkn : k < n
      · obtain ⟨b, off, ah, ch, rfl, hlo, hbh, hcx, hsx⟩ := hc k hkn
        have hmo := hmo hkn
        have hfk := hf k hkn
        have HS : Hid (q1 = q + szCh (x k)) := hst
        have HQ : Hid (sumTo (fun i => szCh (x i)) (k+1) = q1) := hq1
        clear hst hq hq1 hc hf
        have hcell : ∀ j, wr.cell? ⟨b, off + k * 9 + j, none⟩ = w.cell? ⟨b, off + k * 9 + j, none⟩ := fun j => hb.cell (p := ⟨b, off + k * 9 + j, none⟩) (by show b < _; omega)
        have hcell0 : wr.cell? ⟨b, off + k * 9, none⟩ = w.cell? ⟨b, off + k * 9, none⟩ := hb.cell (p := ⟨b, off + k * 9, none⟩) (by show b < _; omega)
        obtain ⟨d0, d1, d2, d3, d4, d5, d6, d7, d8⟩ := hcx
        rw [← hcell] at d1 d2 d3 d4 d5 d6 d7 d8
        rw [← hcell0] at d0
        clear hcell hcell0
        have hsx' := hsx.below hb hhi
        clear hsx
        generalize x k = y at *
        clear hmo
        rename_i hmo
        go_wp2_with (go_at_call 31; refine (szCh_any y ah ch _ wr (by omega) (by omega) lo hi (Nat.le_trans hhi hb.size) hfk hsx').mono ?_; rintro e w1 ⟨rfl, hb1⟩)
        · go_ret
          refine ⟨ret_int (szOut_no ?_).symm, hb.trans (hb1.mono hb.size)⟩
          have := HS.out
          have := szOut_lt (by assumption)
          have := hmo hkn
          unfold szChs; omega
        · have hs := HS.out
          obtain ⟨g1, g2⟩ := szOut_ge (by assumption)
          go_roundw
          case rel => exact ⟨k + 1, by omega, by go_num, by rw [HQ.out, g2]; apply congrArg; omega, by rw [HQ.out]; omega, hb.trans (hb1.mono hb.size)⟩
          case measure => simp [intOf]; omega
      · have : k = n := by omega
        subst this
        clear hc hf hst hmo hq1
        have HQ : Hid (sumTo (fun i => szCh (x i)) k = q) := hq
        clear hq
        go_wp2
        go_ret
        refine ⟨ret_int ?_, hb⟩
        have := HQ.out
        rw [szOut_yes (by unfold szChs; omega)]
        unfold szChs; omega
set_option maxRecDepth 100000 in
set_option maxHeartbeats 400000 in
theorem szTis_any (n : Nat) (x : Nat → Ti) (ad : Option Addr) (cap : Nat) (left : Int) (w : World) (lo hi : Nat) (hhi : hi ≤ w.heap.size) (hl : (n : Int) ≤ 8796093022208) (h0 : 0 ≤ left) (h1 : left ≤ 1048576) (hf : ∀ i, i < n → TiFit (x i))
    (hc : TicsIn w lo hi ad n x) :
    Calls Tryz.prog 11 #[.slice ad n cap, .int .i64 left] w fun e w' => e = .returned (.int .i64 (szOut left (szTis n x))) ∧ Below w.heap.size w w' := by
  by_cases hlt : left - n < 0
  · go_enter Tryz.func11, Tryz.ntmps11
    go_wp2
    go_ret
    exact ⟨ret_int (szOut_no (by unfold szTis; omega)).symm, Below.refl _ _⟩
  · go_enter Tryz.func11, Tryz.ntmps11
    go_wp2
    go_loopw [1, 5] (fun t i wr => ∃ k : Nat, k ≤ n ∧ i = .int .i64 k ∧ t = .int .i64 (left - n - (sumTo (fun i => szTi (x i)) k : Nat)) ∧ 0 ≤ left - n - (sumTo (fun i => szTi (x i)) k : Nat) ∧ Below w.heap.size w wr) (fun _ i _ => n - (intOf i).toNat)
    case atStart => exact ⟨0, Nat.zero_le _, rfl, by simp [sumTo], by simp [sumTo]; omega, Below.refl _ _⟩
    case round =>
      obtain ⟨k, hk, rfl, rfl, hnn, hb⟩ := hrel
      have hst : sumTo (fun i => szTi (x i)) (k+1) = sumTo (fun i => szTi (x i)) k + szTi (x k) := rfl
      have hmo : k < n → sumTo (fun i => szTi (x i)) (k+1) ≤ sumTo (fun i => szTi (x i)) n := fun h => sumTo_mono _ h
      generalize hq : sumTo (fun i => szTi (x i)) k = q at *
      generalize hq1 : sumTo (fun i => szTi (x i)) (k+1) = q1 at *
      by_cases hkn : k < n
      · obtain ⟨b, off, rfl, hlo, hbh, hcx⟩ := hc k hkn
        have hmo := hmo hkn
        have hfk := hf k hkn
        have HS : Hid (q1 = q + szTi (x k)) := hst
        have HQ : Hid (sumTo (fun i => szTi (x i)) (k+1) = q1) := hq1
        clear hst hq hq1 hc hf
        have hcell : ∀ j, wr.cell? ⟨b, off + k * 5 + j, none⟩ = w.cell? ⟨b, off + k * 5 + j, none⟩ := fun j => hb.cell (p := ⟨b, off + k * 5 + j, none⟩) (by show b < _; omega)
        have hcell0 : wr.cell? ⟨b, off + k * 5, none⟩ = w.cell? ⟨b, off + k * 5, none⟩ := hb.cell (p := ⟨b, off + k * 5, none⟩) (by show b < _; omega)
        obtain ⟨d0, d1, d2, d3, d4⟩ := hcx
        rw [← hcell] at d1 d2 d3 d4
        rw [← hcell0] at d0
        clear hcell hcell0
        generalize x k = y at *
        clear hmo
        rename_i hmo
        go_wp2_with (go_at_call 32; refine (szTi_any y _ wr (by omega) (by omega) hfk).mono ?_; rintro e w1 ⟨rfl, hb1⟩)
        · go_ret
          refine ⟨ret_int (szOut_no ?_).symm, hb.trans (hb1.mono hb.size)⟩
          have := HS.out
          have := szOut_lt (by assumption)
          have := hmo hkn
          unfold szTis; omega
        · have hs := HS.out
          obtain ⟨g1, g2⟩ := szOut_ge (by assumption)
          go_roundw
          case rel => exact ⟨k + 1, by omega, by go_num, by rw [HQ.out, g2]; apply congrArg; omega, by rw [HQ.out]; omega, hb.trans (hb1.mono hb.size)⟩
          case measure => simp [intOf]; omega
      · have : k = n := by omega
        subst this
        clear hc hf hst hmo hq1
        have HQ : Hid (sumTo (fun i => szTi (x i)) k = q) := hq
        clear hq
        go_wp2
        go_ret
        refine ⟨ret_int ?_, hb⟩
        have := HQ.out
        rw [szOut_yes (by unfold szTis; omega)]
        unfold szTis; omega
end Go.Proofs.YtkbghbbaldjinaaGreatDoor
