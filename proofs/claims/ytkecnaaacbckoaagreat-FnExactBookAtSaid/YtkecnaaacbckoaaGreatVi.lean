import Derived.Test.YtkecnaaacbckoaaGreatGw
import Derived.Test.YtkecnaaacbckoaaGreatVa
import Derived.Test.YtkecnaaacbckoaaGreatVh
import Derived.Test.YtkecnaaacbckoaaGreatVf
import Derived.Test.YtkecnaaacbckoaaGreatVd
import Derived.Deep.RegionWith
import Derived.Test.YtkecnaaacbckoaaGreatX
import Derived.ProofKit
import Derived.SizedLaws
namespace Go.Proofs.YtkecnaaacbckoaaGreat
open Go.RowKit Go.Maps
theorem fit_of_sz {x : Bk} (h : szBk x ≤ 1048576) : (x.on : Int) ≤ 1048576 ∧ (∀ i, i < x.on → ((x.os i).hn : Int) ≤ 1048576) := by
  unfold szBk at h
  have h1 : szObs x.on x.os ≤ 1048576 := by omega
  unfold szObs at h1
  refine ⟨by omega, fun i hi => ?_⟩
  have h2 := sumTo_mono (fun i => szOb (x.os i)) (show i + 1 ≤ x.on by omega)
  simp only [sumTo, szOb, szStrs] at h2 h1
  omega
/-- where the law stands, from its first comparison on -/
structure LS (W : World) (s0 : Nat) (x : Bk) (a1 a2 a3 : Option Addr) (c1 c2 c3 : Nat) (n : Nat) (y : Nat → Ob) (z3 z4 : Nat) (adw : Option Addr) (gw : Nat) (Aw : Nat → Option Addr) (Cw hw : Nat → Nat) (p : Pl) (d1 d2 d3 : Nat) (adg : Option Addr) (gg : Nat) (Ag : Nat → Option Addr) (Cg hg : Nat → Nat) (xm : Bk) (yg : Nat → Ob) : Prop where
  bx : Holds W s0 (bkCells x a1 a2 a3 c1 c2 c3)
  arg : BkIn W 0 s0 x a1 a2 a3
  vw : ObsAt W adw gw n y Aw Cw hw
  bw : ∀ q, blkH gw n (fun i => (y i).hn) hw q → s0 < q ∧ q < z3
  vx : Holds W z4 (bkCells x p.a1 p.a2 p.a3 d1 d2 d3)
  xx : BkAt W xm p
  xb : ∀ q, blkB p xm q → z3 ≤ q ∧ q < z4
  vg : ObsAt W adg gg n yg Ag Cg hg
  bg : ∀ q, blkH gg n (fun i => (yg i).hn) hg q → z4 < q
  o1 : s0 < z3
  o2 : z3 ≤ z4
  o3 : z4 < W.heap.size
section
variable {W W' : World} {s0 : Nat} {x : Bk} {a1 a2 a3 : Option Addr} {c1 c2 c3 : Nat} {n : Nat} {y : Nat → Ob} {z3 z4 : Nat} {adw : Option Addr} {gw : Nat} {Aw : Nat → Option Addr} {Cw hw : Nat → Nat} {p : Pl} {d1 d2 d3 : Nat} {adg : Option Addr} {gg : Nat} {Ag : Nat → Option Addr} {Cg hg : Nat → Nat} {xm : Bk} {yg : Nat → Ob}
theorem LS.below (h : LS W s0 x a1 a2 a3 c1 c2 c3 n y z3 z4 adw gw Aw Cw hw p d1 d2 d3 adg gg Ag Cg hg xm yg) (hb : Below W.heap.size W W') : LS W' s0 x a1 a2 a3 c1 c2 c3 n y z3 z4 adw gw Aw Cw hw p d1 d2 d3 adg gg Ag Cg hg xm yg := by
  have h1 := h.o1
  have h2 := h.o2
  have h3 := h.o3
  exact ⟨h.bx.below hb (by omega), h.arg.below hb (by omega), h.vw.grow hb, h.bw, h.vx.below hb h3, h.xx.grow hb, h.xb, h.vg.grow hb, h.bg, h1, h2, Nat.lt_of_lt_of_le h3 hb.size⟩
theorem Holds.frP {W W' : World} {B : Nat} {c : Array Value} {P : Nat → Prop} (h : Holds W B c) (hf : FrP P W W') (hB : B < W.heap.size) (hp : ¬ P B) : Holds W' B c := fun i => (hf.cell (p := ⟨B, i, none⟩) hB hp).trans (h i)
theorem LS.markX (h : LS W s0 x a1 a2 a3 c1 c2 c3 n y z3 z4 adw gw Aw Cw hw p d1 d2 d3 adg gg Ag Cg hg xm yg) (k0 : Nat) (hx : BkAt W' (ykBk k0 xm) p) (hf : FrP (blkB p xm) W W') : LS W' s0 x a1 a2 a3 c1 c2 c3 n y z3 z4 adw gw Aw Cw hw p d1 d2 d3 adg gg Ag Cg hg (ykBk k0 xm) yg := by
  have h1 := h.o1
  have h2 := h.o2
  have h3 := h.o3
  refine ⟨h.bx.frP hf (by omega) (fun e => by have := h.xb _ e; omega), h.arg.below (hf.below (B := s0) (fun k hk e => by have := h.xb _ e; omega) (by omega)) (Nat.le_refl _), h.vw.fr hf (fun k hk e => by have a := h.bw k hk; have b := h.xb _ e; omega), h.bw, h.vx.frP hf h3 (fun e => by have := h.xb _ e; omega), hx, by rw [blkB_yk]; exact h.xb, h.vg.fr hf (fun k hk e => by have a := h.bg k hk; have b := h.xb _ e; omega), h.bg, h1, h2, Nat.lt_of_lt_of_le h3 hf.size⟩
theorem LS.markG (h : LS W s0 x a1 a2 a3 c1 c2 c3 n y z3 z4 adw gw Aw Cw hw p d1 d2 d3 adg gg Ag Cg hg xm yg) (k0 : Nat) (hg' : ObsAt W' adg gg n (ykOb k0 yg n) Ag Cg hg) (hf : FrP (blkH gg n (fun i => (yg i).hn) hg) W W') : LS W' s0 x a1 a2 a3 c1 c2 c3 n y z3 z4 adw gw Aw Cw hw p d1 d2 d3 adg gg Ag Cg hg xm (ykOb k0 yg n) := by
  have h1 := h.o1
  have h2 := h.o2
  have h3 := h.o3
  refine ⟨h.bx.frP hf (by omega) (fun e => by have := h.bg _ e; omega), h.arg.below (hf.below (B := s0) (fun k hk e => by have := h.bg _ e; omega) (by omega)) (Nat.le_refl _), h.vw.fr hf (fun k hk e => by have a := h.bw k hk; have b := h.bg _ e; omega), h.bw, h.vx.frP hf h3 (fun e => by have := h.bg _ e; omega), h.xx.fr hf (fun k hk e => by have a := h.xb k hk; have b := h.bg _ e; omega), h.xb, hg', by simp only [ykOb_hn]; exact h.bg, h1, h2, Nat.lt_of_lt_of_le h3 hf.size⟩
theorem LS.low (h : LS W s0 x a1 a2 a3 c1 c2 c3 n y z3 z4 adw gw Aw Cw hw p d1 d2 d3 adg gg Ag Cg hg xm yg) (hf : FrP (blkB p xm) W W') : Below s0 W W' := by
  have h1 := h.o1
  have h2 := h.o2
  have h3 := h.o3
  exact hf.below (B := s0) (fun k hk e => by have := h.xb _ e; omega) (by omega)
theorem LS.lowG (h : LS W s0 x a1 a2 a3 c1 c2 c3 n y z3 z4 adw gw Aw Cw hw p d1 d2 d3 adg gg Ag Cg hg xm yg) (hf : FrP (blkH gg n (fun i => (yg i).hn) hg) W W') : Below s0 W W' := by
  have h1 := h.o1
  have h2 := h.o2
  have h3 := h.o3
  exact hf.below (B := s0) (fun k hk e => by have := h.bg _ e; omega) (by omega)
end
end Go.Proofs.YtkecnaaacbckoaaGreat
namespace Go.Proofs.YtkecnaaacbckoaaGreat
open Go.RowKit Go.Maps
theorem impRow_len (B : Bk) (k : Nat) : (impRow B k).length ≤ B.on + k := by
  unfold impRow
  have h1 := unt_len B (List.range B.on)
  have h2 := List.length_filter_le (fun j => !(B.hs j).gone && lst B.hs (B.hs j).ob.kind (B.hs j).ob.name k == some j) (List.range k)
  rw [List.length_range] at h1 h2
  simp only [List.length_append, List.length_map]
  omega
theorem at_row {B : Bk} {k : Nat} {ver : Int} (hv : allTo (chk B) 7 = true) (hk : k ≤ B.hn) (hver : ver = B.floor + k) : (toL (hisL (objL B.os B.floor B.on) B.hs ver B.hn).1 (hisL (objL B.os B.floor B.on) B.hs ver B.hn).2).Perm (impRow B k) := by
  have hp : ((impRow B k).mergeSort (fun a b => !befB b a)).Perm (impRow B k) := List.mergeSort_perm _ _
  have hs : ((impRow B k).mergeSort (fun a b => !befB b a)).Pairwise (fun a b => (!befB b a) = true) := List.pairwise_mergeSort (fun a b c h1 h2 => by
    simp only [Bool.not_eq_true'] at *
    exact befB_swo.ntrans _ _ _ h2 h1) (fun a b => by
    cases h1 : befB b a with
    | false => rfl
    | true =>
      cases h2 : befB a b with
      | false => rfl
      | true =>
        have := befB_swo.trans _ _ _ h1 h2
        rw [befB_irr] at this
        cases this) _
  rw [impRow_sorted hv hk hver hp (hs.imp (fun h => by simpa using h))]
  exact hp
theorem toL_len (n : Nat) (y : Nat → Ob) : (toL n y).length = n := by simp [toL]
theorem toL_inj {n m : Nat} {x y : Nat → Ob} (h : toL n x = toL m y) : n = m ∧ ∀ i, i < n → x i = y i := by
  have e : n = m := by rw [← toL_len n x, h, toL_len]
  refine ⟨e, fun i hi => ?_⟩
  subst e
  have h1 := congrArg (fun l => l[i]?) h
  simpa [toL, hi] using h1
theorem fit_of_szH {x : Bk} (h : szBk x ≤ 1048576) : ∀ i, i < x.hn → ((x.hs i).ob.hn : Int) ≤ 1048576 := fun i hi => by
  unfold szBk at h
  have h1 : szChs x.hn x.hs ≤ 1048576 := by omega
  unfold szChs at h1
  have h2 := sumTo_mono (fun i => szCh (x.hs i)) (show i + 1 ≤ x.hn by omega)
  simp only [sumTo, szCh, szOb, szStrs] at h2 h1
  omega
theorem ObsAt.congr {w : World} {ad : Option Addr} {g n : Nat} {x y : Nat → Ob} {A : Nat → Option Addr} {C hb : Nat → Nat} (h : ObsAt w ad g n x A C hb) (e : ∀ i, i < n → x i = y i) : ObsAt w ad g n y A C hb :=
  ⟨h.addr, fun h0 => by obtain ⟨c, r, ha⟩ := h.row h0; exact ⟨c, r, fun i hi => by rw [← e i hi]; exact ha i hi⟩, fun i hi => by rw [← e i hi]; exact h.hold i hi, fun i hi h0 => h.hlt i hi (by rw [e i hi]; exact h0), ⟨fun i hi h0 => h.ap.ne i hi (by show (x i).hn ≠ 0; rw [e i hi]; exact h0), fun i j hi hj h0 h1 q => h.ap.inj i j hi hj (by show (x i).hn ≠ 0; rw [e i hi]; exact h0) (by show (x j).hn ≠ 0; rw [e j hj]; exact h1) q⟩⟩
theorem blkH_congr {g n : Nat} {x y : Nat → Ob} {hb : Nat → Nat} (e : ∀ i, i < n → x i = y i) {q : Nat} (h : blkH g n (fun i => (y i).hn) hb q) : blkH g n (fun i => (x i).hn) hb q := by
  rcases h with h | ⟨i, hi, h0, rfl⟩
  · exact Or.inl h
  · exact Or.inr ⟨i, hi, by show (x i).hn ≠ 0; rw [e i hi]; exact h0, rfl⟩
/-- what BookAt answers -/
def atOk (B : Bk) (ver : Int) : Bool := allTo (chk B) 7 && inB ver B.floor B.now
def atN (B : Bk) (ver : Int) : Nat := if atOk B ver then (hisL (objL B.os B.floor B.on) B.hs ver B.hn).1 else 0
def atY (B : Bk) (ver : Int) : Nat → Ob := (hisL (objL B.os B.floor B.on) B.hs ver B.hn).2
def atF (B : Bk) (ver : Int) : Bool := if atOk B ver then allK B.hs ver B.hn else false
theorem atOk_k {B : Bk} {ver : Int} (h : atOk B ver = true) : allTo (chk B) 7 = true ∧ ∃ k : Nat, k ≤ B.hn ∧ ver = B.floor + k := by
  unfold atOk at h
  simp only [Bool.and_eq_true] at h
  obtain ⟨hv, hi⟩ := h
  obtain ⟨v0, v1, v2, v3, v4, v5⟩ := valid_hist hv
  simp [inB] at hi
  exact ⟨hv, (ver - B.floor).toNat, by omega, by omega⟩
theorem at_bound {B : Bk} {ver : Int} (hs : szBk B ≤ 1048576) : (atN B ver : Int) ≤ 300 ∧ ∀ i, i < atN B ver → ((atY B ver i).hn : Int) ≤ 1048576 := by
  cases ho : atOk B ver with
  | false =>
    have e : atN B ver = 0 := by simp [atN, ho]
    rw [e]
    exact ⟨by omega, fun i hi => absurd hi (Nat.not_lt_zero _)⟩
  | true =>
    obtain ⟨hv, k, hk, hver⟩ := atOk_k ho
    obtain ⟨v0, v1, v2, v3, v4, v5⟩ := valid_hist hv
    have von := (valid_asc hv).1
    have hp := at_row hv hk hver
    have hl := impRow_len B k
    have e : atN B ver = (hisL (objL B.os B.floor B.on) B.hs ver B.hn).1 := by simp [atN, ho]
    have hlen := hp.length_eq
    rw [toL_len] at hlen
    refine ⟨by omega, fun i hi => ?_⟩
    rw [e] at hi
    have hm := hp.mem_iff.1 (toL_mem.2 ⟨i, hi, rfl⟩)
    rcases impRow_mem.1 hm with ⟨j, hj, _, e2⟩ | ⟨j, hj, _, e2, _⟩
    · show (((hisL (objL B.os B.floor B.on) B.hs ver B.hn).2 i).hn : Int) ≤ _
      rw [e2]
      exact (fit_of_sz hs).2 j hj
    · show (((hisL (objL B.os B.floor B.on) B.hs ver B.hn).2 i).hn : Int) ≤ _
      rw [e2]
      exact fit_of_szH hs j (by omega)
theorem mkObs_bound {y : Nat → Ob} {c : Nat} : ∀ n, (∀ i, i < n → (y i).hn ≤ c) → mkObs 1 y n ≤ 1 + n * (6 + c)
  | 0, _ => by simp [mkObs]
  | n + 1, h => by
    have ih := mkObs_bound n (fun i hi => h i (by omega))
    have h1 := h n (by omega)
    unfold mkObs
    rw [Nat.add_mul]
    omega
end Go.Proofs.YtkecnaaacbckoaaGreat
namespace Go.Proofs.YtkecnaaacbckoaaGreat
open Go.RowKit Go.Maps
theorem obsAt_nil (w : World) (ad : Option Addr) (g : Nat) (x : Nat → Ob) (A : Nat → Option Addr) (C hb : Nat → Nat) : ObsAt w ad g 0 x A C hb :=
  ⟨fun h0 => absurd h0 (Nat.lt_irrefl _), fun h0 => absurd h0 (Nat.lt_irrefl _), fun _i hi => absurd hi (Nat.not_lt_zero _), fun _i hi => absurd hi (Nat.not_lt_zero _), ⟨fun _i hi => absurd hi (Nat.not_lt_zero _), fun _i _j hi => absurd hi (Nat.not_lt_zero _)⟩⟩
theorem blk_nil {g : Nat} {hn hb : Nat → Nat} {q : Nat} (h : blkH g 0 hn hb q) : False := by
  rcases h with ⟨h0, _⟩ | ⟨i, hi, _⟩
  · exact absurd h0 (Nat.lt_irrefl _)
  · exact absurd hi (Nat.not_lt_zero _)
theorem implAt_y (B : Bk) (p : Pl) (c1 c2 c3 : Nat) (ver : Int) (n : Nat) (y : Nat → Ob) (fl : Bool) (hn : atN B ver = n) (hy : atY B ver = y) (hF : atF B ver = fl) (w : World) (hfit : BkFit B) (hat : BkAt w B p) :
    Calls Tryz.prog 16 #[.agg #[.int .i64 B.now, .int .i64 B.floor, .slice p.a1 B.on c1, .slice p.a2 B.hn c2, .slice p.a3 B.tn c3], .int .i64 ver] w fun e w' => ∃ (ad' : Option Addr) (cap' g : Nat) (A : Nat → Option Addr) (C hb : Nat → Nat), e = .returned (.tuple #[.slice ad' n cap', .bool fl]) ∧ ObsAt w' ad' g n y A C hb ∧ (∀ q, blkH g n (fun i => (y i).hn) hb q → w.heap.size ≤ q) ∧ Below w.heap.size w w' := by
  cases ho : atOk B ver with
  | false =>
    obtain rfl : 0 = n := by rw [← hn]; simp [atN, ho]
    obtain rfl : false = fl := by rw [← hF]; simp [atF, ho]
    refine (implAtNo_any B _ _ _ c1 c2 c3 ver w 0 w.heap.size (Nat.le_refl _) hfit (hat.isIn (fun _ _ => Nat.zero_le _)) ho).mono ?_
    rintro e w' ⟨rfl, hb⟩
    exact ⟨none, 0, 0, fun _ => none, fun _ => 0, fun _ => 0, rfl, obsAt_nil _ _ _ _ _ _ _, fun q hq => (blk_nil hq).elim, hb⟩
  | true =>
    obtain ⟨hv, k, hk, hver⟩ := atOk_k ho
    obtain ⟨v0, v1, v2, v3, v4, v5⟩ := valid_hist hv
    have h := callsIn_wide.1 (implAtYes_in Fence.wide 9 (fun _ _ _ _ _ h => callsIn_wide.2 h) (fun _ => trivial) rfl (by decide) (fun _ R v w h0 h1 => callsIn_wide.2 (place_any R v w h0 h1)) B p c1 c2 c3 ver k w hfit hat hv hk hver)
    refine h.mono ?_
    rintro e w' ⟨n', y', ad', cap', g, A, C, hb, rfl, hob, hq, hB, hpm, has⟩
    have hr := toL_inj (impRow_sorted hv hk hver hpm has)
    have e1 : n' = n := by rw [← hn]; simp [atN, ho, hr.1]
    subst e1
    have e2 : ∀ i, i < n' → y' i = y i := fun i hi => by rw [← hy]; exact (hr.2 i (by omega)).symm
    have e3 : fl = knw B.hs (List.range k) ((List.range (B.hn - k)).map (k + ·)) := by
      have h1 := allK_knw (hs := B.hs) (ver := ver) (k := k) (B.hn - k) (fun i hi => by rw [(v5 i (by omega)).1]; omega)
      rw [show k + (B.hn - k) = B.hn by omega] at h1
      rw [← hF, ← h1]
      simp [atF, ho]
    subst e3
    exact ⟨ad', cap', g, A, C, hb, rfl, hob.congr e2, fun q hq' => hq q (blkH_congr e2 hq'), hB⟩
theorem specAt_y (B : Bk) (a1 a2 a3 : Option Addr) (c1 c2 c3 : Nat) (ver : Int) (n : Nat) (y : Nat → Ob) (fl : Bool) (hn : atN B ver = n) (hy : atY B ver = y) (hF : atF B ver = fl) (w : World) (lo hi : Nat) (hhi : hi ≤ w.heap.size) (hfit : BkFit B) (hon : (B.on : Int) ≤ 1048576) (hin : BkIn w lo hi B a1 a2 a3) :
    Calls Tryz.prog 15 #[.agg #[.int .i64 B.now, .int .i64 B.floor, .slice a1 B.on c1, .slice a2 B.hn c2, .slice a3 B.tn c3], .int .i64 ver] w fun e w' => ∃ (ad' : Option Addr) (cap' g : Nat) (A : Nat → Option Addr) (C hb : Nat → Nat), e = .returned (.tuple #[.slice ad' n cap', .bool fl]) ∧ ObsAt w' ad' g n y A C hb ∧ (∀ q, blkH g n (fun i => (y i).hn) hb q → w.heap.size ≤ q) ∧ Below w.heap.size w w' := by
  cases ho : atOk B ver with
  | false =>
    obtain rfl : 0 = n := by rw [← hn]; simp [atN, ho]
    obtain rfl : false = fl := by rw [← hF]; simp [atF, ho]
    refine (specAtNo_any B _ _ _ c1 c2 c3 ver w lo hi hhi hfit hin ho).mono ?_
    rintro e w' ⟨ad', cap', rfl, hb⟩
    exact ⟨ad', cap', 0, fun _ => none, fun _ => 0, fun _ => 0, rfl, obsAt_nil _ _ _ _ _ _ _, fun q hq => (blk_nil hq).elim, hb⟩
  | true =>
    obtain ⟨hv, k, hk, hver⟩ := atOk_k ho
    obtain ⟨v0, v1, v2, v3, v4, v5⟩ := valid_hist hv
    have von := (valid_asc hv).1
    have e1 : n = (hisL (objL B.os B.floor B.on) B.hs ver B.hn).1 := by rw [← hn]; simp [atN, ho]
    have e3 : fl = allK B.hs ver B.hn := by rw [← hF]; simp [atF, ho]
    subst e1
    subst e3
    subst hy
    exact specAtYes_any B a1 a2 a3 c1 c2 c3 ver w lo hi hhi hon hfit hin hv von v3 (by unfold atOk at ho; simp only [Bool.and_eq_true] at ho; exact ho.2)
theorem BkOwn.isIn {w : World} {lo hi : Nat} {x : Bk} {g1 g2 g3 : Nat} (h : BkOwn w lo hi x g1 g2 g3) : BkIn w lo w.heap.size x (some ⟨g1, 0, none⟩) (some ⟨g2, 0, none⟩) (some ⟨g3, 0, none⟩) := by
  obtain ⟨p, h1, h2, h3, h4, h5⟩ := h.at
  have := h4.isIn (lo := lo) (fun q hq => (h5 q hq).1)
  rw [h1, h2, h3] at this
  exact this
set_option maxRecDepth 100000 in
set_option maxHeartbeats 4000000 in
theorem at_law (x : Bk) (a1 a2 a3 : Option Addr) (c1 c2 c3 : Nat) (ver : Int) (w : World) (hf0 : BkFit0 x) (hc : BkIn w 0 w.heap.size x a1 a2 a3) :
    Calls Tryz.prog 4 #[.agg #[.int .i64 x.now, .int .i64 x.floor, .slice a1 x.on c1, .slice a2 x.hn c2, .slice a3 x.tn c3], .int .i64 ver] w fun e w' => e = .returned (.bool true) ∧ Below w.heap.size w w' := by
  go_enter Tryz.func4, Tryz.ntmps4
  go_wp2_with fail
  refine (szBk_any x a1 a2 a3 c1 c2 c3 1048576 _ (by omega) (by omega) 0 w.heap.size (by simp) hf0 (hc.below (below_alloc _ _) (Nat.le_refl _))).mono ?_
  rintro e w1 ⟨rfl, hb1⟩
  have hB1 : Below w.heap.size w w1 := (below_alloc _ _).trans (hb1.mono (by simp))
  have H1 : Holds w1 w.heap.size (bkCells x a1 a2 a3 c1 c2 c3) := (holds_new w _ 26).below hb1 (by simp)
  have hz1 : w.heap.size < w1.heap.size := by have := hb1.size; simp at this; omega
  clear hb1
  by_cases hsz : szOut 1048576 (szBk x) < 0
  · clear H1
    go_wp2
    go_ret
    exact ⟨rfl, hB1⟩
  have hs0 : szBk x ≤ 1048576 := by
    have := (szOut_ge (l := 1048576) (s := szBk x) (by omega)).1
    omega
  have hf : BkFit x := by
    have hs1 := hs0
    unfold szBk szObs szChs szTis at hs1
    exact ⟨by omega, by omega, by omega, hf0.os, hf0.hs, hf0.ts⟩
  have hon := (fit_of_sz hs0).1
  have hlim : (x.hn : Int) ≤ 1048576 ∧ (x.tn : Int) ≤ 1048576 := by
    have hs1 := hs0
    unfold szBk szObs szChs szTis at hs1
    omega
  clear hf0
  obtain ⟨p0, p1, p2, p3, p4⟩ := holds_bk H1
  go_wp2_with fail
  refine (toBk_any x a1 a2 a3 c1 c2 c3 w1 0 w.heap.size (by omega) hf (hc.below hB1 (Nat.le_refl _))).mono ?_
  rintro e w2 ⟨e1, e2, e3, f1, f2, f3, rfl, ho2, hb2⟩
  have hB2 : Below w.heap.size w w2 := hB1.trans (hb2.mono hB1.size)
  have H2 := H1.below hb2 hz1
  have hz2 := hb2.size
  obtain ⟨n, hnn⟩ : ∃ n, atN x ver = n := ⟨_, rfl⟩
  obtain ⟨y, hy⟩ : ∃ y, atY x ver = y := ⟨_, rfl⟩
  obtain ⟨nw, hnw⟩ : ∃ nw, atF x ver = nw := ⟨_, rfl⟩
  obtain ⟨hb300, hbh⟩ := at_bound (B := x) (ver := ver) hs0
  rw [hnn] at hb300 hbh
  rw [hy] at hbh
  have hyn : (n : Int) ≤ 1048576 := by omega
  have hyh : ∀ i, i < n → ((y i).hn : Int) ≤ 140737488355328 := fun i hi => by have := hbh i hi; omega
  have hmk : (mkObs 1 y n : Int) ≤ 1073741824 := by
    have h1 := mkObs_bound (y := y) (c := 1048576) n (fun i hi => by have := hbh i hi; omega)
    have h2 : n * (6 + 1048576) ≤ 300 * (6 + 1048576) := Nat.mul_le_mul_right _ (by omega)
    omega
  clear hbh
  have hmb : (mkBk 1 x : Int) ≤ 1073741824 := by have := mkBk_le 1 x; omega
  have HN := hid hnn
  have HY := hid hy
  have HW := hid hnw
  have HYH := hid hyh
  clear p0 p1 p2 p3 p4 hb2 hy hnn hnw H1 hyh
  have HX := hid ho2
  clear ho2
  go_wp2_with fail
  refine (specAt_y x _ _ _ f1 f2 f3 ver n y nw HN.out HY.out HW.out w2 w1.heap.size w2.heap.size (Nat.le_refl _) hf hon HX.out.isIn).mono ?_
  rintro e w3 ⟨adw, cw, gw, Aw, Cw, hw, rfl, hw3, hq3, hb3⟩
  have hB3 : Below w.heap.size w w3 := hB2.trans (hb3.mono hB2.size)
  have hz3 := hb3.size
  have H3 := H2.below hb3 (by omega)
  obtain ⟨p0, p1, p2, p3, p4⟩ := holds_bk H3
  have VW := hid hw3
  have BW := hid (show ∀ q, blkH gw n (fun i => (y i).hn) hw q → w.heap.size < q ∧ q < w3.heap.size from fun q hq => ⟨by have := hq3 q hq; omega, hw3.blt hq⟩)
  have hzw3 : w.heap.size < w3.heap.size := by omega
  clear hw3 hq3 H2 hb3 HX
  go_wp2_with fail
  refine (toBk_any x a1 a2 a3 c1 c2 c3 w3 0 w.heap.size (by omega) hf (hc.below hB3 (Nat.le_refl _))).mono ?_
  rintro e w4 ⟨g1, g2, g3, d1, d2, d3, rfl, hx4, hb4⟩
  obtain ⟨p, hp1, hp2, hp3, hp4, hp5⟩ := hx4.at
  rw [← hp1, ← hp2, ← hp3]
  have hB4 : Below w.heap.size w w4 := hB3.trans (hb4.mono hB3.size)
  have H4 := H3.below hb4 hzw3
  have VW4 := hid (VW.out.grow hb4)
  have hz4 := hb4.size
  have XX := hid hp4
  have XB := hid hp5
  clear p0 p1 p2 p3 p4 hb4 H3 VW hx4 hp1 hp2 hp3 hp4 hp5
  go_wp2_with fail
  refine (implAt_y x p d1 d2 d3 ver n y nw HN.out HY.out HW.out _ hf (by exact XX.out.grow (below_alloc _ _))).mono ?_
  rintro e w5 ⟨adg, cg, gg, Ag, Cg, hg, rfl, hg5, hq5, hb5⟩
  have hB5 : Below w.heap.size w w5 := (hB4.alloc hB4.size _).trans (hb5.mono (by simp; omega))
  have hz5 : w4.heap.size < w5.heap.size := by have := hb5.size; simp at this; omega
  have S5 : LS w5 w.heap.size x a1 a2 a3 c1 c2 c3 n y w3.heap.size w4.heap.size adw gw Aw Cw hw p d1 d2 d3 adg gg Ag Cg hg x y :=
    ⟨(H4.below (below_alloc _ _) (by omega)).below hb5 (by simp; omega), hc.below hB5 (Nat.le_refl _), (VW4.out.grow (below_alloc _ _)).grow hb5, BW.out, (holds_new w4 _ 32).below hb5 (by simp), (XX.out.grow (below_alloc _ _)).grow hb5, XB.out, hg5, fun q hq => by have := hq5 q hq; simp at this; omega, hzw3, hz4, hz5⟩
  have HS5 := hid S5
  clear hg5 hq5 hb5 H4 VW4 XX XB S5 BW
  go_wp2_with fail
  refine (eqObs_any n y adg adw cg cw w5 0 w5.heap.size 0 w5.heap.size (Nat.le_refl _) (Nat.le_refl _) (by omega) HYH.out (by exact HS5.out.vg.isIn (fun _ _ => Nat.zero_le _)) (by exact HS5.out.vw.isIn (fun _ _ => Nat.zero_le _))).mono ?_
  rintro e w6 ⟨rfl, hb6⟩
  have HS6 := hid (HS5.out.below hb6)
  have hB6 : Below w.heap.size w w6 := hB5.trans (hb6.mono hB5.size)
  have hz6 := hb6.size
  clear hb6 HS5
  obtain ⟨p0, p1, p2, p3, p4⟩ := holds_bk HS6.out.bx
  obtain ⟨q0, q1, q2, q3, q4⟩ := holds_bk HS6.out.vx
  go_wp2
  go_region_with (first
    | (go_at_call 10; go_must (refine (toBk_any x a1 a2 a3 c1 c2 c3 _ 0 w.heap.size (by exact hB6.size) hf (by exact HS6.out.arg.below ((Below.refl _ _).drew) (Nat.le_refl _))).mono ?_; rintro e w7 ⟨g1', g2', g3', d1', d2', d3', rfl, hx7, hb70⟩; have hb7 : Below w6.heap.size w6 w7 := ((Below.refl _ _).drew).trans hb70; clear hb70; have HS7 := hid (HS6.out.below hb7); have HX7 := hid hx7; have HB7 := hid hb7; have hz7 := hb7.size; obtain ⟨r0, r1, r2, r3, r4⟩ := holds_bk HS7.out.vx; clear hx7 hb7))
    | (go_at_call 12; go_must (refine (eqBk_any x _ _ _ _ _ _ d1 d2 d3 d1' d2' d3' _ 0 w7.heap.size w6.heap.size w7.heap.size (by exact Nat.le_refl _) (by exact Nat.le_refl _) hf (by exact HS7.out.xx.isIn (fun _ _ => Nat.zero_le _)) (by exact HX7.out.isIn)).mono ?_; rintro e w8 ⟨rfl, hb8⟩)))
  all_goals
    have hb78 : Below w6.heap.size w6 w8 := HB7.out.trans (hb8.mono hz7)
    have HS8 := hid (HS6.out.below hb78)
    have hB8 : Below w.heap.size w w8 := hB6.trans (hb78.mono hB6.size)
    clear p0 p1 p2 p3 p4 q0 q1 q2 q3 q4 r0 r1 r2 r3 r4 HS6 HX7 HS7 HB7 hb8 hb78
    obtain ⟨q0, q1, q2, q3, q4⟩ := holds_bk HS8.out.vx
    go_wp2_with fail
    refine (markBk_own x p d1 d2 d3 1 w8 hon hlim.1 hlim.2 (by decide) hmb HS8.out.xx).mono ?_
    rintro e w9 ⟨rfl, hx9, hf9⟩
    have HS9 := hid (HS8.out.markX 1 hx9 hf9)
    have hB9 : Below w.heap.size w w9 := hB8.trans (HS8.out.low hf9)
    obtain ⟨k9, hk9⟩ : ∃ k9, mkBk 1 x = k9 := ⟨_, rfl⟩
    rw [hk9]
    clear q0 q1 q2 q3 q4 HS8 hB8 hx9 hf9
    go_wp2_with fail
    refine (eqObs_any n y adg adw cg cw w9 0 w9.heap.size 0 w9.heap.size (Nat.le_refl _) (Nat.le_refl _) (by omega) HYH.out (by exact HS9.out.vg.isIn (fun _ _ => Nat.zero_le _)) (by exact HS9.out.vw.isIn (fun _ _ => Nat.zero_le _))).mono ?_
    rintro e w10 ⟨rfl, hb10⟩
    have HS10 := hid (HS9.out.below hb10)
    have hB10 : Below w.heap.size w w10 := hB9.trans (hb10.mono hB9.size)
    clear HS9 hB9 hb10
    go_wp2_with fail
    refine (markObs_own adg gg n y Ag Cg hg cg 1 w10 hyn (by decide) hmk HS10.out.vg).mono ?_
    rintro e w11 ⟨rfl, hg11, hf11⟩
    have HS11 := hid (HS10.out.markG 1 hg11 hf11)
    have hB11 : Below w.heap.size w w11 := hB10.trans (HS10.out.lowG hf11)
    obtain ⟨m9, hm9⟩ : ∃ m9, mkObs 1 y n = m9 := ⟨_, rfl⟩
    have HM9 := hid hm9
    rw [hm9]
    clear HS10 hB10 hg11 hf11 hm9
    go_wp2_with fail
    refine (heldObs_own adg gg n y Ag Cg hg cg 1 w11 hyn (by decide) hmk HS11.out.vg).mono ?_
    rw [HM9.out]
    rintro e w12 ⟨rfl, hb12⟩
    have HS12 := hid (HS11.out.below hb12)
    have hB12 : Below w.heap.size w w12 := hB11.trans (hb12.mono hB11.size)
    clear HS11 hB11 hb12
    obtain ⟨p0, p1, p2, p3, p4⟩ := holds_bk HS12.out.bx
    go_wp2_with fail
    refine (toBk_any x a1 a2 a3 c1 c2 c3 w12 0 w.heap.size hB12.size hf HS12.out.arg).mono ?_
    rintro e w13 ⟨k1, k2, k3, m1, m2, m3, rfl, hx13, hb13⟩
    have HS13 := hid (HS12.out.below hb13)
    have hB13 : Below w.heap.size w w13 := hB12.trans (hb13.mono hB12.size)
    have HX13 := hid hx13
    clear p0 p1 p2 p3 p4 HS12 hB12 hb13 hx13
    go_wp2_with fail
    obtain ⟨p', ep1, ep2, ep3, hat', _⟩ := HX13.out.at
    rw [← ep1, ← ep2, ← ep3]
    refine (implAt_y x p' m1 m2 m3 ver n y nw HN.out HY.out HW.out w13 hf hat').mono ?_
    rintro e w14 ⟨adh, ch, gh, Ah, Ch', hh, rfl, hh14, hq14, hb14⟩
    have HS14 := hid (HS13.out.below hb14)
    have hB14 : Below w.heap.size w w14 := hB13.trans (hb14.mono hB13.size)
    have HH14 := hid hh14
    clear HS13 hB13 hb14 hh14 HX13 hq14
    go_wp2_with fail
    refine (eqObs_any n y adh adw ch cw w14 0 w14.heap.size 0 w14.heap.size (Nat.le_refl _) (Nat.le_refl _) (by omega) HYH.out (by exact HH14.out.isIn (fun _ _ => Nat.zero_le _)) (by exact HS14.out.vw.isIn (fun _ _ => Nat.zero_le _))).mono ?_
    rintro e w15 ⟨rfl, hb15⟩
    have HS15 := hid (HS14.out.below hb15)
    have hB15 : Below w.heap.size w w15 := hB14.trans (hb15.mono hB14.size)
    clear HS14 hB14 hb15 HH14
    go_wp2_with fail
    refine (heldObs_own adg gg n y Ag Cg hg cg 1 w15 hyn (by decide) hmk HS15.out.vg).mono ?_
    rw [HM9.out]
    rintro e w16 ⟨rfl, hb16⟩
    have hB16 : Below w.heap.size w w16 := hB15.trans (hb16.mono hB15.size)
    clear HS15 hB15 hb16
    go_wp2
    go_ret
    exact ⟨rfl, hB16⟩
end Go.Proofs.YtkecnaaacbckoaaGreat
namespace Go.Proofs.YtkecnaaacbckoaaGreat
open Go.ChangeShapes Go.WideShapes Go.ChangeAt Go.RowKit
open Go.WideMaps Go.WideElems
theorem Tryz.own : ownKnob Tryz.prog.godebug = none := by kernel_rfl
set_option maxRecDepth 100000 in
theorem at_lifted (os : Os) (started : os.Started) (H : Type) (enc : TypeId × Value → H) :
    ReturnsInHanded {} Tryz.checked os 4 .any (Rows.fnExactBookAtSpec.pre6 enc Tryz.prog Tryz.f4 Rows.fnExactBookAtRow.domain false) (Rows.fnExactBookAtSpec.post enc Tryz.prog Tryz.f4 false true false false) := by
  refine returnsInHanded_of_change_sized (C := Tryz.checked) Tryz.own started (by kernel_rfl) Tryz.func4
    (ChangeSpec.witness6 (enc := enc) (C := Tryz.checked) false ⟨#[], #[.agg #[.int .i64 0, .int .i64 0, .slice none 0 0, .slice none 0 0, .slice none 0 0], .int .i64 0], []⟩ 8 (by kernel_rfl) (by kernel_rfl) (by kernel_rfl) (by kernel_rfl)) ?_
  intro W base args ds gs before hval0 hW _ hsz0 _
  have hsz : (DataW.weightsEach Tryz.prog (Tryz.f4.params.toList ++ Rows.fnExactBookAtSpec.plain.varTypes Tryz.prog) (ds ++ gs)).all (· ≤ reachBytes) = true := hsz0
  clear hsz0
  have hval : ∀ (j : Nat) t v, Tryz.f4.params[j]? = some t → args[j]? = some v → Value.okWide Tryz.prog W .any base t v := hval0
  have hW' := hW
  obtain ⟨p, q, hA0, hV, rfl, _, _⟩ := hW
  have hA : DataW.TrodAll enc Tryz.prog W 0 (fun _ => true) true Tryz.f4.params.toList args.toList ds p := hA0
  rw [Tryz.params4] at hA hval hsz
  obtain ⟨v0, v1, d0, d1, p0, p1, rfl, rfl, rfl, h0, h1⟩ := trodAll_two hA
  obtain ⟨rfl, rfl⟩ := trodVars_none hV
  have hfit : Fits 26 d0 := fun x hx => by
    have := List.all_eq_true.1 hsz x (DataW.weights_mem_each (j := 0) (t := 26) rfl rfl x hx)
    simpa using this
  obtain ⟨n1, rfl, rfl, rfl, hn1⟩ := open_int Tryz.underlying3 (hval 1 3 v1 rfl rfl) h1
  have h0k := h0
  obtain ⟨x, a1, a2, a3, c1, c2, c3, rfl, hin, hbf⟩ := openBk (hval 0 26 v0 rfl rfl) h0 hfit
  clear hA0 hval0 hsz
  simp only [List.append_nil] at hW'
  have hlt : ∀ y ∈ p0, y.block < W.heap.size := fun y hy => by simpa using hW'.lt y (by simp [hy])
  refine (at_law x a1 a2 a3 c1 c2 c3 n1 W hbf hin).mono fun e W' ⟨he, hb⟩ => ?_
  subst he
  refine ⟨_, rfl, _, _, _, [], p0 ++ [], [], hW', ?_, ?_, rfl, hb.frame _, fun h => by cases h⟩
  · exact trodAll_mk1 (shut_bool Tryz.underlying4 true)
  · exact trodAll_mk2 (Below.trod Tryz.laidOut (by kernel_rfl) (of_decide_eq_true (by kernel_rfl)) h0k hb hlt) (shut_int Tryz.underlying3 hn1)
theorem at_holds : Rows.FnExactBookAtSaid :=
  OpenClaim.holds_of_wide 4 Tryz.f4 rfl rfl rfl rfl rfl rfl rfl ⟨rfl, rfl, rfl, rfl, rfl⟩ rfl rfl rfl rfl rfl (by kernel_rfl) Tryz.func4 (by kernel_rfl)
    (of_decide_eq_true (by kernel_rfl)) (by unfold Func.isWrapper; rw [if_neg (of_decide_eq_false (by kernel_rfl))]; exact ⟨rfl, rfl⟩)
    (fun os started H enc _ => at_lifted os started H enc)
end Go.Proofs.YtkecnaaacbckoaaGreat
