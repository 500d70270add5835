import Derived.Test.YtkfbclopkgnacaaGreatDoorZ
import Derived.Test.YtkfbclopkgnacaaGreatDoorZb
namespace Go.Proofs.YtkfbclopkgnacaaGreatDoor
open Go.RowKit Go.Maps
theorem keyI_zero (x z : Ob) : (keyI x z == 0) = (decide (x.kind = z.kind ∧ x.name = z.name)) := by
  unfold keyI
  by_cases hk : x.kind = z.kind
  · rw [hk, ltB_irr rfl]
    by_cases hn : x.name = z.name
    · rw [hn, ltB_irr rfl]; simp
    · have h2 : ¬ x.name.toList = z.name.toList := fun e => hn (toList_inj' e)
      cases ltB x.name z.name <;> simp [hn, h2]
  · have h1 : ¬ x.kind.toList = z.kind.toList := fun e => hk (toList_inj' e)
    cases ltB x.kind z.kind <;> simp [hk, h1]
theorem lst_down {h : Nat → Ch} {a b : ByteArray} {j : Nat} : ∀ {m : Nat}, j ≤ m → (∀ l, j ≤ l → l < m → ¬ ((h l).ob.kind = a ∧ (h l).ob.name = b)) → lst h a b m = lst h a b j := by
  intro m hm
  induction m with
  | zero => intro _; have : j = 0 := by omega
            subst this; rfl
  | succ m ih =>
    intro hall
    rcases Nat.lt_or_ge m j with h3 | h3
    · have : j = m + 1 := by omega
      subst this; rfl
    · rw [lst_miss (hall m h3 (by omega))]
      exact ih h3 (fun l h1 h2 => hall l h1 (by omega))
def lastI (h : Nat → Ch) (o : Ob) (m : Nat) : Int := match lst h o.kind o.name m with | none => -1 | some i => i
set_option maxRecDepth 100000 in
set_option maxHeartbeats 1000000 in
theorem l1Last_any (n m : Nat) (h : Nat → Ch) (o : Ob) (ad ad2 : Option Addr) (cap cap2 : Nat) (w : World) (lo hi : Nat) (hhi : hi ≤ w.heap.size) (hl : (n : Int) ≤ 1099511627776) (hm : m ≤ n) (hc : ChgsIn w lo hi ad n h) :
    Calls Tryz.prog 77 #[.slice ad n cap, .agg #[.string o.kind, .string o.name, .int .i64 o.ver, .int .i64 o.born, .string o.text, .bool o.ending, .slice ad2 o.hn cap2], .int .i64 m] w fun e w' => e = .returned (.int .i64 (lastI h o m)) ∧ Below w.heap.size w w' := by
  go_enter Tryz.func77, Tryz.ntmps77
  go_wp2
  go_loopw [7] (fun i wr => ∃ j : Nat, j ≤ m ∧ i = .int .i64 ((j : Int) - 1) ∧ (∀ l, j ≤ l → l < m → ¬ ((h l).ob.kind = o.kind ∧ (h l).ob.name = o.name)) ∧ Below (w.heap.size + 1) (w.alloc (.cells #[.string o.kind, .string o.name, .int .i64 o.ver, .int .i64 o.born, .string o.text, .bool o.ending, .slice ad2 o.hn cap2] 38)) wr) (fun i _ => (intOf i + 1).toNat)
  case atStart => exact ⟨m, Nat.le_refl _, by go_num, fun l h1 h2 => absurd h2 (by omega), Below.refl _ _⟩
  case round =>
    obtain ⟨j, hj, rfl, hall, hb⟩ := hrel
    have hBw : Below w.heap.size w wr := (below_alloc' _ _).trans (hb.mono (by omega))
    have hsz : w.heap.size + 1 ≤ wr.heap.size := by have := hb.size; simpa using this
    rcases Nat.eq_zero_or_pos j with rfl | hjp
    · have HE := hid (show lastI h o m = -1 by unfold lastI; rw [lst_down (Nat.zero_le _) hall]; rfl)
      clear hc hall
      go_wp2
      go_ret
      exact ⟨ret_int HE.out.symm, hBw⟩
    · obtain ⟨k, rfl⟩ : ∃ k, j = k + 1 := ⟨j - 1, by omega⟩
      obtain ⟨b, off, ah, ch, rfl, hlo, hbh, hcx, hsx⟩ := hc k (by omega)
      obtain ⟨d0, d1, d2, d3, d4, d5, d6, d7, d8⟩ := hcx.below hBw (by omega)
      have hbw : b < wr.heap.size := by omega
      have y2 := subcell d2 hbw
      have y3 := subcell d3 hbw
      have y4 := subcell d4 hbw
      have y5 := subcell d5 hbw
      have y6 := subcell d6 hbw
      have y7 := subcell d7 hbw
      have y8 := subcell d8 hbw
      have z0 := subcell (p := ⟨w.heap.size, 0, none⟩) (v := .string o.kind) (box_cell (w := w) (c := #[.string o.kind, .string o.name, .int .i64 o.ver, .int .i64 o.born, .string o.text, .bool o.ending, .slice ad2 o.hn cap2]) (t := 38) (by simpa using hb) 0) (by show w.heap.size < _; omega)
      have z1 := subcell (p := ⟨w.heap.size, 1, none⟩) (v := .string o.name) (box_cell (w := w) (c := #[.string o.kind, .string o.name, .int .i64 o.ver, .int .i64 o.born, .string o.text, .bool o.ending, .slice ad2 o.hn cap2]) (t := 38) (by simpa using hb) 1) (by show w.heap.size < _; omega)
      have z2 := subcell (p := ⟨w.heap.size, 2, none⟩) (v := .int .i64 o.ver) (box_cell (w := w) (c := #[.string o.kind, .string o.name, .int .i64 o.ver, .int .i64 o.born, .string o.text, .bool o.ending, .slice ad2 o.hn cap2]) (t := 38) (by simpa using hb) 2) (by show w.heap.size < _; omega)
      have z3 := subcell (p := ⟨w.heap.size, 3, none⟩) (v := .int .i64 o.born) (box_cell (w := w) (c := #[.string o.kind, .string o.name, .int .i64 o.ver, .int .i64 o.born, .string o.text, .bool o.ending, .slice ad2 o.hn cap2]) (t := 38) (by simpa using hb) 3) (by show w.heap.size < _; omega)
      have z4 := subcell (p := ⟨w.heap.size, 4, none⟩) (v := .string o.text) (box_cell (w := w) (c := #[.string o.kind, .string o.name, .int .i64 o.ver, .int .i64 o.born, .string o.text, .bool o.ending, .slice ad2 o.hn cap2]) (t := 38) (by simpa using hb) 4) (by show w.heap.size < _; omega)
      have z5 := subcell (p := ⟨w.heap.size, 5, none⟩) (v := .bool o.ending) (box_cell (w := w) (c := #[.string o.kind, .string o.name, .int .i64 o.ver, .int .i64 o.born, .string o.text, .bool o.ending, .slice ad2 o.hn cap2]) (t := 38) (by simpa using hb) 5) (by show w.heap.size < _; omega)
      have z6 := subcell (p := ⟨w.heap.size, 6, none⟩) (v := .slice ad2 o.hn cap2) (box_cell (w := w) (c := #[.string o.kind, .string o.name, .int .i64 o.ver, .int .i64 o.born, .string o.text, .bool o.ending, .slice ad2 o.hn cap2]) (t := 38) (by simpa using hb) 6) (by show w.heap.size < _; omega)
      have hne : Nonempty (GW wr) := ⟨⟨wr, Below.refl _ _⟩⟩
      have hkz : (k : Int) + 1 ≤ n := by omega
      have hk1 : ((k + 1 : Nat) : Int) - 1 = (k : Int) := by omega
      have HA := hid hall
      clear hall hc hcx hsx d0 d1 d2 d3 d4 d5 d6 d7 d8
      rw [hk1]
      by_cases hh : (h k).ob.kind = o.kind ∧ (h k).ob.name = o.name
      · have HE := hid (show lastI h o m = k by unfold lastI; rw [lst_down hj HA.out, lst_hit hh])
        have hd : (keyI (h k).ob o == 0) = true := by rw [keyI_zero]; exact decide_eq_true hh
        clear hh
        go_wp2
        refine wp_region_grow (by kernel_rfl) (by kernel_rfl) ?_
        repeat (go_big_quiet_step ((go_at_call 76; go_must (exact grow_of (key_any (h k).ob o _ _ _ _ _)))))
        refine wpQuiet_nil ?_
        rintro w2 ⟨u, hu⟩
        have hw2 : Below wr.heap.size wr w2 := hu ▸ u.prop
        clear hu u
        go_wp2
        go_ret
        exact ⟨ret_int HE.out.symm, hBw.trans (hw2.mono (by omega))⟩
      · have HN := hid hh
        have hd : (keyI (h k).ob o == 0) = false := by rw [keyI_zero]; exact decide_eq_false hh
        clear hh
        go_wp2
        refine wp_region_grow (by kernel_rfl) (by kernel_rfl) ?_
        repeat (go_big_quiet_step ((go_at_call 76; go_must (exact grow_of (key_any (h k).ob o _ _ _ _ _)))))
        refine wpQuiet_nil ?_
        rintro w2 ⟨u, hu⟩
        have hw2 : Below wr.heap.size wr w2 := hu ▸ u.prop
        clear hu u
        go_wp2
        go_roundw
        case rel => exact ⟨k, by omega, by go_num, fun l h1 h2 => (by
          rcases Nat.lt_or_ge k l with h3 | h3
          · exact HA.out l h3 h2
          · have : l = k := by omega
            subst this; exact HN.out), hb.trans (hw2.mono (by omega))⟩
        case measure => simp [intOf]
end Go.Proofs.YtkfbclopkgnacaaGreatDoor
namespace Go.Proofs.YtkfbclopkgnacaaGreatDoor
open Go.RowKit Go.Maps
theorem lst_some {h : Nat → Ch} {i n : Nat} (hi : i < n) : ∃ i', lst h (h i).ob.kind (h i).ob.name n = some i' := by
  induction n with
  | zero => omega
  | succ n ih =>
    by_cases h2 : (h n).ob.kind = (h i).ob.kind ∧ (h n).ob.name = (h i).ob.name
    · exact ⟨n, lst_hit h2⟩
    · rw [lst_miss h2]
      rcases Nat.lt_or_ge i n with h3 | h3
      · exact ih h3
      · have : i = n := by omega
        subst this; exact absurd ⟨rfl, rfl⟩ h2
def agO (floor : Int) (x : Nat → Ob) (n : Nat) (h : Nat → Ch) (i : Nat) : Bool := match lst h (x i).kind (x i).name n with | none => decide ((x i).ver ≤ floor) | some j => !(h j).gone && sameB (x i) (h j).ob
def agH (m : Nat) (x : Nat → Ob) (n : Nat) (h : Nat → Ch) (i : Nat) : Bool := !decide (lst h (h i).ob.kind (h i).ob.name n = some i) || ((h i).gone || (fnd x (h i).ob.kind (h i).ob.name m).isSome)
def agB (floor : Int) (m : Nat) (x : Nat → Ob) (n : Nat) (h : Nat → Ch) : Bool := allTo (agO floor x n h) m && allTo (agH m x n h) n
set_option maxRecDepth 100000 in
set_option maxHeartbeats 1000000 in
theorem agree_any (now floor : Int) (m n : Nat) (x : Nat → Ob) (h : Nat → Ch) (a1 a2 a3 : Option Addr) (c1 c2 n3 c3 : Nat) (w : World) (lo hi : Nat) (hhi : hi ≤ w.heap.size) (hm : (m : Int) ≤ 1099511627776) (hl : (n : Int) ≤ 1099511627776) (hx : ∀ i, i < m → ObFit (x i)) (hf : ∀ i, i < n → ObFit (h i).ob) (hco : ObjsIn w lo hi a1 m x) (hc : ChgsIn w lo hi a2 n h) :
    Calls Tryz.prog 68 #[.agg #[.int .i64 now, .int .i64 floor, .slice a1 m c1, .slice a2 n c2, .slice a3 n3 c3]] w fun e w' => e = .returned (.bool (agB floor m x n h)) ∧ Below w.heap.size w w' := by
  have hcA := fun o => hc.below (below_alloc' w o) hhi
  go_enter Tryz.func68, Tryz.ntmps68
  go_wp2_with fail
  refine (lastChg_any n h a2 c2 _ lo hi (by simp; omega) hl hf (hcA _)).mono ?_
  rintro e w0 ⟨D, rfl, hown0, htold, hb0⟩
  simp only [World.size_alloc] at hown0 hb0 ⊢
  have k2 : w0.cell? ⟨w.heap.size, 2, none⟩ = some (.slice a1 m c1) := (hb0.cell (p := ⟨w.heap.size, 2, none⟩) (by show w.heap.size < _; omega)).trans (World.cell?_alloc_new _ _ _ _)
  have HOW0 := hid hown0
  have HTO := hid htold
  clear hown0 htold hcA
  go_wp2
  go_loopw [19] (fun i wr => ∃ k : Nat, k ≤ m ∧ i = .int .i64 k ∧ Below (w.heap.size + 1) (w.alloc (.cells #[.int .i64 now, .int .i64 floor, .slice a1 m c1, .slice a2 n c2, .slice a3 n3 c3] 26)) wr ∧ wr.ownsMap Tryz.prog 118 (plainElem Tryz.prog 3) (w.heap.size + 1) n D ∧ ∀ j, j < k → agO floor x n h j = true) (fun i _ => m - (intOf i).toNat)
  case atStart => exact ⟨0, Nat.zero_le _, rfl, hb0, HOW0.out, fun j hj => absurd hj (Nat.not_lt_zero _)⟩
  case round =>
    obtain ⟨k, hk, rfl, hb, hown, hall⟩ := hrel
    have hBw : Below w.heap.size w wr := (below_alloc' _ _).trans (hb.mono (by omega))
    have hsz : w.heap.size + 1 ≤ wr.heap.size := by have := hb.size; simpa using this
    have hlt := hown.lt
    clear k2 HOW0 hb0
    by_cases hkn : k < m
    · obtain ⟨b, off, ah, ch, rfl, hlo, hbh, hcx, hsx⟩ := hco k hkn
      have hxk := hx k hkn
      have hxh : ((x k).hn : Int) ≤ 140737488355328 := by have := hxk.h; omega
      have hsk : (x k).kind.size ≤ maxLen := by unfold maxLen; have := hxk.k; omega
      have hsn : (x k).name.size ≤ maxLen := by unfold maxLen; have := hxk.n; omega
      obtain ⟨d0, d1, d2, d3, d4, d5, d6⟩ := hcx.below hBw (by omega)
      have HS := hid hsx
      have HC := hid hc
      have HF := hid hf
      have HA := hid hall
      have hky := hkey (x k).kind (x k).name hsk hsn
      have HOW := hid hown
      clear hc hf hco hx hcx hsx hall hown
      cases hfd : lst h (x k).kind (x k).name n with
      | none =>
        have hhas := (HTO.out _ _ hsk hsn).2 hfd
        have HL := hid (show agO floor x n h k = decide ((x k).ver ≤ floor) by unfold agO; rw [hfd])
        clear hfd
        go_wp2_with fail
        refine (keyOf_any (x k) ah ch _).mono ?_
        rintro e w1 ⟨rfl, hb1⟩
        have hown1 := hid (ownsMap_below (HOW.out.alloc _) hb1 (by simp; omega))
        have hB1 : Below (w.heap.size + 1) (w.alloc (.cells #[.int .i64 now, .int .i64 floor, .slice (some ⟨b, off, none⟩) m c1, .slice a2 n c2, .slice a3 n3 c3] 26)) w1 := (hb.alloc hsz (.cells #[.string (x k).kind, .string (x k).name, .int .i64 (x k).ver, .int .i64 (x k).born, .string (x k).text, .bool (x k).ending, .slice ah (x k).hn ch] 38)).trans (hb1.mono (by simp; omega))
        have hz1 : wr.heap.size < w1.heap.size := by have := hb1.size; simp at this; omega
        have p0 := box_cell hb1 0
        have p1 := box_cell hb1 1
        have p2 := box_cell hb1 2
        have p3 := box_cell hb1 3
        have p4 := box_cell hb1 4
        have p5 := box_cell hb1 5
        have p6 := box_cell hb1 6
        simp only [List.getElem?_toArray, List.getElem?_cons_succ, List.getElem?_cons_zero] at p0 p1 p2 p3 p4 p5 p6
        have o1 := box_cell (by simpa using hB1) 1
        have o3 := box_cell (by simpa using hB1) 3
        simp only [List.getElem?_toArray, List.getElem?_cons_succ, List.getElem?_cons_zero] at o1 o3
        clear hb1 d0 d1 d2 d3 d4 d5 d6 HOW
        by_cases hv : (x k).ver ≤ floor
        · have HN := hid (show agO floor x n h k = true by rw [HL.out]; exact decide_eq_true hv)
          have hd : decide (floor < (x k).ver) = false := decide_eq_false (by omega)
          go_wp2_with (at_lookup; go_must (refine wpList_lookup_own_ok_int _ rfl _ _ 116 rfl 118 3 .i64 Tryz.law118 Tryz.underlying116 Tryz.underlying3 (zero3 _) (w.heap.size + 1) n D rfl hown1.out _ _ rfl hky ?_; intro c hat hwc; clear hat hwc))
          have hne : Nonempty (GW w1) := ⟨⟨_, Below.refl _ _⟩⟩
          refine wp_region_grow (by kernel_rfl) (by kernel_rfl) ?_
          repeat (go_big_quiet_step (fail))
          refine wpQuiet_nil ?_
          rintro w2 ⟨u, hu⟩
          have hw2 : Below w1.heap.size w1 w2 := hu ▸ u.prop
          clear hu u hne
          have hB2 := hB1.trans (hw2.mono (by omega))
          have hown2 := hid (ownsMap_below hown1.out hw2 hown1.out.lt)
          clear hown1 p0 p1 p2 p3 p4 p5 p6 o1 o3
          go_wp2
          go_roundw
          case rel => exact ⟨k + 1, by omega, by go_num, hB2, hown2.out, fun j hj => (by
            rcases Nat.lt_or_ge j k with h3 | h3
            · exact HA.out j h3
            · have : j = k := by omega
              subst this; exact HN.out)⟩
          case measure => simp [intOf]; omega
        · have HE := hid (show agB floor m x n h = false by unfold agB; rw [allTo_no hkn (HL.out.trans (decide_eq_false hv))]; rfl)
          have hd : decide (floor < (x k).ver) = true := decide_eq_true (by omega)
          go_wp2_with (at_lookup; go_must (refine wpList_lookup_own_ok_int _ rfl _ _ 116 rfl 118 3 .i64 Tryz.law118 Tryz.underlying116 Tryz.underlying3 (zero3 _) (w.heap.size + 1) n D rfl hown1.out _ _ rfl hky ?_; intro c hat hwc; clear hat hwc))
          go_ret
          exact ⟨ret_bool HE.out.symm, (below_alloc' _ _).trans (hB1.mono (by omega))⟩
      | some j =>
        obtain ⟨hhas, hatk⟩ := (HTO.out _ _ hsk hsn).1 j hfd
        have hjn := (lst_lt hfd).1
        have HL := hid (show agO floor x n h k = (!(h j).gone && sameB (x k) (h j).ob) by unfold agO; rw [hfd])
        have HAT := hid hatk
        clear hfd hatk
        obtain ⟨b', off', ah', ch', rfl, hlo', hbh', hcy, hsy⟩ := HC.out j hjn
        have hjh : ((h j).ob.hn : Int) ≤ 140737488355328 := by have := (HF.out j hjn).h; omega
        have HSY := hid hsy
        clear hsy
        have hjz : (j : Int) < n := by omega
        go_wp2_with fail
        refine (keyOf_any (x k) ah ch _).mono ?_
        rintro e w1 ⟨rfl, hb1⟩
        have hown1 := hid (ownsMap_below (HOW.out.alloc _) hb1 (by simp; omega))
        have hB1 : Below (w.heap.size + 1) (w.alloc (.cells #[.int .i64 now, .int .i64 floor, .slice (some ⟨b, off, none⟩) m c1, .slice (some ⟨b', off', none⟩) n c2, .slice a3 n3 c3] 26)) w1 := (hb.alloc hsz (.cells #[.string (x k).kind, .string (x k).name, .int .i64 (x k).ver, .int .i64 (x k).born, .string (x k).text, .bool (x k).ending, .slice ah (x k).hn ch] 38)).trans (hb1.mono (by simp; omega))
        have hz1 : wr.heap.size < w1.heap.size := by have := hb1.size; simp at this; omega
        have p0 := box_cell hb1 0
        have p1 := box_cell hb1 1
        have p2 := box_cell hb1 2
        have p3 := box_cell hb1 3
        have p4 := box_cell hb1 4
        have p5 := box_cell hb1 5
        have p6 := box_cell hb1 6
        simp only [List.getElem?_toArray, List.getElem?_cons_succ, List.getElem?_cons_zero] at p0 p1 p2 p3 p4 p5 p6
        have o1 := box_cell (by simpa using hB1) 1
        have o3 := box_cell (by simpa using hB1) 3
        simp only [List.getElem?_toArray, List.getElem?_cons_succ, List.getElem?_cons_zero] at o1 o3
        clear hb1 d0 d1 d2 d3 d4 d5 d6 HOW
        go_wp2_with (at_lookup; go_must (refine wpList_lookup_own_ok_int _ rfl _ _ 116 rfl 118 3 .i64 Tryz.law118 Tryz.underlying116 Tryz.underlying3 (zero3 _) (w.heap.size + 1) n D rfl hown1.out _ _ rfl hky ?_; intro c hat hwc; have hci : c = (j : Int) := lit_int (hat.symm.trans HAT.out); subst hci; clear hat hwc))
        have hBw1 : Below w.heap.size w w1 := (below_alloc' _ _).trans (hB1.mono (by omega))
        obtain ⟨f0, f1, f2, f3, f4, f5, f6, f7, f8⟩ := hcy.below hBw1 (by omega)
        have hhw : hi ≤ w1.heap.size := by omega
        have y2 := subcell f2 (by show b' < _; omega)
        have y3 := subcell f3 (by show b' < _; omega)
        have y4 := subcell f4 (by show b' < _; omega)
        have y5 := subcell f5 (by show b' < _; omega)
        have y6 := subcell f6 (by show b' < _; omega)
        have y7 := subcell f7 (by show b' < _; omega)
        have y8 := subcell f8 (by show b' < _; omega)
        have x0 := subcell p0 hz1
        have x1 := subcell p1 hz1
        have x2 := subcell p2 hz1
        have x3 := subcell p3 hz1
        have x4 := subcell p4 hz1
        have x5 := subcell p5 hz1
        have x6 := subcell p6 hz1
        have z3 := subcell o3 (by show w.heap.size < _; omega)
        have hhu : ∀ u : GW w1, hi ≤ u.val.heap.size := fun u => Nat.le_trans hhw u.prop.size
        have hu1 : ∀ u : GW w1, StrsIn u.val lo hi ah (x k).hn (x k).hs := fun u => HS.out.below (hBw1.trans (u.prop.mono (by omega))) hhi
        have hu2 : ∀ u : GW w1, StrsIn u.val lo hi ah' (h j).ob.hn (h j).ob.hs := fun u => HSY.out.below (hBw1.trans (u.prop.mono (by omega))) hhi
        cases hg : (h j).gone with
        | true =>
          have HE := hid (show agB floor m x n h = false by unfold agB; rw [allTo_no hkn (HL.out.trans (by rw [hg]; rfl))]; rfl)
          rw [hg] at f1
          have y1 := subcell f1 (by show b' < _; omega)
          clear hg f0 f1 f2 f3 f4 f5 f6 f7 f8 hcy
          have hne : Nonempty (GW w1) := ⟨⟨_, Below.refl _ _⟩⟩
          refine wp_region_grow (by kernel_rfl) (by kernel_rfl) ?_
          repeat (go_big_quiet_step ((go_at_call 102; go_must (exact grow_of (sameOb_any (x k) (h j).ob ah ah' ch ch' _ lo hi (hhu _) hxh hjh (hu1 _) (hu2 _))))))
          refine wpQuiet_nil ?_
          rintro w2 ⟨u, hu⟩
          have hw2 : Below w1.heap.size w1 w2 := hu ▸ u.prop
          clear hu u hne
          have hB2 := hB1.trans (hw2.mono (by omega))
          clear hown1 hhu hu1 hu2 z3 x0 x1 x2 x3 x4 x5 x6 y1 y2 y3 y4 y5 y6 y7 y8 p0 p1 p2 p3 p4 p5 p6 o1 o3
          go_wp2
          go_ret
          exact ⟨ret_bool HE.out.symm, (below_alloc' _ _).trans (hB2.mono (by omega))⟩
        | false =>
          rw [hg] at f1
          have y1 := subcell f1 (by show b' < _; omega)
          have HL2 := hid (show agO floor x n h k = sameB (x k) (h j).ob by rw [HL.out, hg]; rfl)
          clear hg f0 f1 f2 f3 f4 f5 f6 f7 f8 hcy
          cases hsm : sameB (x k) (h j).ob with
          | false =>
            have HE := hid (show agB floor m x n h = false by unfold agB; rw [allTo_no hkn (HL2.out.trans hsm)]; rfl)
            have hne : Nonempty (GW w1) := ⟨⟨_, Below.refl _ _⟩⟩
            refine wp_region_grow (by kernel_rfl) (by kernel_rfl) ?_
            repeat (go_big_quiet_step ((go_at_call 102; go_must (exact grow_of (sameOb_any (x k) (h j).ob ah ah' ch ch' _ lo hi (hhu _) hxh hjh (hu1 _) (hu2 _))))))
            refine wpQuiet_nil ?_
            rintro w2 ⟨u, hu⟩
            have hw2 : Below w1.heap.size w1 w2 := hu ▸ u.prop
            clear hu u hne
            have hB2 := hB1.trans (hw2.mono (by omega))
            clear hown1 hhu hu1 hu2 z3 x0 x1 x2 x3 x4 x5 x6 y1 y2 y3 y4 y5 y6 y7 y8 p0 p1 p2 p3 p4 p5 p6 o1 o3
            go_wp2
            go_ret
            exact ⟨ret_bool HE.out.symm, (below_alloc' _ _).trans (hB2.mono (by omega))⟩
          | true =>
            have HN := hid (HL2.out.trans hsm)
            have hne : Nonempty (GW w1) := ⟨⟨_, Below.refl _ _⟩⟩
            refine wp_region_grow (by kernel_rfl) (by kernel_rfl) ?_
            repeat (go_big_quiet_step ((go_at_call 102; go_must (exact grow_of (sameOb_any (x k) (h j).ob ah ah' ch ch' _ lo hi (hhu _) hxh hjh (hu1 _) (hu2 _))))))
            refine wpQuiet_nil ?_
            rintro w2 ⟨u, hu⟩
            have hw2 : Below w1.heap.size w1 w2 := hu ▸ u.prop
            clear hu u hne
            have hB2 := hB1.trans (hw2.mono (by omega))
            have hown2 := hid (ownsMap_below hown1.out hw2 hown1.out.lt)
            clear hown1 hhu hu1 hu2 z3 x0 x1 x2 x3 x4 x5 x6 y1 y2 y3 y4 y5 y6 y7 y8 p0 p1 p2 p3 p4 p5 p6 o1 o3
            go_wp2
            go_roundw
            case rel => exact ⟨k + 1, by omega, by go_num, hB2, hown2.out, fun j hj => (by
              rcases Nat.lt_or_ge j k with h3 | h3
              · exact HA.out j h3
              · have : j = k := by omega
                subst this; exact HN.out)⟩
            case measure => simp [intOf]; omega
    · have : m = k := by omega
      subst this
      have HO := hid (show allTo (agO floor x n h) m = true from allTo_iff.2 hall)
      have o2 := box_cell (by simpa using hb) 2
      have o3 := box_cell (by simpa using hb) 3
      simp only [List.getElem?_toArray, List.getElem?_cons_succ, List.getElem?_cons_zero] at o2 o3
      have HD := hid hown
      clear hall hown
      go_wp2_with fail
      refine (places_any m x a1 c1 wr lo hi (by omega) hm hx (hco.below hBw hhi)).mono ?_
      rintro e wp ⟨E, rfl, hownE, htoldE, hbp⟩
      have HE0 := hid hownE
      have HTE := hid htoldE
      have q3 := (hbp.cell (p := ⟨w.heap.size, 3, none⟩) (by show w.heap.size < _; omega)).trans o3
      clear hownE htoldE o2 o3 hx hco
      obtain ⟨W, hW⟩ : ∃ W, W = wr := ⟨wr, rfl⟩
      subst hW
      go_wp2
      go_loopw [66] (fun i wq => ∃ k : Nat, k ≤ n ∧ i = .int .i64 k ∧ Below W.heap.size W wq ∧ wq.ownsMap Tryz.prog 118 (plainElem Tryz.prog 3) W.heap.size m E ∧ ∀ j, j < k → agH m x n h j = true) (fun i _ => n - (intOf i).toNat)
      case atStart => exact ⟨0, Nat.zero_le _, rfl, hbp, HE0.out, fun j hj => absurd hj (Nat.not_lt_zero _)⟩
      case round =>
        obtain ⟨k, hk2, rfl, hb2, hownE, hall⟩ := hrel
        have hBq : Below w.heap.size w wr := hBw.trans (hb2.mono hBw.size)
        have hltE := hownE.lt
        clear q3 HE0 hbp
        by_cases hkn2 : k < n
        · obtain ⟨b, off, ah, ch, rfl, hlo, hbh, hcx, hsx⟩ := hc k hkn2
          have hfk := hf k hkn2
          have hsk : (h k).ob.kind.size ≤ maxLen := by unfold maxLen; have := hfk.k; omega
          have hsn : (h k).ob.name.size ≤ maxLen := by unfold maxLen; have := hfk.n; omega
          obtain ⟨d0, d1, d2, d3, d4, d5, d6, d7, d8⟩ := hcx.below hBq (by omega)
          have hky := hkey (h k).ob.kind (h k).ob.name hsk hsn
          obtain ⟨i', hli⟩ := lst_some (h := h) hkn2
          have HLI := hid hli
          have hin := (lst_lt hli).1
          have HAT := hid ((HTO.out _ _ hsk hsn).1 i' hli).2
          have HA := hid hall
          have HWE := hid hownE
          clear hli hc hf hcx hsx hall hownE hb
          go_wp2_with fail
          refine (keyOf_any (h k).ob ah ch _).mono ?_
          rintro e w1 ⟨rfl, hb1⟩
          have hE1 := hid (ownsMap_below (HWE.out.alloc _) hb1 (by simp; omega))
          have hB1 : Below W.heap.size W w1 := (hb2.alloc (by omega) _).trans (hb1.mono (by simp; omega))
          have hz1 : wr.heap.size < w1.heap.size := by have := hb1.size; simp at this; omega
          have p0 := box_cell hb1 0
          have p1 := box_cell hb1 1
          have p2 := box_cell hb1 2
          have p3 := box_cell hb1 3
          have p4 := box_cell hb1 4
          have p5 := box_cell hb1 5
          have p6 := box_cell hb1 6
          have p7 := box_cell hb1 7
          have p8 := box_cell hb1 8
          simp only [List.getElem?_toArray, List.getElem?_cons_succ, List.getElem?_cons_zero] at p0 p1 p2 p3 p4 p5 p6 p7 p8
          clear hb1 d0 d1 d2 d3 d4 d5 d6 d7 d8 HWE
          cases hfn : fnd x (h k).ob.kind (h k).ob.name m with
          | none =>
            have hhas := (HTE.out _ _ hsk hsn).2 hfn
            have HFN := hid hfn
            clear hfn
            go_wp2_with (at_lookup; go_must (refine wpList_lookup_own_ok_int _ rfl _ _ 116 rfl 118 3 .i64 Tryz.law118 Tryz.underlying116 Tryz.underlying3 (zero3 _) W.heap.size m E rfl hE1.out _ _ rfl hky ?_; intro c hat hwc; clear hat hwc))
            refine (keyOf_any (h k).ob ah ch _).mono ?_
            rintro e w2 ⟨rfl, hb22⟩
            have hB2 : Below W.heap.size W w2 := hB1.trans (hb22.mono (by omega))
            have hE2 := hid (ownsMap_below hE1.out hb22 (by omega))
            have hD2 := hid (ownsMap_below HD.out hB2 (by omega))
            have r1 := (hb22.cell (p := ⟨wr.heap.size, 1, none⟩) hz1).trans p1
            clear hb22 p0 p1 p2 p3 p4 p5 p6 p7 p8 hE1
            by_cases hii : i' = k
            case neg =>
              have HN := hid (show agH m x n h k = true by unfold agH; rw [HLI.out]; simp [hii])
              have hd : ((i' : Int) == (k : Int)) = false := by simp; omega
              go_wp2_with (at_lookup; go_must (refine wpList_lookup_own_int _ rfl _ _ 116 rfl 118 3 .i64 Tryz.law118 Tryz.underlying116 Tryz.underlying3 (zero3 _) (w.heap.size + 1) n D rfl hD2.out _ _ rfl hky ?_; intro c2 hat hwc; have hci : c2 = (i' : Int) := lit_int (hat.symm.trans HAT.out); subst hci; clear hat hwc))
              go_roundw
              case rel => exact ⟨k + 1, by omega, by go_num, hB2, hE2.out, fun j hj => (by
                rcases Nat.lt_or_ge j k with h3 | h3
                · exact HA.out j h3
                · have : j = k := by omega
                  subst this; exact HN.out)⟩
              case measure => simp [intOf]; omega
            subst hii
            cases hg : (h i').gone with
            | true =>
              have HN := hid (show agH m x n h i' = true by unfold agH; rw [HLI.out, hg]; simp)
              rw [hg] at r1
              clear hg
              go_wp2_with (at_lookup; go_must (refine wpList_lookup_own_int _ rfl _ _ 116 rfl 118 3 .i64 Tryz.law118 Tryz.underlying116 Tryz.underlying3 (zero3 _) (w.heap.size + 1) n D rfl hD2.out _ _ rfl hky ?_; intro c2 hat hwc; have hci : c2 = (i' : Int) := lit_int (hat.symm.trans HAT.out); subst hci; clear hat hwc))
              go_roundw
              case rel => exact ⟨i' + 1, by omega, by go_num, hB2, hE2.out, fun j hj => (by
                rcases Nat.lt_or_ge j i' with h3 | h3
                · exact HA.out j h3
                · have : j = i' := by omega
                  subst this; exact HN.out)⟩
              case measure => simp [intOf]; omega
            | false =>
              have HE := hid (show agB floor m x n h = false by unfold agB; rw [allTo_no hkn2 (show agH m x n h i' = false by unfold agH; rw [HLI.out, hg, HFN.out]; simp)]; simp)
              rw [hg] at r1
              clear hg
              go_wp2_with (at_lookup; go_must (refine wpList_lookup_own_int _ rfl _ _ 116 rfl 118 3 .i64 Tryz.law118 Tryz.underlying116 Tryz.underlying3 (zero3 _) (w.heap.size + 1) n D rfl hD2.out _ _ rfl hky ?_; intro c2 hat hwc; have hci : c2 = (i' : Int) := lit_int (hat.symm.trans HAT.out); subst hci; clear hat hwc))
              go_ret
              exact ⟨ret_bool HE.out.symm, hBw.trans (hB2.mono hBw.size)⟩
          | some g =>
            have hhas := ((HTE.out _ _ hsk hsn).1 g hfn).1
            have HFN := hid hfn
            clear hfn
            go_wp2_with (at_lookup; go_must (refine wpList_lookup_own_ok_int _ rfl _ _ 116 rfl 118 3 .i64 Tryz.law118 Tryz.underlying116 Tryz.underlying3 (zero3 _) W.heap.size m E rfl hE1.out _ _ rfl hky ?_; intro c hat hwc; clear hat hwc))
            refine (keyOf_any (h k).ob ah ch _).mono ?_
            rintro e w2 ⟨rfl, hb22⟩
            have hB2 : Below W.heap.size W w2 := hB1.trans (hb22.mono (by omega))
            have hE2 := hid (ownsMap_below hE1.out hb22 (by omega))
            have hD2 := hid (ownsMap_below HD.out hB2 (by omega))
            have r1 := (hb22.cell (p := ⟨wr.heap.size, 1, none⟩) hz1).trans p1
            clear hb22 p0 p1 p2 p3 p4 p5 p6 p7 p8 hE1
            by_cases hii : i' = k
            case neg =>
              have HN := hid (show agH m x n h k = true by unfold agH; rw [HLI.out]; simp [hii])
              have hd : ((i' : Int) == (k : Int)) = false := by simp; omega
              go_wp2_with (at_lookup; go_must (refine wpList_lookup_own_int _ rfl _ _ 116 rfl 118 3 .i64 Tryz.law118 Tryz.underlying116 Tryz.underlying3 (zero3 _) (w.heap.size + 1) n D rfl hD2.out _ _ rfl hky ?_; intro c2 hat hwc; have hci : c2 = (i' : Int) := lit_int (hat.symm.trans HAT.out); subst hci; clear hat hwc))
              go_roundw
              case rel => exact ⟨k + 1, by omega, by go_num, hB2, hE2.out, fun j hj => (by
                rcases Nat.lt_or_ge j k with h3 | h3
                · exact HA.out j h3
                · have : j = k := by omega
                  subst this; exact HN.out)⟩
              case measure => simp [intOf]; omega
            subst hii
            cases hg : (h i').gone with
            | true =>
              have HN := hid (show agH m x n h i' = true by unfold agH; rw [HLI.out, hg]; simp)
              rw [hg] at r1
              clear hg
              go_wp2_with (at_lookup; go_must (refine wpList_lookup_own_int _ rfl _ _ 116 rfl 118 3 .i64 Tryz.law118 Tryz.underlying116 Tryz.underlying3 (zero3 _) (w.heap.size + 1) n D rfl hD2.out _ _ rfl hky ?_; intro c2 hat hwc; have hci : c2 = (i' : Int) := lit_int (hat.symm.trans HAT.out); subst hci; clear hat hwc))
              go_roundw
              case rel => exact ⟨i' + 1, by omega, by go_num, hB2, hE2.out, fun j hj => (by
                rcases Nat.lt_or_ge j i' with h3 | h3
                · exact HA.out j h3
                · have : j = i' := by omega
                  subst this; exact HN.out)⟩
              case measure => simp [intOf]; omega
            | false =>
              have HN := hid (show agH m x n h i' = true by unfold agH; rw [HLI.out, hg, HFN.out]; simp)
              rw [hg] at r1
              clear hg
              go_wp2_with (at_lookup; go_must (refine wpList_lookup_own_int _ rfl _ _ 116 rfl 118 3 .i64 Tryz.law118 Tryz.underlying116 Tryz.underlying3 (zero3 _) (w.heap.size + 1) n D rfl hD2.out _ _ rfl hky ?_; intro c2 hat hwc; have hci : c2 = (i' : Int) := lit_int (hat.symm.trans HAT.out); subst hci; clear hat hwc))
              go_roundw
              case rel => exact ⟨i' + 1, by omega, by go_num, hB2, hE2.out, fun j hj => (by
                rcases Nat.lt_or_ge j i' with h3 | h3
                · exact HA.out j h3
                · have : j = i' := by omega
                  subst this; exact HN.out)⟩
              case measure => simp [intOf]; omega
        · have HE := hid (show agB floor m x n h = true by unfold agB; rw [HO.out, allTo_iff.2 (fun i hi => hall i (by omega))]; rfl)
          clear hc hf hall hownE
          go_wp2
          go_ret
          exact ⟨ret_bool HE.out.symm, hBq⟩
end Go.Proofs.YtkfbclopkgnacaaGreatDoor
