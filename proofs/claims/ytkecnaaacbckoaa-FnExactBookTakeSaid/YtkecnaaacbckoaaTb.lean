import Derived.Test.YtkecnaaacbckoaaTa
import Derived.Test.YtkecnaaacbckoaaLb
import Derived.Laws.StructEq
namespace Go.Proofs.Ytkecnaaacbckoaa
open Go.RowKit Go.Maps
set_option maxRecDepth 100000 in
set_option maxHeartbeats 1000000 in
theorem notBefore_any (x z : Ob) (ad adz : Option Addr) (cap capz bo : Nat) (w : World) (hb : bo < w.heap.size) (hz : ObCells w bo 0 z adz capz) :
    Calls Try.prog 69 #[.agg #[.string x.kind, .string x.name, .int .i64 x.ver, .int .i64 x.born, .string x.text, .bool x.ending, .slice ad x.hn cap], .pointer (some ⟨bo, 0, none⟩)] w fun e w' => e = .returned (.bool (!befB x z)) ∧ Below w.heap.size w w' := by
  obtain ⟨c0, c1, c2, c3, c4, c5, c6⟩ := hz
  simp only [Nat.zero_add] at c1 c2 c3 c4 c5 c6
  go_enter Try.func69, Try.ntmps69
  go_wp2_with (go_at_call 70; go_must (refine (before_any x z _ _ _ _ _).mono ?_; rintro e w1 ⟨rfl, hb1⟩))
  go_ret
  exact ⟨rfl, (below_alloc' _ _).trans (hb1.mono (by simp))⟩
theorem otherK_no (o x : Ob) : (!otherK o x) = decide (x.kind.toList = o.kind.toList ∧ x.name.toList = o.name.toList) := by
  unfold otherK
  have h := keyI_nil x o
  by_cases hk : keyI x o = 0
  · simp [hk, h.1 hk]
  · have : ¬ (x.kind.toList = o.kind.toList ∧ x.name.toList = o.name.toList) := fun e => hk (h.2 e)
    simp [hk, this]
theorem Try.fields84 : Try.prog.fieldsOf 84 = #[{ name := "kind", type := 9, offset := 0, embedded := false, tag := "", pkgPath := "loop.example/wharflog/impl", byteOffset := 0 }, { name := "name", type := 9, offset := 1, embedded := false, tag := "", pkgPath := "loop.example/wharflog/impl", byteOffset := 16 }] := by kernel_rfl
theorem Try.stood84 : Try.prog.stoodInHeld 84 = false := by kernel_rfl
theorem Try.guard84 : Try.prog.eqGuardType Try.prog.depth 84 = false := by kernel_rfl
theorem eql84 (a b c d : ByteArray) (w : World) : (binOp .eql 84 (.agg #[.string a, .string b]) (.agg #[.string c, .string d])).run Try.prog w = .ok (.bool (decide (a.toList = c.toList ∧ b.toList = d.toList))) w := by
  rw [run_eql_struct]
  have h : (Op.equalIn 10000 84 (.agg #[.string a, .string b]) (.agg #[.string c, .string d])).run Try.prog w = .ok (decide (a.toList = c.toList ∧ b.toList = d.toList)) w := by
    rw [run_equalIn_agg w 9999 84 _ _ (by rw [Try.fields84]; exact Try.underlying84) Try.stood84, Try.fields84]
    simp [go_sem, Try.underlying9]
    by_cases h1 : a.toList = c.toList <;> by_cases h2 : b.toList = d.toList <;> simp [h1, h2]
  rw [h]
  rfl
set_option maxRecDepth 100000 in
set_option maxHeartbeats 1000000 in
theorem sameKey_any (x o : Ob) (ad : Option Addr) (cap bk : Nat) (w : World) (hb : bk < w.heap.size) (c0 : w.cell? ⟨bk, 0, none⟩ = some (.string o.kind)) (c1 : w.cell? ⟨bk, 1, none⟩ = some (.string o.name)) :
    Calls Try.prog 73 #[.agg #[.string x.kind, .string x.name, .int .i64 x.ver, .int .i64 x.born, .string x.text, .bool x.ending, .slice ad x.hn cap], .pointer (some ⟨bk, 0, none⟩)] w fun e w' => e = .returned (.bool (!otherK o x)) ∧ Below w.heap.size w w' := by
  have hbl := below_alloc' w (.cells (obCells x ad cap) 50)
  have hx := holds_new w (obCells x ad cap) 50
  have hk0 := (hbl.cell (p := ⟨bk, 0, none⟩) hb).trans c0
  have hk1 := (hbl.cell (p := ⟨bk, 1, none⟩) hb).trans c1
  have hz : w.heap.size < (w.alloc (.cells (obCells x ad cap) 50)).heap.size := by simp
  go_enter Try.func73, Try.ntmps73
  go_wp2
  rw [show (#[.string x.kind, .string x.name, .int .i64 x.ver, .int .i64 x.born, .string x.text, .bool x.ending, .slice ad x.hn cap] : Array Value) = obCells x ad cap from rfl]
  generalize w.alloc (.cells (obCells x ad cap) 50) = W at *
  obtain ⟨x0, x1, x2, x3, x4, x5, x6⟩ := holds_ob hx
  have hbW : bk < W.heap.size := by omega
  have d0 := subcell hk0 hbW
  have d1 := subcell hk1 hbW
  have y0 := subcell x0 hz
  have y1 := subcell x1 hz
  have y2 := subcell x2 hz
  have y3 := subcell x3 hz
  have y4 := subcell x4 hz
  have y5 := subcell x5 hz
  have y6 := subcell x6 hz
  have hne : Nonempty (GW W) := ⟨⟨_, Below.refl _ _⟩⟩
  have HO := hid (otherK_no o x)
  clear hx hk0 hk1 x0 x1 x2 x3 x4 x5 x6 c0 c1
  have e84 := fun w => eql84 x.kind x.name o.kind o.name w
  have g84 := Try.guard84
  refine wp_region_grow (by kernel_rfl) (by kernel_rfl) ?_
  repeat (go_big_quiet_step ((go_at_call 41; go_must (exact grow_of (keyOf0_any x _ _ _)))))
  refine wpQuiet_nil ?_
  rintro w2 ⟨u, hu⟩
  have hw2 : Below W.heap.size W w2 := hu ▸ u.prop
  clear hu u hne y0 y1 y2 y3 y4 y5 y6 d0 d1
  go_wp2
  go_ret
  exact ⟨ret_bool (by rw [HO.out, Bool.decide_and]), hbl.trans (hw2.mono (by omega))⟩
/-- the first place, or -1 -/
def fstAt (p : EO → Bool) (L : List EO) (r : Int) : Prop := (r = -1 ∧ ∀ j, j < L.length → p (ixE L j) = false) ∨ ∃ k, k < L.length ∧ r = (k : Nat) ∧ p (ixE L k) = true ∧ ∀ j, j < k → p (ixE L j) = false
set_option maxRecDepth 100000 in
set_option maxHeartbeats 1000000 in
theorem index69_any (p : EO → Bool) (bo : Nat) (ad : Option Addr) (g cap : Nat) (L : List EO) (w : World) (hl : (L.length : Int) ≤ 1099511627776) (had : L ≠ [] → ad = some ⟨g, 0, none⟩) (hr : L ≠ [] → RowE w g L)
    (hp : ∀ (W : World) (e : EO), Below w.heap.size w W → Calls Try.prog 69 #[.agg #[.string e.ob.kind, .string e.ob.name, .int .i64 e.ob.ver, .int .i64 e.ob.born, .string e.ob.text, .bool e.ob.ending, .slice e.A e.ob.hn e.C], .pointer (some ⟨bo, 0, none⟩)] W fun r W' => r = .returned (.bool (p e)) ∧ Below W.heap.size W W') :
    Calls Try.prog 68 #[.slice ad L.length cap, .func (.func 69) #[] #[.pointer (some ⟨bo, 0, none⟩)]] w fun e w' => ∃ r, e = .returned (.int .i64 r) ∧ fstAt p L r ∧ Below w.heap.size w w' := by
  have HR := hid hr
  have HA := hid had
  have HP := hid hp
  clear hr had hp
  go_enter Try.func68, Try.ntmps68
  go_wp2
  go_loopw [5, 8] (fun _ i wr => ∃ k : Nat, k ≤ L.length ∧ i = .int .i64 k ∧ Hid (∀ j, j < k → p (ixE L j) = false) ∧ Below w.heap.size w wr) (fun _ i _ => L.length - (intOf i).toNat)
  case atStart => exact ⟨0, Nat.zero_le _, rfl, fun j hj => absurd hj (Nat.not_lt_zero _), Below.refl _ _⟩
  case round =>
    obtain ⟨k, hk, rfl, HN, hb⟩ := hrel
    by_cases hkn : k < L.length
    · have hne : L ≠ [] := fun e => by rw [e] at hkn; exact absurd hkn (Nat.not_lt_zero _)
      obtain rfl := HA.out hne
      have hrr := HR.out hne
      obtain ⟨c0, c1, c2, c3, c4, c5, c6⟩ := (hrr.ob k hkn).below hb hrr.lt
      have hgw : g < wr.heap.size := Nat.lt_of_lt_of_le hrr.lt hb.size
      have hcall := HP.out wr (ixE L k) hb
      obtain ⟨e, he⟩ : ∃ e, ixE L k = e := ⟨_, rfl⟩
      have HE := hid he
      rw [he] at c0 c1 c2 c3 c4 c5 c6 hcall
      clear he hrr
      cases hpe : p e with
      | true =>
        rw [hpe] at hcall
        go_wp2_with (go_at_call 69; go_must (refine hcall.mono ?_; rintro e2 w2 ⟨rfl, hb2⟩))
        go_ret
        exact ⟨_, rfl, Or.inr ⟨k, hkn, rfl, by rw [HE.out]; exact hpe, HN.out⟩, hb.trans (hb2.mono hb.size)⟩
      | false =>
        rw [hpe] at hcall
        go_wp2_with (go_at_call 69; go_must (refine hcall.mono ?_; rintro e2 w2 ⟨rfl, hb2⟩))
        go_roundw
        case rel => exact ⟨k + 1, by omega, by go_num, (fun j hj => by
          rcases Nat.lt_or_ge j k with h | h
          · exact HN.out j h
          · obtain rfl : j = k := by omega
            rw [HE.out]; exact hpe : ∀ j, j < k + 1 → p (ixE L j) = false), hb.trans (hb2.mono hb.size)⟩
        case measure => simp [intOf]; omega
    · obtain rfl : k = L.length := by omega
      go_wp2
      go_ret
      exact ⟨_, rfl, Or.inl ⟨rfl, HN.out⟩, hb⟩
set_option maxRecDepth 100000 in
set_option maxHeartbeats 1000000 in
theorem index73_any (p : EO → Bool) (bo : Nat) (ad : Option Addr) (g cap : Nat) (L : List EO) (w : World) (hl : (L.length : Int) ≤ 1099511627776) (had : L ≠ [] → ad = some ⟨g, 0, none⟩) (hr : L ≠ [] → RowE w g L)
    (hp : ∀ (W : World) (e : EO), Below w.heap.size w W → Calls Try.prog 73 #[.agg #[.string e.ob.kind, .string e.ob.name, .int .i64 e.ob.ver, .int .i64 e.ob.born, .string e.ob.text, .bool e.ob.ending, .slice e.A e.ob.hn e.C], .pointer (some ⟨bo, 0, none⟩)] W fun r W' => r = .returned (.bool (p e)) ∧ Below W.heap.size W W') :
    Calls Try.prog 68 #[.slice ad L.length cap, .func (.func 73) #[] #[.pointer (some ⟨bo, 0, none⟩)]] w fun e w' => ∃ r, e = .returned (.int .i64 r) ∧ fstAt p L r ∧ Below w.heap.size w w' := by
  have HR := hid hr
  have HA := hid had
  have HP := hid hp
  clear hr had hp
  go_enter Try.func68, Try.ntmps68
  go_wp2
  go_loopw [5, 8] (fun _ i wr => ∃ k : Nat, k ≤ L.length ∧ i = .int .i64 k ∧ Hid (∀ j, j < k → p (ixE L j) = false) ∧ Below w.heap.size w wr) (fun _ i _ => L.length - (intOf i).toNat)
  case atStart => exact ⟨0, Nat.zero_le _, rfl, fun j hj => absurd hj (Nat.not_lt_zero _), Below.refl _ _⟩
  case round =>
    obtain ⟨k, hk, rfl, HN, hb⟩ := hrel
    by_cases hkn : k < L.length
    · have hne : L ≠ [] := fun e => by rw [e] at hkn; exact absurd hkn (Nat.not_lt_zero _)
      obtain rfl := HA.out hne
      have hrr := HR.out hne
      obtain ⟨c0, c1, c2, c3, c4, c5, c6⟩ := (hrr.ob k hkn).below hb hrr.lt
      have hgw : g < wr.heap.size := Nat.lt_of_lt_of_le hrr.lt hb.size
      have hcall := HP.out wr (ixE L k) hb
      obtain ⟨e, he⟩ : ∃ e, ixE L k = e := ⟨_, rfl⟩
      have HE := hid he
      rw [he] at c0 c1 c2 c3 c4 c5 c6 hcall
      clear he hrr
      cases hpe : p e with
      | true =>
        rw [hpe] at hcall
        go_wp2_with (go_at_call 73; go_must (refine hcall.mono ?_; rintro e2 w2 ⟨rfl, hb2⟩))
        go_ret
        exact ⟨_, rfl, Or.inr ⟨k, hkn, rfl, by rw [HE.out]; exact hpe, HN.out⟩, hb.trans (hb2.mono hb.size)⟩
      | false =>
        rw [hpe] at hcall
        go_wp2_with (go_at_call 73; go_must (refine hcall.mono ?_; rintro e2 w2 ⟨rfl, hb2⟩))
        go_roundw
        case rel => exact ⟨k + 1, by omega, by go_num, (fun j hj => by
          rcases Nat.lt_or_ge j k with h | h
          · exact HN.out j h
          · obtain rfl : j = k := by omega
            rw [HE.out]; exact hpe : ∀ j, j < k + 1 → p (ixE L j) = false), hb.trans (hb2.mono hb.size)⟩
        case measure => simp [intOf]; omega
    · obtain rfl : k = L.length := by omega
      go_wp2
      go_ret
      exact ⟨_, rfl, Or.inl ⟨rfl, HN.out⟩, hb⟩
end Go.Proofs.Ytkecnaaacbckoaa
