import Derived.Test.YtkecnaaacbckoaaTf
namespace Go.Proofs.Ytkecnaaacbckoaa
open Go.RowKit Go.Maps
theorem as81 (v : Value) (w : World) : (Instr.typeAssert (.iface 81 v) 20 81 true).run Try.prog w = .ok (.tuple #[v, .bool true]) w := by
  simp [Instr.typeAssert, run_underlying Try.underlying81]
theorem as86 (v : Value) (w : World) : (Instr.typeAssert (.iface 86 v) 20 86 true).run Try.prog w = .ok (.tuple #[v, .bool true]) w := by
  simp [Instr.typeAssert, run_underlying Try.underlying86]
theorem zero81 : ∀ w, (zeroValue 81).run Try.prog w = .ok (.agg #[.string ByteArray.empty, .string ByteArray.empty, .int .i64 0, .int .i64 0, .string ByteArray.empty, .bool false, .slice none 0 0]) w := fun w => by kernel_rfl
theorem as81n (v : Value) (w : World) : (Instr.typeAssert (.iface 86 v) 20 81 true).run Try.prog w = .ok (.tuple #[.agg #[.string ByteArray.empty, .string ByteArray.empty, .int .i64 0, .int .i64 0, .string ByteArray.empty, .bool false, .slice none 0 0], .bool false]) w := by
  simp [Instr.typeAssert, run_underlying Try.underlying81]
  rfl
set_option maxRecDepth 100000 in
set_option maxHeartbeats 1000000 in
theorem hearCame_any (e : EO) (R : Nat) (ad : Option Addr) (g cap : Nat) (L : List EO) (w : World) (hR : R < w.heap.size) (hRg : ad ≠ none → ¬ R = g) (hc : w.cell? ⟨R, 0, none⟩ = some (.slice ad L.length cap)) (hfz : w.frozen? ⟨R, 0, none⟩ = false) (hst : RowS w ad g cap L) (hl : (L.length : Int) ≤ 1099511627775) :
    Calls Try.prog 24 #[.iface 59 (.pointer (some ⟨R, 0, none⟩)), .iface 81 (.agg #[.string e.ob.kind, .string e.ob.name, .int .i64 e.ob.ver, .int .i64 e.ob.born, .string e.ob.text, .bool e.ob.ending, .slice e.A e.ob.hn e.C])] w fun r w' => ∃ k g' cap', r = .returned (.tuple #[]) ∧ placeP e.ob L k ∧ w.heap.size ≤ g' ∧ (flK e.ob L).length + 1 ≤ cap' ∧ w'.cell? ⟨R, 0, none⟩ = some (.slice (some ⟨g', 0, none⟩) ((flK e.ob L).length + 1) cap') ∧ w'.frozen? ⟨R, 0, none⟩ = false ∧ RowE w' g' ((flK e.ob L).take k ++ e :: (flK e.ob L).drop k) ∧ FrP (fun q => q = R ∨ (L ≠ [] ∧ q = g)) w w' := by
  have h81 := as81 (.agg #[.string e.ob.kind, .string e.ob.name, .int .i64 e.ob.ver, .int .i64 e.ob.born, .string e.ob.text, .bool e.ob.ending, .slice e.A e.ob.hn e.C])
  have hB := below_alloc w (.cells (obCells e.ob e.A e.C) 81)
  have hput := put_any e R ad g cap L (w.alloc (.cells (obCells e.ob e.A e.C) 81)) (by simp; omega) hRg ((hB.cell (p := ⟨R, 0, none⟩) hR).trans hc) ((hB.frozen (p := ⟨R, 0, none⟩) hR).trans hfz) (hst.grow hB) hl
  clear hc hfz hst
  go_enter Try.func24, Try.ntmps24
  go_wp2_with fail
  refine hput.mono ?_
  rintro r w1 ⟨k, g', cap', rfl, hp, z1, z2, c1, f1, r1, hf1⟩
  have z3 : w.heap.size ≤ g' := by simp at z1; omega
  have HP := hid hp
  have HC := hid c1
  have HF := hid f1
  have HR := hid r1
  have HX := hid ((FrP.of_below (P := fun q => q = R ∨ (L ≠ [] ∧ q = g)) hB).trans hf1)
  clear hput hp c1 f1 r1 hf1 h81
  go_wp2
  go_end0
  exact ⟨k, g', cap', rfl, HP.out, z3, z2, HC.out, HF.out, HR.out, HX.out⟩
set_option maxRecDepth 100000 in
set_option maxHeartbeats 1000000 in
theorem hearWent_any (o : Ob) (R : Nat) (ad : Option Addr) (g cap : Nat) (L : List EO) (w : World) (hR : R < w.heap.size) (hRg : ad ≠ none → ¬ R = g) (hc : w.cell? ⟨R, 0, none⟩ = some (.slice ad L.length cap)) (hfz : w.frozen? ⟨R, 0, none⟩ = false) (hst : RowS w ad g cap L) (hl : (L.length : Int) ≤ 1099511627775) :
    Calls Try.prog 24 #[.iface 59 (.pointer (some ⟨R, 0, none⟩)), .iface 86 (.agg #[.string o.kind, .string o.name])] w fun e w' => e = .returned (.tuple #[]) ∧ w'.cell? ⟨R, 0, none⟩ = some (.slice ad (flK o L).length cap) ∧ w'.frozen? ⟨R, 0, none⟩ = false ∧ RowS w' ad g cap (flK o L) ∧ FrP (fun q => q = R ∨ (L ≠ [] ∧ q = g)) w w' := by
  have h81 := as81n (.agg #[.string o.kind, .string o.name])
  have h86 := as86 (.agg #[.string o.kind, .string o.name])
  have hB := below_alloc w (.cells #[.string o.kind, .string o.name] 86)
  have hput := takeOut_any o R ad g cap L (w.alloc (.cells #[.string o.kind, .string o.name] 86)) (by simp; omega) hRg ((hB.cell (p := ⟨R, 0, none⟩) hR).trans hc) ((hB.frozen (p := ⟨R, 0, none⟩) hR).trans hfz) (hst.grow hB) hl
  clear hc hfz hst
  go_enter Try.func24, Try.ntmps24
  go_wp2_with fail
  refine hput.mono ?_
  rintro r w1 ⟨rfl, c1, f1, r1, hf1⟩
  have HC := hid c1
  have HF := hid f1
  have HR := hid r1
  have HX := hid ((FrP.of_below (P := fun q => q = R ∨ (L ≠ [] ∧ q = g)) hB).trans hf1)
  clear hput c1 f1 r1 hf1 h81 h86
  go_wp2
  go_end0
  exact ⟨rfl, HC.out, HF.out, HR.out, HX.out⟩
set_option maxRecDepth 100000 in
set_option maxHeartbeats 1000000 in
theorem tidings_any (c : Ch) (ad : Option Addr) (cap : Nat) (w : World) (lo hi : Nat) (hhi : hi ≤ w.heap.size) (hl : (c.ob.hn : Int) ≤ 8796093022208) (hc : StrsIn w lo hi ad c.ob.hn c.ob.hs) :
    Calls Try.prog 25 #[.agg #[.int .i64 c.ver, .bool c.gone, .string c.ob.kind, .string c.ob.name, .int .i64 c.ob.ver, .int .i64 c.ob.born, .string c.ob.text, .bool c.ob.ending, .slice ad c.ob.hn cap]] w fun r w' => ((c.gone = true ∧ r = .returned (.iface 86 (.agg #[.string c.ob.kind, .string c.ob.name]))) ∨ (c.gone = false ∧ ∃ e : EO, e.ob = c.ob ∧ r = .returned (.iface 81 (.agg #[.string e.ob.kind, .string e.ob.name, .int .i64 e.ob.ver, .int .i64 e.ob.born, .string e.ob.text, .bool e.ob.ending, .slice e.A e.ob.hn e.C])) ∧ StrsOwn w' e.hb (e.hb + 1) e.A e.ob.hn e.ob.hs ∧ w.heap.size ≤ e.hb ∧ (e.ob.hn ≠ 0 → e.hb < w'.heap.size))) ∧ Below w.heap.size w w' := by
  have hB := below_alloc w (.cells #[.int .i64 c.ver, .bool c.gone, .string c.ob.kind, .string c.ob.name, .int .i64 c.ob.ver, .int .i64 c.ob.born, .string c.ob.text, .bool c.ob.ending, .slice ad c.ob.hn cap] 52)
  cases hg : c.gone with
  | true =>
    rw [hg] at hB
    go_enter Try.func25, Try.ntmps25
    go_wp2_with (go_at_call 41; go_must (refine (keyOf0_any c.ob ad cap _).mono ?_; rintro e1 w1 ⟨rfl, hb1⟩))
    go_ret
    exact ⟨Or.inl ⟨trivial, rfl⟩, hB.trans (hb1.mono (by simp))⟩
  | false =>
    rw [hg] at hB
    have hin := hc.below hB hhi
    have HI := hid hin
    clear hc hin
    go_enter Try.func25, Try.ntmps25
    go_wp2_with fail
    refine (copyOb_own c.ob ad cap _ lo hi (by simp; omega) hl (by exact HI.out)).mono ?_
    rintro e1 w1 ⟨ad', cap', b, rfl, z1, z2, ho, hb1⟩
    have HO := hid ho
    have HZ := hid z2
    have z3 : w.heap.size ≤ b := by simp at z1; omega
    clear ho z2
    go_wp2
    go_ret
    exact ⟨Or.inr ⟨trivial, ⟨c.ob, ad', cap', b⟩, rfl, rfl, HO.out, z3, HZ.out⟩, hB.trans (hb1.mono (by simp))⟩
end Go.Proofs.Ytkecnaaacbckoaa
