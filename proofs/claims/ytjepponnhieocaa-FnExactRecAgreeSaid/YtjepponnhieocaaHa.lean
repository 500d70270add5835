import Derived.Test.YtjepponnhieocaaC
import Derived.Test.YtjepponnhieocaaRg
import Derived.Maps.OwnSet
import Derived.Maps.OwnOps
import Derived.WideKeyEntry
import Derived.ProofKit
namespace Go.Proofs.Ytjepponnhieocaa
open Go.RowKit Go.Maps Go.WideElems Go.ChangeShapes Go.WideShapes Go.MapKept Go.ChangeMaps
theorem mp_laidOut : laidOutB Try.prog = true := by kernel_rfl
theorem mp_row : 100 < Try.prog.types.size := of_decide_eq_true (by kernel_rfl)
theorem mp_klaw : WideMaps.KeyLaw Try.prog 100 := deep_law_laid mp_laidOut (m := 2) (by omega) mp_row (by kernel_rfl) (by kernel_rfl)
theorem mp_law : Keyed Try.prog 100 := Keyed.of_law mp_klaw
theorem mp_key : Try.prog.keyType 100 = true := by kernel_rfl
theorem mp_cells : Try.prog.cellsOf 100 = 2 := by kernel_rfl
theorem mp_cells9 : Try.prog.cellsOf 9 = 1 := by kernel_rfl
theorem mp_cells3 : Try.prog.cellsOf 3 = 1 := by kernel_rfl
def kl (s : Sl) : Lit := .string (keyBytes [.int .i64 s.bal, .string s.text.data.toList])
theorem hkey (s : Sl) (hi : -9223372036854775808 ≤ s.bal ∧ s.bal ≤ 9223372036854775807) (hb : s.text.size ≤ maxLen) : keyOf Try.prog 100 (slV s) = some (kl s) := by
  obtain ⟨d, hd⟩ : ∃ d, Try.prog.types.size + 1 = d + 2 := ⟨Try.prog.types.size - 1, by have := mp_row; omega⟩
  have hw : (Lit.int .i64 s.bal).wf = true := WalkArith.wf_i64 (by omega)
  unfold keyOf
  rw [Try.underlying100]
  simp only [mp_key, Value.formed, Try.underlying100, mp_cells, hd]
  simp [Program.keyLits, Try.underlying100, Try.underlying9, Try.underlying3, mp_cells, mp_cells9, mp_cells3, Value.cells, hb, kl, hw]
theorem mp_zero3 (w : World) : (zeroValue 3).run Try.prog w = .ok (.int .i64 0) w := by kernel_rfl
theorem setBlock_twice (w : World) (b : Nat) (o o' : Obj) : setBlock (setBlock w b o) b o' = setBlock w b o' := by
  unfold setBlock
  simp
set_option maxRecDepth 100000 in
theorem entry_own {w : World} {b n : Nat} {D : DataW Unit} (hown : w.ownsMap Try.prog 100 (plainElem Try.prog 3) b n D) (hn : n < maxLen) {key : Value} {q : Lit} (hk : keyOf Try.prog 100 key = some q) :
    ∃ (v0 : Value) (st : Nat) (w1 : World) (D1 : DataW Unit), (Instr.mapEntry 129 (.map (some b)) key).run Try.prog w = .ok (.tuple #[v0, goInt st]) w1 ∧ w1.ownsMap Try.prog 100 (plainElem Try.prog 3) b (n + 1) D1 ∧ D1.atKey q (.lit (.int .i64 0)) = D.atKey q (.lit (.int .i64 0)) ∧ w.grownBy w1 (some b) ∧
      ∀ c : Int, (Lit.int .i64 c).wf = true → ∃ w2, (Instr.entryStore 129 (.map (some b)) (goInt st) (.int .i64 c)).run Try.prog w1 = .ok () w2 ∧ w2.ownsMap Try.prog 100 (plainElem Try.prog 3) b (n + 1) (D.put q (.lit (.int .i64 c))) ∧ w.grownBy w2 (some b) := by
  have hown' := hown
  obtain ⟨es, clock, hb, F, hs, rfl⟩ := hown
  obtain ⟨v0, st, es1, clock1, hE, hv, hS⟩ := entry_then_store mp_klaw Try.underlying129 (fun u => mp_zero3 u) hb F hk
  have hst : ∀ c : Int, (Lit.int .i64 c).wf = true → ∃ w2, (Instr.entryStore 129 (.map (some b)) (goInt st) (.int .i64 c)).run Try.prog (setBlock w b (.map es1 clock1)) = .ok () w2 ∧ w2.ownsMap Try.prog 100 (plainElem Try.prog 3) b (n + 1) ((DataW.map ((es.toList.map (rg Try.prog 100 (plainElem (H := Unit) Try.prog 3))).foldr DataW.insert [])).put q (.lit (.int .i64 c))) ∧ w.grownBy w2 (some b) := fun c hc => by
    obtain ⟨es', clock', h1, h2⟩ := hS (setBlock w b (.map es1 clock1)) (.int .i64 c) (heap_setBlock_same hb _)
    obtain ⟨w', hrun, r1, r2⟩ := hown'.update mp_law Try.underlying129 hn hk (plainElem_int Try.underlying3 hc)
    rw [h2] at hrun
    have e : setBlock w b (.map es' clock') = w' := by cases hrun; rfl
    exact ⟨_, h1, by rw [setBlock_twice, e]; exact r1, by rw [setBlock_twice, e]; exact r2⟩
  rcases mp_klaw.find w hk es.toList F.keys with ⟨h1, h2⟩ | ⟨j, e0, h1, h2, h3⟩
  · have hE2 : (Instr.mapEntry 129 (.map (some b)) key).run Try.prog w = .ok (.tuple #[.int .i64 0, goInt clock]) (setBlock w b (.map (es.push ⟨key, .int .i64 0, clock⟩) (clock + 1))) := by
      simp [Instr.mapEntry, run_underlying Try.underlying129, MapKept.run_getObj_map hb, mp_klaw.check w false hk, h1, MapKept.run_setObj_map _ hb, Result.andThen, setBlock]
    have hU : (Instr.mapUpdate 129 (.map (some b)) key (.int .i64 0)).run Try.prog w = .ok () (setBlock w b (.map (es.push ⟨key, .int .i64 0, clock⟩) (clock + 1))) := by
      simp [Instr.mapUpdate, run_underlying Try.underlying129, MapKept.run_getObj_map hb, mp_klaw.check w false hk, h1, MapKept.run_setObj_map _ hb, Result.andThen, setBlock]
    obtain ⟨w', hrun, r1, r2⟩ := hown'.update mp_law Try.underlying129 hn hk (plainElem_int Try.underlying3 (show (Lit.int .i64 0).wf = true by decide))
    rw [hU] at hrun
    have e : setBlock w b (.map (es.push ⟨key, .int .i64 0, clock⟩) (clock + 1)) = w' := by cases hrun; rfl
    have e1 : setBlock w b (.map es1 clock1) = w' := by
      rw [hE] at hE2
      rw [← e]
      injection hE2
    refine ⟨v0, st, _, _, hE, by rw [e1]; exact r1, ?_, by rw [e1]; exact r2, hst⟩
    rw [atKey_put_same hown'.isMap (mp_law.key hk)]
    exact (WideElems.atKey_none mp_klaw F hk h2 _).symm
  · have hj : es[j]? = some e0 := by simpa using h2
    have hsame : es.modify j (fun e => { e with key := key }) = es := by
      apply Array.ext'
      rw [Array.toList_modify, modify_eq_set _ _ _ _ h2]
      have : ({ e0 with key := key } : MapEntry) = e0 := by rw [← h3]
      rw [this]
      exact set_self _ _ _ h2
    have hE2 : (Instr.mapEntry 129 (.map (some b)) key).run Try.prog w = .ok (.tuple #[e0.val, goInt e0.born]) (setBlock w b (.map es clock)) := by
      simp [Instr.mapEntry, run_underlying Try.underlying129, MapKept.run_getObj_map hb, mp_klaw.check w false hk, h1, hj, h3, mp_klaw.stays w hk, hsame, MapKept.run_setObj_map _ hb, Result.andThen, setBlock]
    have e1 : setBlock w b (.map es1 clock1) = setBlock w b (.map es clock) := by
      rw [hE] at hE2
      injection hE2
    refine ⟨v0, st, _, _, hE, ⟨es, clock, by rw [e1]; exact heap_setBlock_same hb _, F, by omega, rfl⟩, rfl, ?_, hst⟩
    rw [e1]
    exact ⟨rfl, rfl, rfl, by simp [setBlock], fun i _ hi => heap_setBlock_other hb _ (fun e => hi (by rw [e]))⟩
end Go.Proofs.Ytjepponnhieocaa
