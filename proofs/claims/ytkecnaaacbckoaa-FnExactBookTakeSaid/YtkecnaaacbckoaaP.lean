import Derived.Test.YtkecnaaacbckoaaO
import Derived.Test.YtkecnaaacbckoaaD
namespace Go.Proofs.Ytkecnaaacbckoaa
open Go.RowKit
/-- a world that w has grown into -/
structure GW (w : World) where
  val : World
  prop : Below w.heap.size w val
/-- A REGION THAT DRAWS, WHOSE OPERATIONS READ AND WHOSE CALLEES READ AND MAKE NEW MEMORY: one walk in the order of the text -/
theorem wp_region_grow {P : Program} {id : Nat} {Q : Exit → Act → World → Prop} {a : Act} {w : World} {l : List Oper} (hm : P.follows .mixedOrders = true) (hB : Region.lexB .any l.toArray = true)
    (h : wpQuiet P l.toArray (fun w' => ∃ u : GW w, w' = u.val) (fun a' => ∀ w', (∃ u : GW w, w' = u.val) → Q .normal a' w') l a) : (Code.region id l.toArray true).wp P Q a w :=
  wp_region_quiet (C := fun w' => ∃ u : GW w, w' = u.val) hm hB ⟨⟨w.drew, (Below.refl _ _).drew⟩, rfl⟩ (by simpa using h)
theorem grow_of {P : Program} {f : FuncId} {args : Array Value} {w : World} {v : Value} {u : GW w}
    (h : Calls P f args u.val fun e w' => e = .returned v ∧ Below u.val.heap.size u.val w') : Calls P f args u.val fun e w'' => e = .returned v ∧ ∃ u' : GW w, w'' = u'.val :=
  h.mono fun _ w'' ⟨he, hb⟩ => ⟨he, ⟨w'', u.prop.trans (hb.mono u.prop.size)⟩, rfl⟩
theorem subcell {W1 : World} {p : Addr} {v : Value} (h : W1.cell? p = some v) (hp : p.block < W1.heap.size) : ∀ u : GW W1, u.val.cell? p = some v := fun u => (u.prop.cell hp).trans h
def partsB (x : Ob) (now : Int) : Bool := nameB x.kind && (nameB x.name && (inB x.ver 1 now && (inB x.born 1 x.ver && (decide (x.text.size ≤ 300) && holdsB x.hn x.hs))))
theorem below_drewN' (w : World) (q : Nat) : Below w.heap.size w (w.drewN q) := ⟨rfl, rfl, rfl, Nat.le_refl _, fun _ _ => rfl⟩
theorem key_en (x z : Ob) (e1 e2 : Bool) (ad ad2 : Option Addr) (cap cap2 : Nat) (w : World) :
    Calls Try.prog 34 #[.agg #[.string x.kind, .string x.name, .int .i64 x.ver, .int .i64 x.born, .string x.text, .bool e1, .slice ad x.hn cap], .agg #[.string z.kind, .string z.name, .int .i64 z.ver, .int .i64 z.born, .string z.text, .bool e2, .slice ad2 z.hn cap2]] w fun e w' => e = .returned (.int .i64 (keyI x z)) ∧ Below w.heap.size w w' :=
  key_any ⟨x.kind, x.name, x.ver, x.born, x.text, e1, x.hn, x.hs⟩ ⟨z.kind, z.name, z.ver, z.born, z.text, e2, z.hn, z.hs⟩ ad ad2 cap cap2 w
end Go.Proofs.Ytkecnaaacbckoaa
