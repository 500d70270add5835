import Derived.Test.YtkecnaaacbckoaaG
namespace Go.Proofs.Ytkecnaaacbckoaa
open Go.RowKit
structure TicsOwnAt (w : World) (g n m : Nat) (x : Nat → Ti) : Prop where
  room : Room w g (m * 5)
  at_ : ∀ i, i < n → TiCells w g (i * 5) (x i)
theorem TicsOwnAt.step {wr w1 : World} {g k n : Nat} {x : Nat → Ti} (h : TicsOwnAt wr g k n x) (hk : k < n) (hb : Below wr.heap.size wr w1) :
    TicsOwnAt (w1.setCells g (k * 5) [.string (x k).client, .int .i64 (x k).num, .string (x k).print, .int .i64 (x k).code, .int .i64 (x k).ver]) g (k + 1) n x := by
  have hg := h.room.lt
  have hR := h.room.below hb hg
  generalize hvs : [Value.string (x k).client, .int .i64 (x k).num, .string (x k).print, .int .i64 (x k).code, .int .i64 (x k).ver] = vs
  have hlen : vs.length = 5 := by rw [← hvs]; rfl
  have hin := World.cell?_setCells_in g vs (k * 5) w1 (fun j hj => by
    obtain ⟨u, hu⟩ := hR.has (k * 5 + j) (by omega)
    rw [hu]; rfl)
  refine ⟨hR.setCells vs (by omega), fun i hi => ?_⟩
  by_cases e : i < k
  · have c := (h.at_ i e).below hb hg
    have ee : ∀ j, j < 5 → (w1.setCells g (k * 5) vs).cell? ⟨g, i * 5 + j, none⟩ = w1.cell? ⟨g, i * 5 + j, none⟩ := fun j hj => World.cell?_setCells_out g vs (k * 5) w1 _ (fun _ _ => Or.inl (by show i * 5 + j < k * 5; omega))
    exact ⟨(ee 0 (by omega)).trans c.c0, (ee 1 (by omega)).trans c.c1, (ee 2 (by omega)).trans c.c2, (ee 3 (by omega)).trans c.c3, (ee 4 (by omega)).trans c.c4⟩
  · have : i = k := by omega
    subst this
    have f := fun j (hj : j < 5) => hin j (by omega)
    have f0 := f 0 (by omega); have f1 := f 1 (by omega); have f2 := f 2 (by omega); have f3 := f 3 (by omega); have f4 := f 4 (by omega)
    subst hvs
    exact ⟨f0, f1, f2, f3, f4⟩
end Go.Proofs.Ytkecnaaacbckoaa
