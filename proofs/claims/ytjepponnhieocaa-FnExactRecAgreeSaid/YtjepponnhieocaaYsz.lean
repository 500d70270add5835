import Derived.Test.YtjepponnhieocaaYs0
import Derived.Test.YtjepponnhieocaaYs1
import Derived.Test.YtjepponnhieocaaYs2
import Derived.Test.YtjepponnhieocaaYs3
namespace Go.Proofs.Ytjepponnhieocaa
open Go.RowKit
theorem specValid_any (r : Rc) (A : RcA) (w : World) (lo hi : Nat) (hhi : hi ≤ w.heap.size) (hf : RcFit r) (hc : RcIn w lo hi r A) :
    Calls Try.prog 46 #[rcV r A] w fun e w' => e = .returned (.bool (rcB r)) ∧ Below w.heap.size w w' := by
  obtain ⟨num, of, up, sf, dk, hn, hs, wn, ws, ld, tr, bal, yn, ys, bn, bs, an, as', hd⟩ := r
  cases ld <;> cases tr <;> cases up
  · exact svfff ⟨num, of, false, sf, dk, hn, hs, wn, ws, false, false, bal, yn, ys, bn, bs, an, as', hd⟩ A w lo hi hhi hf hc
  · exact svfft ⟨num, of, true, sf, dk, hn, hs, wn, ws, false, false, bal, yn, ys, bn, bs, an, as', hd⟩ A w lo hi hhi hf hc
  · exact svftf ⟨num, of, false, sf, dk, hn, hs, wn, ws, false, true, bal, yn, ys, bn, bs, an, as', hd⟩ A w lo hi hhi hf hc
  · exact svftt ⟨num, of, true, sf, dk, hn, hs, wn, ws, false, true, bal, yn, ys, bn, bs, an, as', hd⟩ A w lo hi hhi hf hc
  · exact svtff ⟨num, of, false, sf, dk, hn, hs, wn, ws, true, false, bal, yn, ys, bn, bs, an, as', hd⟩ A w lo hi hhi hf hc
  · exact svtft ⟨num, of, true, sf, dk, hn, hs, wn, ws, true, false, bal, yn, ys, bn, bs, an, as', hd⟩ A w lo hi hhi hf hc
  · exact svttf ⟨num, of, false, sf, dk, hn, hs, wn, ws, true, true, bal, yn, ys, bn, bs, an, as', hd⟩ A w lo hi hhi hf hc
  · exact svttt ⟨num, of, true, sf, dk, hn, hs, wn, ws, true, true, bal, yn, ys, bn, bs, an, as', hd⟩ A w lo hi hhi hf hc
end Go.Proofs.Ytjepponnhieocaa
