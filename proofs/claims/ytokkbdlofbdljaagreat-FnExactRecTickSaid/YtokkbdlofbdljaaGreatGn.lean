import Derived.Test.YtokkbdlofbdljaaGreatGk
namespace Go.Proofs.YtokkbdlofbdljaaGreat
open Go.RowKit
set_option maxHeartbeats 8000000
def DoR (B:Nat) (r:Rc) (p:RcP) (r':Rc) (w:World) (e:Ending) (w':World):Prop:=
 e=.returned (.tuple #[])∧∃ p',Bx w' B (rcC r' p'.A)∧RcG w' r' p'∧FrP (fun q=>q=B∨rbs p r q) w w'∧(∀ q,rbs p' r' q→rbs p r q∨w.1.size≤q)
end Go.Proofs.YtokkbdlofbdljaaGreat
