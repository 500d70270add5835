import Derived.Test.YtokkbdlofbdljaaGreatHy
import Derived.Test.YtokkbdlofbdljaaGreatRa
namespace Go.Proofs.YtokkbdlofbdljaaGreat
open Go.RowKit
set_option maxHeartbeats 8000000
def KN (r:Rc) (m:Ms):Rc:=if mayB r m=false then r else XO (beatN (knR (Zl r m.bal) (beatK (Zl r m.bal) m)) m) m
end Go.Proofs.YtokkbdlofbdljaaGreat
