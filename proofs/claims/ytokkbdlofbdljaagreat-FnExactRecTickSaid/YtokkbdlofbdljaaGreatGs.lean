import Derived.Test.YtokkbdlofbdljaaGreatGn
namespace Go.Proofs.YtokkbdlofbdljaaGreat
open Go.RowKit
set_option maxHeartbeats 8000000
def mayB (r:Rc) (m:Ms):Bool:=decide (0<m.bal) && !decide (m.from_=r.num)
end Go.Proofs.YtokkbdlofbdljaaGreat
