import Derived.Test.YtnnjcenacidceaaPk21
import Derived.Test.YtnnjcenacidceaaPk12
import Derived.Deep.MidRow
import Derived.WalkKit
import Derived.LaidEql
import Derived.Stop.Asserts
import Derived.RowKitTokens
import Derived.Test.YtnnjcenacidceaaPk18
import Derived.Test.YtnnjcenacidceaaPk30
set_option maxRecDepth 100000
namespace Go.Proofs.Ytnnjcenacidceaa
open Go.RowKit Go.Maps Go.Proofs.Try
end Go.Proofs.Ytnnjcenacidceaa
