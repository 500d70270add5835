import Derived.Test.YtnnjcenacidceaaPk31
import Derived.Test.YtnnjcenacidceaaPk36
import Derived.Defers
import Derived.Recover
set_option maxRecDepth 100000
namespace Go.Proofs.Ytnnjcenacidceaa
open Go.RowKit Go.Maps Go.Proofs.Try
theorem SQ (B:Bk)(x:Bu)(a1 a2 a3:OA)(c1 c2 c3:Nat)(u1 u2:OA)(d1 d2:Nat)(w:World)(hf:BL B)(hv:Bc (LU B) 7=true)(hu:Oe x)(hbk:BF w 0 w.1.size B a1 a2 a3)(hbu:Lt w 0 w.1.size x u1 u2):Calls prog 81 #[.agg (vB B a1 a2 a3 c1 c2 c3),.agg (vU x u1 u2 d1 d2)] w λe w'=>Yo B x w e w':=by
 by_cases h:10<x.wn\/10<x.rn;.exact pX B x a1 a2 a3 c1 c2 c3 u1 u2 d1 d2 w hbk hbu h
 .exact tA B x a1 a2 a3 c1 c2 c3 u1 u2 d1 d2 w hf hv hu hbk hbu Za Za
end Go.Proofs.Ytnnjcenacidceaa
