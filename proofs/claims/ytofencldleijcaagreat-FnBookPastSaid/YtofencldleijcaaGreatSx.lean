import Derived.Test.YtofencldleijcaaGreatProg
import Derived.Shelf.SlSortCmp.WholeK
import Derived.Ground.SlsfProg
import Derived.Shelf.Lay
namespace Go.Proofs
open Go.Shelf Go.RowKit Go.Sort
set_option maxRecDepth 100000 in
shelf_lay_g SlLaysF0.n6 Slsf 6 at Tryz 25 as YtofencldleijcaaGreat.sortOb
end Go.Proofs
