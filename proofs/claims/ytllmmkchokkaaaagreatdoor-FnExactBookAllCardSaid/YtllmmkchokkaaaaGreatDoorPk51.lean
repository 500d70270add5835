import Derived.Test.YtllmmkchokkaaaaGreatDoorPk39
import Derived.Test.YtllmmkchokkaaaaGreatDoorPk15
set_option maxRecDepth 100000
namespace Go.Proofs.YtllmmkchokkaaaaGreatDoor
open Go.ChangeShapes Go.WideShapes Go.ChangeAt Go.RowKit Go.Deep
theorem Tryz.c28:Tryz.prog.cellsOf 28=6:=Zf
theorem list6 {α:Type} {l:List α} (h:l.length=6):∃ a b c d e f,l=[a,b,c,d,e,f]:=by
 match l,h with
 | [a,b,c,d,e,f],_=>exact ⟨a,b,c,d,e,f,rfl⟩
end Go.Proofs.YtllmmkchokkaaaaGreatDoor
