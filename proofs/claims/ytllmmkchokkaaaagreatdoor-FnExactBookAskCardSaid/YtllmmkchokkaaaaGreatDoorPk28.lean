import Derived.Test.YtllmmkchokkaaaaGreatDoorPk26
import Derived.Test.YtllmmkchokkaaaaGreatDoorPk27
import Derived.Test.YtllmmkchokkaaaaGreatDoorPk13
set_option maxRecDepth 100000
namespace Go.Proofs.YtllmmkchokkaaaaGreatDoor
open Go.RowKit Go.Maps Go.Proofs.Tryz
theorem Bz.dn{w:World}{lo lo' hi:Nat}{x:Bk}{a1 a2 a3:OA}(h:Bz w lo hi x a1 a2 a3) (hl:lo'<=lo):Bz w lo' hi x a1 a2 a3:=⟨λi h'=>by obtain⟨b,off,ah,ch,e1,e2,e3,e4,e5⟩:=h.o i h';refine⟨b,off,ah,ch,e1,Za,e3,e4,λj hj=>?_⟩;obtain⟨b',off',g1,g2,g3,g4⟩:=e5 j hj;exact⟨b',off',g1,Za,g3,g4⟩,λi h'=>by obtain⟨b,off,ah,ch,e1,e2,e3,e4,e5⟩:=h.h i h';refine⟨b,off,ah,ch,e1,Za,e3,e4,λj hj=>?_⟩;obtain⟨b',off',g1,g2,g3,g4⟩:=e5 j hj;exact⟨b',off',g1,Za,g3,g4⟩,λi h'=>by obtain⟨b,off,e1,e2,e3,e4⟩:=h.t i h';exact⟨b,off,e1,Za,e3,e4⟩⟩
end Go.Proofs.YtllmmkchokkaaaaGreatDoor
