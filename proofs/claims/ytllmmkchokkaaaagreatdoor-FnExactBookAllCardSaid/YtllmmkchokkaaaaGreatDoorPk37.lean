import Derived.Test.YtllmmkchokkaaaaGreatDoorPk29
set_option maxRecDepth 100000
namespace Go.Proofs.YtllmmkchokkaaaaGreatDoor
open Go.RowKit Go.Maps
end Go.Proofs.YtllmmkchokkaaaaGreatDoor
