import Derived.Test.YtllmmkchokkaaaaGreatDoorPk25
set_option maxRecDepth 100000
namespace Go.Proofs.YtllmmkchokkaaaaGreatDoor
open Go.RowKit Go.Maps Go.Proofs.Tryz
end Go.Proofs.YtllmmkchokkaaaaGreatDoor
