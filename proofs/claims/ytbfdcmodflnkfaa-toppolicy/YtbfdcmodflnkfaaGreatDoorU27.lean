/- VD10 -/
import Derived.Test.YtbfdcmodflnkfaaGreatDoorU26
set_option maxRecDepth 100000
set_option maxHeartbeats 16000000
namespace Go.Proofs.YtbfdcmodflnkfaaGreatDoor
section
open Go.RowKit
end
end Go.Proofs.YtbfdcmodflnkfaaGreatDoor
