/- VD8 -/
import Derived.Test.YtbfdcmodflnkfaaGreatDoorU25
set_option maxRecDepth 100000
set_option maxHeartbeats 16000000
namespace Go.Proofs.YtbfdcmodflnkfaaGreatDoor
section
open Go.RowKit
end
end Go.Proofs.YtbfdcmodflnkfaaGreatDoor
