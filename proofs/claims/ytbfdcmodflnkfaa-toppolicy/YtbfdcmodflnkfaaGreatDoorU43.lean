/- VE2 -/
import Derived.Test.YtbfdcmodflnkfaaGreatDoorU7
set_option maxRecDepth 100000
set_option maxHeartbeats 16000000
namespace Go.Proofs.YtbfdcmodflnkfaaGreatDoor
section
open Go.RowKit Go.Shelf
open Qos (Nd Ct Pd nd ct pd)
end
end Go.Proofs.YtbfdcmodflnkfaaGreatDoor
