/- VE3 -/
import Derived.Test.YtbfdcmodflnkfaaGreatDoorU43
set_option maxRecDepth 100000
set_option maxHeartbeats 16000000
namespace Go.Proofs.YtbfdcmodflnkfaaGreatDoor
section
open Go.RowKit Go.Shelf
open Qos (Nd Ct Pd nd ct pd)
open Sv (Gv Hd gv hd)
attribute [local go_sem] Oper.semAt_some
end
end Go.Proofs.YtbfdcmodflnkfaaGreatDoor
