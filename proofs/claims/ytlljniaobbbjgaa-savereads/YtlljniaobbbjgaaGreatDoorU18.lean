/- VD10 -/
import Derived.Test.YtlljniaobbbjgaaGreatDoorU17
import Derived.Test.YtlljniaobbbjgaaGreatDoorU16
namespace Go.Proofs.YtlljniaobbbjgaaGreatDoor
open Go.RowKit
end Go.Proofs.YtlljniaobbbjgaaGreatDoor

