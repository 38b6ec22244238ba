import Derived.Test.YtjlblidnfebmiaaGreatDoorY42
set_option maxRecDepth 100000
set_option maxHeartbeats 16000000
open Go Go.RowKit Go.Shelf
attribute [local go_sem] Oper.semAt_some
namespace Go.Proofs.YtjlblidnfebmiaaGreatDoor
