/- VR8 -/
import Derived.Test.YtbfdcmodflnkfaaGreatDoorU18
set_option maxRecDepth 100000
set_option maxHeartbeats 16000000
namespace Go.Proofs.YtbfdcmodflnkfaaGreatDoor
section
open Go.RowKit Go.Shelf
open Ost (splitC)
open Qos (Nd Ct Pd nd ct pd)
open Sv (Gv Hd gv hd wd)
open S1 (Mx)
attribute [local go_sem] Oper.semAt_some
def SomeQ (W:World) (base:Nat) (v:Value) (hs:List Hd):Prop:=(hs=[]∧v=.slice none 0 0)∨∃ el la,HeldQ W base v el la∧hs=(el++[la]).map Hp.hd
theorem infoHeldV:(Tryz.prog.info? 60).map (fun i=>(i.zero,i.size,i.bytes))=some (some (.agg #[.string ByteArray.empty,.int .i64 0,.slice none 0 0,.slice none 0 0]),4,72):=by kernel_rfl
end
end Go.Proofs.YtbfdcmodflnkfaaGreatDoor
