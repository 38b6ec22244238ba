/-
  No cell of these rows narrows 'for every input' (looked for: loops, veiled, ifaces, maps, wideKeys, modest, calm, conditions, laid).
  DERIVED. THE GIVEN ROWS OF THIS SEAT. 3 by the template 'for every input the law returns true; each argument reads behind the call as it read before'; 0 by the template 'total and deterministic' (their statements: YtmpnimcabbjifabTotals.lean).
  GIVEN WITH THE SEED: the statements are not yours to turn. If you find one false, say at which input.
  Laid BY PROGRAM, IN A SANDBOX (cutbox-rows.mjs): the forced cells as the released guide's own fill.sh prints them over the translation 0ce754f718ab0262… (all of the seat's roots in one cut). By AI agents, Wed Nov 11 2026. No macro, syntax, notation, axiom, sorry.
-/
import Derived.Test.YtmpnimcabbjifabChecked
import GoSem.Claim
import GoSem.ClaimJoined
import GoSem.ClaimMapViews
import Derived.JoinedTies
import Derived.KernelRfl
namespace Go.Proofs.Ytmpnimcabbjifab
/- THE CELL 'sum', in the pinned program and in every row, IS THE sha256 OF THE DUMP (.gsa) THAT YtmpnimcabbjifabProg.lean LOADS. Nothing in Lean hashes anything: it is a label: what it is worth is what the hold of that sum in a sandbox is worth. -/
noncomputable def Try.pinned : Pinned := { name := "ytmpnimcabbjifab", sum := "0ce754f718ab0262890ed29f016b121b5733ee2b8ea702329f284be6ba3b359e", checked := Try.checked }
namespace Rows
def none {H : Type} : Left H := { results := [], args := [] }

/-- 'ostlerytop.TopTake': WHATEVER THE INPUT: true; the input reads as it did. -/
def topTakeSpec : ChangeSpec := { name := "topTake", fn := fun _ => fun
  | [d1, d2, d3, d4] => { results := [.lit (.bool true)], args := [d1, d2, d3, d4] }
  | _ => none }
def topTakeRow : OpenClaim := { program := "ytmpnimcabbjifab", sum := "0ce754f718ab0262890ed29f016b121b5733ee2b8ea702329f284be6ba3b359e", func := "ostlery/ostlerytop.TopTake", spec := "topTake", unfollowed := true, recurses := true, apart := false }
def TopTakeSaid : Prop := topTakeRow.holds Try.pinned (OpenSpec.ofChange topTakeSpec)

/-- ITS FALSE NEIGHBOUR: 'it returns false'. Refute it at one input. -/
def topTakeWrong : ChangeSpec := { name := "topTake", fn := fun _ => fun
  | [d1, d2, d3, d4] => { results := [.lit (.bool false)], args := [d1, d2, d3, d4] }
  | _ => none }
def TopTakeWrongFalsely : Prop := topTakeRow.holds Try.pinned (OpenSpec.ofChange topTakeWrong)

/-- 'ostlerylaw.DevicesSays': WHATEVER THE INPUT: true; the input reads as it did. -/
def devicesSaysSpec : ChangeSpec := { name := "devicesSays", fn := fun _ => fun
  | [d1, d2] => { results := [.lit (.bool true)], args := [d1, d2] }
  | _ => none }
def devicesSaysRow : OpenClaim := { program := "ytmpnimcabbjifab", sum := "0ce754f718ab0262890ed29f016b121b5733ee2b8ea702329f284be6ba3b359e", func := "ostlery/ostlerylaw.DevicesSays", spec := "devicesSays", recurses := true, apart := false }
def DevicesSaysSaid : Prop := devicesSaysRow.holds Try.pinned (OpenSpec.ofChange devicesSaysSpec)

/-- ITS FALSE NEIGHBOUR: 'it returns false'. Refute it at one input. -/
def devicesSaysWrong : ChangeSpec := { name := "devicesSays", fn := fun _ => fun
  | [d1, d2] => { results := [.lit (.bool false)], args := [d1, d2] }
  | _ => none }
def DevicesSaysWrongFalsely : Prop := devicesSaysRow.holds Try.pinned (OpenSpec.ofChange devicesSaysWrong)

/-- 'ostlerytop.TopPool': WHATEVER THE INPUT: true; the input reads as it did. -/
def topPoolSpec : ChangeSpec := { name := "topPool", fn := fun _ => fun
  | [d1, d2] => { results := [.lit (.bool true)], args := [d1, d2] }
  | _ => none }
def topPoolRow : OpenClaim := { program := "ytmpnimcabbjifab", sum := "0ce754f718ab0262890ed29f016b121b5733ee2b8ea702329f284be6ba3b359e", func := "ostlery/ostlerytop.TopPool", spec := "topPool", recurses := true, apart := false }
def TopPoolSaid : Prop := topPoolRow.holds Try.pinned (OpenSpec.ofChange topPoolSpec)

/-- ITS FALSE NEIGHBOUR: 'it returns false'. Refute it at one input. -/
def topPoolWrong : ChangeSpec := { name := "topPool", fn := fun _ => fun
  | [d1, d2] => { results := [.lit (.bool false)], args := [d1, d2] }
  | _ => none }
def TopPoolWrongFalsely : Prop := topPoolRow.holds Try.pinned (OpenSpec.ofChange topPoolWrong)

/- THE SECOND FORM. 'bulk': how many values and letters a reading holds, each counted each time it is reached (what is shared counts as often as it is met; a slice's spare places count too). A statement '..UptoSaid' is the law's where the arguments, and the package variables that the reading takes, are together of bulk at most 1048576: NARROWER than '..Said'. Prove '..Said' where nothing that the law and all that it calls make is longer than what came in: it says more and counts as full. Else prove '..UptoSaid'. A law counts once. -/
mutual
def uptoBulk {H : Type} : DataW H → Nat
  | .lit (.string bytes) => bytes.length + 1
  | .lit _ => 1
  | .nil => 1
  | .ptr d => uptoBulk d + 1
  | .slice elems spare => uptoBulkAll elems + uptoBulkAll spare + 1
  | .agg parts => uptoBulkAll parts + 1
  | .iface _ d => uptoBulk d + 1
  | .map entries => uptoBulkEntries entries + 1
  | .held _ => 1
def uptoBulkAll {H : Type} : List (DataW H) → Nat
  | [] => 0
  | d :: r => uptoBulk d + uptoBulkAll r
def uptoBulkEntries {H : Type} : List (Lit × DataW H) → Nat
  | [] => 0
  | x :: r => uptoBulkEntry x + uptoBulkEntries r
def uptoBulkEntry {H : Type} : Lit × DataW H → Nat
  | (.string bytes, d) => bytes.length + uptoBulk d + 1
  | (_, d) => uptoBulk d + 1
 end
def uptoSmall : (H : Type) → List (DataW H) → Bool := fun _ ds => decide (uptoBulkAll ds ≤ 1048576)
def OpenSpec.upto (s : _root_.Go.ChangeSpec) : _root_.Go.OpenSpec := { _root_.Go.OpenSpec.ofChange s with cond := some uptoSmall }

/-- 'ostlerytop.TopTake', WHERE WHAT IT READS IS OF BULK AT MOST 1048576: true; the input reads as it did. -/
def topTakeUptoRow : OpenClaim := { program := "ytmpnimcabbjifab", sum := "0ce754f718ab0262890ed29f016b121b5733ee2b8ea702329f284be6ba3b359e", func := "ostlery/ostlerytop.TopTake", spec := "topTake", unfollowed := true, recurses := true, apart := false, narrowed := true }
def TopTakeUptoSaid : Prop := topTakeUptoRow.holds Try.pinned (OpenSpec.upto topTakeSpec)

/-- 'ostlerylaw.DevicesSays', WHERE WHAT IT READS IS OF BULK AT MOST 1048576: true; the input reads as it did. -/
def devicesSaysUptoRow : OpenClaim := { program := "ytmpnimcabbjifab", sum := "0ce754f718ab0262890ed29f016b121b5733ee2b8ea702329f284be6ba3b359e", func := "ostlery/ostlerylaw.DevicesSays", spec := "devicesSays", recurses := true, apart := false, narrowed := true }
def DevicesSaysUptoSaid : Prop := devicesSaysUptoRow.holds Try.pinned (OpenSpec.upto devicesSaysSpec)

/-- 'ostlerytop.TopPool', WHERE WHAT IT READS IS OF BULK AT MOST 1048576: true; the input reads as it did. -/
def topPoolUptoRow : OpenClaim := { program := "ytmpnimcabbjifab", sum := "0ce754f718ab0262890ed29f016b121b5733ee2b8ea702329f284be6ba3b359e", func := "ostlery/ostlerytop.TopPool", spec := "topPool", recurses := true, apart := false, narrowed := true }
def TopPoolUptoSaid : Prop := topPoolUptoRow.holds Try.pinned (OpenSpec.upto topPoolSpec)

end Rows
end Go.Proofs.Ytmpnimcabbjifab
