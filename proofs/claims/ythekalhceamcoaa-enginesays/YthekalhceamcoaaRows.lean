/-
  No cell of these rows narrows 'for every input' (looked for: loops, veiled, ifaces, maps, wideKeys, modest, calm, conditions, laid).
  DERIVED. THE GIVEN ROWS OF THIS SEAT. 11 by the template 'for every input the law returns true; each argument reads behind the call as it read before'; 0 by the template 'total and deterministic' (their statements: YthekalhceamcoaaTotals.lean).
  GIVEN WITH THE SEED: the statements are not yours to turn. If you find one false, say at which input.
  Laid BY PROGRAM, IN A SANDBOX (cutbox-rows.mjs): the forced cells as the released guide's own fill.sh prints them over the translation 7243d76964004598… (all of the seat's roots in one cut). By AI agents, Wed Nov 11 2026. No macro, syntax, notation, axiom, sorry.
-/
import Derived.Test.YthekalhceamcoaaChecked
import GoSem.Claim
import GoSem.ClaimJoined
import GoSem.ClaimMapViews
import Derived.JoinedTies
import Derived.KernelRfl
namespace Go.Proofs.Ythekalhceamcoaa
/- THE CELL 'sum', in the pinned program and in every row, IS THE sha256 OF THE DUMP (.gsa) THAT YthekalhceamcoaaProg.lean LOADS. Nothing in Lean hashes anything: it is a label: what it is worth is what the hold of that sum in a sandbox is worth. -/
noncomputable def Try.pinned : Pinned := { name := "ythekalhceamcoaa", sum := "7243d76964004598dcae96bf9d34b39384708db8cb99f37eea6a8d522cf4af98", checked := Try.checked }
namespace Rows
def none {H : Type} : Left H := { results := [], args := [] }

/-- 'ostlerylaw.PickSays': WHATEVER THE INPUT: true; the input reads as it did. -/
def pickSaysSpec : ChangeSpec := { name := "pickSays", fn := fun _ => fun
  | [d1, d2, d3, d4] => { results := [.lit (.bool true)], args := [d1, d2, d3, d4] }
  | _ => none }
def pickSaysRow : OpenClaim := { program := "ythekalhceamcoaa", sum := "7243d76964004598dcae96bf9d34b39384708db8cb99f37eea6a8d522cf4af98", func := "ostlery/ostlerylaw.PickSays", spec := "pickSays", unfollowed := true, recurses := true, plainKeys := false, apart := false }
def PickSaysSaid : Prop := pickSaysRow.holds Try.pinned (OpenSpec.ofChange pickSaysSpec)

/-- ITS FALSE NEIGHBOUR: 'it returns false'. Refute it at one input. -/
def pickSaysWrong : ChangeSpec := { name := "pickSays", fn := fun _ => fun
  | [d1, d2, d3, d4] => { results := [.lit (.bool false)], args := [d1, d2, d3, d4] }
  | _ => none }
def PickSaysWrongFalsely : Prop := pickSaysRow.holds Try.pinned (OpenSpec.ofChange pickSaysWrong)

/-- 'ostlerytop.TopTake': WHATEVER THE INPUT: true; the input reads as it did. -/
def topTakeSpec : ChangeSpec := { name := "topTake", fn := fun _ => fun
  | [d1, d2, d3, d4] => { results := [.lit (.bool true)], args := [d1, d2, d3, d4] }
  | _ => none }
def topTakeRow : OpenClaim := { program := "ythekalhceamcoaa", sum := "7243d76964004598dcae96bf9d34b39384708db8cb99f37eea6a8d522cf4af98", func := "ostlery/ostlerytop.TopTake", spec := "topTake", unfollowed := true, recurses := true, plainKeys := false, apart := false }
def TopTakeSaid : Prop := topTakeRow.holds Try.pinned (OpenSpec.ofChange topTakeSpec)

/-- ITS FALSE NEIGHBOUR: 'it returns false'. Refute it at one input. -/
def topTakeWrong : ChangeSpec := { name := "topTake", fn := fun _ => fun
  | [d1, d2, d3, d4] => { results := [.lit (.bool false)], args := [d1, d2, d3, d4] }
  | _ => none }
def TopTakeWrongFalsely : Prop := topTakeRow.holds Try.pinned (OpenSpec.ofChange topTakeWrong)

/-- 'ostlerylaw.DevicesSays': WHATEVER THE INPUT: true; the input reads as it did. -/
def devicesSaysSpec : ChangeSpec := { name := "devicesSays", fn := fun _ => fun
  | [d1, d2] => { results := [.lit (.bool true)], args := [d1, d2] }
  | _ => none }
def devicesSaysRow : OpenClaim := { program := "ythekalhceamcoaa", sum := "7243d76964004598dcae96bf9d34b39384708db8cb99f37eea6a8d522cf4af98", func := "ostlery/ostlerylaw.DevicesSays", spec := "devicesSays", recurses := true, plainKeys := false, apart := false }
def DevicesSaysSaid : Prop := devicesSaysRow.holds Try.pinned (OpenSpec.ofChange devicesSaysSpec)

/-- ITS FALSE NEIGHBOUR: 'it returns false'. Refute it at one input. -/
def devicesSaysWrong : ChangeSpec := { name := "devicesSays", fn := fun _ => fun
  | [d1, d2] => { results := [.lit (.bool false)], args := [d1, d2] }
  | _ => none }
def DevicesSaysWrongFalsely : Prop := devicesSaysRow.holds Try.pinned (OpenSpec.ofChange devicesSaysWrong)

/-- 'ostlerytop.TopPool': WHATEVER THE INPUT: true; the input reads as it did. -/
def topPoolSpec : ChangeSpec := { name := "topPool", fn := fun _ => fun
  | [d1, d2] => { results := [.lit (.bool true)], args := [d1, d2] }
  | _ => none }
def topPoolRow : OpenClaim := { program := "ythekalhceamcoaa", sum := "7243d76964004598dcae96bf9d34b39384708db8cb99f37eea6a8d522cf4af98", func := "ostlery/ostlerytop.TopPool", spec := "topPool", recurses := true, plainKeys := false, apart := false }
def TopPoolSaid : Prop := topPoolRow.holds Try.pinned (OpenSpec.ofChange topPoolSpec)

/-- ITS FALSE NEIGHBOUR: 'it returns false'. Refute it at one input. -/
def topPoolWrong : ChangeSpec := { name := "topPool", fn := fun _ => fun
  | [d1, d2] => { results := [.lit (.bool false)], args := [d1, d2] }
  | _ => none }
def TopPoolWrongFalsely : Prop := topPoolRow.holds Try.pinned (OpenSpec.ofChange topPoolWrong)

/-- 'ostlerylaw.QosSays': WHATEVER THE INPUT: true; the input reads as it did. -/
def qosSaysSpec : ChangeSpec := { name := "qosSays", fn := fun _ => fun
  | [d1, d2] => { results := [.lit (.bool true)], args := [d1, d2] }
  | _ => none }
def qosSaysRow : OpenClaim := { program := "ythekalhceamcoaa", sum := "7243d76964004598dcae96bf9d34b39384708db8cb99f37eea6a8d522cf4af98", func := "ostlery/ostlerylaw.QosSays", spec := "qosSays", unfollowed := true, recurses := true, plainKeys := false, apart := false }
def QosSaysSaid : Prop := qosSaysRow.holds Try.pinned (OpenSpec.ofChange qosSaysSpec)

/-- ITS FALSE NEIGHBOUR: 'it returns false'. Refute it at one input. -/
def qosSaysWrong : ChangeSpec := { name := "qosSays", fn := fun _ => fun
  | [d1, d2] => { results := [.lit (.bool false)], args := [d1, d2] }
  | _ => none }
def QosSaysWrongFalsely : Prop := qosSaysRow.holds Try.pinned (OpenSpec.ofChange qosSaysWrong)

/-- 'ostlerylaw.EvictSays': WHATEVER THE INPUT: true; the input reads as it did. -/
def evictSaysSpec : ChangeSpec := { name := "evictSays", fn := fun _ => fun
  | [d1, d2, d3] => { results := [.lit (.bool true)], args := [d1, d2, d3] }
  | _ => none }
def evictSaysRow : OpenClaim := { program := "ythekalhceamcoaa", sum := "7243d76964004598dcae96bf9d34b39384708db8cb99f37eea6a8d522cf4af98", func := "ostlery/ostlerylaw.EvictSays", spec := "evictSays", unfollowed := true, recurses := true, plainKeys := false, apart := false }
def EvictSaysSaid : Prop := evictSaysRow.holds Try.pinned (OpenSpec.ofChange evictSaysSpec)

/-- ITS FALSE NEIGHBOUR: 'it returns false'. Refute it at one input. -/
def evictSaysWrong : ChangeSpec := { name := "evictSays", fn := fun _ => fun
  | [d1, d2, d3] => { results := [.lit (.bool false)], args := [d1, d2, d3] }
  | _ => none }
def EvictSaysWrongFalsely : Prop := evictSaysRow.holds Try.pinned (OpenSpec.ofChange evictSaysWrong)

/-- 'ostlerytop.TopClass': WHATEVER THE INPUT: true; the input reads as it did. -/
def topClassSpec : ChangeSpec := { name := "topClass", fn := fun _ => fun
  | [d] => { results := [.lit (.bool true)], args := [d] }
  | _ => none }
def topClassRow : OpenClaim := { program := "ythekalhceamcoaa", sum := "7243d76964004598dcae96bf9d34b39384708db8cb99f37eea6a8d522cf4af98", func := "ostlery/ostlerytop.TopClass", spec := "topClass", unfollowed := true, recurses := true, plainKeys := false, apart := false }
def TopClassSaid : Prop := topClassRow.holds Try.pinned (OpenSpec.ofChange topClassSpec)

/-- ITS FALSE NEIGHBOUR: 'it returns false'. Refute it at one input. -/
def topClassWrong : ChangeSpec := { name := "topClass", fn := fun _ => fun
  | [d] => { results := [.lit (.bool false)], args := [d] }
  | _ => none }
def TopClassWrongFalsely : Prop := topClassRow.holds Try.pinned (OpenSpec.ofChange topClassWrong)

/-- 'ostlerytop.TopTree': WHATEVER THE INPUT: true; the input reads as it did. -/
def topTreeSpec : ChangeSpec := { name := "topTree", fn := fun _ => fun
  | [d] => { results := [.lit (.bool true)], args := [d] }
  | _ => none }
def topTreeRow : OpenClaim := { program := "ythekalhceamcoaa", sum := "7243d76964004598dcae96bf9d34b39384708db8cb99f37eea6a8d522cf4af98", func := "ostlery/ostlerytop.TopTree", spec := "topTree", unfollowed := true, recurses := true, plainKeys := false, apart := false }
def TopTreeSaid : Prop := topTreeRow.holds Try.pinned (OpenSpec.ofChange topTreeSpec)

/-- ITS FALSE NEIGHBOUR: 'it returns false'. Refute it at one input. -/
def topTreeWrong : ChangeSpec := { name := "topTree", fn := fun _ => fun
  | [d] => { results := [.lit (.bool false)], args := [d] }
  | _ => none }
def TopTreeWrongFalsely : Prop := topTreeRow.holds Try.pinned (OpenSpec.ofChange topTreeWrong)

/-- 'ostlerytop.TopRelieve': WHATEVER THE INPUT: true; the input reads as it did. -/
def topRelieveSpec : ChangeSpec := { name := "topRelieve", fn := fun _ => fun
  | [d1, d2, d3] => { results := [.lit (.bool true)], args := [d1, d2, d3] }
  | _ => none }
def topRelieveRow : OpenClaim := { program := "ythekalhceamcoaa", sum := "7243d76964004598dcae96bf9d34b39384708db8cb99f37eea6a8d522cf4af98", func := "ostlery/ostlerytop.TopRelieve", spec := "topRelieve", unfollowed := true, recurses := true, plainKeys := false, apart := false }
def TopRelieveSaid : Prop := topRelieveRow.holds Try.pinned (OpenSpec.ofChange topRelieveSpec)

/-- ITS FALSE NEIGHBOUR: 'it returns false'. Refute it at one input. -/
def topRelieveWrong : ChangeSpec := { name := "topRelieve", fn := fun _ => fun
  | [d1, d2, d3] => { results := [.lit (.bool false)], args := [d1, d2, d3] }
  | _ => none }
def TopRelieveWrongFalsely : Prop := topRelieveRow.holds Try.pinned (OpenSpec.ofChange topRelieveWrong)

/-- 'ostlerytop.TopRank': WHATEVER THE INPUT: true; the input reads as it did. -/
def topRankSpec : ChangeSpec := { name := "topRank", fn := fun _ => fun
  | [d1, d2, d3] => { results := [.lit (.bool true)], args := [d1, d2, d3] }
  | _ => none }
def topRankRow : OpenClaim := { program := "ythekalhceamcoaa", sum := "7243d76964004598dcae96bf9d34b39384708db8cb99f37eea6a8d522cf4af98", func := "ostlery/ostlerytop.TopRank", spec := "topRank", unfollowed := true, recurses := true, plainKeys := false, apart := false }
def TopRankSaid : Prop := topRankRow.holds Try.pinned (OpenSpec.ofChange topRankSpec)

/-- ITS FALSE NEIGHBOUR: 'it returns false'. Refute it at one input. -/
def topRankWrong : ChangeSpec := { name := "topRank", fn := fun _ => fun
  | [d1, d2, d3] => { results := [.lit (.bool false)], args := [d1, d2, d3] }
  | _ => none }
def TopRankWrongFalsely : Prop := topRankRow.holds Try.pinned (OpenSpec.ofChange topRankWrong)

/-- 'ostlerylaw.EngineSays': WHATEVER THE INPUT: true; the input reads as it did. -/
def engineSaysSpec : ChangeSpec := { name := "engineSays", fn := fun _ => fun
  | [d] => { results := [.lit (.bool true)], args := [d] }
  | _ => none }
def engineSaysRow : OpenClaim := { program := "ythekalhceamcoaa", sum := "7243d76964004598dcae96bf9d34b39384708db8cb99f37eea6a8d522cf4af98", func := "ostlery/ostlerylaw.EngineSays", spec := "engineSays", unfollowed := true, recurses := true, plainKeys := false, apart := false }
def EngineSaysSaid : Prop := engineSaysRow.holds Try.pinned (OpenSpec.ofChange engineSaysSpec)

/-- ITS FALSE NEIGHBOUR: 'it returns false'. Refute it at one input. -/
def engineSaysWrong : ChangeSpec := { name := "engineSays", fn := fun _ => fun
  | [d] => { results := [.lit (.bool false)], args := [d] }
  | _ => none }
def EngineSaysWrongFalsely : Prop := engineSaysRow.holds Try.pinned (OpenSpec.ofChange engineSaysWrong)

/- THE SECOND FORM. 'bulk': how many values and letters a reading holds, each counted each time it is reached (what is shared counts as often as it is met; a slice's spare places count too). A statement '..UptoSaid' is the law's where the arguments, and the package variables that the reading takes, are together of bulk at most 1048576: NARROWER than '..Said'. Prove '..Said' where nothing that the law and all that it calls make is longer than what came in: it says more and counts as full. Else prove '..UptoSaid'. A law counts once. -/
mutual
def uptoBulk {H : Type} : DataW H → Nat
  | .lit (.string bytes) => bytes.length + 1
  | .lit _ => 1
  | .nil => 1
  | .ptr d => uptoBulk d + 1
  | .slice elems spare => uptoBulkAll elems + uptoBulkAll spare + 1
  | .agg parts => uptoBulkAll parts + 1
  | .iface _ d => uptoBulk d + 1
  | .map entries => uptoBulkEntries entries + 1
  | .held _ => 1
def uptoBulkAll {H : Type} : List (DataW H) → Nat
  | [] => 0
  | d :: r => uptoBulk d + uptoBulkAll r
def uptoBulkEntries {H : Type} : List (Lit × DataW H) → Nat
  | [] => 0
  | x :: r => uptoBulkEntry x + uptoBulkEntries r
def uptoBulkEntry {H : Type} : Lit × DataW H → Nat
  | (.string bytes, d) => bytes.length + uptoBulk d + 1
  | (_, d) => uptoBulk d + 1
 end
def uptoSmall : (H : Type) → List (DataW H) → Bool := fun _ ds => decide (uptoBulkAll ds ≤ 1048576)
def OpenSpec.upto (s : _root_.Go.ChangeSpec) : _root_.Go.OpenSpec := { _root_.Go.OpenSpec.ofChange s with cond := some uptoSmall }

/-- 'ostlerylaw.PickSays', WHERE WHAT IT READS IS OF BULK AT MOST 1048576: true; the input reads as it did. -/
def pickSaysUptoRow : OpenClaim := { program := "ythekalhceamcoaa", sum := "7243d76964004598dcae96bf9d34b39384708db8cb99f37eea6a8d522cf4af98", func := "ostlery/ostlerylaw.PickSays", spec := "pickSays", unfollowed := true, recurses := true, plainKeys := false, apart := false, narrowed := true }
def PickSaysUptoSaid : Prop := pickSaysUptoRow.holds Try.pinned (OpenSpec.upto pickSaysSpec)

/-- 'ostlerytop.TopTake', WHERE WHAT IT READS IS OF BULK AT MOST 1048576: true; the input reads as it did. -/
def topTakeUptoRow : OpenClaim := { program := "ythekalhceamcoaa", sum := "7243d76964004598dcae96bf9d34b39384708db8cb99f37eea6a8d522cf4af98", func := "ostlery/ostlerytop.TopTake", spec := "topTake", unfollowed := true, recurses := true, plainKeys := false, apart := false, narrowed := true }
def TopTakeUptoSaid : Prop := topTakeUptoRow.holds Try.pinned (OpenSpec.upto topTakeSpec)

/-- 'ostlerylaw.DevicesSays', WHERE WHAT IT READS IS OF BULK AT MOST 1048576: true; the input reads as it did. -/
def devicesSaysUptoRow : OpenClaim := { program := "ythekalhceamcoaa", sum := "7243d76964004598dcae96bf9d34b39384708db8cb99f37eea6a8d522cf4af98", func := "ostlery/ostlerylaw.DevicesSays", spec := "devicesSays", recurses := true, plainKeys := false, apart := false, narrowed := true }
def DevicesSaysUptoSaid : Prop := devicesSaysUptoRow.holds Try.pinned (OpenSpec.upto devicesSaysSpec)

/-- 'ostlerytop.TopPool', WHERE WHAT IT READS IS OF BULK AT MOST 1048576: true; the input reads as it did. -/
def topPoolUptoRow : OpenClaim := { program := "ythekalhceamcoaa", sum := "7243d76964004598dcae96bf9d34b39384708db8cb99f37eea6a8d522cf4af98", func := "ostlery/ostlerytop.TopPool", spec := "topPool", recurses := true, plainKeys := false, apart := false, narrowed := true }
def TopPoolUptoSaid : Prop := topPoolUptoRow.holds Try.pinned (OpenSpec.upto topPoolSpec)

/-- 'ostlerylaw.QosSays', WHERE WHAT IT READS IS OF BULK AT MOST 1048576: true; the input reads as it did. -/
def qosSaysUptoRow : OpenClaim := { program := "ythekalhceamcoaa", sum := "7243d76964004598dcae96bf9d34b39384708db8cb99f37eea6a8d522cf4af98", func := "ostlery/ostlerylaw.QosSays", spec := "qosSays", unfollowed := true, recurses := true, plainKeys := false, apart := false, narrowed := true }
def QosSaysUptoSaid : Prop := qosSaysUptoRow.holds Try.pinned (OpenSpec.upto qosSaysSpec)

/-- 'ostlerylaw.EvictSays', WHERE WHAT IT READS IS OF BULK AT MOST 1048576: true; the input reads as it did. -/
def evictSaysUptoRow : OpenClaim := { program := "ythekalhceamcoaa", sum := "7243d76964004598dcae96bf9d34b39384708db8cb99f37eea6a8d522cf4af98", func := "ostlery/ostlerylaw.EvictSays", spec := "evictSays", unfollowed := true, recurses := true, plainKeys := false, apart := false, narrowed := true }
def EvictSaysUptoSaid : Prop := evictSaysUptoRow.holds Try.pinned (OpenSpec.upto evictSaysSpec)

/-- 'ostlerytop.TopClass', WHERE WHAT IT READS IS OF BULK AT MOST 1048576: true; the input reads as it did. -/
def topClassUptoRow : OpenClaim := { program := "ythekalhceamcoaa", sum := "7243d76964004598dcae96bf9d34b39384708db8cb99f37eea6a8d522cf4af98", func := "ostlery/ostlerytop.TopClass", spec := "topClass", unfollowed := true, recurses := true, plainKeys := false, apart := false, narrowed := true }
def TopClassUptoSaid : Prop := topClassUptoRow.holds Try.pinned (OpenSpec.upto topClassSpec)

/-- 'ostlerytop.TopTree', WHERE WHAT IT READS IS OF BULK AT MOST 1048576: true; the input reads as it did. -/
def topTreeUptoRow : OpenClaim := { program := "ythekalhceamcoaa", sum := "7243d76964004598dcae96bf9d34b39384708db8cb99f37eea6a8d522cf4af98", func := "ostlery/ostlerytop.TopTree", spec := "topTree", unfollowed := true, recurses := true, plainKeys := false, apart := false, narrowed := true }
def TopTreeUptoSaid : Prop := topTreeUptoRow.holds Try.pinned (OpenSpec.upto topTreeSpec)

/-- 'ostlerytop.TopRelieve', WHERE WHAT IT READS IS OF BULK AT MOST 1048576: true; the input reads as it did. -/
def topRelieveUptoRow : OpenClaim := { program := "ythekalhceamcoaa", sum := "7243d76964004598dcae96bf9d34b39384708db8cb99f37eea6a8d522cf4af98", func := "ostlery/ostlerytop.TopRelieve", spec := "topRelieve", unfollowed := true, recurses := true, plainKeys := false, apart := false, narrowed := true }
def TopRelieveUptoSaid : Prop := topRelieveUptoRow.holds Try.pinned (OpenSpec.upto topRelieveSpec)

/-- 'ostlerytop.TopRank', WHERE WHAT IT READS IS OF BULK AT MOST 1048576: true; the input reads as it did. -/
def topRankUptoRow : OpenClaim := { program := "ythekalhceamcoaa", sum := "7243d76964004598dcae96bf9d34b39384708db8cb99f37eea6a8d522cf4af98", func := "ostlery/ostlerytop.TopRank", spec := "topRank", unfollowed := true, recurses := true, plainKeys := false, apart := false, narrowed := true }
def TopRankUptoSaid : Prop := topRankUptoRow.holds Try.pinned (OpenSpec.upto topRankSpec)

/-- 'ostlerylaw.EngineSays', WHERE WHAT IT READS IS OF BULK AT MOST 1048576: true; the input reads as it did. -/
def engineSaysUptoRow : OpenClaim := { program := "ythekalhceamcoaa", sum := "7243d76964004598dcae96bf9d34b39384708db8cb99f37eea6a8d522cf4af98", func := "ostlery/ostlerylaw.EngineSays", spec := "engineSays", unfollowed := true, recurses := true, plainKeys := false, apart := false, narrowed := true }
def EngineSaysUptoSaid : Prop := engineSaysUptoRow.holds Try.pinned (OpenSpec.upto engineSaysSpec)

end Rows
end Go.Proofs.Ythekalhceamcoaa
