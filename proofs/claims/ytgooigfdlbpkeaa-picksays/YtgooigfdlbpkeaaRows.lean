/-
  No cell of these rows narrows 'for every input' (looked for: loops, veiled, ifaces, maps, wideKeys, modest, calm, conditions, laid).
  DERIVED. THE GIVEN ROWS OF THIS SEAT. 7 by the template 'for every input the law returns true; each argument reads behind the call as it read before'; 0 by the template 'total and deterministic' (their statements: YtgooigfdlbpkeaaTotals.lean).
  GIVEN WITH THE SEED: the statements are not yours to turn. If you find one false, say at which input.
  Laid BY PROGRAM, IN A SANDBOX (cutbox-rows.mjs): the forced cells as the released guide's own fill.sh prints them over the translation 09f5dfc86274f79f… (all of the seat's roots in one cut). By AI agents, Wed Nov 11 2026. No macro, syntax, notation, axiom, sorry.
-/
import Derived.Test.YtgooigfdlbpkeaaChecked
import GoSem.Claim
import GoSem.ClaimJoined
import GoSem.ClaimMapViews
import Derived.JoinedTies
import Derived.KernelRfl
namespace Go.Proofs.Ytgooigfdlbpkeaa
/- THE CELL 'sum', in the pinned program and in every row, IS THE sha256 OF THE DUMP (.gsa) THAT YtgooigfdlbpkeaaProg.lean LOADS. Nothing in Lean hashes anything: it is a label: what it is worth is what the hold of that sum in a sandbox is worth. -/
noncomputable def Try.pinned : Pinned := { name := "ytgooigfdlbpkeaa", sum := "09f5dfc86274f79f85c37481c8fae3d2dc00c9c65223fe550b9b9e14b622ff00", checked := Try.checked }
namespace Rows
def none {H : Type} : Left H := { results := [], args := [] }

/-- 'ostlerylaw.TopoSays': WHATEVER THE INPUT: true; the input reads as it did. -/
def topoSaysSpec : ChangeSpec := { name := "topoSays", fn := fun _ => fun
  | [d1, d2, d3, d4] => { results := [.lit (.bool true)], args := [d1, d2, d3, d4] }
  | _ => none }
def topoSaysRow : OpenClaim := { program := "ytgooigfdlbpkeaa", sum := "09f5dfc86274f79f85c37481c8fae3d2dc00c9c65223fe550b9b9e14b622ff00", func := "ostlery/ostlerylaw.TopoSays", spec := "topoSays", unfollowed := true, recurses := true, apart := false }
def TopoSaysSaid : Prop := topoSaysRow.holds Try.pinned (OpenSpec.ofChange topoSaysSpec)

/-- ITS FALSE NEIGHBOUR: 'it returns false'. Refute it at one input. -/
def topoSaysWrong : ChangeSpec := { name := "topoSays", fn := fun _ => fun
  | [d1, d2, d3, d4] => { results := [.lit (.bool false)], args := [d1, d2, d3, d4] }
  | _ => none }
def TopoSaysWrongFalsely : Prop := topoSaysRow.holds Try.pinned (OpenSpec.ofChange topoSaysWrong)

/-- 'ostlerylaw.HintsSays': WHATEVER THE INPUT: true; the input reads as it did. -/
def hintsSaysSpec : ChangeSpec := { name := "hintsSays", fn := fun _ => fun
  | [d1, d2, d3, d4] => { results := [.lit (.bool true)], args := [d1, d2, d3, d4] }
  | _ => none }
def hintsSaysRow : OpenClaim := { program := "ytgooigfdlbpkeaa", sum := "09f5dfc86274f79f85c37481c8fae3d2dc00c9c65223fe550b9b9e14b622ff00", func := "ostlery/ostlerylaw.HintsSays", spec := "hintsSays", unfollowed := true, recurses := true, apart := false }
def HintsSaysSaid : Prop := hintsSaysRow.holds Try.pinned (OpenSpec.ofChange hintsSaysSpec)

/-- ITS FALSE NEIGHBOUR: 'it returns false'. Refute it at one input. -/
def hintsSaysWrong : ChangeSpec := { name := "hintsSays", fn := fun _ => fun
  | [d1, d2, d3, d4] => { results := [.lit (.bool false)], args := [d1, d2, d3, d4] }
  | _ => none }
def HintsSaysWrongFalsely : Prop := hintsSaysRow.holds Try.pinned (OpenSpec.ofChange hintsSaysWrong)

/-- 'ostlerylaw.MergeSays': WHATEVER THE INPUT: true; the input reads as it did. -/
def mergeSaysSpec : ChangeSpec := { name := "mergeSays", fn := fun _ => fun
  | [d1, d2, d3] => { results := [.lit (.bool true)], args := [d1, d2, d3] }
  | _ => none }
def mergeSaysRow : OpenClaim := { program := "ytgooigfdlbpkeaa", sum := "09f5dfc86274f79f85c37481c8fae3d2dc00c9c65223fe550b9b9e14b622ff00", func := "ostlery/ostlerylaw.MergeSays", spec := "mergeSays", unfollowed := true, recurses := true, apart := false }
def MergeSaysSaid : Prop := mergeSaysRow.holds Try.pinned (OpenSpec.ofChange mergeSaysSpec)

/-- ITS FALSE NEIGHBOUR: 'it returns false'. Refute it at one input. -/
def mergeSaysWrong : ChangeSpec := { name := "mergeSays", fn := fun _ => fun
  | [d1, d2, d3] => { results := [.lit (.bool false)], args := [d1, d2, d3] }
  | _ => none }
def MergeSaysWrongFalsely : Prop := mergeSaysRow.holds Try.pinned (OpenSpec.ofChange mergeSaysWrong)

/-- 'ostlerytop.TopTopo': WHATEVER THE INPUT: true; the input reads as it did. -/
def topTopoSpec : ChangeSpec := { name := "topTopo", fn := fun _ => fun
  | [d] => { results := [.lit (.bool true)], args := [d] }
  | _ => none }
def topTopoRow : OpenClaim := { program := "ytgooigfdlbpkeaa", sum := "09f5dfc86274f79f85c37481c8fae3d2dc00c9c65223fe550b9b9e14b622ff00", func := "ostlery/ostlerytop.TopTopo", spec := "topTopo", unfollowed := true, recurses := true, apart := false }
def TopTopoSaid : Prop := topTopoRow.holds Try.pinned (OpenSpec.ofChange topTopoSpec)

/-- ITS FALSE NEIGHBOUR: 'it returns false'. Refute it at one input. -/
def topTopoWrong : ChangeSpec := { name := "topTopo", fn := fun _ => fun
  | [d] => { results := [.lit (.bool false)], args := [d] }
  | _ => none }
def TopTopoWrongFalsely : Prop := topTopoRow.holds Try.pinned (OpenSpec.ofChange topTopoWrong)

/-- 'ostlerytop.TopHints': WHATEVER THE INPUT: true; the input reads as it did. -/
def topHintsSpec : ChangeSpec := { name := "topHints", fn := fun _ => fun
  | [d1, d2, d3, d4] => { results := [.lit (.bool true)], args := [d1, d2, d3, d4] }
  | _ => none }
def topHintsRow : OpenClaim := { program := "ytgooigfdlbpkeaa", sum := "09f5dfc86274f79f85c37481c8fae3d2dc00c9c65223fe550b9b9e14b622ff00", func := "ostlery/ostlerytop.TopHints", spec := "topHints", unfollowed := true, recurses := true, apart := false }
def TopHintsSaid : Prop := topHintsRow.holds Try.pinned (OpenSpec.ofChange topHintsSpec)

/-- ITS FALSE NEIGHBOUR: 'it returns false'. Refute it at one input. -/
def topHintsWrong : ChangeSpec := { name := "topHints", fn := fun _ => fun
  | [d1, d2, d3, d4] => { results := [.lit (.bool false)], args := [d1, d2, d3, d4] }
  | _ => none }
def TopHintsWrongFalsely : Prop := topHintsRow.holds Try.pinned (OpenSpec.ofChange topHintsWrong)

/-- 'ostlerytop.TopMerge': WHATEVER THE INPUT: true; the input reads as it did. -/
def topMergeSpec : ChangeSpec := { name := "topMerge", fn := fun _ => fun
  | [d1, d2] => { results := [.lit (.bool true)], args := [d1, d2] }
  | _ => none }
def topMergeRow : OpenClaim := { program := "ytgooigfdlbpkeaa", sum := "09f5dfc86274f79f85c37481c8fae3d2dc00c9c65223fe550b9b9e14b622ff00", func := "ostlery/ostlerytop.TopMerge", spec := "topMerge", recurses := true, apart := false }
def TopMergeSaid : Prop := topMergeRow.holds Try.pinned (OpenSpec.ofChange topMergeSpec)

/-- ITS FALSE NEIGHBOUR: 'it returns false'. Refute it at one input. -/
def topMergeWrong : ChangeSpec := { name := "topMerge", fn := fun _ => fun
  | [d1, d2] => { results := [.lit (.bool false)], args := [d1, d2] }
  | _ => none }
def TopMergeWrongFalsely : Prop := topMergeRow.holds Try.pinned (OpenSpec.ofChange topMergeWrong)

/-- 'ostlerylaw.PickSays': WHATEVER THE INPUT: true; the input reads as it did. -/
def pickSaysSpec : ChangeSpec := { name := "pickSays", fn := fun _ => fun
  | [d1, d2, d3, d4] => { results := [.lit (.bool true)], args := [d1, d2, d3, d4] }
  | _ => none }
def pickSaysRow : OpenClaim := { program := "ytgooigfdlbpkeaa", sum := "09f5dfc86274f79f85c37481c8fae3d2dc00c9c65223fe550b9b9e14b622ff00", func := "ostlery/ostlerylaw.PickSays", spec := "pickSays", unfollowed := true, recurses := true, apart := false }
def PickSaysSaid : Prop := pickSaysRow.holds Try.pinned (OpenSpec.ofChange pickSaysSpec)

/-- ITS FALSE NEIGHBOUR: 'it returns false'. Refute it at one input. -/
def pickSaysWrong : ChangeSpec := { name := "pickSays", fn := fun _ => fun
  | [d1, d2, d3, d4] => { results := [.lit (.bool false)], args := [d1, d2, d3, d4] }
  | _ => none }
def PickSaysWrongFalsely : Prop := pickSaysRow.holds Try.pinned (OpenSpec.ofChange pickSaysWrong)

/- THE SECOND FORM. 'bulk': how many values and letters a reading holds, each counted each time it is reached (what is shared counts as often as it is met; a slice's spare places count too). A statement '..UptoSaid' is the law's where the arguments, and the package variables that the reading takes, are together of bulk at most 1048576: NARROWER than '..Said'. Prove '..Said' where nothing that the law and all that it calls make is longer than what came in: it says more and counts as full. Else prove '..UptoSaid'. A law counts once. -/
mutual
def uptoBulk {H : Type} : DataW H → Nat
  | .lit (.string bytes) => bytes.length + 1
  | .lit _ => 1
  | .nil => 1
  | .ptr d => uptoBulk d + 1
  | .slice elems spare => uptoBulkAll elems + uptoBulkAll spare + 1
  | .agg parts => uptoBulkAll parts + 1
  | .iface _ d => uptoBulk d + 1
  | .map entries => uptoBulkEntries entries + 1
  | .held _ => 1
def uptoBulkAll {H : Type} : List (DataW H) → Nat
  | [] => 0
  | d :: r => uptoBulk d + uptoBulkAll r
def uptoBulkEntries {H : Type} : List (Lit × DataW H) → Nat
  | [] => 0
  | x :: r => uptoBulkEntry x + uptoBulkEntries r
def uptoBulkEntry {H : Type} : Lit × DataW H → Nat
  | (.string bytes, d) => bytes.length + uptoBulk d + 1
  | (_, d) => uptoBulk d + 1
 end
def uptoSmall : (H : Type) → List (DataW H) → Bool := fun _ ds => decide (uptoBulkAll ds ≤ 1048576)
def OpenSpec.upto (s : _root_.Go.ChangeSpec) : _root_.Go.OpenSpec := { _root_.Go.OpenSpec.ofChange s with cond := some uptoSmall }

/-- 'ostlerylaw.TopoSays', WHERE WHAT IT READS IS OF BULK AT MOST 1048576: true; the input reads as it did. -/
def topoSaysUptoRow : OpenClaim := { program := "ytgooigfdlbpkeaa", sum := "09f5dfc86274f79f85c37481c8fae3d2dc00c9c65223fe550b9b9e14b622ff00", func := "ostlery/ostlerylaw.TopoSays", spec := "topoSays", unfollowed := true, recurses := true, apart := false, narrowed := true }
def TopoSaysUptoSaid : Prop := topoSaysUptoRow.holds Try.pinned (OpenSpec.upto topoSaysSpec)

/-- 'ostlerylaw.HintsSays', WHERE WHAT IT READS IS OF BULK AT MOST 1048576: true; the input reads as it did. -/
def hintsSaysUptoRow : OpenClaim := { program := "ytgooigfdlbpkeaa", sum := "09f5dfc86274f79f85c37481c8fae3d2dc00c9c65223fe550b9b9e14b622ff00", func := "ostlery/ostlerylaw.HintsSays", spec := "hintsSays", unfollowed := true, recurses := true, apart := false, narrowed := true }
def HintsSaysUptoSaid : Prop := hintsSaysUptoRow.holds Try.pinned (OpenSpec.upto hintsSaysSpec)

/-- 'ostlerylaw.MergeSays', WHERE WHAT IT READS IS OF BULK AT MOST 1048576: true; the input reads as it did. -/
def mergeSaysUptoRow : OpenClaim := { program := "ytgooigfdlbpkeaa", sum := "09f5dfc86274f79f85c37481c8fae3d2dc00c9c65223fe550b9b9e14b622ff00", func := "ostlery/ostlerylaw.MergeSays", spec := "mergeSays", unfollowed := true, recurses := true, apart := false, narrowed := true }
def MergeSaysUptoSaid : Prop := mergeSaysUptoRow.holds Try.pinned (OpenSpec.upto mergeSaysSpec)

/-- 'ostlerytop.TopTopo', WHERE WHAT IT READS IS OF BULK AT MOST 1048576: true; the input reads as it did. -/
def topTopoUptoRow : OpenClaim := { program := "ytgooigfdlbpkeaa", sum := "09f5dfc86274f79f85c37481c8fae3d2dc00c9c65223fe550b9b9e14b622ff00", func := "ostlery/ostlerytop.TopTopo", spec := "topTopo", unfollowed := true, recurses := true, apart := false, narrowed := true }
def TopTopoUptoSaid : Prop := topTopoUptoRow.holds Try.pinned (OpenSpec.upto topTopoSpec)

/-- 'ostlerytop.TopHints', WHERE WHAT IT READS IS OF BULK AT MOST 1048576: true; the input reads as it did. -/
def topHintsUptoRow : OpenClaim := { program := "ytgooigfdlbpkeaa", sum := "09f5dfc86274f79f85c37481c8fae3d2dc00c9c65223fe550b9b9e14b622ff00", func := "ostlery/ostlerytop.TopHints", spec := "topHints", unfollowed := true, recurses := true, apart := false, narrowed := true }
def TopHintsUptoSaid : Prop := topHintsUptoRow.holds Try.pinned (OpenSpec.upto topHintsSpec)

/-- 'ostlerytop.TopMerge', WHERE WHAT IT READS IS OF BULK AT MOST 1048576: true; the input reads as it did. -/
def topMergeUptoRow : OpenClaim := { program := "ytgooigfdlbpkeaa", sum := "09f5dfc86274f79f85c37481c8fae3d2dc00c9c65223fe550b9b9e14b622ff00", func := "ostlery/ostlerytop.TopMerge", spec := "topMerge", recurses := true, apart := false, narrowed := true }
def TopMergeUptoSaid : Prop := topMergeUptoRow.holds Try.pinned (OpenSpec.upto topMergeSpec)

/-- 'ostlerylaw.PickSays', WHERE WHAT IT READS IS OF BULK AT MOST 1048576: true; the input reads as it did. -/
def pickSaysUptoRow : OpenClaim := { program := "ytgooigfdlbpkeaa", sum := "09f5dfc86274f79f85c37481c8fae3d2dc00c9c65223fe550b9b9e14b622ff00", func := "ostlery/ostlerylaw.PickSays", spec := "pickSays", unfollowed := true, recurses := true, apart := false, narrowed := true }
def PickSaysUptoSaid : Prop := pickSaysUptoRow.holds Try.pinned (OpenSpec.upto pickSaysSpec)

end Rows
end Go.Proofs.Ytgooigfdlbpkeaa
