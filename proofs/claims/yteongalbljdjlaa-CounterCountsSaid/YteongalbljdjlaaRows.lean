/-
  No cell of these rows narrows 'for every input' (looked for: loops, veiled, ifaces, maps, wideKeys, modest, calm, conditions, laid).
  DERIVED. THE GIVEN ROWS OF THIS SEAT. 2 by the template 'for every input the law returns true; each argument reads behind the call as it read before'; 0 by the template 'total and deterministic' (their statements: YteongalbljdjlaaTotals.lean).
  GIVEN WITH THE SEED: the statements are not yours to turn. If you find one false, say at which input.
  Laid BY PROGRAM, IN A SANDBOX (cutbox-rows.mjs): the forced cells as the released guide's own fill.sh prints them over the translation 429b20154b66a581… (all of the seat's roots in one cut). By AI agents, Wed Nov 11 2026. No macro, syntax, notation, axiom, sorry.
-/
import Derived.Test.YteongalbljdjlaaChecked
import GoSem.Claim
import GoSem.ClaimJoined
import GoSem.ClaimMapViews
import Derived.JoinedTies
import Derived.KernelRfl
namespace Go.Proofs.Yteongalbljdjlaa
/- THE CELL 'sum', in the pinned program and in every row, IS THE sha256 OF THE DUMP (.gsa) THAT YteongalbljdjlaaProg.lean LOADS. Nothing in Lean hashes anything: it is a label: what it is worth is what the hold of that sum in a sandbox is worth. -/
noncomputable def Try.pinned : Pinned := { name := "yteongalbljdjlaa", sum := "429b20154b66a581551e741705389c5b9abdcc9b3cfee735485aa996330b2a5a", checked := Try.checked }
namespace Rows
def none {H : Type} : Left H := { results := [], args := [] }

/-- 'perilunelaw06.CounterQueues': WHATEVER THE INPUT: true; the input reads as it did. -/
def counterQueuesSpec : ChangeSpec := { name := "counterQueues", fn := fun _ => fun
  | [d1, d2, d3] => { results := [.lit (.bool true)], args := [d1, d2, d3] }
  | _ => none }
def counterQueuesRow : OpenClaim := { program := "yteongalbljdjlaa", sum := "429b20154b66a581551e741705389c5b9abdcc9b3cfee735485aa996330b2a5a", func := "perilune/perilunelaw06.CounterQueues", spec := "counterQueues", unfollowed := true, recurses := true, apart := false }
def CounterQueuesSaid : Prop := counterQueuesRow.holds Try.pinned (OpenSpec.ofChange counterQueuesSpec)

/-- ITS FALSE NEIGHBOUR: 'it returns false'. Refute it at one input. -/
def counterQueuesWrong : ChangeSpec := { name := "counterQueues", fn := fun _ => fun
  | [d1, d2, d3] => { results := [.lit (.bool false)], args := [d1, d2, d3] }
  | _ => none }
def CounterQueuesWrongFalsely : Prop := counterQueuesRow.holds Try.pinned (OpenSpec.ofChange counterQueuesWrong)

/-- 'perilunelaw06.CounterCounts': WHATEVER THE INPUT: true; the input reads as it did. -/
def counterCountsSpec : ChangeSpec := { name := "counterCounts", fn := fun _ => fun
  | [d1, d2] => { results := [.lit (.bool true)], args := [d1, d2] }
  | _ => none }
def counterCountsRow : OpenClaim := { program := "yteongalbljdjlaa", sum := "429b20154b66a581551e741705389c5b9abdcc9b3cfee735485aa996330b2a5a", func := "perilune/perilunelaw06.CounterCounts", spec := "counterCounts", unfollowed := true, recurses := true, apart := false }
def CounterCountsSaid : Prop := counterCountsRow.holds Try.pinned (OpenSpec.ofChange counterCountsSpec)

/-- ITS FALSE NEIGHBOUR: 'it returns false'. Refute it at one input. -/
def counterCountsWrong : ChangeSpec := { name := "counterCounts", fn := fun _ => fun
  | [d1, d2] => { results := [.lit (.bool false)], args := [d1, d2] }
  | _ => none }
def CounterCountsWrongFalsely : Prop := counterCountsRow.holds Try.pinned (OpenSpec.ofChange counterCountsWrong)

/- THE SECOND FORM. 'bulk': how many values and letters a reading holds, each counted each time it is reached (what is shared counts as often as it is met; a slice's spare places count too). A statement '..UptoSaid' is the law's where the arguments, and the package variables that the reading takes, are together of bulk at most 1048576: NARROWER than '..Said'. Prove '..Said' where nothing that the law and all that it calls make is longer than what came in: it says more and counts as full. Else prove '..UptoSaid'. A law counts once. -/
mutual
def uptoBulk {H : Type} : DataW H → Nat
  | .lit (.string bytes) => bytes.length + 1
  | .lit _ => 1
  | .nil => 1
  | .ptr d => uptoBulk d + 1
  | .slice elems spare => uptoBulkAll elems + uptoBulkAll spare + 1
  | .agg parts => uptoBulkAll parts + 1
  | .iface _ d => uptoBulk d + 1
  | .map entries => uptoBulkEntries entries + 1
  | .held _ => 1
def uptoBulkAll {H : Type} : List (DataW H) → Nat
  | [] => 0
  | d :: r => uptoBulk d + uptoBulkAll r
def uptoBulkEntries {H : Type} : List (Lit × DataW H) → Nat
  | [] => 0
  | x :: r => uptoBulkEntry x + uptoBulkEntries r
def uptoBulkEntry {H : Type} : Lit × DataW H → Nat
  | (.string bytes, d) => bytes.length + uptoBulk d + 1
  | (_, d) => uptoBulk d + 1
 end
def uptoSmall : (H : Type) → List (DataW H) → Bool := fun _ ds => decide (uptoBulkAll ds ≤ 1048576)
def OpenSpec.upto (s : _root_.Go.ChangeSpec) : _root_.Go.OpenSpec := { _root_.Go.OpenSpec.ofChange s with cond := some uptoSmall }

/-- 'perilunelaw06.CounterQueues', WHERE WHAT IT READS IS OF BULK AT MOST 1048576: true; the input reads as it did. -/
def counterQueuesUptoRow : OpenClaim := { program := "yteongalbljdjlaa", sum := "429b20154b66a581551e741705389c5b9abdcc9b3cfee735485aa996330b2a5a", func := "perilune/perilunelaw06.CounterQueues", spec := "counterQueues", unfollowed := true, recurses := true, apart := false, narrowed := true }
def CounterQueuesUptoSaid : Prop := counterQueuesUptoRow.holds Try.pinned (OpenSpec.upto counterQueuesSpec)

/-- 'perilunelaw06.CounterCounts', WHERE WHAT IT READS IS OF BULK AT MOST 1048576: true; the input reads as it did. -/
def counterCountsUptoRow : OpenClaim := { program := "yteongalbljdjlaa", sum := "429b20154b66a581551e741705389c5b9abdcc9b3cfee735485aa996330b2a5a", func := "perilune/perilunelaw06.CounterCounts", spec := "counterCounts", unfollowed := true, recurses := true, apart := false, narrowed := true }
def CounterCountsUptoSaid : Prop := counterCountsUptoRow.holds Try.pinned (OpenSpec.upto counterCountsSpec)

end Rows
end Go.Proofs.Yteongalbljdjlaa
