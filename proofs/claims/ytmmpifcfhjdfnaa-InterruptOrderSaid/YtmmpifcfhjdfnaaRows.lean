/-
  No cell of these rows narrows 'for every input' (looked for: loops, veiled, ifaces, maps, wideKeys, modest, calm, conditions, laid).
  DERIVED. THE GIVEN ROWS OF THIS SEAT. 4 by the template 'for every input the law returns true; each argument reads behind the call as it read before'; 0 by the template 'total and deterministic' (their statements: YtmmpifcfhjdfnaaTotals.lean).
  GIVEN WITH THE SEED: the statements are not yours to turn. If you find one false, say at which input.
  Laid BY PROGRAM, IN A SANDBOX (cutbox-rows.mjs): the forced cells as the released guide's own fill.sh prints them over the translation d1f7bc6b5d445f8b… (all of the seat's roots in one cut). By AI agents, Wed Nov 11 2026. No macro, syntax, notation, axiom, sorry.
-/
import Derived.Test.YtmmpifcfhjdfnaaChecked
import GoSem.Claim
import GoSem.ClaimJoined
import GoSem.ClaimMapViews
import Derived.JoinedTies
import Derived.KernelRfl
namespace Go.Proofs.Ytmmpifcfhjdfnaa
/- THE CELL 'sum', in the pinned program and in every row, IS THE sha256 OF THE DUMP (.gsa) THAT YtmmpifcfhjdfnaaProg.lean LOADS. Nothing in Lean hashes anything: it is a label: what it is worth is what the hold of that sum in a sandbox is worth. -/
noncomputable def Try.pinned : Pinned := { name := "ytmmpifcfhjdfnaa", sum := "d1f7bc6b5d445f8b1333c1399310b0eec021cc9f491e9ebda795d3ea5e142fc0", checked := Try.checked }
namespace Rows
def none {H : Type} : Left H := { results := [], args := [] }

/-- 'perilunelaw07.InterruptChanges': WHATEVER THE INPUT: true; the input reads as it did. -/
def interruptChangesSpec : ChangeSpec := { name := "interruptChanges", fn := fun _ => fun
  | [d1, d2, d3] => { results := [.lit (.bool true)], args := [d1, d2, d3] }
  | _ => none }
def interruptChangesRow : OpenClaim := { program := "ytmmpifcfhjdfnaa", sum := "d1f7bc6b5d445f8b1333c1399310b0eec021cc9f491e9ebda795d3ea5e142fc0", func := "perilune/perilunelaw07.InterruptChanges", spec := "interruptChanges", unfollowed := true, recurses := true, apart := false }
def InterruptChangesSaid : Prop := interruptChangesRow.holds Try.pinned (OpenSpec.ofChange interruptChangesSpec)

/-- ITS FALSE NEIGHBOUR: 'it returns false'. Refute it at one input. -/
def interruptChangesWrong : ChangeSpec := { name := "interruptChanges", fn := fun _ => fun
  | [d1, d2, d3] => { results := [.lit (.bool false)], args := [d1, d2, d3] }
  | _ => none }
def InterruptChangesWrongFalsely : Prop := interruptChangesRow.holds Try.pinned (OpenSpec.ofChange interruptChangesWrong)

/-- 'perilunelaw07.InterruptOrder': WHATEVER THE INPUT: true; the input reads as it did. -/
def interruptOrderSpec : ChangeSpec := { name := "interruptOrder", fn := fun _ => fun
  | [d1, d2] => { results := [.lit (.bool true)], args := [d1, d2] }
  | _ => none }
def interruptOrderRow : OpenClaim := { program := "ytmmpifcfhjdfnaa", sum := "d1f7bc6b5d445f8b1333c1399310b0eec021cc9f491e9ebda795d3ea5e142fc0", func := "perilune/perilunelaw07.InterruptOrder", spec := "interruptOrder", unfollowed := true, recurses := true, apart := false }
def InterruptOrderSaid : Prop := interruptOrderRow.holds Try.pinned (OpenSpec.ofChange interruptOrderSpec)

/-- ITS FALSE NEIGHBOUR: 'it returns false'. Refute it at one input. -/
def interruptOrderWrong : ChangeSpec := { name := "interruptOrder", fn := fun _ => fun
  | [d1, d2] => { results := [.lit (.bool false)], args := [d1, d2] }
  | _ => none }
def InterruptOrderWrongFalsely : Prop := interruptOrderRow.holds Try.pinned (OpenSpec.ofChange interruptOrderWrong)

/-- 'perilunelaw07.InterruptBars': WHATEVER THE INPUT: true; the input reads as it did. -/
def interruptBarsSpec : ChangeSpec := { name := "interruptBars", fn := fun _ => fun
  | [d1, d2, d3] => { results := [.lit (.bool true)], args := [d1, d2, d3] }
  | _ => none }
def interruptBarsRow : OpenClaim := { program := "ytmmpifcfhjdfnaa", sum := "d1f7bc6b5d445f8b1333c1399310b0eec021cc9f491e9ebda795d3ea5e142fc0", func := "perilune/perilunelaw07.InterruptBars", spec := "interruptBars", unfollowed := true, recurses := true, apart := false }
def InterruptBarsSaid : Prop := interruptBarsRow.holds Try.pinned (OpenSpec.ofChange interruptBarsSpec)

/-- ITS FALSE NEIGHBOUR: 'it returns false'. Refute it at one input. -/
def interruptBarsWrong : ChangeSpec := { name := "interruptBars", fn := fun _ => fun
  | [d1, d2, d3] => { results := [.lit (.bool false)], args := [d1, d2, d3] }
  | _ => none }
def InterruptBarsWrongFalsely : Prop := interruptBarsRow.holds Try.pinned (OpenSpec.ofChange interruptBarsWrong)

/-- 'perilunelaw07.InterruptKnown': WHATEVER THE INPUT: true; the input reads as it did. -/
def interruptKnownSpec : ChangeSpec := { name := "interruptKnown", fn := fun _ => fun
  | [] => { results := [.lit (.bool true)], args := [] }
  | _ => none }
def interruptKnownRow : OpenClaim := { program := "ytmmpifcfhjdfnaa", sum := "d1f7bc6b5d445f8b1333c1399310b0eec021cc9f491e9ebda795d3ea5e142fc0", func := "perilune/perilunelaw07.InterruptKnown", spec := "interruptKnown", unfollowed := true, recurses := true, apart := false }
def InterruptKnownSaid : Prop := interruptKnownRow.holds Try.pinned (OpenSpec.ofChange interruptKnownSpec)

/-- ITS FALSE NEIGHBOUR: 'it returns false'. Refute it at one input. -/
def interruptKnownWrong : ChangeSpec := { name := "interruptKnown", fn := fun _ => fun
  | [] => { results := [.lit (.bool false)], args := [] }
  | _ => none }
def InterruptKnownWrongFalsely : Prop := interruptKnownRow.holds Try.pinned (OpenSpec.ofChange interruptKnownWrong)

/- THE SECOND FORM. 'bulk': how many values and letters a reading holds, each counted each time it is reached (what is shared counts as often as it is met; a slice's spare places count too). A statement '..UptoSaid' is the law's where the arguments, and the package variables that the reading takes, are together of bulk at most 1048576: NARROWER than '..Said'. Prove '..Said' where nothing that the law and all that it calls make is longer than what came in: it says more and counts as full. Else prove '..UptoSaid'. A law counts once. -/
mutual
def uptoBulk {H : Type} : DataW H → Nat
  | .lit (.string bytes) => bytes.length + 1
  | .lit _ => 1
  | .nil => 1
  | .ptr d => uptoBulk d + 1
  | .slice elems spare => uptoBulkAll elems + uptoBulkAll spare + 1
  | .agg parts => uptoBulkAll parts + 1
  | .iface _ d => uptoBulk d + 1
  | .map entries => uptoBulkEntries entries + 1
  | .held _ => 1
def uptoBulkAll {H : Type} : List (DataW H) → Nat
  | [] => 0
  | d :: r => uptoBulk d + uptoBulkAll r
def uptoBulkEntries {H : Type} : List (Lit × DataW H) → Nat
  | [] => 0
  | x :: r => uptoBulkEntry x + uptoBulkEntries r
def uptoBulkEntry {H : Type} : Lit × DataW H → Nat
  | (.string bytes, d) => bytes.length + uptoBulk d + 1
  | (_, d) => uptoBulk d + 1
 end
def uptoSmall : (H : Type) → List (DataW H) → Bool := fun _ ds => decide (uptoBulkAll ds ≤ 1048576)
def OpenSpec.upto (s : _root_.Go.ChangeSpec) : _root_.Go.OpenSpec := { _root_.Go.OpenSpec.ofChange s with cond := some uptoSmall }

/-- 'perilunelaw07.InterruptChanges', WHERE WHAT IT READS IS OF BULK AT MOST 1048576: true; the input reads as it did. -/
def interruptChangesUptoRow : OpenClaim := { program := "ytmmpifcfhjdfnaa", sum := "d1f7bc6b5d445f8b1333c1399310b0eec021cc9f491e9ebda795d3ea5e142fc0", func := "perilune/perilunelaw07.InterruptChanges", spec := "interruptChanges", unfollowed := true, recurses := true, apart := false, narrowed := true }
def InterruptChangesUptoSaid : Prop := interruptChangesUptoRow.holds Try.pinned (OpenSpec.upto interruptChangesSpec)

/-- 'perilunelaw07.InterruptOrder', WHERE WHAT IT READS IS OF BULK AT MOST 1048576: true; the input reads as it did. -/
def interruptOrderUptoRow : OpenClaim := { program := "ytmmpifcfhjdfnaa", sum := "d1f7bc6b5d445f8b1333c1399310b0eec021cc9f491e9ebda795d3ea5e142fc0", func := "perilune/perilunelaw07.InterruptOrder", spec := "interruptOrder", unfollowed := true, recurses := true, apart := false, narrowed := true }
def InterruptOrderUptoSaid : Prop := interruptOrderUptoRow.holds Try.pinned (OpenSpec.upto interruptOrderSpec)

/-- 'perilunelaw07.InterruptBars', WHERE WHAT IT READS IS OF BULK AT MOST 1048576: true; the input reads as it did. -/
def interruptBarsUptoRow : OpenClaim := { program := "ytmmpifcfhjdfnaa", sum := "d1f7bc6b5d445f8b1333c1399310b0eec021cc9f491e9ebda795d3ea5e142fc0", func := "perilune/perilunelaw07.InterruptBars", spec := "interruptBars", unfollowed := true, recurses := true, apart := false, narrowed := true }
def InterruptBarsUptoSaid : Prop := interruptBarsUptoRow.holds Try.pinned (OpenSpec.upto interruptBarsSpec)

/-- 'perilunelaw07.InterruptKnown', WHERE WHAT IT READS IS OF BULK AT MOST 1048576: true; the input reads as it did. -/
def interruptKnownUptoRow : OpenClaim := { program := "ytmmpifcfhjdfnaa", sum := "d1f7bc6b5d445f8b1333c1399310b0eec021cc9f491e9ebda795d3ea5e142fc0", func := "perilune/perilunelaw07.InterruptKnown", spec := "interruptKnown", unfollowed := true, recurses := true, apart := false, narrowed := true }
def InterruptKnownUptoSaid : Prop := interruptKnownUptoRow.holds Try.pinned (OpenSpec.upto interruptKnownSpec)

end Rows
end Go.Proofs.Ytmmpifcfhjdfnaa
