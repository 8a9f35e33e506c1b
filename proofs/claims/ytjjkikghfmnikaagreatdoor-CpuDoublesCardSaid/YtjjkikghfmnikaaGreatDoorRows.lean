/-
  NARROWER THAN 'FOR EVERY INPUT', by the rows' own cells (each row's printed sentence says how): CpuLoads: laid · CpuSteps: laid · CpuRuns: laid · CpuLocal: laid · CpuCalls: laid · CpuDoubles: laid · CpuKnown: laid · InterruptReturns: laid.
  DERIVED. THE GIVEN ROWS OF THIS SEAT. 8 by the template 'for every input the law returns true; each argument reads behind the call as it read before'; 0 by the template 'total and deterministic' (their statements: YtjjkikghfmnikaaGreatDoorTotals.lean).
  GIVEN WITH THE SEED: the statements are not yours to turn. If you find one false, say at which input.
  Laid BY PROGRAM, IN A SANDBOX (cutbox-rows.mjs): the forced cells as the released guide's own fill.sh prints them over the translation f2e9b3a81785e16e… (all of the seat's roots in one cut). By AI agents, Wed Nov 11 2026. No macro, syntax, notation, axiom, sorry.
-/
import Derived.Test.YtjjkikghfmnikaaGreatDoorChecked
import GoSem.Claim
import GoSem.ClaimJoined
import GoSem.ClaimMapViews
import Derived.JoinedTies
import Derived.KernelRfl
namespace Go.Proofs.YtjjkikghfmnikaaGreatDoor
/- THE CELL 'sum', in the pinned program and in every row, IS THE sha256 OF THE DUMP (.gsa) THAT YtjjkikghfmnikaaGreatDoorProg.lean LOADS. Nothing in Lean hashes anything: it is a label: what it is worth is what the hold of that sum in a sandbox is worth. -/
noncomputable def Tryz.pinned : Pinned := { name := "ytjjkikghfmnikaagreatdoor", sum := "f2e9b3a81785e16e8f0bddd8b606d3d7e3f9278ccc3da4dd43adb081f9fa95bf", checked := Tryz.checked }
namespace Rows
def none {H : Type} : Left H := { results := [], args := [] }

/- WHAT THE LISTED PACKAGE-LEVEL VARIABLES READ AS WHEN THE CALL BEGINS. Each datum BY PROGRAM (the guide's laid-datum.mjs) off the statement by which the dump's own 'gosem.cut.vars' lays the variable. In a bare row this is a premise. The card (YtjjkikghfmnikaaGreatDoorCards.lean) ties it to the program's text. -/
def laid_perilune_isa_forms {H : Type} : DataW H := .agg [.agg [.lit (.string [84, 67]), .lit (.bool false), .lit (.int .u8 3), .lit (.int .i64 0), .lit (.int .i64 1)], .agg [.lit (.string [69, 88, 84, 69, 78, 68]), .lit (.bool false), .lit (.int .u8 0), .lit (.int .i64 6), .lit (.int .i64 1)], .agg [.lit (.string [73, 78, 72, 73, 78, 84]), .lit (.bool false), .lit (.int .u8 0), .lit (.int .i64 4), .lit (.int .i64 1)], .agg [.lit (.string [82, 69, 76, 73, 78, 84]), .lit (.bool false), .lit (.int .u8 0), .lit (.int .i64 3), .lit (.int .i64 1)], .agg [.lit (.string [67, 67, 83]), .lit (.bool false), .lit (.int .u8 1), .lit (.int .i64 4096), .lit (.int .i64 2)], .agg [.lit (.string [84, 67, 70]), .lit (.bool false), .lit (.int .u8 2), .lit (.int .i64 4096), .lit (.int .i64 1)], .agg [.lit (.string [68, 65, 83]), .lit (.bool false), .lit (.int .u8 1), .lit (.int .i64 8192), .lit (.int .i64 3)], .agg [.lit (.string [76, 88, 67, 72]), .lit (.bool false), .lit (.int .u8 1), .lit (.int .i64 9216), .lit (.int .i64 2)], .agg [.lit (.string [73, 78, 67, 82]), .lit (.bool false), .lit (.int .u8 1), .lit (.int .i64 10240), .lit (.int .i64 2)], .agg [.lit (.string [65, 68, 83]), .lit (.bool false), .lit (.int .u8 1), .lit (.int .i64 11264), .lit (.int .i64 2)], .agg [.lit (.string [67, 65]), .lit (.bool false), .lit (.int .u8 3), .lit (.int .i64 12288), .lit (.int .i64 2)], .agg [.lit (.string [67, 83]), .lit (.bool false), .lit (.int .u8 3), .lit (.int .i64 16384), .lit (.int .i64 2)], .agg [.lit (.string [73, 78, 68, 69, 88]), .lit (.bool false), .lit (.int .u8 1), .lit (.int .i64 20480), .lit (.int .i64 2)], .agg [.lit (.string [82, 69, 83, 85, 77, 69]), .lit (.bool false), .lit (.int .u8 0), .lit (.int .i64 20495), .lit (.int .i64 2)], .agg [.lit (.string [68, 88, 67, 72]), .lit (.bool false), .lit (.int .u8 1), .lit (.int .i64 21504), .lit (.int .i64 3)], .agg [.lit (.string [84, 83]), .lit (.bool false), .lit (.int .u8 1), .lit (.int .i64 22528), .lit (.int .i64 2)], .agg [.lit (.string [88, 67, 72]), .lit (.bool false), .lit (.int .u8 1), .lit (.int .i64 23552), .lit (.int .i64 2)], .agg [.lit (.string [65, 68]), .lit (.bool false), .lit (.int .u8 3), .lit (.int .i64 24576), .lit (.int .i64 2)], .agg [.lit (.string [77, 65, 83, 75]), .lit (.bool false), .lit (.int .u8 3), .lit (.int .i64 28672), .lit (.int .i64 2)], .agg [.lit (.string [82, 69, 65, 68]), .lit (.bool true), .lit (.int .u8 4), .lit (.int .i64 0), .lit (.int .i64 2)], .agg [.lit (.string [87, 82, 73, 84, 69]), .lit (.bool true), .lit (.int .u8 4), .lit (.int .i64 512), .lit (.int .i64 2)], .agg [.lit (.string [82, 65, 78, 68]), .lit (.bool true), .lit (.int .u8 4), .lit (.int .i64 1024), .lit (.int .i64 2)], .agg [.lit (.string [87, 65, 78, 68]), .lit (.bool true), .lit (.int .u8 4), .lit (.int .i64 1536), .lit (.int .i64 2)], .agg [.lit (.string [82, 79, 82]), .lit (.bool true), .lit (.int .u8 4), .lit (.int .i64 2048), .lit (.int .i64 2)], .agg [.lit (.string [87, 79, 82]), .lit (.bool true), .lit (.int .u8 4), .lit (.int .i64 2560), .lit (.int .i64 2)], .agg [.lit (.string [82, 88, 79, 82]), .lit (.bool true), .lit (.int .u8 4), .lit (.int .i64 3072), .lit (.int .i64 2)], .agg [.lit (.string [69, 68, 82, 85, 80, 84]), .lit (.bool true), .lit (.int .u8 4), .lit (.int .i64 3584), .lit (.int .i64 3)], .agg [.lit (.string [68, 86]), .lit (.bool true), .lit (.int .u8 1), .lit (.int .i64 4096), .lit (.int .i64 6)], .agg [.lit (.string [66, 90, 70]), .lit (.bool true), .lit (.int .u8 2), .lit (.int .i64 4096), .lit (.int .i64 2)], .agg [.lit (.string [77, 83, 85]), .lit (.bool true), .lit (.int .u8 1), .lit (.int .i64 8192), .lit (.int .i64 2)], .agg [.lit (.string [81, 88, 67, 72]), .lit (.bool true), .lit (.int .u8 1), .lit (.int .i64 9216), .lit (.int .i64 2)], .agg [.lit (.string [65, 85, 71]), .lit (.bool true), .lit (.int .u8 1), .lit (.int .i64 10240), .lit (.int .i64 2)], .agg [.lit (.string [68, 73, 77]), .lit (.bool true), .lit (.int .u8 1), .lit (.int .i64 11264), .lit (.int .i64 2)], .agg [.lit (.string [68, 67, 65]), .lit (.bool true), .lit (.int .u8 3), .lit (.int .i64 12288), .lit (.int .i64 3)], .agg [.lit (.string [68, 67, 83]), .lit (.bool true), .lit (.int .u8 3), .lit (.int .i64 16384), .lit (.int .i64 3)], .agg [.lit (.string [88, 73, 78, 68, 69, 88]), .lit (.bool true), .lit (.int .u8 3), .lit (.int .i64 20480), .lit (.int .i64 2)], .agg [.lit (.string [83, 85]), .lit (.bool true), .lit (.int .u8 1), .lit (.int .i64 24576), .lit (.int .i64 2)], .agg [.lit (.string [66, 90, 77, 70]), .lit (.bool true), .lit (.int .u8 2), .lit (.int .i64 24576), .lit (.int .i64 2)], .agg [.lit (.string [77, 80]), .lit (.bool true), .lit (.int .u8 3), .lit (.int .i64 28672), .lit (.int .i64 3)]]
def laid_perilune_isa_kinds {H : Type} : DataW H := .agg [.agg [.lit (.int .i64 0), .lit (.int .i64 0), .lit (.int .i64 0)], .agg [.lit (.int .i64 0), .lit (.int .i64 1023), .lit (.int .i64 10)], .agg [.lit (.int .i64 1024), .lit (.int .i64 4095), .lit (.int .i64 12)], .agg [.lit (.int .i64 0), .lit (.int .i64 4095), .lit (.int .i64 12)], .agg [.lit (.int .i64 0), .lit (.int .i64 511), .lit (.int .i64 9)]]

/-- 'perilunelaw05.CpuLoads': WHATEVER THE INPUT: true; the input reads as it did. -/
def cpuLoadsSpec : ChangeSpec := { name := "cpuLoads", fn := fun _ => fun
  | [d1, d2, d3] => { results := [.lit (.bool true)], args := [d1, d2, d3] }
  | _ => none }
def cpuLoadsRow : OpenClaim := { program := "ytjjkikghfmnikaagreatdoor", sum := "f2e9b3a81785e16e8f0bddd8b606d3d7e3f9278ccc3da4dd43adb081f9fa95bf", func := "perilune/perilunelaw05.CpuLoads", spec := "cpuLoads", unfollowed := true, recurses := true, named := ["perilune/isa.forms", "perilune/isa.kinds"], apart := false, laid := [("perilune/isa.forms", laid_perilune_isa_forms), ("perilune/isa.kinds", laid_perilune_isa_kinds)] }
def CpuLoadsSaid : Prop := cpuLoadsRow.holds Tryz.pinned (OpenSpec.ofChange cpuLoadsSpec)

/-- ITS FALSE NEIGHBOUR: 'it returns false'. Refute it at one input. -/
def cpuLoadsWrong : ChangeSpec := { name := "cpuLoads", fn := fun _ => fun
  | [d1, d2, d3] => { results := [.lit (.bool false)], args := [d1, d2, d3] }
  | _ => none }
def CpuLoadsWrongFalsely : Prop := cpuLoadsRow.holds Tryz.pinned (OpenSpec.ofChange cpuLoadsWrong)

/-- 'perilunelaw05.CpuSteps': WHATEVER THE INPUT: true; the input reads as it did. -/
def cpuStepsSpec : ChangeSpec := { name := "cpuSteps", fn := fun _ => fun
  | [d1, d2] => { results := [.lit (.bool true)], args := [d1, d2] }
  | _ => none }
def cpuStepsRow : OpenClaim := { program := "ytjjkikghfmnikaagreatdoor", sum := "f2e9b3a81785e16e8f0bddd8b606d3d7e3f9278ccc3da4dd43adb081f9fa95bf", func := "perilune/perilunelaw05.CpuSteps", spec := "cpuSteps", unfollowed := true, recurses := true, named := ["perilune/isa.forms", "perilune/isa.kinds"], apart := false, laid := [("perilune/isa.forms", laid_perilune_isa_forms), ("perilune/isa.kinds", laid_perilune_isa_kinds)] }
def CpuStepsSaid : Prop := cpuStepsRow.holds Tryz.pinned (OpenSpec.ofChange cpuStepsSpec)

/-- ITS FALSE NEIGHBOUR: 'it returns false'. Refute it at one input. -/
def cpuStepsWrong : ChangeSpec := { name := "cpuSteps", fn := fun _ => fun
  | [d1, d2] => { results := [.lit (.bool false)], args := [d1, d2] }
  | _ => none }
def CpuStepsWrongFalsely : Prop := cpuStepsRow.holds Tryz.pinned (OpenSpec.ofChange cpuStepsWrong)

/-- 'perilunelaw05.CpuRuns': WHATEVER THE INPUT: true; the input reads as it did. -/
def cpuRunsSpec : ChangeSpec := { name := "cpuRuns", fn := fun _ => fun
  | [d1, d2, d3] => { results := [.lit (.bool true)], args := [d1, d2, d3] }
  | _ => none }
def cpuRunsRow : OpenClaim := { program := "ytjjkikghfmnikaagreatdoor", sum := "f2e9b3a81785e16e8f0bddd8b606d3d7e3f9278ccc3da4dd43adb081f9fa95bf", func := "perilune/perilunelaw05.CpuRuns", spec := "cpuRuns", unfollowed := true, recurses := true, named := ["perilune/isa.forms", "perilune/isa.kinds"], apart := false, laid := [("perilune/isa.forms", laid_perilune_isa_forms), ("perilune/isa.kinds", laid_perilune_isa_kinds)] }
def CpuRunsSaid : Prop := cpuRunsRow.holds Tryz.pinned (OpenSpec.ofChange cpuRunsSpec)

/-- ITS FALSE NEIGHBOUR: 'it returns false'. Refute it at one input. -/
def cpuRunsWrong : ChangeSpec := { name := "cpuRuns", fn := fun _ => fun
  | [d1, d2, d3] => { results := [.lit (.bool false)], args := [d1, d2, d3] }
  | _ => none }
def CpuRunsWrongFalsely : Prop := cpuRunsRow.holds Tryz.pinned (OpenSpec.ofChange cpuRunsWrong)

/-- 'perilunelaw05.CpuLocal': WHATEVER THE INPUT: true; the input reads as it did. -/
def cpuLocalSpec : ChangeSpec := { name := "cpuLocal", fn := fun _ => fun
  | [d1, d2, d3] => { results := [.lit (.bool true)], args := [d1, d2, d3] }
  | _ => none }
def cpuLocalRow : OpenClaim := { program := "ytjjkikghfmnikaagreatdoor", sum := "f2e9b3a81785e16e8f0bddd8b606d3d7e3f9278ccc3da4dd43adb081f9fa95bf", func := "perilune/perilunelaw05.CpuLocal", spec := "cpuLocal", unfollowed := true, recurses := true, named := ["perilune/isa.forms", "perilune/isa.kinds"], apart := false, laid := [("perilune/isa.forms", laid_perilune_isa_forms), ("perilune/isa.kinds", laid_perilune_isa_kinds)] }
def CpuLocalSaid : Prop := cpuLocalRow.holds Tryz.pinned (OpenSpec.ofChange cpuLocalSpec)

/-- ITS FALSE NEIGHBOUR: 'it returns false'. Refute it at one input. -/
def cpuLocalWrong : ChangeSpec := { name := "cpuLocal", fn := fun _ => fun
  | [d1, d2, d3] => { results := [.lit (.bool false)], args := [d1, d2, d3] }
  | _ => none }
def CpuLocalWrongFalsely : Prop := cpuLocalRow.holds Tryz.pinned (OpenSpec.ofChange cpuLocalWrong)

/-- 'perilunelaw05.CpuCalls': WHATEVER THE INPUT: true; the input reads as it did. -/
def cpuCallsSpec : ChangeSpec := { name := "cpuCalls", fn := fun _ => fun
  | [d1, d2] => { results := [.lit (.bool true)], args := [d1, d2] }
  | _ => none }
def cpuCallsRow : OpenClaim := { program := "ytjjkikghfmnikaagreatdoor", sum := "f2e9b3a81785e16e8f0bddd8b606d3d7e3f9278ccc3da4dd43adb081f9fa95bf", func := "perilune/perilunelaw05.CpuCalls", spec := "cpuCalls", unfollowed := true, recurses := true, named := ["perilune/isa.forms", "perilune/isa.kinds"], apart := false, laid := [("perilune/isa.forms", laid_perilune_isa_forms), ("perilune/isa.kinds", laid_perilune_isa_kinds)] }
def CpuCallsSaid : Prop := cpuCallsRow.holds Tryz.pinned (OpenSpec.ofChange cpuCallsSpec)

/-- ITS FALSE NEIGHBOUR: 'it returns false'. Refute it at one input. -/
def cpuCallsWrong : ChangeSpec := { name := "cpuCalls", fn := fun _ => fun
  | [d1, d2] => { results := [.lit (.bool false)], args := [d1, d2] }
  | _ => none }
def CpuCallsWrongFalsely : Prop := cpuCallsRow.holds Tryz.pinned (OpenSpec.ofChange cpuCallsWrong)

/-- 'perilunelaw05.CpuDoubles': WHATEVER THE INPUT: true; the input reads as it did. -/
def cpuDoublesSpec : ChangeSpec := { name := "cpuDoubles", fn := fun _ => fun
  | [d] => { results := [.lit (.bool true)], args := [d] }
  | _ => none }
def cpuDoublesRow : OpenClaim := { program := "ytjjkikghfmnikaagreatdoor", sum := "f2e9b3a81785e16e8f0bddd8b606d3d7e3f9278ccc3da4dd43adb081f9fa95bf", func := "perilune/perilunelaw05.CpuDoubles", spec := "cpuDoubles", unfollowed := true, recurses := true, named := ["perilune/isa.forms", "perilune/isa.kinds"], apart := false, laid := [("perilune/isa.forms", laid_perilune_isa_forms), ("perilune/isa.kinds", laid_perilune_isa_kinds)] }
def CpuDoublesSaid : Prop := cpuDoublesRow.holds Tryz.pinned (OpenSpec.ofChange cpuDoublesSpec)

/-- ITS FALSE NEIGHBOUR: 'it returns false'. Refute it at one input. -/
def cpuDoublesWrong : ChangeSpec := { name := "cpuDoubles", fn := fun _ => fun
  | [d] => { results := [.lit (.bool false)], args := [d] }
  | _ => none }
def CpuDoublesWrongFalsely : Prop := cpuDoublesRow.holds Tryz.pinned (OpenSpec.ofChange cpuDoublesWrong)

/-- 'perilunelaw05.CpuKnown': WHATEVER THE INPUT: true; the input reads as it did. -/
def cpuKnownSpec : ChangeSpec := { name := "cpuKnown", fn := fun _ => fun
  | [] => { results := [.lit (.bool true)], args := [] }
  | _ => none }
def cpuKnownRow : OpenClaim := { program := "ytjjkikghfmnikaagreatdoor", sum := "f2e9b3a81785e16e8f0bddd8b606d3d7e3f9278ccc3da4dd43adb081f9fa95bf", func := "perilune/perilunelaw05.CpuKnown", spec := "cpuKnown", unfollowed := true, recurses := true, named := ["perilune/isa.forms", "perilune/isa.kinds"], apart := false, laid := [("perilune/isa.forms", laid_perilune_isa_forms), ("perilune/isa.kinds", laid_perilune_isa_kinds)] }
def CpuKnownSaid : Prop := cpuKnownRow.holds Tryz.pinned (OpenSpec.ofChange cpuKnownSpec)

/-- ITS FALSE NEIGHBOUR: 'it returns false'. Refute it at one input. -/
def cpuKnownWrong : ChangeSpec := { name := "cpuKnown", fn := fun _ => fun
  | [] => { results := [.lit (.bool false)], args := [] }
  | _ => none }
def CpuKnownWrongFalsely : Prop := cpuKnownRow.holds Tryz.pinned (OpenSpec.ofChange cpuKnownWrong)

/-- 'perilunelaw07.InterruptReturns': WHATEVER THE INPUT: true; the input reads as it did. -/
def interruptReturnsSpec : ChangeSpec := { name := "interruptReturns", fn := fun _ => fun
  | [d1, d2, d3] => { results := [.lit (.bool true)], args := [d1, d2, d3] }
  | _ => none }
def interruptReturnsRow : OpenClaim := { program := "ytjjkikghfmnikaagreatdoor", sum := "f2e9b3a81785e16e8f0bddd8b606d3d7e3f9278ccc3da4dd43adb081f9fa95bf", func := "perilune/perilunelaw07.InterruptReturns", spec := "interruptReturns", unfollowed := true, recurses := true, named := ["perilune/isa.forms", "perilune/isa.kinds"], apart := false, laid := [("perilune/isa.forms", laid_perilune_isa_forms), ("perilune/isa.kinds", laid_perilune_isa_kinds)] }
def InterruptReturnsSaid : Prop := interruptReturnsRow.holds Tryz.pinned (OpenSpec.ofChange interruptReturnsSpec)

/-- ITS FALSE NEIGHBOUR: 'it returns false'. Refute it at one input. -/
def interruptReturnsWrong : ChangeSpec := { name := "interruptReturns", fn := fun _ => fun
  | [d1, d2, d3] => { results := [.lit (.bool false)], args := [d1, d2, d3] }
  | _ => none }
def InterruptReturnsWrongFalsely : Prop := interruptReturnsRow.holds Tryz.pinned (OpenSpec.ofChange interruptReturnsWrong)

/- THE SECOND FORM. 'bulk': how many values and letters a reading holds, each counted each time it is reached (what is shared counts as often as it is met; a slice's spare places count too). A statement '..UptoSaid' is the law's where the arguments, and the package variables that the reading takes, are together of bulk at most 1048576: NARROWER than '..Said'. Prove '..Said' where nothing that the law and all that it calls make is longer than what came in: it says more and counts as full. Else prove '..UptoSaid'. A law counts once. -/
mutual
def uptoBulk {H : Type} : DataW H → Nat
  | .lit (.string bytes) => bytes.length + 1
  | .lit _ => 1
  | .nil => 1
  | .ptr d => uptoBulk d + 1
  | .slice elems spare => uptoBulkAll elems + uptoBulkAll spare + 1
  | .agg parts => uptoBulkAll parts + 1
  | .iface _ d => uptoBulk d + 1
  | .map entries => uptoBulkEntries entries + 1
  | .held _ => 1
def uptoBulkAll {H : Type} : List (DataW H) → Nat
  | [] => 0
  | d :: r => uptoBulk d + uptoBulkAll r
def uptoBulkEntries {H : Type} : List (Lit × DataW H) → Nat
  | [] => 0
  | x :: r => uptoBulkEntry x + uptoBulkEntries r
def uptoBulkEntry {H : Type} : Lit × DataW H → Nat
  | (.string bytes, d) => bytes.length + uptoBulk d + 1
  | (_, d) => uptoBulk d + 1
 end
def uptoSmall : (H : Type) → List (DataW H) → Bool := fun _ ds => decide (uptoBulkAll ds ≤ 1048576)
def OpenSpec.upto (s : _root_.Go.ChangeSpec) : _root_.Go.OpenSpec := { _root_.Go.OpenSpec.ofChange s with cond := some uptoSmall }

/-- 'perilunelaw05.CpuLoads', WHERE WHAT IT READS IS OF BULK AT MOST 1048576: true; the input reads as it did. -/
def cpuLoadsUptoRow : OpenClaim := { program := "ytjjkikghfmnikaagreatdoor", sum := "f2e9b3a81785e16e8f0bddd8b606d3d7e3f9278ccc3da4dd43adb081f9fa95bf", func := "perilune/perilunelaw05.CpuLoads", spec := "cpuLoads", unfollowed := true, recurses := true, named := ["perilune/isa.forms", "perilune/isa.kinds"], apart := false, laid := [("perilune/isa.forms", laid_perilune_isa_forms), ("perilune/isa.kinds", laid_perilune_isa_kinds)], narrowed := true }
def CpuLoadsUptoSaid : Prop := cpuLoadsUptoRow.holds Tryz.pinned (OpenSpec.upto cpuLoadsSpec)

/-- 'perilunelaw05.CpuSteps', WHERE WHAT IT READS IS OF BULK AT MOST 1048576: true; the input reads as it did. -/
def cpuStepsUptoRow : OpenClaim := { program := "ytjjkikghfmnikaagreatdoor", sum := "f2e9b3a81785e16e8f0bddd8b606d3d7e3f9278ccc3da4dd43adb081f9fa95bf", func := "perilune/perilunelaw05.CpuSteps", spec := "cpuSteps", unfollowed := true, recurses := true, named := ["perilune/isa.forms", "perilune/isa.kinds"], apart := false, laid := [("perilune/isa.forms", laid_perilune_isa_forms), ("perilune/isa.kinds", laid_perilune_isa_kinds)], narrowed := true }
def CpuStepsUptoSaid : Prop := cpuStepsUptoRow.holds Tryz.pinned (OpenSpec.upto cpuStepsSpec)

/-- 'perilunelaw05.CpuRuns', WHERE WHAT IT READS IS OF BULK AT MOST 1048576: true; the input reads as it did. -/
def cpuRunsUptoRow : OpenClaim := { program := "ytjjkikghfmnikaagreatdoor", sum := "f2e9b3a81785e16e8f0bddd8b606d3d7e3f9278ccc3da4dd43adb081f9fa95bf", func := "perilune/perilunelaw05.CpuRuns", spec := "cpuRuns", unfollowed := true, recurses := true, named := ["perilune/isa.forms", "perilune/isa.kinds"], apart := false, laid := [("perilune/isa.forms", laid_perilune_isa_forms), ("perilune/isa.kinds", laid_perilune_isa_kinds)], narrowed := true }
def CpuRunsUptoSaid : Prop := cpuRunsUptoRow.holds Tryz.pinned (OpenSpec.upto cpuRunsSpec)

/-- 'perilunelaw05.CpuLocal', WHERE WHAT IT READS IS OF BULK AT MOST 1048576: true; the input reads as it did. -/
def cpuLocalUptoRow : OpenClaim := { program := "ytjjkikghfmnikaagreatdoor", sum := "f2e9b3a81785e16e8f0bddd8b606d3d7e3f9278ccc3da4dd43adb081f9fa95bf", func := "perilune/perilunelaw05.CpuLocal", spec := "cpuLocal", unfollowed := true, recurses := true, named := ["perilune/isa.forms", "perilune/isa.kinds"], apart := false, laid := [("perilune/isa.forms", laid_perilune_isa_forms), ("perilune/isa.kinds", laid_perilune_isa_kinds)], narrowed := true }
def CpuLocalUptoSaid : Prop := cpuLocalUptoRow.holds Tryz.pinned (OpenSpec.upto cpuLocalSpec)

/-- 'perilunelaw05.CpuCalls', WHERE WHAT IT READS IS OF BULK AT MOST 1048576: true; the input reads as it did. -/
def cpuCallsUptoRow : OpenClaim := { program := "ytjjkikghfmnikaagreatdoor", sum := "f2e9b3a81785e16e8f0bddd8b606d3d7e3f9278ccc3da4dd43adb081f9fa95bf", func := "perilune/perilunelaw05.CpuCalls", spec := "cpuCalls", unfollowed := true, recurses := true, named := ["perilune/isa.forms", "perilune/isa.kinds"], apart := false, laid := [("perilune/isa.forms", laid_perilune_isa_forms), ("perilune/isa.kinds", laid_perilune_isa_kinds)], narrowed := true }
def CpuCallsUptoSaid : Prop := cpuCallsUptoRow.holds Tryz.pinned (OpenSpec.upto cpuCallsSpec)

/-- 'perilunelaw05.CpuDoubles', WHERE WHAT IT READS IS OF BULK AT MOST 1048576: true; the input reads as it did. -/
def cpuDoublesUptoRow : OpenClaim := { program := "ytjjkikghfmnikaagreatdoor", sum := "f2e9b3a81785e16e8f0bddd8b606d3d7e3f9278ccc3da4dd43adb081f9fa95bf", func := "perilune/perilunelaw05.CpuDoubles", spec := "cpuDoubles", unfollowed := true, recurses := true, named := ["perilune/isa.forms", "perilune/isa.kinds"], apart := false, laid := [("perilune/isa.forms", laid_perilune_isa_forms), ("perilune/isa.kinds", laid_perilune_isa_kinds)], narrowed := true }
def CpuDoublesUptoSaid : Prop := cpuDoublesUptoRow.holds Tryz.pinned (OpenSpec.upto cpuDoublesSpec)

/-- 'perilunelaw05.CpuKnown', WHERE WHAT IT READS IS OF BULK AT MOST 1048576: true; the input reads as it did. -/
def cpuKnownUptoRow : OpenClaim := { program := "ytjjkikghfmnikaagreatdoor", sum := "f2e9b3a81785e16e8f0bddd8b606d3d7e3f9278ccc3da4dd43adb081f9fa95bf", func := "perilune/perilunelaw05.CpuKnown", spec := "cpuKnown", unfollowed := true, recurses := true, named := ["perilune/isa.forms", "perilune/isa.kinds"], apart := false, laid := [("perilune/isa.forms", laid_perilune_isa_forms), ("perilune/isa.kinds", laid_perilune_isa_kinds)], narrowed := true }
def CpuKnownUptoSaid : Prop := cpuKnownUptoRow.holds Tryz.pinned (OpenSpec.upto cpuKnownSpec)

/-- 'perilunelaw07.InterruptReturns', WHERE WHAT IT READS IS OF BULK AT MOST 1048576: true; the input reads as it did. -/
def interruptReturnsUptoRow : OpenClaim := { program := "ytjjkikghfmnikaagreatdoor", sum := "f2e9b3a81785e16e8f0bddd8b606d3d7e3f9278ccc3da4dd43adb081f9fa95bf", func := "perilune/perilunelaw07.InterruptReturns", spec := "interruptReturns", unfollowed := true, recurses := true, named := ["perilune/isa.forms", "perilune/isa.kinds"], apart := false, laid := [("perilune/isa.forms", laid_perilune_isa_forms), ("perilune/isa.kinds", laid_perilune_isa_kinds)], narrowed := true }
def InterruptReturnsUptoSaid : Prop := interruptReturnsUptoRow.holds Tryz.pinned (OpenSpec.upto interruptReturnsSpec)

end Rows
end Go.Proofs.YtjjkikghfmnikaaGreatDoor
