/-
  NARROWER THAN 'FOR EVERY INPUT', by the rows' own cells (each row's printed sentence says how): IsaNames: laid · IsaEncodes: laid · IsaDecodes: laid · IsaRound: laid · IsaBack: laid · IsaDiffers: laid · IsaCounts: laid · IsaKnown: laid.
  DERIVED. THE GIVEN ROWS OF THIS SEAT. 8 by the template 'for every input the law returns true; each argument reads behind the call as it read before'; 0 by the template 'total and deterministic' (their statements: YtjkdojdkmgaofaaDoorTotals.lean).
  GIVEN WITH THE SEED: the statements are not yours to turn. If you find one false, say at which input.
  Laid BY PROGRAM, IN A SANDBOX (cutbox-rows.mjs): the forced cells as the released guide's own fill.sh prints them over the translation e4ea633f78569eca… (all of the seat's roots in one cut). By AI agents, Wed Nov 11 2026. No macro, syntax, notation, axiom, sorry.
-/
import Derived.Test.YtjkdojdkmgaofaaDoorChecked
import GoSem.Claim
import GoSem.ClaimJoined
import GoSem.ClaimMapViews
import Derived.JoinedTies
import Derived.KernelRfl
namespace Go.Proofs.YtjkdojdkmgaofaaDoor
/- THE CELL 'sum', in the pinned program and in every row, IS THE sha256 OF THE DUMP (.gsa) THAT YtjkdojdkmgaofaaDoorProg.lean LOADS. Nothing in Lean hashes anything: it is a label: what it is worth is what the hold of that sum in a sandbox is worth. -/
noncomputable def Tryd.pinned : Pinned := { name := "ytjkdojdkmgaofaadoor", sum := "e4ea633f78569ecae54248db7b7ed05ea473244e34cb68a62f1af477287be03f", checked := Tryd.checked }
namespace Rows
def none {H : Type} : Left H := { results := [], args := [] }

/- WHAT THE LISTED PACKAGE-LEVEL VARIABLES READ AS WHEN THE CALL BEGINS. Each datum BY PROGRAM (the guide's laid-datum.mjs) off the statement by which the dump's own 'gosem.cut.vars' lays the variable. In a bare row this is a premise. The card (YtjkdojdkmgaofaaDoorCards.lean) ties it to the program's text. -/
def laid_perilune_isa_forms {H : Type} : DataW H := .agg [.agg [.lit (.string [84, 67]), .lit (.bool false), .lit (.int .u8 3), .lit (.int .i64 0), .lit (.int .i64 1)], .agg [.lit (.string [69, 88, 84, 69, 78, 68]), .lit (.bool false), .lit (.int .u8 0), .lit (.int .i64 6), .lit (.int .i64 1)], .agg [.lit (.string [73, 78, 72, 73, 78, 84]), .lit (.bool false), .lit (.int .u8 0), .lit (.int .i64 4), .lit (.int .i64 1)], .agg [.lit (.string [82, 69, 76, 73, 78, 84]), .lit (.bool false), .lit (.int .u8 0), .lit (.int .i64 3), .lit (.int .i64 1)], .agg [.lit (.string [67, 67, 83]), .lit (.bool false), .lit (.int .u8 1), .lit (.int .i64 4096), .lit (.int .i64 2)], .agg [.lit (.string [84, 67, 70]), .lit (.bool false), .lit (.int .u8 2), .lit (.int .i64 4096), .lit (.int .i64 1)], .agg [.lit (.string [68, 65, 83]), .lit (.bool false), .lit (.int .u8 1), .lit (.int .i64 8192), .lit (.int .i64 3)], .agg [.lit (.string [76, 88, 67, 72]), .lit (.bool false), .lit (.int .u8 1), .lit (.int .i64 9216), .lit (.int .i64 2)], .agg [.lit (.string [73, 78, 67, 82]), .lit (.bool false), .lit (.int .u8 1), .lit (.int .i64 10240), .lit (.int .i64 2)], .agg [.lit (.string [65, 68, 83]), .lit (.bool false), .lit (.int .u8 1), .lit (.int .i64 11264), .lit (.int .i64 2)], .agg [.lit (.string [67, 65]), .lit (.bool false), .lit (.int .u8 3), .lit (.int .i64 12288), .lit (.int .i64 2)], .agg [.lit (.string [67, 83]), .lit (.bool false), .lit (.int .u8 3), .lit (.int .i64 16384), .lit (.int .i64 2)], .agg [.lit (.string [73, 78, 68, 69, 88]), .lit (.bool false), .lit (.int .u8 1), .lit (.int .i64 20480), .lit (.int .i64 2)], .agg [.lit (.string [82, 69, 83, 85, 77, 69]), .lit (.bool false), .lit (.int .u8 0), .lit (.int .i64 20495), .lit (.int .i64 2)], .agg [.lit (.string [68, 88, 67, 72]), .lit (.bool false), .lit (.int .u8 1), .lit (.int .i64 21504), .lit (.int .i64 3)], .agg [.lit (.string [84, 83]), .lit (.bool false), .lit (.int .u8 1), .lit (.int .i64 22528), .lit (.int .i64 2)], .agg [.lit (.string [88, 67, 72]), .lit (.bool false), .lit (.int .u8 1), .lit (.int .i64 23552), .lit (.int .i64 2)], .agg [.lit (.string [65, 68]), .lit (.bool false), .lit (.int .u8 3), .lit (.int .i64 24576), .lit (.int .i64 2)], .agg [.lit (.string [77, 65, 83, 75]), .lit (.bool false), .lit (.int .u8 3), .lit (.int .i64 28672), .lit (.int .i64 2)], .agg [.lit (.string [82, 69, 65, 68]), .lit (.bool true), .lit (.int .u8 4), .lit (.int .i64 0), .lit (.int .i64 2)], .agg [.lit (.string [87, 82, 73, 84, 69]), .lit (.bool true), .lit (.int .u8 4), .lit (.int .i64 512), .lit (.int .i64 2)], .agg [.lit (.string [82, 65, 78, 68]), .lit (.bool true), .lit (.int .u8 4), .lit (.int .i64 1024), .lit (.int .i64 2)], .agg [.lit (.string [87, 65, 78, 68]), .lit (.bool true), .lit (.int .u8 4), .lit (.int .i64 1536), .lit (.int .i64 2)], .agg [.lit (.string [82, 79, 82]), .lit (.bool true), .lit (.int .u8 4), .lit (.int .i64 2048), .lit (.int .i64 2)], .agg [.lit (.string [87, 79, 82]), .lit (.bool true), .lit (.int .u8 4), .lit (.int .i64 2560), .lit (.int .i64 2)], .agg [.lit (.string [82, 88, 79, 82]), .lit (.bool true), .lit (.int .u8 4), .lit (.int .i64 3072), .lit (.int .i64 2)], .agg [.lit (.string [69, 68, 82, 85, 80, 84]), .lit (.bool true), .lit (.int .u8 4), .lit (.int .i64 3584), .lit (.int .i64 3)], .agg [.lit (.string [68, 86]), .lit (.bool true), .lit (.int .u8 1), .lit (.int .i64 4096), .lit (.int .i64 6)], .agg [.lit (.string [66, 90, 70]), .lit (.bool true), .lit (.int .u8 2), .lit (.int .i64 4096), .lit (.int .i64 2)], .agg [.lit (.string [77, 83, 85]), .lit (.bool true), .lit (.int .u8 1), .lit (.int .i64 8192), .lit (.int .i64 2)], .agg [.lit (.string [81, 88, 67, 72]), .lit (.bool true), .lit (.int .u8 1), .lit (.int .i64 9216), .lit (.int .i64 2)], .agg [.lit (.string [65, 85, 71]), .lit (.bool true), .lit (.int .u8 1), .lit (.int .i64 10240), .lit (.int .i64 2)], .agg [.lit (.string [68, 73, 77]), .lit (.bool true), .lit (.int .u8 1), .lit (.int .i64 11264), .lit (.int .i64 2)], .agg [.lit (.string [68, 67, 65]), .lit (.bool true), .lit (.int .u8 3), .lit (.int .i64 12288), .lit (.int .i64 3)], .agg [.lit (.string [68, 67, 83]), .lit (.bool true), .lit (.int .u8 3), .lit (.int .i64 16384), .lit (.int .i64 3)], .agg [.lit (.string [88, 73, 78, 68, 69, 88]), .lit (.bool true), .lit (.int .u8 3), .lit (.int .i64 20480), .lit (.int .i64 2)], .agg [.lit (.string [83, 85]), .lit (.bool true), .lit (.int .u8 1), .lit (.int .i64 24576), .lit (.int .i64 2)], .agg [.lit (.string [66, 90, 77, 70]), .lit (.bool true), .lit (.int .u8 2), .lit (.int .i64 24576), .lit (.int .i64 2)], .agg [.lit (.string [77, 80]), .lit (.bool true), .lit (.int .u8 3), .lit (.int .i64 28672), .lit (.int .i64 3)]]
def laid_perilune_isa_kinds {H : Type} : DataW H := .agg [.agg [.lit (.int .i64 0), .lit (.int .i64 0), .lit (.int .i64 0)], .agg [.lit (.int .i64 0), .lit (.int .i64 1023), .lit (.int .i64 10)], .agg [.lit (.int .i64 1024), .lit (.int .i64 4095), .lit (.int .i64 12)], .agg [.lit (.int .i64 0), .lit (.int .i64 4095), .lit (.int .i64 12)], .agg [.lit (.int .i64 0), .lit (.int .i64 511), .lit (.int .i64 9)]]

/-- 'perilunelaw04.IsaNames': WHATEVER THE INPUT: true; the input reads as it did. -/
def isaNamesSpec : ChangeSpec := { name := "isaNames", fn := fun _ => fun
  | [d1, d2, d3] => { results := [.lit (.bool true)], args := [d1, d2, d3] }
  | _ => none }
def isaNamesRow : OpenClaim := { program := "ytjkdojdkmgaofaadoor", sum := "e4ea633f78569ecae54248db7b7ed05ea473244e34cb68a62f1af477287be03f", func := "perilune/perilunelaw04.IsaNames", spec := "isaNames", named := ["perilune/isa.forms", "perilune/isa.kinds"], apart := false, laid := [("perilune/isa.forms", laid_perilune_isa_forms), ("perilune/isa.kinds", laid_perilune_isa_kinds)] }
def IsaNamesSaid : Prop := isaNamesRow.holds Tryd.pinned (OpenSpec.ofChange isaNamesSpec)

/-- ITS FALSE NEIGHBOUR: 'it returns false'. Refute it at one input. -/
def isaNamesWrong : ChangeSpec := { name := "isaNames", fn := fun _ => fun
  | [d1, d2, d3] => { results := [.lit (.bool false)], args := [d1, d2, d3] }
  | _ => none }
def IsaNamesWrongFalsely : Prop := isaNamesRow.holds Tryd.pinned (OpenSpec.ofChange isaNamesWrong)

/-- 'perilunelaw04.IsaEncodes': WHATEVER THE INPUT: true; the input reads as it did. -/
def isaEncodesSpec : ChangeSpec := { name := "isaEncodes", fn := fun _ => fun
  | [d1, d2] => { results := [.lit (.bool true)], args := [d1, d2] }
  | _ => none }
def isaEncodesRow : OpenClaim := { program := "ytjkdojdkmgaofaadoor", sum := "e4ea633f78569ecae54248db7b7ed05ea473244e34cb68a62f1af477287be03f", func := "perilune/perilunelaw04.IsaEncodes", spec := "isaEncodes", named := ["perilune/isa.kinds", "perilune/isa.forms"], apart := false, laid := [("perilune/isa.forms", laid_perilune_isa_forms), ("perilune/isa.kinds", laid_perilune_isa_kinds)] }
def IsaEncodesSaid : Prop := isaEncodesRow.holds Tryd.pinned (OpenSpec.ofChange isaEncodesSpec)

/-- ITS FALSE NEIGHBOUR: 'it returns false'. Refute it at one input. -/
def isaEncodesWrong : ChangeSpec := { name := "isaEncodes", fn := fun _ => fun
  | [d1, d2] => { results := [.lit (.bool false)], args := [d1, d2] }
  | _ => none }
def IsaEncodesWrongFalsely : Prop := isaEncodesRow.holds Tryd.pinned (OpenSpec.ofChange isaEncodesWrong)

/-- 'perilunelaw04.IsaDecodes': WHATEVER THE INPUT: true; the input reads as it did. -/
def isaDecodesSpec : ChangeSpec := { name := "isaDecodes", fn := fun _ => fun
  | [d1, d2] => { results := [.lit (.bool true)], args := [d1, d2] }
  | _ => none }
def isaDecodesRow : OpenClaim := { program := "ytjkdojdkmgaofaadoor", sum := "e4ea633f78569ecae54248db7b7ed05ea473244e34cb68a62f1af477287be03f", func := "perilune/perilunelaw04.IsaDecodes", spec := "isaDecodes", named := ["perilune/isa.forms", "perilune/isa.kinds"], apart := false, laid := [("perilune/isa.forms", laid_perilune_isa_forms), ("perilune/isa.kinds", laid_perilune_isa_kinds)] }
def IsaDecodesSaid : Prop := isaDecodesRow.holds Tryd.pinned (OpenSpec.ofChange isaDecodesSpec)

/-- ITS FALSE NEIGHBOUR: 'it returns false'. Refute it at one input. -/
def isaDecodesWrong : ChangeSpec := { name := "isaDecodes", fn := fun _ => fun
  | [d1, d2] => { results := [.lit (.bool false)], args := [d1, d2] }
  | _ => none }
def IsaDecodesWrongFalsely : Prop := isaDecodesRow.holds Tryd.pinned (OpenSpec.ofChange isaDecodesWrong)

/-- 'perilunelaw04.IsaRound': WHATEVER THE INPUT: true; the input reads as it did. -/
def isaRoundSpec : ChangeSpec := { name := "isaRound", fn := fun _ => fun
  | [d] => { results := [.lit (.bool true)], args := [d] }
  | _ => none }
def isaRoundRow : OpenClaim := { program := "ytjkdojdkmgaofaadoor", sum := "e4ea633f78569ecae54248db7b7ed05ea473244e34cb68a62f1af477287be03f", func := "perilune/perilunelaw04.IsaRound", spec := "isaRound", named := ["perilune/isa.forms", "perilune/isa.kinds"], apart := false, laid := [("perilune/isa.forms", laid_perilune_isa_forms), ("perilune/isa.kinds", laid_perilune_isa_kinds)] }
def IsaRoundSaid : Prop := isaRoundRow.holds Tryd.pinned (OpenSpec.ofChange isaRoundSpec)

/-- ITS FALSE NEIGHBOUR: 'it returns false'. Refute it at one input. -/
def isaRoundWrong : ChangeSpec := { name := "isaRound", fn := fun _ => fun
  | [d] => { results := [.lit (.bool false)], args := [d] }
  | _ => none }
def IsaRoundWrongFalsely : Prop := isaRoundRow.holds Tryd.pinned (OpenSpec.ofChange isaRoundWrong)

/-- 'perilunelaw04.IsaBack': WHATEVER THE INPUT: true; the input reads as it did. -/
def isaBackSpec : ChangeSpec := { name := "isaBack", fn := fun _ => fun
  | [d1, d2, d3] => { results := [.lit (.bool true)], args := [d1, d2, d3] }
  | _ => none }
def isaBackRow : OpenClaim := { program := "ytjkdojdkmgaofaadoor", sum := "e4ea633f78569ecae54248db7b7ed05ea473244e34cb68a62f1af477287be03f", func := "perilune/perilunelaw04.IsaBack", spec := "isaBack", named := ["perilune/isa.kinds", "perilune/isa.forms"], apart := false, laid := [("perilune/isa.forms", laid_perilune_isa_forms), ("perilune/isa.kinds", laid_perilune_isa_kinds)] }
def IsaBackSaid : Prop := isaBackRow.holds Tryd.pinned (OpenSpec.ofChange isaBackSpec)

/-- ITS FALSE NEIGHBOUR: 'it returns false'. Refute it at one input. -/
def isaBackWrong : ChangeSpec := { name := "isaBack", fn := fun _ => fun
  | [d1, d2, d3] => { results := [.lit (.bool false)], args := [d1, d2, d3] }
  | _ => none }
def IsaBackWrongFalsely : Prop := isaBackRow.holds Tryd.pinned (OpenSpec.ofChange isaBackWrong)

/-- 'perilunelaw04.IsaDiffers': WHATEVER THE INPUT: true; the input reads as it did. -/
def isaDiffersSpec : ChangeSpec := { name := "isaDiffers", fn := fun _ => fun
  | [d1, d2] => { results := [.lit (.bool true)], args := [d1, d2] }
  | _ => none }
def isaDiffersRow : OpenClaim := { program := "ytjkdojdkmgaofaadoor", sum := "e4ea633f78569ecae54248db7b7ed05ea473244e34cb68a62f1af477287be03f", func := "perilune/perilunelaw04.IsaDiffers", spec := "isaDiffers", named := ["perilune/isa.kinds", "perilune/isa.forms"], apart := false, laid := [("perilune/isa.forms", laid_perilune_isa_forms), ("perilune/isa.kinds", laid_perilune_isa_kinds)] }
def IsaDiffersSaid : Prop := isaDiffersRow.holds Tryd.pinned (OpenSpec.ofChange isaDiffersSpec)

/-- ITS FALSE NEIGHBOUR: 'it returns false'. Refute it at one input. -/
def isaDiffersWrong : ChangeSpec := { name := "isaDiffers", fn := fun _ => fun
  | [d1, d2] => { results := [.lit (.bool false)], args := [d1, d2] }
  | _ => none }
def IsaDiffersWrongFalsely : Prop := isaDiffersRow.holds Tryd.pinned (OpenSpec.ofChange isaDiffersWrong)

/-- 'perilunelaw04.IsaCounts': WHATEVER THE INPUT: true; the input reads as it did. -/
def isaCountsSpec : ChangeSpec := { name := "isaCounts", fn := fun _ => fun
  | [] => { results := [.lit (.bool true)], args := [] }
  | _ => none }
def isaCountsRow : OpenClaim := { program := "ytjkdojdkmgaofaadoor", sum := "e4ea633f78569ecae54248db7b7ed05ea473244e34cb68a62f1af477287be03f", func := "perilune/perilunelaw04.IsaCounts", spec := "isaCounts", named := ["perilune/isa.forms", "perilune/isa.kinds"], apart := false, laid := [("perilune/isa.forms", laid_perilune_isa_forms), ("perilune/isa.kinds", laid_perilune_isa_kinds)] }
def IsaCountsSaid : Prop := isaCountsRow.holds Tryd.pinned (OpenSpec.ofChange isaCountsSpec)

/-- ITS FALSE NEIGHBOUR: 'it returns false'. Refute it at one input. -/
def isaCountsWrong : ChangeSpec := { name := "isaCounts", fn := fun _ => fun
  | [] => { results := [.lit (.bool false)], args := [] }
  | _ => none }
def IsaCountsWrongFalsely : Prop := isaCountsRow.holds Tryd.pinned (OpenSpec.ofChange isaCountsWrong)

/-- 'perilunelaw04.IsaKnown': WHATEVER THE INPUT: true; the input reads as it did. -/
def isaKnownSpec : ChangeSpec := { name := "isaKnown", fn := fun _ => fun
  | [] => { results := [.lit (.bool true)], args := [] }
  | _ => none }
def isaKnownRow : OpenClaim := { program := "ytjkdojdkmgaofaadoor", sum := "e4ea633f78569ecae54248db7b7ed05ea473244e34cb68a62f1af477287be03f", func := "perilune/perilunelaw04.IsaKnown", spec := "isaKnown", named := ["perilune/isa.forms", "perilune/isa.kinds"], apart := false, laid := [("perilune/isa.forms", laid_perilune_isa_forms), ("perilune/isa.kinds", laid_perilune_isa_kinds)] }
def IsaKnownSaid : Prop := isaKnownRow.holds Tryd.pinned (OpenSpec.ofChange isaKnownSpec)

/-- ITS FALSE NEIGHBOUR: 'it returns false'. Refute it at one input. -/
def isaKnownWrong : ChangeSpec := { name := "isaKnown", fn := fun _ => fun
  | [] => { results := [.lit (.bool false)], args := [] }
  | _ => none }
def IsaKnownWrongFalsely : Prop := isaKnownRow.holds Tryd.pinned (OpenSpec.ofChange isaKnownWrong)

/- THE SECOND FORM. 'bulk': how many values and letters a reading holds, each counted each time it is reached (what is shared counts as often as it is met; a slice's spare places count too). A statement '..UptoSaid' is the law's where the arguments, and the package variables that the reading takes, are together of bulk at most 1048576: NARROWER than '..Said'. Prove '..Said' where nothing that the law and all that it calls make is longer than what came in: it says more and counts as full. Else prove '..UptoSaid'. A law counts once. -/
mutual
def uptoBulk {H : Type} : DataW H → Nat
  | .lit (.string bytes) => bytes.length + 1
  | .lit _ => 1
  | .nil => 1
  | .ptr d => uptoBulk d + 1
  | .slice elems spare => uptoBulkAll elems + uptoBulkAll spare + 1
  | .agg parts => uptoBulkAll parts + 1
  | .iface _ d => uptoBulk d + 1
  | .map entries => uptoBulkEntries entries + 1
  | .held _ => 1
def uptoBulkAll {H : Type} : List (DataW H) → Nat
  | [] => 0
  | d :: r => uptoBulk d + uptoBulkAll r
def uptoBulkEntries {H : Type} : List (Lit × DataW H) → Nat
  | [] => 0
  | x :: r => uptoBulkEntry x + uptoBulkEntries r
def uptoBulkEntry {H : Type} : Lit × DataW H → Nat
  | (.string bytes, d) => bytes.length + uptoBulk d + 1
  | (_, d) => uptoBulk d + 1
 end
def uptoSmall : (H : Type) → List (DataW H) → Bool := fun _ ds => decide (uptoBulkAll ds ≤ 1048576)
def OpenSpec.upto (s : _root_.Go.ChangeSpec) : _root_.Go.OpenSpec := { _root_.Go.OpenSpec.ofChange s with cond := some uptoSmall }

/-- 'perilunelaw04.IsaNames', WHERE WHAT IT READS IS OF BULK AT MOST 1048576: true; the input reads as it did. -/
def isaNamesUptoRow : OpenClaim := { program := "ytjkdojdkmgaofaadoor", sum := "e4ea633f78569ecae54248db7b7ed05ea473244e34cb68a62f1af477287be03f", func := "perilune/perilunelaw04.IsaNames", spec := "isaNames", named := ["perilune/isa.forms", "perilune/isa.kinds"], apart := false, laid := [("perilune/isa.forms", laid_perilune_isa_forms), ("perilune/isa.kinds", laid_perilune_isa_kinds)], narrowed := true }
def IsaNamesUptoSaid : Prop := isaNamesUptoRow.holds Tryd.pinned (OpenSpec.upto isaNamesSpec)

/-- 'perilunelaw04.IsaEncodes', WHERE WHAT IT READS IS OF BULK AT MOST 1048576: true; the input reads as it did. -/
def isaEncodesUptoRow : OpenClaim := { program := "ytjkdojdkmgaofaadoor", sum := "e4ea633f78569ecae54248db7b7ed05ea473244e34cb68a62f1af477287be03f", func := "perilune/perilunelaw04.IsaEncodes", spec := "isaEncodes", named := ["perilune/isa.kinds", "perilune/isa.forms"], apart := false, laid := [("perilune/isa.forms", laid_perilune_isa_forms), ("perilune/isa.kinds", laid_perilune_isa_kinds)], narrowed := true }
def IsaEncodesUptoSaid : Prop := isaEncodesUptoRow.holds Tryd.pinned (OpenSpec.upto isaEncodesSpec)

/-- 'perilunelaw04.IsaDecodes', WHERE WHAT IT READS IS OF BULK AT MOST 1048576: true; the input reads as it did. -/
def isaDecodesUptoRow : OpenClaim := { program := "ytjkdojdkmgaofaadoor", sum := "e4ea633f78569ecae54248db7b7ed05ea473244e34cb68a62f1af477287be03f", func := "perilune/perilunelaw04.IsaDecodes", spec := "isaDecodes", named := ["perilune/isa.forms", "perilune/isa.kinds"], apart := false, laid := [("perilune/isa.forms", laid_perilune_isa_forms), ("perilune/isa.kinds", laid_perilune_isa_kinds)], narrowed := true }
def IsaDecodesUptoSaid : Prop := isaDecodesUptoRow.holds Tryd.pinned (OpenSpec.upto isaDecodesSpec)

/-- 'perilunelaw04.IsaRound', WHERE WHAT IT READS IS OF BULK AT MOST 1048576: true; the input reads as it did. -/
def isaRoundUptoRow : OpenClaim := { program := "ytjkdojdkmgaofaadoor", sum := "e4ea633f78569ecae54248db7b7ed05ea473244e34cb68a62f1af477287be03f", func := "perilune/perilunelaw04.IsaRound", spec := "isaRound", named := ["perilune/isa.forms", "perilune/isa.kinds"], apart := false, laid := [("perilune/isa.forms", laid_perilune_isa_forms), ("perilune/isa.kinds", laid_perilune_isa_kinds)], narrowed := true }
def IsaRoundUptoSaid : Prop := isaRoundUptoRow.holds Tryd.pinned (OpenSpec.upto isaRoundSpec)

/-- 'perilunelaw04.IsaBack', WHERE WHAT IT READS IS OF BULK AT MOST 1048576: true; the input reads as it did. -/
def isaBackUptoRow : OpenClaim := { program := "ytjkdojdkmgaofaadoor", sum := "e4ea633f78569ecae54248db7b7ed05ea473244e34cb68a62f1af477287be03f", func := "perilune/perilunelaw04.IsaBack", spec := "isaBack", named := ["perilune/isa.kinds", "perilune/isa.forms"], apart := false, laid := [("perilune/isa.forms", laid_perilune_isa_forms), ("perilune/isa.kinds", laid_perilune_isa_kinds)], narrowed := true }
def IsaBackUptoSaid : Prop := isaBackUptoRow.holds Tryd.pinned (OpenSpec.upto isaBackSpec)

/-- 'perilunelaw04.IsaDiffers', WHERE WHAT IT READS IS OF BULK AT MOST 1048576: true; the input reads as it did. -/
def isaDiffersUptoRow : OpenClaim := { program := "ytjkdojdkmgaofaadoor", sum := "e4ea633f78569ecae54248db7b7ed05ea473244e34cb68a62f1af477287be03f", func := "perilune/perilunelaw04.IsaDiffers", spec := "isaDiffers", named := ["perilune/isa.kinds", "perilune/isa.forms"], apart := false, laid := [("perilune/isa.forms", laid_perilune_isa_forms), ("perilune/isa.kinds", laid_perilune_isa_kinds)], narrowed := true }
def IsaDiffersUptoSaid : Prop := isaDiffersUptoRow.holds Tryd.pinned (OpenSpec.upto isaDiffersSpec)

/-- 'perilunelaw04.IsaCounts', WHERE WHAT IT READS IS OF BULK AT MOST 1048576: true; the input reads as it did. -/
def isaCountsUptoRow : OpenClaim := { program := "ytjkdojdkmgaofaadoor", sum := "e4ea633f78569ecae54248db7b7ed05ea473244e34cb68a62f1af477287be03f", func := "perilune/perilunelaw04.IsaCounts", spec := "isaCounts", named := ["perilune/isa.forms", "perilune/isa.kinds"], apart := false, laid := [("perilune/isa.forms", laid_perilune_isa_forms), ("perilune/isa.kinds", laid_perilune_isa_kinds)], narrowed := true }
def IsaCountsUptoSaid : Prop := isaCountsUptoRow.holds Tryd.pinned (OpenSpec.upto isaCountsSpec)

/-- 'perilunelaw04.IsaKnown', WHERE WHAT IT READS IS OF BULK AT MOST 1048576: true; the input reads as it did. -/
def isaKnownUptoRow : OpenClaim := { program := "ytjkdojdkmgaofaadoor", sum := "e4ea633f78569ecae54248db7b7ed05ea473244e34cb68a62f1af477287be03f", func := "perilune/perilunelaw04.IsaKnown", spec := "isaKnown", named := ["perilune/isa.forms", "perilune/isa.kinds"], apart := false, laid := [("perilune/isa.forms", laid_perilune_isa_forms), ("perilune/isa.kinds", laid_perilune_isa_kinds)], narrowed := true }
def IsaKnownUptoSaid : Prop := isaKnownUptoRow.holds Tryd.pinned (OpenSpec.upto isaKnownSpec)

end Rows
end Go.Proofs.YtjkdojdkmgaofaaDoor
