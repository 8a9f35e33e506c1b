/-
  DERIVED. GIVEN WITH THE SEED: THE CARDS: each row of YtjjkikghfmnikaaGreatDoorRows.lean that lists a variable, with what it lists TIED to the program's text (the seventh form; the later family's looks); each row that meets fmt, with fmt's text TOLD by the authors' own Lean function (tested against real Go, not proved from fmt's source: count such statements apart). THE CARD IS WHAT COUNTS. Prove the row's statement (the work); the ties are given (YtjjkikghfmnikaaGreatDoorTie.lean); close each card by the builder's one call (the guide's Derived/Test/ToyasCard.lean, 'card_holds'). Laid BY PROGRAM, IN A SANDBOX (cutbox-door.mjs). By AI agents, Wed Nov 11 2026. No macro, syntax, notation, axiom, sorry.
-/
import Derived.Test.YtjjkikghfmnikaaGreatDoorRows
import GoSem.ClaimSeven
namespace Go.Proofs.YtjjkikghfmnikaaGreatDoor
namespace Rows

/-- THE TIED CARD OF 'perilunelaw05.CpuLoads'. -/
def cpuLoadsCard : Claim7 := { stood := { row := cpuLoadsRow, standIns := [], harness := (true, "2e92fcbea6295510e2f9826daf90d2eefc886ff241fea04094d37575b0151e47"), looks := false }, kinds := [], alts := [], laidByText := true, laidKinds := [.data, .data], laidTests := true, laidLooks := .later }
def CpuLoadsCardSaid : Prop := Claim7.holds Tryz.pinned (.plain (OpenSpec.ofChange cpuLoadsSpec)) cpuLoadsCard

/-- THE TIED CARD OF 'perilunelaw05.CpuSteps'. -/
def cpuStepsCard : Claim7 := { stood := { row := cpuStepsRow, standIns := [], harness := (true, "2e92fcbea6295510e2f9826daf90d2eefc886ff241fea04094d37575b0151e47"), looks := false }, kinds := [], alts := [], laidByText := true, laidKinds := [.data, .data], laidTests := true, laidLooks := .later }
def CpuStepsCardSaid : Prop := Claim7.holds Tryz.pinned (.plain (OpenSpec.ofChange cpuStepsSpec)) cpuStepsCard

/-- THE TIED CARD OF 'perilunelaw05.CpuRuns'. -/
def cpuRunsCard : Claim7 := { stood := { row := cpuRunsRow, standIns := [], harness := (true, "2e92fcbea6295510e2f9826daf90d2eefc886ff241fea04094d37575b0151e47"), looks := false }, kinds := [], alts := [], laidByText := true, laidKinds := [.data, .data], laidTests := true, laidLooks := .later }
def CpuRunsCardSaid : Prop := Claim7.holds Tryz.pinned (.plain (OpenSpec.ofChange cpuRunsSpec)) cpuRunsCard

/-- THE TIED CARD OF 'perilunelaw05.CpuLocal'. -/
def cpuLocalCard : Claim7 := { stood := { row := cpuLocalRow, standIns := [], harness := (true, "2e92fcbea6295510e2f9826daf90d2eefc886ff241fea04094d37575b0151e47"), looks := false }, kinds := [], alts := [], laidByText := true, laidKinds := [.data, .data], laidTests := true, laidLooks := .later }
def CpuLocalCardSaid : Prop := Claim7.holds Tryz.pinned (.plain (OpenSpec.ofChange cpuLocalSpec)) cpuLocalCard

/-- THE TIED CARD OF 'perilunelaw05.CpuCalls'. -/
def cpuCallsCard : Claim7 := { stood := { row := cpuCallsRow, standIns := [], harness := (true, "2e92fcbea6295510e2f9826daf90d2eefc886ff241fea04094d37575b0151e47"), looks := false }, kinds := [], alts := [], laidByText := true, laidKinds := [.data, .data], laidTests := true, laidLooks := .later }
def CpuCallsCardSaid : Prop := Claim7.holds Tryz.pinned (.plain (OpenSpec.ofChange cpuCallsSpec)) cpuCallsCard

/-- THE TIED CARD OF 'perilunelaw05.CpuDoubles'. -/
def cpuDoublesCard : Claim7 := { stood := { row := cpuDoublesRow, standIns := [], harness := (true, "2e92fcbea6295510e2f9826daf90d2eefc886ff241fea04094d37575b0151e47"), looks := false }, kinds := [], alts := [], laidByText := true, laidKinds := [.data, .data], laidTests := true, laidLooks := .later }
def CpuDoublesCardSaid : Prop := Claim7.holds Tryz.pinned (.plain (OpenSpec.ofChange cpuDoublesSpec)) cpuDoublesCard

/-- THE TIED CARD OF 'perilunelaw05.CpuKnown'. -/
def cpuKnownCard : Claim7 := { stood := { row := cpuKnownRow, standIns := [], harness := (true, "2e92fcbea6295510e2f9826daf90d2eefc886ff241fea04094d37575b0151e47"), looks := false }, kinds := [], alts := [], laidByText := true, laidKinds := [.data, .data], laidTests := true, laidLooks := .later }
def CpuKnownCardSaid : Prop := Claim7.holds Tryz.pinned (.plain (OpenSpec.ofChange cpuKnownSpec)) cpuKnownCard

/-- THE TIED CARD OF 'perilunelaw07.InterruptReturns'. -/
def interruptReturnsCard : Claim7 := { stood := { row := interruptReturnsRow, standIns := [], harness := (true, "2e92fcbea6295510e2f9826daf90d2eefc886ff241fea04094d37575b0151e47"), looks := false }, kinds := [], alts := [], laidByText := true, laidKinds := [.data, .data], laidTests := true, laidLooks := .later }
def InterruptReturnsCardSaid : Prop := Claim7.holds Tryz.pinned (.plain (OpenSpec.ofChange interruptReturnsSpec)) interruptReturnsCard

/-- THE SECOND FORM's CARD OF 'perilunelaw05.CpuLoads'. -/
def cpuLoadsUptoCard : Claim7 := { stood := { row := cpuLoadsUptoRow, standIns := [], harness := (true, "2e92fcbea6295510e2f9826daf90d2eefc886ff241fea04094d37575b0151e47"), looks := false }, kinds := [], alts := [], laidByText := true, laidKinds := [.data, .data], laidTests := true, laidLooks := .later }
def CpuLoadsUptoCardSaid : Prop := Claim7.holds Tryz.pinned (.plain (OpenSpec.upto cpuLoadsSpec)) cpuLoadsUptoCard

/-- THE SECOND FORM's CARD OF 'perilunelaw05.CpuSteps'. -/
def cpuStepsUptoCard : Claim7 := { stood := { row := cpuStepsUptoRow, standIns := [], harness := (true, "2e92fcbea6295510e2f9826daf90d2eefc886ff241fea04094d37575b0151e47"), looks := false }, kinds := [], alts := [], laidByText := true, laidKinds := [.data, .data], laidTests := true, laidLooks := .later }
def CpuStepsUptoCardSaid : Prop := Claim7.holds Tryz.pinned (.plain (OpenSpec.upto cpuStepsSpec)) cpuStepsUptoCard

/-- THE SECOND FORM's CARD OF 'perilunelaw05.CpuRuns'. -/
def cpuRunsUptoCard : Claim7 := { stood := { row := cpuRunsUptoRow, standIns := [], harness := (true, "2e92fcbea6295510e2f9826daf90d2eefc886ff241fea04094d37575b0151e47"), looks := false }, kinds := [], alts := [], laidByText := true, laidKinds := [.data, .data], laidTests := true, laidLooks := .later }
def CpuRunsUptoCardSaid : Prop := Claim7.holds Tryz.pinned (.plain (OpenSpec.upto cpuRunsSpec)) cpuRunsUptoCard

/-- THE SECOND FORM's CARD OF 'perilunelaw05.CpuLocal'. -/
def cpuLocalUptoCard : Claim7 := { stood := { row := cpuLocalUptoRow, standIns := [], harness := (true, "2e92fcbea6295510e2f9826daf90d2eefc886ff241fea04094d37575b0151e47"), looks := false }, kinds := [], alts := [], laidByText := true, laidKinds := [.data, .data], laidTests := true, laidLooks := .later }
def CpuLocalUptoCardSaid : Prop := Claim7.holds Tryz.pinned (.plain (OpenSpec.upto cpuLocalSpec)) cpuLocalUptoCard

/-- THE SECOND FORM's CARD OF 'perilunelaw05.CpuCalls'. -/
def cpuCallsUptoCard : Claim7 := { stood := { row := cpuCallsUptoRow, standIns := [], harness := (true, "2e92fcbea6295510e2f9826daf90d2eefc886ff241fea04094d37575b0151e47"), looks := false }, kinds := [], alts := [], laidByText := true, laidKinds := [.data, .data], laidTests := true, laidLooks := .later }
def CpuCallsUptoCardSaid : Prop := Claim7.holds Tryz.pinned (.plain (OpenSpec.upto cpuCallsSpec)) cpuCallsUptoCard

/-- THE SECOND FORM's CARD OF 'perilunelaw05.CpuDoubles'. -/
def cpuDoublesUptoCard : Claim7 := { stood := { row := cpuDoublesUptoRow, standIns := [], harness := (true, "2e92fcbea6295510e2f9826daf90d2eefc886ff241fea04094d37575b0151e47"), looks := false }, kinds := [], alts := [], laidByText := true, laidKinds := [.data, .data], laidTests := true, laidLooks := .later }
def CpuDoublesUptoCardSaid : Prop := Claim7.holds Tryz.pinned (.plain (OpenSpec.upto cpuDoublesSpec)) cpuDoublesUptoCard

/-- THE SECOND FORM's CARD OF 'perilunelaw05.CpuKnown'. -/
def cpuKnownUptoCard : Claim7 := { stood := { row := cpuKnownUptoRow, standIns := [], harness := (true, "2e92fcbea6295510e2f9826daf90d2eefc886ff241fea04094d37575b0151e47"), looks := false }, kinds := [], alts := [], laidByText := true, laidKinds := [.data, .data], laidTests := true, laidLooks := .later }
def CpuKnownUptoCardSaid : Prop := Claim7.holds Tryz.pinned (.plain (OpenSpec.upto cpuKnownSpec)) cpuKnownUptoCard

/-- THE SECOND FORM's CARD OF 'perilunelaw07.InterruptReturns'. -/
def interruptReturnsUptoCard : Claim7 := { stood := { row := interruptReturnsUptoRow, standIns := [], harness := (true, "2e92fcbea6295510e2f9826daf90d2eefc886ff241fea04094d37575b0151e47"), looks := false }, kinds := [], alts := [], laidByText := true, laidKinds := [.data, .data], laidTests := true, laidLooks := .later }
def InterruptReturnsUptoCardSaid : Prop := Claim7.holds Tryz.pinned (.plain (OpenSpec.upto interruptReturnsSpec)) interruptReturnsUptoCard
end Rows
end Go.Proofs.YtjjkikghfmnikaaGreatDoor
