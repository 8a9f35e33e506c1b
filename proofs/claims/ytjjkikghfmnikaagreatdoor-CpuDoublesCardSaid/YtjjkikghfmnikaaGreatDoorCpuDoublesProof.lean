/- The Go function perilunelaw05.CpuDoubles returns true for every input, and each argument reads afterwards as it read before. The package-level variables that it reads are tied to the program's text. No further condition. -/
import Derived.Test.YtjjkikghfmnikaaGreatDoorRows
import Derived.Test.YtjjkikghfmnikaaGreatDoorTie
import Derived.Test.YtjjkikghfmnikaaGreatDoorCards
import Derived.WalkKit
import Derived.ProofKit
import Derived.LaidMore
import Derived.OpenShut
import Derived.ShutString
import Derived.ChangeOld
import Derived.Below
import Derived.Stop.Joined
import Derived.SevenTiedAt
import Derived.Test.YtjjkikghfmnikaaGreatDoorTop5
import Derived.Test.YtjjkikghfmnikaaGreatDoorWCpuDoubles
namespace Go.Proofs.YtjjkikghfmnikaaGreatDoor.cpuDoubles
open Go Go.ChangeShapes Go.WideShapes Go.ChangeAt Go.RowKit
open Go.ChangeMaps (open_string shut_string)
set_option linter.unusedVariables false
theorem arr4 {cs : Array Value} (h : cs.size = 4) : ∃ c0 c1 c2 c3, cs = #[c0, c1, c2, c3] := by
  obtain ⟨l⟩ := cs
  match l, h with
  | [c0, c1, c2, c3], _ => exact ⟨c0, c1, c2, c3, rfl⟩
theorem own : ownKnob Tryz.prog.godebug = none := by kernel_rfl
theorem laidOut : laidOutB Tryz.prog = true := by kernel_rfl
def laid : List (String × DataW Unit) := [("perilune/isa.forms", Rows.laid_perilune_isa_forms), ("perilune/isa.kinds", Rows.laid_perilune_isa_kinds)]
theorem door_met (os : Os) (args : Array Value) : laidMetH Tryz.prog laid ((World.doorLaid Tryz.prog 63 os).forCall (fun _ _ => 0) ⟨#[], args, []⟩).memory :=
  laidMetH_of_parts3 (fuel := 8) (laidMet_of_run' 8 (by kernel_rfl) (by kernel_rfl)) (by kernel_rfl) (by kernel_rfl)
set_option maxRecDepth 100000 in
theorem lifted (os : Os) (started : os.Started) (H : Type) (enc : TypeId × Value → H) :
    ReturnsInHanded {} Tryz.checked os 8 .any (fun w args => (Rows.cpuDoublesSpec.pre enc Tryz.prog Tryz.f8 [] false w args ∧ laidMetH Tryz.prog laid w) ∧ sizedMet enc Tryz.prog Tryz.f8 (OpenSpec.ofChange Rows.cpuDoublesSpec) false w args)
      (Rows.cpuDoublesSpec.post enc Tryz.prog Tryz.f8 false true false false) := by
  refine returnsInHanded_of_change_and (C := Tryz.checked) (X := fun w _ => laidMetH Tryz.prog laid w) (fun _ _ _ hh h => h.of_heap hh) own started (by kernel_rfl) Tryz.func8
    (ChangeSpec.witness_shaped (enc := enc) (C := Tryz.checked) (os := os) (X := fun w _ => laidMetH Tryz.prog laid w) false (World.doorLaid Tryz.prog 63 os) #[.agg #[.int .u16 0, .int .u16 0, .int .u16 0, .int .u16 0]] 8 rfl (World.shaped_of_RefB (by kernel_rfl) (by kernel_rfl)) (by kernel_rfl) (by kernel_rfl) (by kernel_rfl) (door_met os _)) ?_
  intro W base args ds gs before hval0 hW _ _ hL _
  have hval : ∀ (j : Nat) t v, Tryz.f8.params[j]? = some t → args[j]? = some v → Value.okWide Tryz.prog W .any base t v := hval0
  have hW' := hW
  obtain ⟨p, q, hA0, hV, rfl, hfz, hnd⟩ := hW
  have hA : DataW.TrodAll enc Tryz.prog W 0 (fun _ => true) true Tryz.f8.params.toList args.toList ds p := hA0
  rw [Tryz.params8] at hA hval
  obtain ⟨v0, vs0, d0, ds0, p0, q0, hargs, rfl, rfl, h0, r0⟩ := trodAll_cons hA
  obtain ⟨rfl, rfl, rfl⟩ := trodAll_nil r0
  obtain rfl : args = #[v0] := by cases args; simp_all
  obtain ⟨rfl, rfl⟩ := trodVars_none hV
  have k0 := h0
  have lt0 : ∀ x ∈ p0, x.block < W.heap.size := by obtain ⟨m, hm⟩ := k0; exact DataW.trod_lt m _ _ _ hm
  obtain ⟨s0, rfl, z0⟩ := okWide_array Tryz.underlying64 (hval 0 64 v0 rfl rfl)
  obtain ⟨c0_0, c0_1, c0_2, c0_3, rfl⟩ := arr4 (z0.trans (show Tryz.prog.cellsOf 64 = 4 by kernel_rfl))
  obtain ⟨_, _, t0_0⟩ := agg_elem Tryz.underlying64 h0 0 (by decide) (by kernel_rfl) c0_0 rfl
  obtain ⟨a0_0, e0_0, _, w0_0⟩ := DataW.trod_int Tryz.underlying24 t0_0
  cases e0_0
  obtain ⟨_, _, t0_1⟩ := agg_elem Tryz.underlying64 h0 1 (by decide) (by kernel_rfl) c0_1 rfl
  obtain ⟨a0_1, e0_1, _, w0_1⟩ := DataW.trod_int Tryz.underlying24 t0_1
  cases e0_1
  obtain ⟨_, _, t0_2⟩ := agg_elem Tryz.underlying64 h0 2 (by decide) (by kernel_rfl) c0_2 rfl
  obtain ⟨a0_2, e0_2, _, w0_2⟩ := DataW.trod_int Tryz.underlying24 t0_2
  cases e0_2
  obtain ⟨_, _, t0_3⟩ := agg_elem Tryz.underlying64 h0 3 (by decide) (by kernel_rfl) c0_3 rfl
  obtain ⟨a0_3, e0_3, _, w0_3⟩ := DataW.trod_int Tryz.underlying24 t0_3
  cases e0_3
  clear hA0 hval0
  simp only [List.append_nil] at hW'
  refine (cpuDoubles_walk a0_0 a0_1 a0_2 a0_3 w0_0 w0_1 w0_2 w0_3 W (lay_of_laid hL)).mono fun e W' ⟨he, bel⟩ => ?_
  subst he
  exact ⟨_, rfl, _, _, _, [], _, [], hW', (trodAll_cons_mk (shut_bool Tryz.underlying4 _) trodAll_mk0), (trodAll_cons_mk (Below.trod laidOut (by kernel_rfl) (of_decide_eq_true (by kernel_rfl)) k0 bel lt0) trodAll_mk0), rfl, bel.frame _, fun h => by cases h⟩
theorem over : Rows.cpuDoublesRow.holds Tryz.pinned (OpenSpec.ofChange Rows.cpuDoublesSpec) :=
  OpenClaim.holds_of_wide 8 Tryz.f8 rfl rfl rfl rfl rfl rfl rfl ⟨rfl, rfl, rfl, rfl, rfl⟩ rfl rfl rfl rfl rfl (by kernel_rfl) Tryz.func8 (by kernel_rfl)
    (of_decide_eq_true (by kernel_rfl)) (by unfold Func.isWrapper; first | (rw [if_pos (by decide +kernel)]; kernel_rfl) | (rw [if_neg (by decide +kernel)]; exact ⟨rfl, rfl⟩))
    (fun os started H enc _ => lifted os started H enc)
theorem proved : Rows.CpuDoublesCardSaid :=
  Claim7.holds_tied_plain_at .later [] [.data, .data] true (true, "2e92fcbea6295510e2f9826daf90d2eefc886ff241fea04094d37575b0151e47") false over (fun _ h => by cases h) (by kernel_rfl) (fun _ h => by cases h) cpuDoubles_row_tie rfl ⟨rfl, rfl⟩ (by kernel_rfl) rfl
    (fun f fn hf hfn => by
      obtain rfl : f = 8 := Option.some.inj ((show Tryz.prog.funcNamed "perilune/perilunelaw05.CpuDoubles" = some 8 by kernel_rfl).symm.trans hf) |>.symm
      obtain rfl : fn = Tryz.f8 := (Option.some.inj (Tryz.func8.symm.trans hfn)).symm
      refine ⟨by kernel_rfl, fun j t ht => ?_⟩
      rw [Tryz.params8] at ht
      have hm : t ∈ (#[64] : Array TypeId) := Array.mem_of_getElem? ht
      have hall : (([64] : List TypeId).all fun u => !Tryz.prog.wantsStandIn u) = true := by kernel_rfl
      have hm2 : t ∈ ([64] : List TypeId) := by simpa using hm
      exact (show Tryz.prog.wantsStandIn t = false by simpa using List.all_eq_true.1 hall t hm2))
    (by kernel_rfl)
#print axioms proved
end Go.Proofs.YtjjkikghfmnikaaGreatDoor.cpuDoubles
