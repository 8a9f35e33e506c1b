/- The Go function perilunelaw06.CounterCounts returns true for every input, and each argument reads afterwards as it read before. No further condition. -/
import Derived.Test.YteongalbljdjlaaRows
import Derived.WalkKit
import Derived.ProofKit
import Derived.OpenShut
import Derived.ShutString
import Derived.Test.YteongalbljdjlaaWCounterCounts
import Derived.ChangeOld
import Derived.Below
import Derived.Lib.SmallJoins
namespace Go.Proofs.Yteongalbljdjlaa.counterCounts
open Go.ChangeShapes Go.WideShapes Go.ChangeAt Go.RowKit
open Go.ChangeMaps (open_string shut_string)
set_option linter.unusedVariables false

theorem own : ownKnob Try.prog.godebug = none := by kernel_rfl
theorem laidOut : laidOutB Try.prog = true := by kernel_rfl


/-! ### THE WALK (in another text) -/
theorem walk (a0_0 a0_1 a0_2 a0_3 a0_4 a0_5 a0_6 a0_7 a0_8 a0_9 a0_10 a0_11 a0_12 a0_13 a0_14 a0_15 a0_16 a0_17 a0_18 a0_19 a0_20 a0_21 a0_22 a0_23 a0_24 a0_25 a0_26 a0_27 : Int) (a1 : Option Addr) (len1 cap1 : Nat) (z1 : Nat → Int) (w : World) (w0_0 : (Lit.int .u16 a0_0).wf = true) (w0_1 : (Lit.int .u16 a0_1).wf = true) (w0_2 : (Lit.int .u16 a0_2).wf = true) (w0_3 : (Lit.int .u16 a0_3).wf = true) (w0_4 : (Lit.int .u16 a0_4).wf = true) (w0_5 : (Lit.int .u16 a0_5).wf = true) (w0_6 : (Lit.int .u16 a0_6).wf = true) (w0_7 : (Lit.int .u16 a0_7).wf = true) (w0_8 : (Lit.int .u16 a0_8).wf = true) (w0_9 : (Lit.int .u16 a0_9).wf = true) (w0_10 : (Lit.int .u16 a0_10).wf = true) (w0_11 : (Lit.int .u16 a0_11).wf = true) (w0_12 : (Lit.int .u16 a0_12).wf = true) (w0_13 : (Lit.int .u16 a0_13).wf = true) (w0_14 : (Lit.int .u16 a0_14).wf = true) (w0_15 : (Lit.int .u16 a0_15).wf = true) (w0_16 : (Lit.int .u16 a0_16).wf = true) (w0_17 : (Lit.int .u16 a0_17).wf = true) (w0_18 : (Lit.int .u16 a0_18).wf = true) (w0_19 : (Lit.int .u16 a0_19).wf = true) (w0_20 : (Lit.int .u16 a0_20).wf = true) (w0_21 : (Lit.int .u16 a0_21).wf = true) (w0_22 : (Lit.int .u16 a0_22).wf = true) (w0_23 : (Lit.int .u16 a0_23).wf = true) (w0_24 : (Lit.int .u16 a0_24).wf = true) (w0_25 : (Lit.int .u16 a0_25).wf = true) (w0_26 : (Lit.int .u16 a0_26).wf = true) (w0_27 : (Lit.int .u16 a0_27).wf = true) (w1 : IsBytes w a1 len1 cap1 z1) :
    Calls Try.prog 4 #[.agg #[.int .u16 a0_0, .int .u16 a0_1, .int .u16 a0_2, .int .u16 a0_3, .int .u16 a0_4, .int .u16 a0_5, .int .u16 a0_6, .int .u16 a0_7, .int .u16 a0_8, .int .u16 a0_9, .int .u16 a0_10, .int .u16 a0_11, .int .u16 a0_12, .int .u16 a0_13, .int .u16 a0_14, .int .u16 a0_15, .int .u16 a0_16, .int .u16 a0_17, .int .u16 a0_18, .int .u16 a0_19, .int .u16 a0_20, .int .u16 a0_21, .int .u16 a0_22, .int .u16 a0_23, .int .u16 a0_24, .int .u16 a0_25, .int .u16 a0_26, .int .u16 a0_27], .slice a1 len1 cap1] w fun e w' => e = .returned (.bool true) ∧ Below w.heap.size w w' :=
  counterCounts_walk a0_0 a0_1 a0_2 a0_3 a0_4 a0_5 a0_6 a0_7 a0_8 a0_9 a0_10 a0_11 a0_12 a0_13 a0_14 a0_15 a0_16 a0_17 a0_18 a0_19 a0_20 a0_21 a0_22 a0_23 a0_24 a0_25 a0_26 a0_27 a1 len1 cap1 z1 w w0_0 w0_1 w0_2 w0_3 w0_4 w0_5 w0_6 w0_7 w0_8 w0_9 w0_10 w0_11 w0_12 w0_13 w0_14 w0_15 w0_16 w0_17 w0_18 w0_19 w0_20 w0_21 w0_22 w0_23 w0_24 w0_25 w0_26 w0_27 w1

/-! ### THE ROW's STEP: WRITTEN OUT: LEAVE IT -/
set_option maxRecDepth 100000 in
theorem lifted (os : Os) (started : os.Started) (H : Type) (enc : TypeId × Value → H) :
    ReturnsInHanded {} Try.checked os 4 .any (Rows.counterCountsSpec.pre6 enc Try.prog Try.f4 Rows.counterCountsRow.domain false) (Rows.counterCountsSpec.post enc Try.prog Try.f4 false true false false) := by
  refine returnsInHanded_of_change (C := Try.checked) own started (by kernel_rfl) Try.func4
    (ChangeSpec.witness6 (enc := enc) (C := Try.checked) false ⟨#[], #[.agg #[.int .u16 0, .int .u16 0, .int .u16 0, .int .u16 0, .int .u16 0, .int .u16 0, .int .u16 0, .int .u16 0, .int .u16 0, .int .u16 0, .int .u16 0, .int .u16 0, .int .u16 0, .int .u16 0, .int .u16 0, .int .u16 0, .int .u16 0, .int .u16 0, .int .u16 0, .int .u16 0, .int .u16 0, .int .u16 0, .int .u16 0, .int .u16 0, .int .u16 0, .int .u16 0, .int .u16 0, .int .u16 0], .slice none 0 0], []⟩ 8 (by kernel_rfl) (by kernel_rfl) (by kernel_rfl) (by kernel_rfl)) ?_
  intro W base args ds gs before hval0 hW hcnd _
  have hval : ∀ (j : Nat) t v, Try.f4.params[j]? = some t → args[j]? = some v → Value.okWide Try.prog W .any base t v := hval0
  have hW' := hW
  obtain ⟨p, q, hA0, hV, rfl, hfz, hnd⟩ := hW
  have hA : DataW.TrodAll enc Try.prog W 0 (fun _ => true) true Try.f4.params.toList args.toList ds p := hA0
  rw [Try.params4] at hA hval
  obtain ⟨v0, vs0, d0, ds0, p0, q0, hargs, rfl, rfl, h0, r0⟩ := trodAll_cons hA
  obtain ⟨v1, vs1, d1, ds1, p1, q1, rfl, rfl, rfl, h1, r1⟩ := trodAll_cons r0
  obtain ⟨rfl, rfl, rfl⟩ := trodAll_nil r1
  obtain rfl : args = #[v0, v1] := by cases args; simp_all
  obtain ⟨rfl, rfl⟩ := trodVars_none hV
  have k0 := h0
  have lt0 : ∀ x ∈ p0, x.block < W.heap.size := by obtain ⟨m, hm⟩ := k0; exact DataW.trod_lt m _ _ _ hm
  obtain ⟨s0, rfl, z0⟩ := okWide_array Try.underlying42 (hval 0 42 v0 rfl rfl)
  obtain ⟨c0_0, c0_1, c0_2, c0_3, c0_4, c0_5, c0_6, c0_7, c0_8, c0_9, c0_10, c0_11, c0_12, c0_13, c0_14, c0_15, c0_16, c0_17, c0_18, c0_19, c0_20, c0_21, c0_22, c0_23, c0_24, c0_25, c0_26, c0_27, rfl⟩ := arr28 (z0.trans (show Try.prog.cellsOf 42 = 28 by kernel_rfl))
  obtain ⟨_, _, t0_0⟩ := agg_elem Try.underlying42 h0 0 (by decide) (by kernel_rfl) c0_0 rfl
  obtain ⟨a0_0, e0_0, _, w0_0⟩ := DataW.trod_int Try.underlying35 t0_0
  cases e0_0
  obtain ⟨_, _, t0_1⟩ := agg_elem Try.underlying42 h0 1 (by decide) (by kernel_rfl) c0_1 rfl
  obtain ⟨a0_1, e0_1, _, w0_1⟩ := DataW.trod_int Try.underlying35 t0_1
  cases e0_1
  obtain ⟨_, _, t0_2⟩ := agg_elem Try.underlying42 h0 2 (by decide) (by kernel_rfl) c0_2 rfl
  obtain ⟨a0_2, e0_2, _, w0_2⟩ := DataW.trod_int Try.underlying35 t0_2
  cases e0_2
  obtain ⟨_, _, t0_3⟩ := agg_elem Try.underlying42 h0 3 (by decide) (by kernel_rfl) c0_3 rfl
  obtain ⟨a0_3, e0_3, _, w0_3⟩ := DataW.trod_int Try.underlying35 t0_3
  cases e0_3
  obtain ⟨_, _, t0_4⟩ := agg_elem Try.underlying42 h0 4 (by decide) (by kernel_rfl) c0_4 rfl
  obtain ⟨a0_4, e0_4, _, w0_4⟩ := DataW.trod_int Try.underlying35 t0_4
  cases e0_4
  obtain ⟨_, _, t0_5⟩ := agg_elem Try.underlying42 h0 5 (by decide) (by kernel_rfl) c0_5 rfl
  obtain ⟨a0_5, e0_5, _, w0_5⟩ := DataW.trod_int Try.underlying35 t0_5
  cases e0_5
  obtain ⟨_, _, t0_6⟩ := agg_elem Try.underlying42 h0 6 (by decide) (by kernel_rfl) c0_6 rfl
  obtain ⟨a0_6, e0_6, _, w0_6⟩ := DataW.trod_int Try.underlying35 t0_6
  cases e0_6
  obtain ⟨_, _, t0_7⟩ := agg_elem Try.underlying42 h0 7 (by decide) (by kernel_rfl) c0_7 rfl
  obtain ⟨a0_7, e0_7, _, w0_7⟩ := DataW.trod_int Try.underlying35 t0_7
  cases e0_7
  obtain ⟨_, _, t0_8⟩ := agg_elem Try.underlying42 h0 8 (by decide) (by kernel_rfl) c0_8 rfl
  obtain ⟨a0_8, e0_8, _, w0_8⟩ := DataW.trod_int Try.underlying35 t0_8
  cases e0_8
  obtain ⟨_, _, t0_9⟩ := agg_elem Try.underlying42 h0 9 (by decide) (by kernel_rfl) c0_9 rfl
  obtain ⟨a0_9, e0_9, _, w0_9⟩ := DataW.trod_int Try.underlying35 t0_9
  cases e0_9
  obtain ⟨_, _, t0_10⟩ := agg_elem Try.underlying42 h0 10 (by decide) (by kernel_rfl) c0_10 rfl
  obtain ⟨a0_10, e0_10, _, w0_10⟩ := DataW.trod_int Try.underlying35 t0_10
  cases e0_10
  obtain ⟨_, _, t0_11⟩ := agg_elem Try.underlying42 h0 11 (by decide) (by kernel_rfl) c0_11 rfl
  obtain ⟨a0_11, e0_11, _, w0_11⟩ := DataW.trod_int Try.underlying35 t0_11
  cases e0_11
  obtain ⟨_, _, t0_12⟩ := agg_elem Try.underlying42 h0 12 (by decide) (by kernel_rfl) c0_12 rfl
  obtain ⟨a0_12, e0_12, _, w0_12⟩ := DataW.trod_int Try.underlying35 t0_12
  cases e0_12
  obtain ⟨_, _, t0_13⟩ := agg_elem Try.underlying42 h0 13 (by decide) (by kernel_rfl) c0_13 rfl
  obtain ⟨a0_13, e0_13, _, w0_13⟩ := DataW.trod_int Try.underlying35 t0_13
  cases e0_13
  obtain ⟨_, _, t0_14⟩ := agg_elem Try.underlying42 h0 14 (by decide) (by kernel_rfl) c0_14 rfl
  obtain ⟨a0_14, e0_14, _, w0_14⟩ := DataW.trod_int Try.underlying35 t0_14
  cases e0_14
  obtain ⟨_, _, t0_15⟩ := agg_elem Try.underlying42 h0 15 (by decide) (by kernel_rfl) c0_15 rfl
  obtain ⟨a0_15, e0_15, _, w0_15⟩ := DataW.trod_int Try.underlying35 t0_15
  cases e0_15
  obtain ⟨_, _, t0_16⟩ := agg_elem Try.underlying42 h0 16 (by decide) (by kernel_rfl) c0_16 rfl
  obtain ⟨a0_16, e0_16, _, w0_16⟩ := DataW.trod_int Try.underlying35 t0_16
  cases e0_16
  obtain ⟨_, _, t0_17⟩ := agg_elem Try.underlying42 h0 17 (by decide) (by kernel_rfl) c0_17 rfl
  obtain ⟨a0_17, e0_17, _, w0_17⟩ := DataW.trod_int Try.underlying35 t0_17
  cases e0_17
  obtain ⟨_, _, t0_18⟩ := agg_elem Try.underlying42 h0 18 (by decide) (by kernel_rfl) c0_18 rfl
  obtain ⟨a0_18, e0_18, _, w0_18⟩ := DataW.trod_int Try.underlying35 t0_18
  cases e0_18
  obtain ⟨_, _, t0_19⟩ := agg_elem Try.underlying42 h0 19 (by decide) (by kernel_rfl) c0_19 rfl
  obtain ⟨a0_19, e0_19, _, w0_19⟩ := DataW.trod_int Try.underlying35 t0_19
  cases e0_19
  obtain ⟨_, _, t0_20⟩ := agg_elem Try.underlying42 h0 20 (by decide) (by kernel_rfl) c0_20 rfl
  obtain ⟨a0_20, e0_20, _, w0_20⟩ := DataW.trod_int Try.underlying35 t0_20
  cases e0_20
  obtain ⟨_, _, t0_21⟩ := agg_elem Try.underlying42 h0 21 (by decide) (by kernel_rfl) c0_21 rfl
  obtain ⟨a0_21, e0_21, _, w0_21⟩ := DataW.trod_int Try.underlying35 t0_21
  cases e0_21
  obtain ⟨_, _, t0_22⟩ := agg_elem Try.underlying42 h0 22 (by decide) (by kernel_rfl) c0_22 rfl
  obtain ⟨a0_22, e0_22, _, w0_22⟩ := DataW.trod_int Try.underlying35 t0_22
  cases e0_22
  obtain ⟨_, _, t0_23⟩ := agg_elem Try.underlying42 h0 23 (by decide) (by kernel_rfl) c0_23 rfl
  obtain ⟨a0_23, e0_23, _, w0_23⟩ := DataW.trod_int Try.underlying35 t0_23
  cases e0_23
  obtain ⟨_, _, t0_24⟩ := agg_elem Try.underlying42 h0 24 (by decide) (by kernel_rfl) c0_24 rfl
  obtain ⟨a0_24, e0_24, _, w0_24⟩ := DataW.trod_int Try.underlying35 t0_24
  cases e0_24
  obtain ⟨_, _, t0_25⟩ := agg_elem Try.underlying42 h0 25 (by decide) (by kernel_rfl) c0_25 rfl
  obtain ⟨a0_25, e0_25, _, w0_25⟩ := DataW.trod_int Try.underlying35 t0_25
  cases e0_25
  obtain ⟨_, _, t0_26⟩ := agg_elem Try.underlying42 h0 26 (by decide) (by kernel_rfl) c0_26 rfl
  obtain ⟨a0_26, e0_26, _, w0_26⟩ := DataW.trod_int Try.underlying35 t0_26
  cases e0_26
  obtain ⟨_, _, t0_27⟩ := agg_elem Try.underlying42 h0 27 (by decide) (by kernel_rfl) c0_27 rfl
  obtain ⟨a0_27, e0_27, _, w0_27⟩ := DataW.trod_int Try.underlying35 t0_27
  cases e0_27
  obtain ⟨a1, len1, cap1, rfl⟩ := okWide_slice Try.underlying43 (hval 1 43 v1 rfl rfl)
  have k1 := h1
  have lt1 : ∀ x ∈ p1, x.block < W.heap.size := by obtain ⟨m, hm⟩ := k1; exact DataW.trod_lt m _ _ _ hm
  obtain ⟨z1, w1⟩ : ∃ z, IsBytes W a1 len1 cap1 z := by
    obtain ⟨fuel, hf⟩ := h1
    obtain ⟨_, _, _, z, e, hz⟩ := open_bytes Try.underlying43 Try.underlying5 (by kernel_rfl) hf
    cases e; exact ⟨z, hz⟩
  clear hA0 hval0
  refine (walk a0_0 a0_1 a0_2 a0_3 a0_4 a0_5 a0_6 a0_7 a0_8 a0_9 a0_10 a0_11 a0_12 a0_13 a0_14 a0_15 a0_16 a0_17 a0_18 a0_19 a0_20 a0_21 a0_22 a0_23 a0_24 a0_25 a0_26 a0_27 a1 len1 cap1 z1 W w0_0 w0_1 w0_2 w0_3 w0_4 w0_5 w0_6 w0_7 w0_8 w0_9 w0_10 w0_11 w0_12 w0_13 w0_14 w0_15 w0_16 w0_17 w0_18 w0_19 w0_20 w0_21 w0_22 w0_23 w0_24 w0_25 w0_26 w0_27 w1).mono fun e W' ⟨he, bel⟩ => ?_
  subst he
  exact ⟨_, rfl, _, _, _, [], _, [], hW', trodAll_mk1 (shut_bool Try.underlying4 _), (trodAll_cons_mk (Below.trod laidOut (by kernel_rfl) (of_decide_eq_true (by kernel_rfl)) k0 bel lt0) (trodAll_cons_mk (Below.trod laidOut (by kernel_rfl) (of_decide_eq_true (by kernel_rfl)) k1 bel lt1) trodAll_mk0)), rfl, bel.frame _, fun h => by cases h⟩

theorem over : Rows.counterCountsRow.holds Try.pinned (OpenSpec.ofChange Rows.counterCountsSpec) :=
  OpenClaim.holds_of_wide 4 Try.f4 rfl rfl rfl rfl rfl rfl rfl ⟨rfl, rfl, rfl, rfl, rfl⟩ rfl rfl rfl rfl rfl (by kernel_rfl) Try.func4 (by kernel_rfl)
    (of_decide_eq_true (by kernel_rfl)) (by unfold Func.isWrapper; first | (rw [if_pos (by decide +kernel)]; kernel_rfl) | (rw [if_neg (by decide +kernel)]; exact ⟨rfl, rfl⟩))
    (fun os started H enc _ => lifted os started H enc)

/-- ████ THE STATEMENT ████ -/
theorem proved : Rows.CounterCountsSaid := over
#print axioms proved
end Go.Proofs.Yteongalbljdjlaa.counterCounts
