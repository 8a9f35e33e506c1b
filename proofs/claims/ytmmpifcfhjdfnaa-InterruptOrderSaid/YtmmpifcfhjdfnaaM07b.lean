/- Contracts of layer 7: collect. -/
import Derived.Test.YtmmpifcfhjdfnaaM07a
import Derived.Test.YtmmpifcfhjdfnaaP07b
set_option linter.unusedSimpArgs false
set_option linter.unusedVariables false
set_option maxRecDepth 100000
namespace Go.Proofs.Ytmmpifcfhjdfnaa
open Go.RowKit Go.Shelf Go.ChangeShapes Go.WideShapes Go.ChangeAt
attribute [local go_sem] Oper.semAt_some
theorem results_struct1 {P : Program} {fn : Func} {w : World} {p : Tmp} {T : TypeId} {fs : Array Field} (hres : fn.results = #[.cell p T]) (ht : P.underlying T = some (.struct fs)) (cs : List Value) (hi : (P.info? T).map (·.size) = some cs.length) (g : Nat)
    (tmps : Array Value) (hp : tmps.getD p undef = .pointer (some ⟨g, 0, none⟩)) (hc : ∀ j v, cs[j]? = some v → w.cell? ⟨g, j, none⟩ = some v) : (results fn tmps).run P w = .ok (.agg cs.toArray) w := by
  rw [results_cell hres, hp]
  simp [asAddr, Sem.run_bind, Result.andThen, run_loadVar_struct ht cs hi w g hc]
/-- What collect keeps while it ranges: g is its first block. -/
def CI (p wo : Int) (g : Nat) (w : World) (pre : List (Fin 10)) (W : World) : Prop :=
  Boxed W (g + 1) 3 (.int .i64 wo) ∧ Boxed W (g + 2) 28 (.int .u16 0) ∧ Boxed W (g + 3) 28 (.int .u16 (cl wo pre)) ∧ Below g w W
theorem CI.own (p wo : Int) (g : Nat) (w : World) (hw : w.heap.size = g) (B : Nat) (hB : g ≤ B) : OwnFrom B (CI p wo g w) :=
  OwnFrom.and (Own.from (boxed_own (g + 1) 3 (fun _ => .int .i64 wo)) _) (OwnFrom.and (Own.from (boxed_own (g + 2) 28 (fun _ => .int .u16 0)) _)
    (OwnFrom.and (Own.from (boxed_own (g + 3) 28 (fun pre => .int .u16 (cl wo pre))) _) (ownFrom_below (Nat.le_of_eq hw.symm) hB)))
set_option maxHeartbeats 2000000 in
theorem collect_any (p wo : Int) (p0 : 0 ≤ p) (p1 : p < 65536) (w : World) :
    Calls Try.prog 20 #[.agg #[.int .u16 p], .int .i64 wo] w fun e w' => e = .returned (.agg #[.int .u16 (sB (kq p wo) 10 : Nat)]) ∧ Below w.heap.size w w' := by
  refine (callsIn_wide (n := 3)).1 ?_
  refine callsIn_of_wp_marks Try.func20 rfl trivial ?_ rfl
  simp only [Try.ntmps20, List.size_toArray, List.length_cons, List.length_nil, Nat.reduceAdd, Nat.reduceSub, Array.replicate_succ, Array.replicate_zero, List.push_toArray, List.append_toArray, List.nil_append, List.cons_append]
  gi_wp2_with (refine ⟨trivial, ?_⟩; gi_at_call 30; refine (pending_in _ _ _).mono ?_; rintro e w' ⟨rfl, rfl⟩)
  have bA := ((((Boxed.new w 28 (.int .u16 p)).alloc (.cells #[.int .i64 wo] 3)).alloc (.cells #[.int .u16 0] 28)).alloc (.cells #[.int .u16 0] 28)).alloc (.cells #[.int .u16 p] 28)
  have bB := (((Boxed.new (w.alloc (.cells #[.int .u16 p] 28)) 3 (.int .i64 wo)).alloc (.cells #[.int .u16 0] 28)).alloc (.cells #[.int .u16 0] 28)).alloc (.cells #[.int .u16 p] 28)
  have bC := ((Boxed.new ((w.alloc (.cells #[.int .u16 p] 28)).alloc (.cells #[.int .i64 wo] 3)) 28 (.int .u16 0)).alloc (.cells #[.int .u16 0] 28)).alloc (.cells #[.int .u16 p] 28)
  have bD := (Boxed.new (((w.alloc (.cells #[.int .u16 p] 28)).alloc (.cells #[.int .i64 wo] 3)).alloc (.cells #[.int .u16 0] 28)) 28 (.int .u16 0)).alloc (.cells #[.int .u16 p] 28)
  have bE := Boxed.new ((((w.alloc (.cells #[.int .u16 p] 28)).alloc (.cells #[.int .i64 wo] 3)).alloc (.cells #[.int .u16 0] 28)).alloc (.cells #[.int .u16 0] 28)) 28 (.int .u16 p)
  have hB0 : Below w.heap.size w (((((w.alloc (.cells #[.int .u16 p] 28)).alloc (.cells #[.int .i64 wo] 3)).alloc (.cells #[.int .u16 0] 28)).alloc (.cells #[.int .u16 0] 28)).alloc (.cells #[.int .u16 p] 28)) :=
    (((((Below.refl _ w).alloc (Nat.le_refl _) _).alloc (by simp) _).alloc (by simp; omega) _).alloc (by simp; omega) _).alloc (by simp; omega) _
  have hsz : (((((w.alloc (.cells #[.int .u16 p] 28)).alloc (.cells #[.int .i64 wo] 3)).alloc (.cells #[.int .u16 0] 28)).alloc (.cells #[.int .u16 0] 28)).alloc (.cells #[.int .u16 p] 28)).heap.size = w.heap.size + 5 := by simp
  simp only [World.size_alloc] at bB bC bD bE
  generalize (((((w.alloc (.cells #[.int .u16 p] 28)).alloc (.cells #[.int .i64 wo] 3)).alloc (.cells #[.int .u16 0] 28)).alloc (.cells #[.int .u16 0] 28)).alloc (.cells #[.int .u16 p] 28)) = V at *
  have hc := bE.cell
  refine wpIn_rangeFunc_ownG rfl (by omega) (gf := 36) (lb := #[.pointer (some ⟨w.heap.size + 1 + 1 + 1 + 1, 0, none⟩)]) rfl trivial (enters_of Try.func36 (by kernel_rfl) rfl)
    (pending_stops _ (by omega) (w.heap.size + 1 + 1 + 1 + 1) p p0 p1 (KpB w.heap.size (w.heap.size + 1 + 1 + 1 + 1)) KpB.box V (by omega) hc) KpB.trans (KpB.put (by omega) (by omega)) (Below.refl _ _) (fun _ => rfl)
    (CI p wo w.heap.size w)
    (fun _ _ _ => False)
    (CI.own _ _ _ _ rfl _ (by omega))
    (fun _ _ _ _ _ hs _ _ => hs)
    ⟨bB, bC, bD, hB0⟩
    (fun x => { tmps := #[.agg #[.int .u16 p], .int .i64 wo, .pointer (some ⟨w.heap.size, 0, none⟩), .pointer (some ⟨w.heap.size + 1, 0, none⟩), .pointer (some ⟨w.heap.size + 1 + 1, 0, none⟩), .pointer (some ⟨w.heap.size + 1 + 1 + 1, 0, none⟩), .int .i64 ((x.val : Int) + 1), .agg #[.int .u16 p], .func (.func 36) #[] #[.pointer (some ⟨w.heap.size + 1 + 1 + 1 + 1, 0, none⟩)], .int .i64 ((x.val : Int) + 1), undef, undef, undef, undef, undef, undef, undef, undef, undef, undef], defers := [] }) ?assign ?body ?done ?stop
  case assign =>
    intro l x W K hK
    gi_wp2
    exact hK
  case body =>
    rintro l pre x W ⟨h1, h2, h3, hB⟩ hlt
    have hc1 := h1.cell
    have hc3 := h3.cell
    have hf3 := h3.frozen
    have hx : x.val < 10 := x.isLt
    by_cases c : (x.val : Int) + 1 = wo
    · subst c
      have hl := cl_snoc_no ((x.val : Int) + 1) pre x rfl
      gi_wp2
      exact ⟨⟨Nat.le_refl _, fun _ _ _ h _ => h⟩, ⟨Below.refl _ _, rfl⟩, h1, h2, by rw [hl]; exact h3, hB⟩
    · have hl := Lib.hid (cl_snoc_yes wo pre x c)
      have H2 := Lib.hid h2
      clear h2
      have hne : ((x.val : Int) + 1 != wo) = true := by rw [bne_iff_ne]; exact c
      gi_wp2
      gi_region_with (refine ⟨trivial, ?_⟩; gi_at_call 29; refine (callsIn_wide.2 (bit_any (x.val + 1) (by omega) (by omega) _)).mono ?_; rintro e w' ⟨rfl, rfl⟩)
      all_goals gi_wp2
      all_goals
        refine ⟨((KeepsOthers.drew W).trans (KeepsOthers.setCell _ _ _)).from _, ⟨(Below.refl _ _).drew.setCell (by show _ ≤ w.heap.size + 3; omega) _, World.cell?_setCell_other _ _ _ _ (by intro e; injection e with e; omega)⟩, ?_, ?_, ?_, ?_⟩
        · exact Boxed.other h1 (by omega) _
        · exact Boxed.other H2.out (by omega) _
        · rw [hl.out]; exact Boxed.set _ h3
        · exact hB.drew.setCell (by show _ ≤ w.heap.size + 3; omega) _
  case done =>
    rintro D ys W hD rfl ⟨h1, h2, h3, hB⟩ hK
    have hc3 := h3.cell
    have hc2 := h2.cell
    have hf2 := h2.frozen
    rw [cl_all] at hc3
    gi_wp2
    have hD' : D ≠ w.heap.size + 1 + 1 := by omega
    have hK' : (W.setCell ⟨w.heap.size + 1 + 1, 0, none⟩ (.int .u16 (sB (kq p wo) 10 : Nat))).heap[D]? = some (.deferred (some [])) := by rw [Below.heap_setCell _ _ _ _ hD']; exact hK
    have hP := belowK_b (n₀ := V.heap.size) (w := V) (Nat.le_refl _) (W.setCell ⟨w.heap.size + 1 + 1, 0, none⟩ (.int .u16 (sB (kq p wo) 10 : Nat))) D _ (.deferred none) hD hK' rfl rfl
    refine ⟨by simp, .inl ⟨_, _, rfl, run_takeDeferred hK', ?_⟩⟩
    refine ⟨_, results_struct1 Try.results20 Try.underlying28 [.int .u16 (sB (kq p wo) 10 : Nat)] (by kernel_rfl) (w.heap.size + 1 + 1) _ rfl ?_, rfl, ?_⟩
    · intro j v hj
      match j, hj with
      | 0, hj =>
        simp at hj
        subst hj
        rw [hP.cell (p := ⟨w.heap.size + 1 + 1, 0, none⟩) (by show w.heap.size + 1 + 1 < _; omega)]
        exact World.cell?_setCell_same' _ _ _ (by rw [hc2]; rfl)
      | j + 1, hj => simp at hj
    · exact (hB.setCell (by show _ ≤ w.heap.size + 1 + 1; omega) _).trans (hP.mono (by omega))
  case stop =>
    rintro D c pre W _ _ h _
    exact h.elim
end Go.Proofs.Ytmmpifcfhjdfnaa
