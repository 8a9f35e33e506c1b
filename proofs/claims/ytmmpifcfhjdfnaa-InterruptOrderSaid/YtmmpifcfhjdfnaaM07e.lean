/- Contracts of layer 7: Choose. -/
import Derived.Test.YtmmpifcfhjdfnaaM07d
set_option linter.unusedSimpArgs false
set_option linter.unusedVariables false
set_option maxRecDepth 100000
namespace Go.Proofs.Ytmmpifcfhjdfnaa
open Go.RowKit Go.Shelf Go.ChangeShapes Go.WideShapes Go.ChangeAt
attribute [local go_sem] Oper.semAt_some
theorem boxed_below {W W' : World} {B g : Nat} {t : TypeId} {v : Value} (h : Boxed W g t v) (hb : Below B W W') (hg : g < B) : Boxed W' g t v := (hb.block g hg).trans h
def oneD : TypeDesc → Bool
  | .struct _ => false
  | .array _ _ => false
  | _ => true
theorem run_loadVar_one {P : Program} {T : TypeId} {v : Value} {d : TypeDesc} (ht : P.underlying T = some d) (hd : oneD d = true) (w : World) (g : Nat) (hc : w.cell? ⟨g, 0, none⟩ = some v) : (loadVar T ⟨g, 0, none⟩).run P w = .ok v w := by
  simp [loadVar, isAgg, run_underlying ht, Sem.run_bind, Result.andThen]
  cases d <;> simp_all [go_sem, oneD]
theorem results_cells2 {fn : Func} {p q : Tmp} {T U : TypeId} {dt du : TypeDesc} (h : fn.results = #[.cell p T, .cell q U]) {P : Program} (ht : P.underlying T = some dt) (hdt : oneD dt = true) (hu : P.underlying U = some du) (hdu : oneD du = true)
    (tmps : Array Value) (w : World) (g1 g2 : Nat) (v u : Value) (hp : tmps.getD p undef = .pointer (some ⟨g1, 0, none⟩)) (hq : tmps.getD q undef = .pointer (some ⟨g2, 0, none⟩)) (h1 : w.cell? ⟨g1, 0, none⟩ = some v) (h2 : w.cell? ⟨g2, 0, none⟩ = some u) :
    (results fn tmps).run P w = .ok (.tuple #[v, u]) w := by
  rw [Array.getD_eq_getD_getElem?] at hp hq
  simp only [results, h]
  simp [Sem.run_bind, Result.andThen, hp, hq, asAddr, run_loadVar_one ht hdt w g1 h1, run_loadVar_one hu hdu w g2 h2]
/-- The number that was taken first. -/
def hd1 (pre : List (Fin 10)) : Int := match pre with
  | [] => 0
  | x :: _ => (x.val : Int) + 1
def ChI (g : Nat) (w : World) (pre : List (Fin 10)) (W : World) : Prop := pre = [] ∧ Boxed W (g + 2) 3 (.int .i64 0) ∧ Boxed W (g + 3) 4 (.bool false) ∧ Below g w W
def ChX (g : Nat) (w : World) (c : Code) (pre : List (Fin 10)) (W : World) : Prop := (c = .ret ∧ pre.length = 1) ∧ Boxed W (g + 2) 3 (.int .i64 (hd1 pre)) ∧ Boxed W (g + 3) 4 (.bool true) ∧ Below g w W
theorem ChI.own (g : Nat) (w : World) (hw : w.heap.size = g) (B : Nat) (hB : g ≤ B) : OwnFrom B (ChI g w) :=
  OwnFrom.and (ownFrom_pure B (fun pre => pre = [])) (OwnFrom.and (Own.from (boxed_own (g + 2) 3 (fun _ => .int .i64 0)) _)
    (OwnFrom.and (Own.from (boxed_own (g + 3) 4 (fun _ => .bool false)) _) (ownFrom_below (Nat.le_of_eq hw.symm) hB)))
theorem ChX.own (g : Nat) (w : World) (hw : w.heap.size = g) (B : Nat) (hB : g ≤ B) (c : Code) : OwnFrom B (ChX g w c) :=
  OwnFrom.and (ownFrom_pure B (fun pre : List (Fin 10) => c = .ret ∧ pre.length = 1)) (OwnFrom.and (Own.from (boxed_own (g + 2) 3 (fun pre => .int .i64 (hd1 pre))) _)
    (OwnFrom.and (Own.from (boxed_own (g + 3) 4 (fun _ => .bool true)) _) (ownFrom_below (Nat.le_of_eq hw.symm) hB)))
theorem first_of {p : Int} {pre : List (Fin 10)} (h : Sofar p pre) (h1 : pre.length = 1) : hd1 pre = ((fs p 10 : Nat) : Int) ∧ fs p 10 ≠ 0 := by
  obtain ⟨j, x, hj, hp, e, hx⟩ := h
  have e1 : yl p j = [] := by
    rcases hl : yl p j with _ | ⟨a, l⟩
    · rfl
    · rw [e, hl] at h1; simp at h1
  rw [e1] at e
  subst e
  have := fs_at p j hj (yl_nil p j (by omega) e1) hp
  rw [this]
  refine ⟨?_, by omega⟩
  show (x.val : Int) + 1 = _
  omega
theorem choose_end {w : World} (D V : Nat) (hD : V ≤ D) (Z : World) (hK : Z.heap[D]? = some (.deferred (some []))) {g1 g2 : Nat} (h1 : g1 < V) (h2 : g2 < V) {a b : Value} (c1 : Boxed Z g1 3 a) (c2 : Boxed Z g2 4 b) {tmps : Array Value} (hp : tmps.getD 4 undef = .pointer (some ⟨g1, 0, none⟩)) (hq : tmps.getD 5 undef = .pointer (some ⟨g2, 0, none⟩))
    (hX : Below w.heap.size w Z) (hw : w.heap.size ≤ V) {r : Value} (hr : r = .tuple #[a, b]) :
    bodyPostM Fence.wide 3 Try.prog Try.f15 (fun e w' => e = .returned r ∧ Below w.heap.size w w') .ret { tmps := tmps, defers := [{ target := .collected D, args := #[] }] } Z := by
  subst hr
  have hP : Below V Z (Z.putObj D (.deferred none)) := ⟨rfl, rfl, rfl, by simp [World.putObj], fun k hk => by simp [World.putObj]; rw [Array.getElem?_setIfInBounds_ne (by omega)]⟩
  refine ⟨by simp, .inl ⟨_, _, rfl, run_takeDeferred hK, ?_⟩⟩
  exact ⟨_, results_cells2 Try.results15 Try.underlying3 rfl Try.underlying4 rfl tmps _ g1 g2 a b hp hq ((hP.cell (p := ⟨g1, 0, none⟩) h1).trans c1.cell) ((hP.cell (p := ⟨g2, 0, none⟩) h2).trans c2.cell), rfl, hX.trans (hP.mono hw)⟩
set_option maxHeartbeats 2000000 in
theorem Choose_yes (p : Int) (p0 : 0 ≤ p) (p1 : p < 65536) (r : Rg) (hf : r.Fit) (ha : alw r = true) (n : Nat) (hn : fs p 10 = n) (w : World) :
    Calls Try.prog 15 #[.agg #[.int .u16 p], .agg #[.int .u16 r.A, .int .u16 r.L, .int .u16 r.Q, .int .i64 r.Z, .int .i64 r.EB, .int .i64 r.FB, .int .i64 r.Su, .bool r.Ex, .int .u16 r.Ix, .bool r.Hd, .int .u16 r.B, .bool r.Ih, .bool r.Sv]] w fun e w' => e = .returned (.tuple #[.int .i64 n, .bool (decide (n ≠ 0))]) ∧ Below w.heap.size w w' := by
  refine (callsIn_wide (n := 3)).1 ?_
  refine callsIn_of_wp_marks Try.func15 rfl trivial ?_ rfl
  simp only [Try.ntmps15, List.size_toArray, List.length_cons, List.length_nil, Nat.reduceAdd, Nat.reduceSub, Array.replicate_succ, Array.replicate_zero, List.push_toArray, List.append_toArray, List.nil_append, List.cons_append]
  gi_wp2_with (fail)
  refine ⟨trivial, ?_⟩
  refine (callsIn_wide.2 (Allowed_any r hf true ha _)).mono ?_
  rintro e w1 ⟨rfl, hb⟩
  have hz := hb.size
  simp only [World.size_alloc] at hz
  have kA := ((((Blk.new w 28 [.int .u16 p] _ rfl).alloc (by simp) (.cells (rgList r).toArray 26)).alloc (by simp; omega) (.cells #[.int .i64 0] 3)).alloc (by simp; omega) (.cells #[.bool false] 4)).below hb (by simp; omega)
  have bC := (Boxed.new ((w.alloc (.cells #[.int .u16 p] 28)).alloc (.cells (rgList r).toArray 26)) 3 (.int .i64 0)).alloc (.cells #[.bool false] 4)
  have bD := Boxed.new (((w.alloc (.cells #[.int .u16 p] 28)).alloc (.cells (rgList r).toArray 26)).alloc (.cells #[.int .i64 0] 3)) 4 (.bool false)
  simp only [World.size_alloc] at bC bD
  have hX : Below w.heap.size w w1 := ((((((Below.refl w.heap.size w).alloc (Nat.le_refl _) _).alloc (by simp) _).alloc (by simp; omega) _).alloc (by simp; omega) _)).trans (hb.mono (by simp; omega))
  have bC1 := boxed_below bC hb (by simp)
  have bD1 := boxed_below bD hb (by simp)
  have hcA := kA.cell 0 _ rfl
  have bP := (Blk.new w1 28 [.int .u16 p] _ rfl).cell 0 _ rfl
  have HX := Lib.hid (hX.alloc (by omega) (.cells #[.int .u16 p] 28))
  have bC2 := Lib.hid (bC1.alloc (.cells #[.int .u16 p] 28))
  have bD2 := Lib.hid (bD1.alloc (.cells #[.int .u16 p] 28))
  clear hb bC bD bC1 bD1 hX kA
  gi_wp2_with (refine ⟨trivial, ?_⟩; gi_at_call 30; refine (pending_in _ _ _).mono ?_; rintro e w' ⟨rfl, rfl⟩)
  have hsz : (w1.alloc (.cells #[.int .u16 p] 28)).heap.size = w1.heap.size + 1 := by simp
  generalize w1.alloc (.cells #[.int .u16 p] 28) = V at *
  refine wpIn_rangeFunc_ownG rfl (by omega) (gf := 36) (lb := #[.pointer (some ⟨w1.heap.size, 0, none⟩)]) rfl trivial (enters_of Try.func36 (by kernel_rfl) rfl)
    (pending_stops _ (by omega) w1.heap.size p p0 p1 (KpB w.heap.size w1.heap.size) KpB.box V (by omega) bP) KpB.trans (KpB.put (by omega) (by omega)) (Below.refl _ _) (fun _ => rfl)
    (ChI w.heap.size w) (ChX w.heap.size w)
    (ChI.own _ _ rfl _ (by omega))
    (ChX.own _ _ rfl _ (by omega))
    ⟨rfl, bC2.out, bD2.out, HX.out⟩
    (fun x => { tmps := #[.agg #[.int .u16 p], .agg #[.int .u16 r.A, .int .u16 r.L, .int .u16 r.Q, .int .i64 r.Z, .int .i64 r.EB, .int .i64 r.FB, .int .i64 r.Su, .bool r.Ex, .int .u16 r.Ix, .bool r.Hd, .int .u16 r.B, .bool r.Ih, .bool r.Sv], .pointer (some ⟨w.heap.size, 0, none⟩), .pointer (some ⟨w.heap.size + 1, 0, none⟩), .pointer (some ⟨w.heap.size + 1 + 1, 0, none⟩), .pointer (some ⟨w.heap.size + 1 + 1 + 1, 0, none⟩), .int .i64 ((x.val : Int) + 1), .agg #[.int .u16 r.A, .int .u16 r.L, .int .u16 r.Q, .int .i64 r.Z, .int .i64 r.EB, .int .i64 r.FB, .int .i64 r.Su, .bool r.Ex, .int .u16 r.Ix, .bool r.Hd, .int .u16 r.B, .bool r.Ih, .bool r.Sv], .bool true, .bool false, .agg #[.int .u16 p], .func (.func 36) #[] #[.pointer (some ⟨w1.heap.size, 0, none⟩)], .int .i64 ((x.val : Int) + 1), undef], defers := [] }) ?assign ?body ?done ?stop
  case assign =>
    intro l x W K hK
    gi_wp2
    exact hK
  case body =>
    rintro l pre x W ⟨rfl, h2, h3, hB⟩ hlt
    have hc2 := h2.cell
    have hf2 := h2.frozen
    have hc3 := h3.cell
    have hf3 := h3.frozen
    have HB := Lib.hid hB
    have H2 := Lib.hid h2
    have H3 := Lib.hid h3
    clear hB h2 h3
    gi_wp2
    have e1 : ⟨w.heap.size + 1 + 1, 0, none⟩ ≠ (⟨w.heap.size + 1 + 1 + 1, 0, none⟩ : Addr) := by intro e; injection e with e; omega
    have s1 := Boxed.other (Boxed.set (.int .i64 ((x.val : Int) + 1)) H2.out) (B' := w.heap.size + 1 + 1 + 1) (by omega) (.bool true)
    have s2 := Boxed.set (.bool true) (Boxed.other H3.out (B' := w.heap.size + 1 + 1) (by omega) (.int .i64 ((x.val : Int) + 1)))
    exact ⟨((KeepsOthers.setCell _ _ _).trans (KeepsOthers.setCell _ _ _)).from _, ⟨rfl, rfl⟩, s1, s2, (HB.out.setCell (p := ⟨w.heap.size + 1 + 1, 0, none⟩) (by show _ ≤ w.heap.size + 1 + 1; omega) _).setCell (p := ⟨w.heap.size + 1 + 1 + 1, 0, none⟩) (by show _ ≤ w.heap.size + 1 + 1 + 1; omega) _⟩
  case done =>
    rintro D ys W hD rfl ⟨he, h2, h3, hB⟩ hK
    have hc2 := h2.cell
    have hf2 := h2.frozen
    have hc3 := h3.cell
    have hf3 := h3.frozen
    have hn0 : n = 0 := by rw [← hn]; exact yl_nil p 10 (by omega) he
    subst hn0
    have HB := Lib.hid hB
    have H2 := Lib.hid h2
    have H3 := Lib.hid h3
    clear hB h2 h3
    gi_wp2
    have s1 := Boxed.other (Boxed.set (.int .i64 0) H2.out) (B' := w.heap.size + 1 + 1 + 1) (by omega) (.bool false)
    have s2 := Boxed.set (.bool false) (Boxed.other H3.out (B' := w.heap.size + 1 + 1) (by omega) (.int .i64 0))
    have hX := (HB.out.setCell (p := ⟨w.heap.size + 1 + 1, 0, none⟩) (by show _ ≤ w.heap.size + 1 + 1; omega) (.int .i64 0)).setCell (p := ⟨w.heap.size + 1 + 1 + 1, 0, none⟩) (by show _ ≤ w.heap.size + 1 + 1 + 1; omega) (.bool false)
    have hK' : ((W.setCell ⟨w.heap.size + 1 + 1, 0, none⟩ (.int .i64 0)).setCell ⟨w.heap.size + 1 + 1 + 1, 0, none⟩ (.bool false)).heap[D]? = some (.deferred (some [])) := by
      rw [Below.heap_setCell _ _ _ _ (show D ≠ w.heap.size + 1 + 1 + 1 by omega), Below.heap_setCell _ _ _ _ (show D ≠ w.heap.size + 1 + 1 by omega)]; exact hK
    exact choose_end D V.heap.size (by omega) _ hK' (by omega) (by omega) s1 s2 rfl rfl hX (by omega) (by rfl)
  case stop =>
    rintro D c pre W hD hS ⟨⟨rfl, hl⟩, h2, h3, hB⟩ hK
    have hh := first_of hS hl
    rw [hh.1, hn] at h2
    have hn0 : n ≠ 0 := by rw [← hn]; exact hh.2
    have HB := Lib.hid hB
    have H2 := Lib.hid h2
    have H3 := Lib.hid h3
    clear hB h2 h3
    gi_wp2
    exact choose_end D V.heap.size (by omega) _ hK (by omega) (by omega) H2.out H3.out rfl rfl HB.out (by omega) (by simp [hn0])
end Go.Proofs.Ytmmpifcfhjdfnaa
