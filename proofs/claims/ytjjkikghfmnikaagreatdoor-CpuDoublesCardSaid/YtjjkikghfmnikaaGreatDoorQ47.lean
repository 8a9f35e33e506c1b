/- Contracts of layer 7: Choose. -/
import Derived.Test.YtjjkikghfmnikaaGreatDoorQ46
import Derived.Test.YtjjkikghfmnikaaGreatDoorQ04
import Derived.Deep.WholeRow
import Derived.Test.YtjjkikghfmnikaaGreatDoorQ03
set_option linter.unusedSimpArgs false
set_option linter.unusedVariables false
set_option maxRecDepth 100000
namespace Go.Proofs.YtjjkikghfmnikaaGreatDoor
open Go.RowKit Go.Shelf Go.ChangeShapes Go.WideShapes Go.ChangeAt
attribute [local go_sem] Oper.semAt_some
theorem boxed_below {W W' : World} {B g : Nat} {t : TypeId} {v : Value} (h : Boxed W g t v) (hb : Below B W W') (hg : g < B) : Boxed W' g t v := (hb.block g hg).trans h
def oneD : TypeDesc → Bool
  | .struct _ => false
  | .array _ _ => false
  | _ => true
theorem run_loadVar_one {P : Program} {T : TypeId} {v : Value} {d : TypeDesc} (ht : P.underlying T = some d) (hd : oneD d = true) (w : World) (g : Nat) (hc : w.cell? ⟨g, 0, none⟩ = some v) : (loadVar T ⟨g, 0, none⟩).run P w = .ok v w := by
  simp [loadVar, isAgg, run_underlying ht, Sem.run_bind, Result.andThen]
  cases d <;> simp_all [go_sem, oneD]
theorem results_cells2 {fn : Func} {p q : Tmp} {T U : TypeId} {dt du : TypeDesc} (h : fn.results = #[.cell p T, .cell q U]) {P : Program} (ht : P.underlying T = some dt) (hdt : oneD dt = true) (hu : P.underlying U = some du) (hdu : oneD du = true)
    (tmps : Array Value) (w : World) (g1 g2 : Nat) (v u : Value) (hp : tmps.getD p undef = .pointer (some ⟨g1, 0, none⟩)) (hq : tmps.getD q undef = .pointer (some ⟨g2, 0, none⟩)) (h1 : w.cell? ⟨g1, 0, none⟩ = some v) (h2 : w.cell? ⟨g2, 0, none⟩ = some u) :
    (results fn tmps).run P w = .ok (.tuple #[v, u]) w := by
  rw [Array.getD_eq_getD_getElem?] at hp hq
  simp only [results, h]
  simp [Sem.run_bind, Result.andThen, hp, hq, asAddr, run_loadVar_one ht hdt w g1 h1, run_loadVar_one hu hdu w g2 h2]
/-- The number that was taken first. -/
def hd1 (pre : List (Fin 10)) : Int := match pre with
  | [] => 0
  | x :: _ => (x.val : Int) + 1
def ChI (g : Nat) (w : World) (pre : List (Fin 10)) (W : World) : Prop := pre = [] ∧ Boxed W (g + 2) 3 (.int .i64 0) ∧ Boxed W (g + 3) 4 (.bool false) ∧ Below g w W
def ChX (g : Nat) (w : World) (c : Code) (pre : List (Fin 10)) (W : World) : Prop := (c = .ret ∧ pre.length = 1) ∧ Boxed W (g + 2) 3 (.int .i64 (hd1 pre)) ∧ Boxed W (g + 3) 4 (.bool true) ∧ Below g w W
theorem ChI.own (g : Nat) (w : World) (hw : w.heap.size = g) (B : Nat) (hB : g ≤ B) : OwnFrom B (ChI g w) :=
  OwnFrom.and (ownFrom_pure B (fun pre => pre = [])) (OwnFrom.and (Own.from (boxed_own (g + 2) 3 (fun _ => .int .i64 0)) _)
    (OwnFrom.and (Own.from (boxed_own (g + 3) 4 (fun _ => .bool false)) _) (ownFrom_below (Nat.le_of_eq hw.symm) hB)))
theorem ChX.own (g : Nat) (w : World) (hw : w.heap.size = g) (B : Nat) (hB : g ≤ B) (c : Code) : OwnFrom B (ChX g w c) :=
  OwnFrom.and (ownFrom_pure B (fun pre : List (Fin 10) => c = .ret ∧ pre.length = 1)) (OwnFrom.and (Own.from (boxed_own (g + 2) 3 (fun pre => .int .i64 (hd1 pre))) _)
    (OwnFrom.and (Own.from (boxed_own (g + 3) 4 (fun _ => .bool true)) _) (ownFrom_below (Nat.le_of_eq hw.symm) hB)))
theorem first_of {p : Int} {pre : List (Fin 10)} (h : Sofar p pre) (h1 : pre.length = 1) : hd1 pre = ((fs p 10 : Nat) : Int) ∧ fs p 10 ≠ 0 := by
  obtain ⟨j, x, hj, hp, e, hx⟩ := h
  have e1 : yl p j = [] := by
    rcases hl : yl p j with _ | ⟨a, l⟩
    · rfl
    · rw [e, hl] at h1; simp at h1
  rw [e1] at e
  subst e
  have := fs_at p j hj (yl_nil p j (by omega) e1) hp
  rw [this]
  refine ⟨?_, by omega⟩
  show (x.val : Int) + 1 = _
  omega
theorem choose_end {w : World} (D V : Nat) (hD : V ≤ D) (Z : World) (hK : Z.heap[D]? = some (.deferred (some []))) {g1 g2 : Nat} (h1 : g1 < V) (h2 : g2 < V) {a b : Value} (c1 : Boxed Z g1 3 a) (c2 : Boxed Z g2 4 b) {tmps : Array Value} (hp : tmps.getD 4 undef = .pointer (some ⟨g1, 0, none⟩)) (hq : tmps.getD 5 undef = .pointer (some ⟨g2, 0, none⟩))
    (hX : Below w.heap.size w Z) (hw : w.heap.size ≤ V) {r : Value} (hr : r = .tuple #[a, b]) :
    bodyPostM Fence.wide 3 Tryz.prog Tryz.f68 (fun e w' => e = .returned r ∧ Below w.heap.size w w') .ret { tmps := tmps, defers := [{ target := .collected D, args := #[] }] } Z := by
  subst hr
  have hP : Below V Z (Z.putObj D (.deferred none)) := ⟨rfl, rfl, rfl, by simp [World.putObj], fun k hk => by simp [World.putObj]; rw [Array.getElem?_setIfInBounds_ne (by omega)]⟩
  refine ⟨by simp, .inl ⟨_, _, rfl, run_takeDeferred hK, ?_⟩⟩
  exact ⟨_, results_cells2 Tryz.results68 Tryz.underlying3 rfl Tryz.underlying4 rfl tmps _ g1 g2 a b hp hq ((hP.cell (p := ⟨g1, 0, none⟩) h1).trans c1.cell) ((hP.cell (p := ⟨g2, 0, none⟩) h2).trans c2.cell), rfl, hX.trans (hP.mono hw)⟩
set_option maxHeartbeats 2000000 in
theorem Choose_yes (p : Int) (p0 : 0 ≤ p) (p1 : p < 65536) (r : Rg) (hf : r.Fit) (ha : alw r = true) (n : Nat) (hn : fs p 10 = n) (w : World) :
    Calls Tryz.prog 68 #[.agg #[.int .u16 p], .agg #[.int .u16 r.A, .int .u16 r.L, .int .u16 r.Q, .int .i64 r.Z, .int .i64 r.EB, .int .i64 r.FB, .int .i64 r.Su, .bool r.Ex, .int .u16 r.Ix, .bool r.Hd, .int .u16 r.B, .bool r.Ih, .bool r.Sv]] w fun e w' => e = .returned (.tuple #[.int .i64 n, .bool (decide (n ≠ 0))]) ∧ Below w.heap.size w w' := by
  refine (callsIn_wide (n := 3)).1 ?_
  refine callsIn_of_wp_marks Tryz.func68 rfl trivial ?_ rfl
  simp only [Tryz.ntmps68, List.size_toArray, List.length_cons, List.length_nil, Nat.reduceAdd, Nat.reduceSub, Array.replicate_succ, Array.replicate_zero, List.push_toArray, List.append_toArray, List.nil_append, List.cons_append]
  gi_wp2_with (fail)
  refine ⟨trivial, ?_⟩
  refine (callsIn_wide.2 (Allowed_any r hf true ha _)).mono ?_
  rintro e w1 ⟨rfl, hb⟩
  have hz := hb.size
  simp only [World.size_alloc] at hz
  have kA := ((((Blk.new w 77 [.int .u16 p] _ rfl).alloc (by simp) (.cells (rgList r).toArray 26)).alloc (by simp; omega) (.cells #[.int .i64 0] 3)).alloc (by simp; omega) (.cells #[.bool false] 4)).below hb (by simp; omega)
  have bC := (Boxed.new ((w.alloc (.cells #[.int .u16 p] 77)).alloc (.cells (rgList r).toArray 26)) 3 (.int .i64 0)).alloc (.cells #[.bool false] 4)
  have bD := Boxed.new (((w.alloc (.cells #[.int .u16 p] 77)).alloc (.cells (rgList r).toArray 26)).alloc (.cells #[.int .i64 0] 3)) 4 (.bool false)
  simp only [World.size_alloc] at bC bD
  have hX : Below w.heap.size w w1 := ((((((Below.refl w.heap.size w).alloc (Nat.le_refl _) _).alloc (by simp) _).alloc (by simp; omega) _).alloc (by simp; omega) _)).trans (hb.mono (by simp; omega))
  have bC1 := boxed_below bC hb (by simp)
  have bD1 := boxed_below bD hb (by simp)
  have hcA := kA.cell 0 _ rfl
  have bP := (Blk.new w1 77 [.int .u16 p] _ rfl).cell 0 _ rfl
  have HX := Lib.hid (hX.alloc (by omega) (.cells #[.int .u16 p] 77))
  have bC2 := Lib.hid (bC1.alloc (.cells #[.int .u16 p] 77))
  have bD2 := Lib.hid (bD1.alloc (.cells #[.int .u16 p] 77))
  clear hb bC bD bC1 bD1 hX kA
  gi_wp2_with (refine ⟨trivial, ?_⟩; gi_at_call 136; refine (pending_in _ _ _).mono ?_; rintro e w' ⟨rfl, rfl⟩)
  have hsz : (w1.alloc (.cells #[.int .u16 p] 77)).heap.size = w1.heap.size + 1 := by simp
  generalize w1.alloc (.cells #[.int .u16 p] 77) = V at *
  refine wpIn_rangeFunc_ownG rfl (by omega) (gf := 181) (lb := #[.pointer (some ⟨w1.heap.size, 0, none⟩)]) rfl trivial (enters_of Tryz.func181 (by kernel_rfl) rfl)
    (pending_stops _ (by omega) w1.heap.size p p0 p1 (KpB w.heap.size w1.heap.size) KpB.box V (by omega) bP) KpB.trans (KpB.put (by omega) (by omega)) (Below.refl _ _) (fun _ => rfl)
    (ChI w.heap.size w) (ChX w.heap.size w)
    (ChI.own _ _ rfl _ (by omega))
    (ChX.own _ _ rfl _ (by omega))
    ⟨rfl, bC2.out, bD2.out, HX.out⟩
    (fun x => { tmps := #[.agg #[.int .u16 p], .agg #[.int .u16 r.A, .int .u16 r.L, .int .u16 r.Q, .int .i64 r.Z, .int .i64 r.EB, .int .i64 r.FB, .int .i64 r.Su, .bool r.Ex, .int .u16 r.Ix, .bool r.Hd, .int .u16 r.B, .bool r.Ih, .bool r.Sv], .pointer (some ⟨w.heap.size, 0, none⟩), .pointer (some ⟨w.heap.size + 1, 0, none⟩), .pointer (some ⟨w.heap.size + 1 + 1, 0, none⟩), .pointer (some ⟨w.heap.size + 1 + 1 + 1, 0, none⟩), .int .i64 ((x.val : Int) + 1), .agg #[.int .u16 r.A, .int .u16 r.L, .int .u16 r.Q, .int .i64 r.Z, .int .i64 r.EB, .int .i64 r.FB, .int .i64 r.Su, .bool r.Ex, .int .u16 r.Ix, .bool r.Hd, .int .u16 r.B, .bool r.Ih, .bool r.Sv], .bool true, .bool false, .agg #[.int .u16 p], .func (.func 181) #[] #[.pointer (some ⟨w1.heap.size, 0, none⟩)], .int .i64 ((x.val : Int) + 1), undef], defers := [] }) ?assign ?body ?done ?stop
  case assign =>
    intro l x W K hK
    gi_wp2
    exact hK
  case body =>
    rintro l pre x W ⟨rfl, h2, h3, hB⟩ hlt
    have hc2 := h2.cell
    have hf2 := h2.frozen
    have hc3 := h3.cell
    have hf3 := h3.frozen
    have HB := Lib.hid hB
    have H2 := Lib.hid h2
    have H3 := Lib.hid h3
    clear hB h2 h3
    gi_wp2
    have e1 : ⟨w.heap.size + 1 + 1, 0, none⟩ ≠ (⟨w.heap.size + 1 + 1 + 1, 0, none⟩ : Addr) := by intro e; injection e with e; omega
    have s1 := Boxed.other (Boxed.set (.int .i64 ((x.val : Int) + 1)) H2.out) (B' := w.heap.size + 1 + 1 + 1) (by omega) (.bool true)
    have s2 := Boxed.set (.bool true) (Boxed.other H3.out (B' := w.heap.size + 1 + 1) (by omega) (.int .i64 ((x.val : Int) + 1)))
    exact ⟨((KeepsOthers.setCell _ _ _).trans (KeepsOthers.setCell _ _ _)).from _, ⟨rfl, rfl⟩, s1, s2, (HB.out.setCell (p := ⟨w.heap.size + 1 + 1, 0, none⟩) (by show _ ≤ w.heap.size + 1 + 1; omega) _).setCell (p := ⟨w.heap.size + 1 + 1 + 1, 0, none⟩) (by show _ ≤ w.heap.size + 1 + 1 + 1; omega) _⟩
  case done =>
    rintro D ys W hD rfl ⟨he, h2, h3, hB⟩ hK
    have hc2 := h2.cell
    have hf2 := h2.frozen
    have hc3 := h3.cell
    have hf3 := h3.frozen
    have hn0 : n = 0 := by rw [← hn]; exact yl_nil p 10 (by omega) he
    subst hn0
    have HB := Lib.hid hB
    have H2 := Lib.hid h2
    have H3 := Lib.hid h3
    clear hB h2 h3
    gi_wp2
    have s1 := Boxed.other (Boxed.set (.int .i64 0) H2.out) (B' := w.heap.size + 1 + 1 + 1) (by omega) (.bool false)
    have s2 := Boxed.set (.bool false) (Boxed.other H3.out (B' := w.heap.size + 1 + 1) (by omega) (.int .i64 0))
    have hX := (HB.out.setCell (p := ⟨w.heap.size + 1 + 1, 0, none⟩) (by show _ ≤ w.heap.size + 1 + 1; omega) (.int .i64 0)).setCell (p := ⟨w.heap.size + 1 + 1 + 1, 0, none⟩) (by show _ ≤ w.heap.size + 1 + 1 + 1; omega) (.bool false)
    have hK' : ((W.setCell ⟨w.heap.size + 1 + 1, 0, none⟩ (.int .i64 0)).setCell ⟨w.heap.size + 1 + 1 + 1, 0, none⟩ (.bool false)).heap[D]? = some (.deferred (some [])) := by
      rw [Below.heap_setCell _ _ _ _ (show D ≠ w.heap.size + 1 + 1 + 1 by omega), Below.heap_setCell _ _ _ _ (show D ≠ w.heap.size + 1 + 1 by omega)]; exact hK
    exact choose_end D V.heap.size (by omega) _ hK' (by omega) (by omega) s1 s2 rfl rfl hX (by omega) (by rfl)
  case stop =>
    rintro D c pre W hD hS ⟨⟨rfl, hl⟩, h2, h3, hB⟩ hK
    have hh := first_of hS hl
    rw [hh.1, hn] at h2
    have hn0 : n ≠ 0 := by rw [← hn]; exact hh.2
    have HB := Lib.hid hB
    have H2 := Lib.hid h2
    have H3 := Lib.hid h3
    clear hB h2 h3
    gi_wp2
    exact choose_end D V.heap.size (by omega) _ hK (by omega) (by omega) H2.out H3.out rfl rfl HB.out (by omega) (by simp [hn0])
end Go.Proofs.YtjjkikghfmnikaaGreatDoor

/- Contracts of layer 7: Choose, whatever the registers; Leave. -/
set_option linter.unusedSimpArgs false
set_option linter.unusedVariables false
set_option maxRecDepth 100000
namespace Go.Proofs.YtjjkikghfmnikaaGreatDoor
open Go.ChangeShapes Go.WideShapes Go.ChangeAt Go.RowKit
/-- The chosen interrupt; 0 if there is none. -/
def chz (p : Int) (r : Rg) : Nat := if alw r = true then fs p 10 else 0
set_option maxHeartbeats 1000000 in
theorem Choose_no (p : Int) (r : Rg) (hf : r.Fit) (ha : alw r = false) (w : World) :
    Calls Tryz.prog 68 #[.agg #[.int .u16 p], .agg #[.int .u16 r.A, .int .u16 r.L, .int .u16 r.Q, .int .i64 r.Z, .int .i64 r.EB, .int .i64 r.FB, .int .i64 r.Su, .bool r.Ex, .int .u16 r.Ix, .bool r.Hd, .int .u16 r.B, .bool r.Ih, .bool r.Sv]] w fun e w' => e = .returned (.tuple #[.int .i64 0, .bool false]) ∧ Below w.heap.size w w' := by
  go_enter Tryz.func68, Tryz.ntmps68
  go_wp2_with (fail)
  refine (Allowed_any r hf false ha _).mono ?_
  rintro e w1 ⟨rfl, hb⟩
  have hz := hb.size
  simp only [World.size_alloc] at hz
  have bC := (Boxed.new ((w.alloc (.cells #[.int .u16 p] 77)).alloc (.cells (rgList r).toArray 26)) 3 (.int .i64 0)).alloc (.cells #[.bool false] 4)
  have bD := Boxed.new (((w.alloc (.cells #[.int .u16 p] 77)).alloc (.cells (rgList r).toArray 26)).alloc (.cells #[.int .i64 0] 3)) 4 (.bool false)
  simp only [World.size_alloc] at bC bD
  have hX : Below w.heap.size w w1 := ((((((Below.refl w.heap.size w).alloc (Nat.le_refl _) _).alloc (by simp) _).alloc (by simp; omega) _).alloc (by simp; omega) _)).trans (hb.mono (by simp; omega))
  have bC1 := boxed_below bC hb (by simp)
  have bD1 := boxed_below bD hb (by simp)
  have hc2 := bC1.cell
  have hf2 := bC1.frozen
  have hc3 := bD1.cell
  have hf3 := bD1.frozen
  have HX := Lib.hid hX
  have H2 := Lib.hid bC1
  have H3 := Lib.hid bD1
  clear hb bC bD hX bC1 bD1
  go_wp2
  have s1 := Boxed.other (Boxed.set (.int .i64 0) H2.out) (B' := w.heap.size + 1 + 1 + 1) (by omega) (.bool false)
  have s2 := Boxed.set (.bool false) (Boxed.other H3.out (B' := w.heap.size + 1 + 1) (by omega) (.int .i64 0))
  refine bodyPost_ret (results_cells2 Tryz.results68 Tryz.underlying3 rfl Tryz.underlying4 rfl _ _ (w.heap.size + 1 + 1) (w.heap.size + 1 + 1 + 1) _ _ rfl rfl s1.cell s2.cell) rfl ?_
  exact ⟨rfl, (HX.out.setCell (p := ⟨w.heap.size + 1 + 1, 0, none⟩) (by show _ ≤ w.heap.size + 1 + 1; omega) _).setCell (p := ⟨w.heap.size + 1 + 1 + 1, 0, none⟩) (by show _ ≤ w.heap.size + 1 + 1 + 1; omega) _⟩
theorem Choose_any (p : Int) (p0 : 0 ≤ p) (p1 : p < 65536) (r : Rg) (hf : r.Fit) (n : Nat) (hn : chz p r = n) (t : Bool) (ht : decide (n ≠ 0) = t) (w : World) :
    Calls Tryz.prog 68 #[.agg #[.int .u16 p], .agg #[.int .u16 r.A, .int .u16 r.L, .int .u16 r.Q, .int .i64 r.Z, .int .i64 r.EB, .int .i64 r.FB, .int .i64 r.Su, .bool r.Ex, .int .u16 r.Ix, .bool r.Hd, .int .u16 r.B, .bool r.Ih, .bool r.Sv]] w fun e w' => e = .returned (.tuple #[.int .i64 n, .bool t]) ∧ Below w.heap.size w w' := by
  subst ht
  unfold chz at hn
  by_cases ha : alw r = true
  · rw [if_pos ha] at hn
    exact Choose_yes p p0 p1 r hf ha n hn w
  · rw [if_neg ha] at hn
    subst hn
    exact Choose_no p r hf (by simpa using ha) w
theorem iwordAt_any (A : Option Addr) (n c : Nat) (z : Nat → Int) (a x : Int) (hx : wd n z a = x) (a0 : 0 ≤ a) (hn : n ≤ 140737488355328) (w : World) (hr : Row .u16 w A n z) (hz : ∀ i, i < n → 0 ≤ z i ∧ z i ≤ 65535) :
    Calls Tryz.prog 71 #[.slice A n c, .int .i64 a] w fun e w' => e = .returned (.int .u16 x) ∧ w = w' := by
  obtain ⟨i, rfl⟩ := Int.eq_ofNat_of_zero_le a0
  try simp only [Int.ofNat_eq_natCast] at *
  by_cases h : i < n
  · obtain ⟨p, rfl, hc⟩ := hr i h
    have hb := hz i h
    have e : bits .and .u16 (z i) 32767 = x := by rw [and15 _ (by omega) (by omega), ← hx]; unfold wd; rw [if_neg (by omega)]; simp
    clear hr hz hx
    go_enter Tryz.func71, Tryz.ntmps71
    go_wp2
    go_ret
    exact ⟨rfl, rfl⟩
  · have e : 0 = x := by rw [← hx]; unfold wd; rw [if_pos (by omega)]
    have HX := Lib.hid e
    clear hr hz hx e
    go_enter Tryz.func71, Tryz.ntmps71
    go_wp2
    go_ret
    exact ⟨ret_int HX.out, rfl⟩
/-- The registers behind Leave. -/
def lvR (r : Rg) (n : Nat) (z : Nat → Int) : Rg := { r with Z := wd n z 13 % 4096, B := wd n z 15, Hd := true, Sv := false }
theorem and12 (a : Int) (h0 : 0 ≤ a) (h1 : a < 65536) : bits .and .u16 a 4095 = a % 4096 := by
  have := bits_mask .u16 16 (by decide) (fun n h h' => IntWalk.u16_in n (by omega)) 12 (by decide) a h0 (by omega)
  simpa using this
set_option maxHeartbeats 1000000 in
theorem Leave_any (r : Rg) (A : Option Addr) (n c : Nat) (z : Nat → Int) (hn : n ≤ 140737488355328) (w : World) (hr : Row .u16 w A n z) (hz : ∀ i, i < n → 0 ≤ z i ∧ z i ≤ 65535) :
    Calls Tryz.prog 35 #[.agg #[.int .u16 r.A, .int .u16 r.L, .int .u16 r.Q, .int .i64 r.Z, .int .i64 r.EB, .int .i64 r.FB, .int .i64 r.Su, .bool r.Ex, .int .u16 r.Ix, .bool r.Hd, .int .u16 r.B, .bool r.Ih, .bool r.Sv], .slice A n c] w fun e w' => e = .returned (.agg #[.int .u16 (lvR r n z).A, .int .u16 (lvR r n z).L, .int .u16 (lvR r n z).Q, .int .i64 (lvR r n z).Z, .int .i64 (lvR r n z).EB, .int .i64 (lvR r n z).FB, .int .i64 (lvR r n z).Su, .bool (lvR r n z).Ex, .int .u16 (lvR r n z).Ix, .bool (lvR r n z).Hd, .int .u16 (lvR r n z).B, .bool (lvR r n z).Ih, .bool (lvR r n z).Sv]) ∧ Below w.heap.size w w' := by
  have W1 := Lib.hid (iwordAt_any A n c z 13 _ rfl (by omega) hn)
  have W2 := Lib.hid (iwordAt_any A n c z 15 _ rfl (by omega) hn)
  have h1 := wd_bd n z 13
  have h2 := wd_bd n z 15
  have h3 := and12 (wd n z 13) h1.1 (by omega)
  have HR := Lib.hid hr
  have HZ := Lib.hid hz
  clear hr hz
  unfold lvR
  generalize wd n z 13 = x at *
  generalize wd n z 15 = y at *
  go_enter Tryz.func35, Tryz.ntmps35
  go_wp2_with (fail)
  refine (W1.out _ (HR.out.below (below2 w _ _) (Nat.le_refl _)) HZ.out).mono ?_
  rintro e w' ⟨rfl, rfl⟩
  go_wp2_with (fail)
  refine (W2.out _ (HR.out.below (below2 w _ _) (Nat.le_refl _)) HZ.out).mono ?_
  rintro e w' ⟨rfl, rfl⟩
  go_wp2
  exact ret_struct1 Tryz.results35 Tryz.underlying26 (rgList { r with Z := x % 4096, B := y, Hd := true, Sv := false }) (by kernel_rfl) (w.heap.size + 1) rfl (at_allocN (by simp) (rgList { r with Z := x % 4096, B := y, Hd := true, Sv := false })) rfl ⟨rfl, below2 _ _ _⟩
end Go.Proofs.YtjjkikghfmnikaaGreatDoor

/- A whole array or struct stored into a block of the call's own. -/
set_option linter.unusedSimpArgs false
set_option linter.unusedVariables false
namespace Go.Proofs.YtjjkikghfmnikaaGreatDoor
open Go.ChangeShapes Go.WideShapes Go.ChangeAt Go.RowKit
theorem setCells_size (g : Nat) : ∀ (m : List Value) (j : Nat) (w : World), (w.setCells g j m).heap.size = w.heap.size
  | [], _, _ => rfl
  | v :: m, j, w => by
    show ((w.setCell ⟨g, j, none⟩ v).setCells g (j + 1) m).heap.size = _
    rw [setCells_size g m]; simp
theorem below_setCells {B : Nat} {a : World} (g : Nat) (hg : B ≤ g) : ∀ (m : List Value) (j : Nat) (w : World), Below B a w → Below B a (w.setCells g j m)
  | [], _, _, h => h
  | v :: m, j, w, h => below_setCells g hg m (j + 1) _ (h.setCell (p := ⟨g, j, none⟩) hg v)
theorem take_set_succ' : ∀ (l : List Value) (j : Nat) (v : Value), j < l.length → (l.set j v).take (j + 1) = l.take j ++ [v]
  | [], _, _, h => absurd h (by simp)
  | x :: l, 0, v, _ => by simp
  | x :: l, j + 1, v, h => by
    have := take_set_succ' l j v (by simpa using h)
    simp only [List.set_cons_succ, List.take_succ_cons, List.cons_append]
    rw [this]
theorem Blk.cellsFrom {g : Nat} : ∀ (m : List Value) (j : Nat) (w : World) (l : List Value), Blk w g l → j + m.length = l.length → Blk (w.setCells g j m) g (l.take j ++ m)
  | [], j, w, l, h, e => by
    simp only [List.length_nil, Nat.add_zero] at e
    subst e
    simpa [World.setCells] using h
  | v :: m, j, w, l, h, e => by
    simp only [List.length_cons] at e
    have h1 := h.set j (by omega) v
    have := Blk.cellsFrom m (j + 1) _ _ h1 (by simp; omega)
    have e2 := take_set_succ' l j v (by omega)
    rw [e2] at this
    simpa [World.setCells] using this
theorem Blk.overS {w : World} {g : Nat} {l : List Value} (h : Blk w g l) (m : List Value) (e : m.length = l.length) : Blk (w.setCells g 0 m) g m := by
  have := Blk.cellsFrom m 0 w l h (by omega)
  simpa using this
theorem Blk.othersS {g g' : Nat} (hne : g' ≠ g) : ∀ (m : List Value) (j : Nat) (w : World) (l : List Value), Blk w g l → Blk (w.setCells g' j m) g l
  | [], _, _, _, h => h
  | v :: m, j, w, l, h => Blk.othersS hne m (j + 1) _ l (h.other hne j v)
theorem run_storeAt_blkS {P : Program} {w : World} {g : Nat} {l : List Value} (hb : Blk w g l) (t : TypeId) (cs : List Value) (hlen : cs.length = l.length) (hi : (P.info? t).map (·.size) = some cs.length) (h1 : ∀ v ∈ cs, v.oneCell' = true) :
    (Instr.storeAt t (.pointer (some ⟨g, 0, none⟩)) (.agg cs.toArray)).run P w = .ok () (w.setCells g 0 cs) := by
  have hcell : ∀ j, j < cs.length → (w.cell? ⟨g, 0 + 0 + j, none⟩).isSome = true := fun j hj => by
    rw [show 0 + 0 + j = j by omega, (hb j (l[j]'(by omega)) (by simp)).1]; rfl
  have hfree : ∀ j, j < cs.length → w.frozen? ⟨g, 0 + 0 + j, none⟩ = false := fun j hj => by
    rw [show 0 + 0 + j = j by omega, (hb j (l[j]'(by omega)) (by simp)).2]
  have hrun := run_storeCells_cells (P := P) g 0 cs 0 w hcell hfree h1
  rw [Nat.add_zero] at hrun
  simp only [Instr.storeAt, Instr.sureAddr, Sem.run_bind, Sem.run_pure, Result.andThen]
  cases hq : P.info? t with
  | none => simp [hq] at hi
  | some i =>
    have hs : i.size = cs.length := by simpa [hq] using hi
    simpa [storeVar, sizeOf, typeInfo, hq, Value.cells, hs] using hrun
theorem wp_storeBlkS {P : Program} {ops : Array Oper} {rest : List Oper} {o : Oper} {a : Act} {w : World} {Q : Exit → Act → World → Prop} (hgd : o.guard = none) (t : TypeId) (x y : Operand) (hop : o.op = Op.store t x y) (hdst : o.dst = none)
    (g : Nat) (l cs : List Value) (hb : Blk w g l) (hx : a.eval x = .pointer (some ⟨g, 0, none⟩)) (hy : a.eval y = .agg cs.toArray) (hlen : cs.length = l.length) (hi : (P.info? t).map (·.size) = some cs.length) (h1 : ∀ v ∈ cs, v.oneCell' = true)
    (h : wpList P ops Q rest a (w.setCells g 0 cs)) : wpList P ops Q (o :: rest) a w := by
  refine wpList_plain hgd fun K hK => ?_
  have hrun := run_storeAt_blkS (P := P) hb t cs hlen hi h1
  unfold Oper.wp
  simp only [execOp, hop, hx, hy, Sem.run_bind, hrun, Result.andThen]
  have e : a.put o.dst undef = a := by rw [hdst]; rfl
  exact hK _ _ (by rw [e]; exact h)
theorem run_loadVar_arr {P : Program} {T : TypeId} {n : Nat} {e : TypeId} (ht : P.underlying T = some (.array n e)) (cs : List Value) (hi : (P.info? T).map (·.size) = some cs.length) (w : World) (g : Nat)
    (hc : ∀ j v, cs[j]? = some v → w.cell? ⟨g, j, none⟩ = some v) : (loadVar T ⟨g, 0, none⟩).run P w = .ok (.agg cs.toArray) w := by
  have hl := run_loadCells_list (P := P) w ⟨g, 0, none⟩ cs (fun j v hj => by
    have e1 : (⟨g, 0, none⟩ : Addr).add j = ⟨g, j, none⟩ := by unfold Addr.add; by_cases c : j = 0 <;> simp [c]
    rw [e1]; exact hc j v hj)
  cases hq : P.info? T with
  | none => simp [hq] at hi
  | some i =>
    have hs : i.size = cs.length := by simpa [hq] using hi
    simp [loadVar, isAgg, run_underlying ht, sizeOf, typeInfo, hq, hs, hl, Sem.run_bind, Result.andThen]
theorem ret_arr1 {P : Program} {fn : Func} {R : Ending → World → Prop} {a : Act} {w : World} {p : Tmp} {T : TypeId} {n : Nat} {e : TypeId} (hres : fn.results = #[.cell p T]) (ht : P.underlying T = some (.array n e)) (cs : List Value) (hi : (P.info? T).map (·.size) = some cs.length) (g : Nat)
    (hp : a.tmps.getD p undef = .pointer (some ⟨g, 0, none⟩)) (hc : ∀ j v, cs[j]? = some v → w.cell? ⟨g, j, none⟩ = some v) (hd : a.defers = []) (hR : R (.returned (.agg cs.toArray)) w) : bodyPost P fn R .ret a w := by
  refine bodyPost_ret ?_ hd hR
  rw [results_cell hres, hp]
  simp [asAddr, Sem.run_bind, Result.andThen, run_loadVar_arr ht cs hi w g hc]
end Go.Proofs.YtjjkikghfmnikaaGreatDoor
