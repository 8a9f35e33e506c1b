/- Contracts of layer 7: Choose, whatever the registers; Leave. -/
import Derived.Test.YtmmpifcfhjdfnaaM07e
import Derived.Test.YtmmpifcfhjdfnaaM05a
set_option linter.unusedSimpArgs false
set_option linter.unusedVariables false
set_option maxRecDepth 100000
namespace Go.Proofs.Ytmmpifcfhjdfnaa
open Go.ChangeShapes Go.WideShapes Go.ChangeAt Go.RowKit
/-- The chosen interrupt; 0 if there is none. -/
def chz (p : Int) (r : Rg) : Nat := if alw r = true then fs p 10 else 0
set_option maxHeartbeats 1000000 in
theorem Choose_no (p : Int) (r : Rg) (hf : r.Fit) (ha : alw r = false) (w : World) :
    Calls Try.prog 15 #[.agg #[.int .u16 p], .agg #[.int .u16 r.A, .int .u16 r.L, .int .u16 r.Q, .int .i64 r.Z, .int .i64 r.EB, .int .i64 r.FB, .int .i64 r.Su, .bool r.Ex, .int .u16 r.Ix, .bool r.Hd, .int .u16 r.B, .bool r.Ih, .bool r.Sv]] w fun e w' => e = .returned (.tuple #[.int .i64 0, .bool false]) ∧ Below w.heap.size w w' := by
  go_enter Try.func15, Try.ntmps15
  go_wp2_with (fail)
  refine (Allowed_any r hf false ha _).mono ?_
  rintro e w1 ⟨rfl, hb⟩
  have hz := hb.size
  simp only [World.size_alloc] at hz
  have bC := (Boxed.new ((w.alloc (.cells #[.int .u16 p] 28)).alloc (.cells (rgList r).toArray 26)) 3 (.int .i64 0)).alloc (.cells #[.bool false] 4)
  have bD := Boxed.new (((w.alloc (.cells #[.int .u16 p] 28)).alloc (.cells (rgList r).toArray 26)).alloc (.cells #[.int .i64 0] 3)) 4 (.bool false)
  simp only [World.size_alloc] at bC bD
  have hX : Below w.heap.size w w1 := ((((((Below.refl w.heap.size w).alloc (Nat.le_refl _) _).alloc (by simp) _).alloc (by simp; omega) _).alloc (by simp; omega) _)).trans (hb.mono (by simp; omega))
  have bC1 := boxed_below bC hb (by simp)
  have bD1 := boxed_below bD hb (by simp)
  have hc2 := bC1.cell
  have hf2 := bC1.frozen
  have hc3 := bD1.cell
  have hf3 := bD1.frozen
  have HX := Lib.hid hX
  have H2 := Lib.hid bC1
  have H3 := Lib.hid bD1
  clear hb bC bD hX bC1 bD1
  go_wp2
  have s1 := Boxed.other (Boxed.set (.int .i64 0) H2.out) (B' := w.heap.size + 1 + 1 + 1) (by omega) (.bool false)
  have s2 := Boxed.set (.bool false) (Boxed.other H3.out (B' := w.heap.size + 1 + 1) (by omega) (.int .i64 0))
  refine bodyPost_ret (results_cells2 Try.results15 Try.underlying3 rfl Try.underlying4 rfl _ _ (w.heap.size + 1 + 1) (w.heap.size + 1 + 1 + 1) _ _ rfl rfl s1.cell s2.cell) rfl ?_
  exact ⟨rfl, (HX.out.setCell (p := ⟨w.heap.size + 1 + 1, 0, none⟩) (by show _ ≤ w.heap.size + 1 + 1; omega) _).setCell (p := ⟨w.heap.size + 1 + 1 + 1, 0, none⟩) (by show _ ≤ w.heap.size + 1 + 1 + 1; omega) _⟩
theorem Choose_any (p : Int) (p0 : 0 ≤ p) (p1 : p < 65536) (r : Rg) (hf : r.Fit) (n : Nat) (hn : chz p r = n) (t : Bool) (ht : decide (n ≠ 0) = t) (w : World) :
    Calls Try.prog 15 #[.agg #[.int .u16 p], .agg #[.int .u16 r.A, .int .u16 r.L, .int .u16 r.Q, .int .i64 r.Z, .int .i64 r.EB, .int .i64 r.FB, .int .i64 r.Su, .bool r.Ex, .int .u16 r.Ix, .bool r.Hd, .int .u16 r.B, .bool r.Ih, .bool r.Sv]] w fun e w' => e = .returned (.tuple #[.int .i64 n, .bool t]) ∧ Below w.heap.size w w' := by
  subst ht
  unfold chz at hn
  by_cases ha : alw r = true
  · rw [if_pos ha] at hn
    exact Choose_yes p p0 p1 r hf ha n hn w
  · rw [if_neg ha] at hn
    subst hn
    exact Choose_no p r hf (by simpa using ha) w
theorem iwordAt_any (A : Option Addr) (n c : Nat) (z : Nat → Int) (a x : Int) (hx : wd n z a = x) (a0 : 0 ≤ a) (hn : n ≤ 140737488355328) (w : World) (hr : Row .u16 w A n z) (hz : ∀ i, i < n → 0 ≤ z i ∧ z i ≤ 65535) :
    Calls Try.prog 26 #[.slice A n c, .int .i64 a] w fun e w' => e = .returned (.int .u16 x) ∧ w = w' := by
  obtain ⟨i, rfl⟩ := Int.eq_ofNat_of_zero_le a0
  try simp only [Int.ofNat_eq_natCast] at *
  by_cases h : i < n
  · obtain ⟨p, rfl, hc⟩ := hr i h
    have hb := hz i h
    have e : bits .and .u16 (z i) 32767 = x := by rw [and15 _ (by omega) (by omega), ← hx]; unfold wd; rw [if_neg (by omega)]; simp
    clear hr hz hx
    go_enter Try.func26, Try.ntmps26
    go_wp2
    go_ret
    exact ⟨rfl, rfl⟩
  · have e : 0 = x := by rw [← hx]; unfold wd; rw [if_pos (by omega)]
    have HX := Lib.hid e
    clear hr hz hx e
    go_enter Try.func26, Try.ntmps26
    go_wp2
    go_ret
    exact ⟨ret_int HX.out, rfl⟩
/-- The registers behind Leave. -/
def lvR (r : Rg) (n : Nat) (z : Nat → Int) : Rg := { r with Z := wd n z 13 % 4096, B := wd n z 15, Hd := true, Sv := false }
theorem and12 (a : Int) (h0 : 0 ≤ a) (h1 : a < 65536) : bits .and .u16 a 4095 = a % 4096 := by
  have := bits_mask .u16 16 (by decide) (fun n h h' => IntWalk.u16_in n (by omega)) 12 (by decide) a h0 (by omega)
  simpa using this
set_option maxHeartbeats 1000000 in
theorem Leave_any (r : Rg) (A : Option Addr) (n c : Nat) (z : Nat → Int) (hn : n ≤ 140737488355328) (w : World) (hr : Row .u16 w A n z) (hz : ∀ i, i < n → 0 ≤ z i ∧ z i ≤ 65535) :
    Calls Try.prog 10 #[.agg #[.int .u16 r.A, .int .u16 r.L, .int .u16 r.Q, .int .i64 r.Z, .int .i64 r.EB, .int .i64 r.FB, .int .i64 r.Su, .bool r.Ex, .int .u16 r.Ix, .bool r.Hd, .int .u16 r.B, .bool r.Ih, .bool r.Sv], .slice A n c] w fun e w' => e = .returned (.agg #[.int .u16 (lvR r n z).A, .int .u16 (lvR r n z).L, .int .u16 (lvR r n z).Q, .int .i64 (lvR r n z).Z, .int .i64 (lvR r n z).EB, .int .i64 (lvR r n z).FB, .int .i64 (lvR r n z).Su, .bool (lvR r n z).Ex, .int .u16 (lvR r n z).Ix, .bool (lvR r n z).Hd, .int .u16 (lvR r n z).B, .bool (lvR r n z).Ih, .bool (lvR r n z).Sv]) ∧ Below w.heap.size w w' := by
  have W1 := Lib.hid (iwordAt_any A n c z 13 _ rfl (by omega) hn)
  have W2 := Lib.hid (iwordAt_any A n c z 15 _ rfl (by omega) hn)
  have h1 := wd_bd n z 13
  have h2 := wd_bd n z 15
  have h3 := and12 (wd n z 13) h1.1 (by omega)
  have HR := Lib.hid hr
  have HZ := Lib.hid hz
  clear hr hz
  unfold lvR
  generalize wd n z 13 = x at *
  generalize wd n z 15 = y at *
  go_enter Try.func10, Try.ntmps10
  go_wp2_with (fail)
  refine (W1.out _ (HR.out.below (below2 w _ _) (Nat.le_refl _)) HZ.out).mono ?_
  rintro e w' ⟨rfl, rfl⟩
  go_wp2_with (fail)
  refine (W2.out _ (HR.out.below (below2 w _ _) (Nat.le_refl _)) HZ.out).mono ?_
  rintro e w' ⟨rfl, rfl⟩
  go_wp2
  exact ret_struct1 Try.results10 Try.underlying26 (rgList { r with Z := x % 4096, B := y, Hd := true, Sv := false }) (by kernel_rfl) (w.heap.size + 1) rfl (at_allocN (by simp) (rgList { r with Z := x % 4096, B := y, Hd := true, Sv := false })) rfl ⟨rfl, below2 _ _ _⟩
end Go.Proofs.Ytmmpifcfhjdfnaa
