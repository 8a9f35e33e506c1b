/- Leave of a memory of any length. -/
import Derived.Test.YtmmpifcfhjdfnaaL07b
set_option linter.unusedSimpArgs false
set_option linter.unusedVariables false
set_option maxRecDepth 100000
namespace Go.Proofs.Ytmmpifcfhjdfnaa
open Go.ChangeShapes Go.WideShapes Go.ChangeAt Go.RowKit
theorem iwordAt_all (A : Option Addr) (n c : Nat) (z : Nat → Int) (a x : Int) (hx : wd n z a = x) (a0 : 0 ≤ a) (hn : n ≤ 9223372036854775807) (w : World) (hr : Row .u16 w A n z) (hz : ∀ i, i < n → 0 ≤ z i ∧ z i ≤ 65535) :
    Calls Try.prog 26 #[.slice A n c, .int .i64 a] w fun e w' => e = .returned (.int .u16 x) ∧ w = w' := by
  obtain ⟨i, rfl⟩ := Int.eq_ofNat_of_zero_le a0
  try simp only [Int.ofNat_eq_natCast] at *
  by_cases h : i < n
  · obtain ⟨p, rfl, hc⟩ := hr i h
    have hb := hz i h
    have e : bits .and .u16 (z i) 32767 = x := by rw [and15 _ (by omega) (by omega), ← hx]; unfold wd; rw [if_neg (by omega)]; simp
    clear hr hz hx
    go_enter Try.func26, Try.ntmps26
    go_wp2
    go_ret
    exact ⟨rfl, rfl⟩
  · have e : 0 = x := by rw [← hx]; unfold wd; rw [if_pos (by omega)]
    have HX := Lib.hid e
    clear hr hz hx e
    go_enter Try.func26, Try.ntmps26
    go_wp2
    go_ret
    exact ⟨ret_int HX.out, rfl⟩
set_option maxHeartbeats 1000000 in
theorem Leave_all (r : Rg) (A : Option Addr) (n c : Nat) (z : Nat → Int) (hn : n ≤ 9223372036854775807) (w : World) (hr : Row .u16 w A n z) (hz : ∀ i, i < n → 0 ≤ z i ∧ z i ≤ 65535) :
    Calls Try.prog 10 #[.agg #[.int .u16 r.A, .int .u16 r.L, .int .u16 r.Q, .int .i64 r.Z, .int .i64 r.EB, .int .i64 r.FB, .int .i64 r.Su, .bool r.Ex, .int .u16 r.Ix, .bool r.Hd, .int .u16 r.B, .bool r.Ih, .bool r.Sv], .slice A n c] w fun e w' => e = .returned (.agg #[.int .u16 (lvR r n z).A, .int .u16 (lvR r n z).L, .int .u16 (lvR r n z).Q, .int .i64 (lvR r n z).Z, .int .i64 (lvR r n z).EB, .int .i64 (lvR r n z).FB, .int .i64 (lvR r n z).Su, .bool (lvR r n z).Ex, .int .u16 (lvR r n z).Ix, .bool (lvR r n z).Hd, .int .u16 (lvR r n z).B, .bool (lvR r n z).Ih, .bool (lvR r n z).Sv]) ∧ Below w.heap.size w w' := by
  have W1 := Lib.hid (iwordAt_all A n c z 13 _ rfl (by omega) hn)
  have W2 := Lib.hid (iwordAt_all A n c z 15 _ rfl (by omega) hn)
  have h1 := wd_bd n z 13
  have h2 := wd_bd n z 15
  have h3 := and12 (wd n z 13) h1.1 (by omega)
  have HR := Lib.hid hr
  have HZ := Lib.hid hz
  clear hr hz
  unfold lvR
  generalize wd n z 13 = x at *
  generalize wd n z 15 = y at *
  go_enter Try.func10, Try.ntmps10
  go_wp2_with (fail)
  refine (W1.out _ (HR.out.below (below2 w _ _) (Nat.le_refl _)) HZ.out).mono ?_
  rintro e w' ⟨rfl, rfl⟩
  go_wp2_with (fail)
  refine (W2.out _ (HR.out.below (below2 w _ _) (Nat.le_refl _)) HZ.out).mono ?_
  rintro e w' ⟨rfl, rfl⟩
  go_wp2
  exact ret_struct1 Try.results10 Try.underlying26 (rgList { r with Z := x % 4096, B := y, Hd := true, Sv := false }) (by kernel_rfl) (w.heap.size + 1) rfl (at_allocN (by simp) (rgList { r with Z := x % 4096, B := y, Hd := true, Sv := false })) rfl ⟨rfl, below2 _ _ _⟩
theorem rword7_all (A : Option Addr) (n c : Nat) (z : Nat → Int) (a x : Int) (hx : wd n z a = x) (a0 : 0 ≤ a) (hn : n ≤ 9223372036854775807) (w : World) (hr : Row .u16 w A n z) (hz : ∀ i, i < n → 0 ≤ z i ∧ z i ≤ 65535) :
    Calls Try.prog 27 #[.slice A n c, .int .i64 a] w fun e w' => e = .returned (.int .i64 x) ∧ w = w' := by
  obtain ⟨i, rfl⟩ := Int.eq_ofNat_of_zero_le a0
  try simp only [Int.ofNat_eq_natCast] at *
  by_cases h : i < n
  · obtain ⟨p, rfl, hc⟩ := hr i h
    have hb := hz i h
    have e : z i % 32768 = x := by rw [← hx]; unfold wd; rw [if_neg (by omega)]; simp
    have HL := Lib.hid (fun w => rLow_any (z i) (by omega) (by omega) w)
    rw [e] at HL
    clear hr hz hx e
    go_enter Try.func27, Try.ntmps27
    go_wp2_with (go_at_call 23; refine (HL.out _).mono ?_; rintro e w1 ⟨rfl, rfl⟩)
    go_ret
    exact ⟨rfl, rfl⟩
  · have e : 0 = x := by rw [← hx]; unfold wd; rw [if_pos (by omega)]
    have HX := Lib.hid e
    clear hr hz hx e
    go_enter Try.func27, Try.ntmps27
    go_wp2
    go_ret
    exact ⟨ret_int HX.out, rfl⟩
set_option maxHeartbeats 1000000 in
theorem rLeave_all (r : Rg) (A : Option Addr) (n c : Nat) (z : Nat → Int) (hn : n ≤ 9223372036854775807) (w : World) (hr : Row .u16 w A n z) (hz : ∀ i, i < n → 0 ≤ z i ∧ z i ≤ 65535) :
    Calls Try.prog 11 #[.agg #[.int .u16 r.A, .int .u16 r.L, .int .u16 r.Q, .int .i64 r.Z, .int .i64 r.EB, .int .i64 r.FB, .int .i64 r.Su, .bool r.Ex, .int .u16 r.Ix, .bool r.Hd, .int .u16 r.B, .bool r.Ih, .bool r.Sv], .slice A n c] w fun e w' => e = .returned (.agg #[.int .u16 (lvR r n z).A, .int .u16 (lvR r n z).L, .int .u16 (lvR r n z).Q, .int .i64 (lvR r n z).Z, .int .i64 (lvR r n z).EB, .int .i64 (lvR r n z).FB, .int .i64 (lvR r n z).Su, .bool (lvR r n z).Ex, .int .u16 (lvR r n z).Ix, .bool (lvR r n z).Hd, .int .u16 (lvR r n z).B, .bool (lvR r n z).Ih, .bool (lvR r n z).Sv]) ∧ Below w.heap.size w w' := by
  have W1 := Lib.hid (rword7_all A n c z 13 _ rfl (by omega) hn)
  have W2 := Lib.hid (rword7_all A n c z 15 _ rfl (by omega) hn)
  have h1 := wd_bd n z 13
  have h2 := wd_bd n z 15
  have HR := Lib.hid hr
  have HZ := Lib.hid hz
  clear hr hz
  unfold lvR
  generalize wd n z 13 = x at *
  generalize wd n z 15 = y at *
  have hm : x.tmod 4096 = x % 4096 := Int.tmod_eq_emod_of_nonneg h1.1
  have hy : IntKind.u16.wrap y = y := IntWalk.u16_in _ (by omega)
  go_enter Try.func11, Try.ntmps11
  go_wp2_with (fail)
  refine (W1.out _ (HR.out.below (below2 w _ _) (Nat.le_refl _)) HZ.out).mono ?_
  rintro e w' ⟨rfl, rfl⟩
  go_wp2_with (fail)
  refine (W2.out _ (HR.out.below (below2 w _ _) (Nat.le_refl _)) HZ.out).mono ?_
  rintro e w' ⟨rfl, rfl⟩
  go_wp2
  exact ret_struct1 Try.results11 Try.underlying26 (rgList { r with Z := x % 4096, B := y, Hd := true, Sv := false }) (by kernel_rfl) (w.heap.size + 1) rfl (at_allocN (by simp) (rgList { r with Z := x % 4096, B := y, Hd := true, Sv := false })) rfl ⟨rfl, below2 _ _ _⟩
end Go.Proofs.Ytmmpifcfhjdfnaa
