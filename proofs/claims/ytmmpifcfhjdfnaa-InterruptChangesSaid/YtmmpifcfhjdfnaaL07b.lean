/- Contracts of layer 7's reference: Choose, Enter, Leave. -/
import Derived.Test.YtmmpifcfhjdfnaaL07
import Derived.Test.YtmmpifcfhjdfnaaP07c
set_option linter.unusedSimpArgs false
set_option linter.unusedVariables false
set_option maxRecDepth 100000
namespace Go.Proofs.Ytmmpifcfhjdfnaa
open Go.ChangeShapes Go.WideShapes Go.ChangeAt Go.RowKit
set_option maxHeartbeats 1000000 in
theorem rChoose_no (p : Int) (r : Rg) (hf : r.Fit) (hm : r.may) (ha : alw r = false) (w : World) :
    Calls Try.prog 22 #[.agg #[.int .u16 p], .agg #[.int .u16 r.A, .int .u16 r.L, .int .u16 r.Q, .int .i64 r.Z, .int .i64 r.EB, .int .i64 r.FB, .int .i64 r.Su, .bool r.Ex, .int .u16 r.Ix, .bool r.Hd, .int .u16 r.B, .bool r.Ih, .bool r.Sv]] w fun e w' => e = .returned (.tuple #[.int .i64 0, .bool false]) ∧ Below w.heap.size w w' := by
  have HA := Lib.hid (fun w => rAllowed_any r hf hm false ha w)
  go_enter Try.func22, Try.ntmps22
  go_wp2_with (go_at_call 35; refine (HA.out _).mono ?_; rintro e w1 ⟨rfl, hb⟩)
  go_ret2
  exact ⟨rfl, (below2 w _ _).trans (hb.mono (by simp; omega))⟩
set_option maxHeartbeats 1000000 in
theorem rChoose_yes (p : Int) (p0 : 0 ≤ p) (p1 : p < 65536) (r : Rg) (hf : r.Fit) (hm : r.may) (ha : alw r = true) (n : Nat) (hn : fs p 10 = n) (t : Bool) (ht : decide (n ≠ 0) = t) (w : World) :
    Calls Try.prog 22 #[.agg #[.int .u16 p], .agg #[.int .u16 r.A, .int .u16 r.L, .int .u16 r.Q, .int .i64 r.Z, .int .i64 r.EB, .int .i64 r.FB, .int .i64 r.Su, .bool r.Ex, .int .u16 r.Ix, .bool r.Hd, .int .u16 r.B, .bool r.Ih, .bool r.Sv]] w fun e w' => e = .returned (.tuple #[.int .i64 n, .bool t]) ∧ Below w.heap.size w w' := by
  have HA := Lib.hid (fun w => rAllowed_any r hf hm true ha w)
  have HN := Lib.hid hn
  have HT := Lib.hid ht
  clear hn ht
  go_enter Try.func22, Try.ntmps22
  go_wp2_with (fail)
  refine (HA.out _).mono ?_
  rintro e w1 ⟨rfl, hb⟩
  have B0 := Lib.hid (((Blk.new w 28 [.int .u16 p] _ rfl).alloc (by simp) (.cells (rgList r).toArray 26)).below hb (by simp; omega))
  have X1 := Lib.hid ((below2 w (.cells #[.int .u16 p] 28) (.cells (rgList r).toArray 26)).trans (hb.mono (by simp; omega)))
  have hz1 : w.heap.size < w1.heap.size := by have := hb.size; simp at this; omega
  clear hb
  go_wp2_with (fail)
  go_loopw [6] (fun i wr => ∃ k : Nat, k ≤ 10 ∧ i = .int .i64 ((k : Int) + 1) ∧ Hid (fs p k = 0) ∧ Hid (Blk wr w.heap.size [.int .u16 p]) ∧ w.heap.size < wr.heap.size ∧ Hid (Below w.heap.size w wr)) (fun i _ => 11 - (intOf i).toNat)
  case atStart => exact ⟨0, Nat.zero_le _, rfl, Lib.hid rfl, B0, hz1, X1⟩
  case round =>
    obtain ⟨k, hk, rfl, HF, HB, hzr, HX⟩ := hrel
    have c0 := HB.out.cell 0 _ rfl
    by_cases hlt : k < 10
    · have HLT := Lib.hid hlt
      by_cases c : pb p (k + 1) = true
      · have hfa := fs_at p k hlt HF.out c
        rw [HN.out] at hfa
        subst hfa
        have HW := Lib.hid (fun w => rWaits_yes p p0 p1 (k + 1) (by omega) (by omega) true c w)
        go_wp2_with (go_at_call 24; refine (HW.out _).mono ?_; rintro e w3 ⟨rfl, hb⟩; (have HX3 := Lib.hid (HX.out.trans (hb.mono HX.out.size))); clear hb)
        go_ret2
        exact ⟨by rw [← HT.out]; rfl, HX3.out⟩
      · have c' : pb p (k + 1) = false := by simpa using c
        have HF2 := Lib.hid (fs_no p k HF.out c')
        have HW := Lib.hid (fun w => rWaits_yes p p0 p1 (k + 1) (by omega) (by omega) false c' w)
        clear c c'
        go_wp2_with (go_at_call 24; refine (HW.out _).mono ?_; rintro e w3 ⟨rfl, hb⟩; (have HB3 := Lib.hid (HB.out.below hb hzr)); (have hz3 : w.heap.size < w3.heap.size := Nat.lt_of_lt_of_le hzr hb.size); (have HX3 := Lib.hid (HX.out.trans (hb.mono HX.out.size))); clear hb)
        go_roundw
        case rel => exact ⟨k + 1, by have := HLT.out; omega, by simp, HF2, HB3, hz3, HX3⟩
        case measure => have := HLT.out; simp [intOf]; omega
    · have e : k = 10 := by omega
      subst e
      have hn0 : n = 0 := by rw [← HN.out]; exact HF.out
      subst hn0
      go_wp2
      go_ret2
      exact ⟨by rw [← HT.out]; rfl, HX.out⟩
theorem rChoose_any (p : Int) (p0 : 0 ≤ p) (p1 : p < 65536) (r : Rg) (hf : r.Fit) (hm : r.may) (n : Nat) (hn : chz p r = n) (t : Bool) (ht : decide (n ≠ 0) = t) (w : World) :
    Calls Try.prog 22 #[.agg #[.int .u16 p], .agg #[.int .u16 r.A, .int .u16 r.L, .int .u16 r.Q, .int .i64 r.Z, .int .i64 r.EB, .int .i64 r.FB, .int .i64 r.Su, .bool r.Ex, .int .u16 r.Ix, .bool r.Hd, .int .u16 r.B, .bool r.Ih, .bool r.Sv]] w fun e w' => e = .returned (.tuple #[.int .i64 n, .bool t]) ∧ Below w.heap.size w w' := by
  unfold chz at hn
  by_cases ha : alw r = true
  · rw [if_pos ha] at hn
    exact rChoose_yes p p0 p1 r hf hm ha n hn t ht w
  · rw [if_neg ha] at hn
    subst hn
    subst ht
    exact rChoose_no p r hf hm (by simpa using ha) w
theorem rword7_any (A : Option Addr) (n c : Nat) (z : Nat → Int) (a x : Int) (hx : wd n z a = x) (a0 : 0 ≤ a) (hn : n ≤ 140737488355328) (w : World) (hr : Row .u16 w A n z) (hz : ∀ i, i < n → 0 ≤ z i ∧ z i ≤ 65535) :
    Calls Try.prog 27 #[.slice A n c, .int .i64 a] w fun e w' => e = .returned (.int .i64 x) ∧ w = w' := by
  obtain ⟨i, rfl⟩ := Int.eq_ofNat_of_zero_le a0
  try simp only [Int.ofNat_eq_natCast] at *
  by_cases h : i < n
  · obtain ⟨p, rfl, hc⟩ := hr i h
    have hb := hz i h
    have e : z i % 32768 = x := by rw [← hx]; unfold wd; rw [if_neg (by omega)]; simp
    have HL := Lib.hid (fun w => rLow_any (z i) (by omega) (by omega) w)
    rw [e] at HL
    clear hr hz hx e
    go_enter Try.func27, Try.ntmps27
    go_wp2_with (go_at_call 23; refine (HL.out _).mono ?_; rintro e w1 ⟨rfl, rfl⟩)
    go_ret
    exact ⟨rfl, rfl⟩
  · have e : 0 = x := by rw [← hx]; unfold wd; rw [if_pos (by omega)]
    have HX := Lib.hid e
    clear hr hz hx e
    go_enter Try.func27, Try.ntmps27
    go_wp2
    go_ret
    exact ⟨ret_int HX.out, rfl⟩
set_option maxHeartbeats 1000000 in
theorem rLeave_any (r : Rg) (A : Option Addr) (n c : Nat) (z : Nat → Int) (hn : n ≤ 140737488355328) (w : World) (hr : Row .u16 w A n z) (hz : ∀ i, i < n → 0 ≤ z i ∧ z i ≤ 65535) :
    Calls Try.prog 11 #[.agg #[.int .u16 r.A, .int .u16 r.L, .int .u16 r.Q, .int .i64 r.Z, .int .i64 r.EB, .int .i64 r.FB, .int .i64 r.Su, .bool r.Ex, .int .u16 r.Ix, .bool r.Hd, .int .u16 r.B, .bool r.Ih, .bool r.Sv], .slice A n c] w fun e w' => e = .returned (.agg #[.int .u16 (lvR r n z).A, .int .u16 (lvR r n z).L, .int .u16 (lvR r n z).Q, .int .i64 (lvR r n z).Z, .int .i64 (lvR r n z).EB, .int .i64 (lvR r n z).FB, .int .i64 (lvR r n z).Su, .bool (lvR r n z).Ex, .int .u16 (lvR r n z).Ix, .bool (lvR r n z).Hd, .int .u16 (lvR r n z).B, .bool (lvR r n z).Ih, .bool (lvR r n z).Sv]) ∧ Below w.heap.size w w' := by
  have W1 := Lib.hid (rword7_any A n c z 13 _ rfl (by omega) hn)
  have W2 := Lib.hid (rword7_any A n c z 15 _ rfl (by omega) hn)
  have h1 := wd_bd n z 13
  have h2 := wd_bd n z 15
  have HR := Lib.hid hr
  have HZ := Lib.hid hz
  clear hr hz
  unfold lvR
  generalize wd n z 13 = x at *
  generalize wd n z 15 = y at *
  have hm : x.tmod 4096 = x % 4096 := Int.tmod_eq_emod_of_nonneg h1.1
  have hy : IntKind.u16.wrap y = y := IntWalk.u16_in _ (by omega)
  go_enter Try.func11, Try.ntmps11
  go_wp2_with (fail)
  refine (W1.out _ (HR.out.below (below2 w _ _) (Nat.le_refl _)) HZ.out).mono ?_
  rintro e w' ⟨rfl, rfl⟩
  go_wp2_with (fail)
  refine (W2.out _ (HR.out.below (below2 w _ _) (Nat.le_refl _)) HZ.out).mono ?_
  rintro e w' ⟨rfl, rfl⟩
  go_wp2
  exact ret_struct1 Try.results11 Try.underlying26 (rgList { r with Z := x % 4096, B := y, Hd := true, Sv := false }) (by kernel_rfl) (w.heap.size + 1) rfl (at_allocN (by simp) (rgList { r with Z := x % 4096, B := y, Hd := true, Sv := false })) rfl ⟨rfl, below2 _ _ _⟩
end Go.Proofs.Ytmmpifcfhjdfnaa
