/- Contracts of layer 7: Request, Waits, none, Allowed. -/
import Derived.Test.YtmmpifcfhjdfnaaM07b
import Derived.BigQuiet
import Derived.Deep.RegionWith
set_option linter.unusedSimpArgs false
set_option linter.unusedVariables false
set_option maxRecDepth 100000
namespace Go.Proofs.Ytmmpifcfhjdfnaa
open Go.ChangeShapes Go.WideShapes Go.ChangeAt Go.RowKit
/-- The set with n. -/
def rq (p : Int) (n : Nat) : Nat := sB (fun i => i == n || pb p i) 10
theorem kq0 (p : Int) : sB (kq p 0) 10 = sB (pb p) 10 := sB_congr 10 (fun n h0 h1 => by
  unfold kq
  have : ¬ (n : Int) = 0 := by omega
  simp only [this, decide_false, Bool.not_false, Bool.and_true])
theorem Request_no (p n : Int) (h : ¬ (1 ≤ n ∧ n ≤ 10)) (w : World) :
    Calls Try.prog 13 #[.agg #[.int .u16 p], .int .i64 n] w fun e w' => e = .returned (.tuple #[.agg #[.int .u16 0], .int .i64 3]) ∧ Below w.heap.size w w' := by
  have hr := isRupt_any n false (decide_eq_false h)
  go_enter Try.func13, Try.ntmps13
  go_wp2_with (go_at_call 28; refine (hr _).mono ?_; rintro e w' ⟨rfl, rfl⟩)
  exact ret_struct2 Try.results13 Try.underlying28 [.int .u16 0] (by kernel_rfl) (w.heap.size + 1) rfl (at_allocN (by simp) [.int .u16 0]) (.int .i64 3) rfl rfl ⟨rfl, ((Below.refl _ _).alloc (Nat.le_refl _) _).alloc (by simp) _⟩
set_option maxHeartbeats 1000000 in
theorem Request_yes (p : Int) (p0 : 0 ≤ p) (p1 : p < 65536) (n : Nat) (h0 : 1 ≤ n) (h1 : n ≤ 10) (w : World) :
    Calls Try.prog 13 #[.agg #[.int .u16 p], .int .i64 n] w fun e w' => e = .returned (.tuple #[.agg #[.int .u16 (rq p n : Nat)], .int .i64 0]) ∧ Below w.heap.size w w' := by
  have hr := isRupt_any n true (decide_eq_true (by omega))
  have hor := or_bit (pb p) n h0 h1
  have hsb := sB10 (pb p)
  change bits .or .u16 _ _ = ((rq p n : Nat) : Int) at hor
  have hc := fun W => collect_any p 0 p0 p1 W
  rw [kq0] at hc
  generalize sB (pb p) 10 = s at *
  generalize rq p n = q at *
  go_enter Try.func13, Try.ntmps13
  go_wp2_with (first | (go_at_call 28; refine (hr _).mono ?_; rintro e w' ⟨rfl, rfl⟩) | (go_at_call 20; refine (hc _).mono ?_; rintro e w1 ⟨rfl, hb⟩))
  have B1 := (Blk.new (w.alloc (.cells #[.int .u16 p] 28)) 28 [.int .u16 0] (w.heap.size + 1) (by simp)).below hb (by simp)
  have hz := hb.size
  simp only [World.size_alloc] at hz
  have hz1 : w.heap.size + 1 < w1.heap.size := by omega
  have hc1 := B1.cell 0 _ rfl
  have hf1 := B1.free 0 _ rfl
  have hX := (((((Below.refl w.heap.size w).alloc (Nat.le_refl _) (.cells #[.int .u16 p] 28)).alloc (by simp) (.cells #[.int .u16 0] 28)).trans (hb.mono (by simp; omega))).setCell (p := ⟨w.heap.size + 1, 0, none⟩) (by show _ ≤ w.heap.size + 1; omega) (.int .u16 q)).alloc (by simp; omega) (.cells #[.int .u16 q] 28)
  have HX := Lib.hid hX
  have HB := Lib.hid ((B1.set 0 (by simp) (.int .u16 q)).alloc (by simpa using hz1) (.cells #[.int .u16 q] 28))
  clear hX B1 hb hc hr
  go_region_with (go_at_call 29; refine (bit_any n h0 h1 _).mono ?_; rintro e w' ⟨rfl, rfl⟩)
  all_goals
    go_wp2
    exact ret_struct2 Try.results13 Try.underlying28 [.int .u16 q] (by kernel_rfl) (w.heap.size + 1) rfl HB.out.drew.cells (.int .i64 0) rfl rfl ⟨rfl, HX.out.drew⟩
theorem Waits_no (p n : Int) (h : ¬ (1 ≤ n ∧ n ≤ 10)) (w : World) :
    Calls Try.prog 14 #[.agg #[.int .u16 p], .int .i64 n] w fun e w' => e = .returned (.bool false) ∧ Below w.heap.size w w' := by
  have hr := isRupt_any n false (decide_eq_false h)
  go_enter Try.func14, Try.ntmps14
  go_wp2
  go_quiet ((go_at_call 28; exact quiet_left (hr _)))
  go_wp2
  go_ret
  exact ⟨rfl, below_drewN ((Below.refl _ _).alloc (Nat.le_refl _) _) _⟩
theorem Waits_yes (p : Int) (p0 : 0 ≤ p) (p1 : p < 65536) (n : Nat) (h0 : 1 ≤ n) (h1 : n ≤ 10) (t : Bool) (ht : pb p n = t) (w : World) :
    Calls Try.prog 14 #[.agg #[.int .u16 p], .int .i64 n] w fun e w' => e = .returned (.bool t) ∧ Below w.heap.size w w' := by
  have hr := isRupt_any n true (decide_eq_true (by omega))
  have hbv := bV_bd n (by omega)
  cases t
  · have ha := and_no p p0 p1 n (by omega) ht
    go_enter Try.func14, Try.ntmps14
    go_wp2
    go_quiet ((first | (go_at_call 28; exact quiet_left (hr _)) | (go_at_call 29; exact quiet_left (bit_any n h0 h1 _))))
    go_wp2
    go_ret
    exact ⟨rfl, below_drewN ((Below.refl _ _).alloc (Nat.le_refl _) _) _⟩
  · have ha := and_yes p p0 p1 n (by omega) ht
    have hne : (bV n != 0) = true := by rw [bne_iff_ne]; exact bV_ne _
    go_enter Try.func14, Try.ntmps14
    go_wp2
    go_quiet ((first | (go_at_call 28; exact quiet_left (hr _)) | (go_at_call 29; exact quiet_left (bit_any n h0 h1 _))))
    go_wp2
    go_ret
    exact ⟨rfl, below_drewN ((Below.refl _ _).alloc (Nat.le_refl _) _) _⟩
end Go.Proofs.Ytmmpifcfhjdfnaa
