/- Contracts of layer 3: the program's functions on memories. -/
import Derived.Test.YtamjknckgaffpaaL03d
import Derived.Test.YtamjknckgaffpaaL03e
import Derived.Test.YtamjknckgaffpaaCopy
set_option linter.unusedSimpArgs false
set_option linter.unusedVariables false
namespace Go.Proofs.Ytamjknckgaffpaa
open Go.ChangeShapes Go.WideShapes Go.ChangeAt Go.RowKit
set_option maxHeartbeats 2000000 in
theorem Read_any (A : Option Addr) (n c : Nat) (f : Nat → Int) (w : World) (hr : Row .u16 w A n f) (hf : ∀ i, 0 ≤ f i ∧ f i < 65536) (hn : n ≤ 4611686018427387904) (x : Int) (x0 : -9223372036854775808 ≤ x) (x1 : x ≤ 9223372036854775807) :
    Calls Try.prog 22 #[.slice A n c, .int .i64 x] w fun e w' => e = .returned (.tuple #[.int .u16 (mReadV n f x), .int .i64 (mReadE n f x)]) ∧ w = w' := by
  have HR := Lib.hid hr
  have HF := Lib.hid hf
  clear hr hf
  by_cases h : 0 ≤ x ∧ x < n
  · unfold mReadV mReadE
    rw [if_pos h, if_pos h]
    obtain ⟨k, rfl⟩ := Int.eq_ofNat_of_zero_le h.1
    have hk : k < n := by omega
    obtain ⟨a, rfl, hc⟩ := HR.out k hk
    obtain ⟨f0, f1⟩ := HF.out k
    simp only [Int.ofNat_eq_natCast, Int.toNat_natCast]
    clear h
    by_cases o : odds 16 (f k) = true
    · rw [if_pos o, if_pos o]
      go_enter Try.func22, Try.ntmps22
      go_wp2_with (first | (go_at_call 47; refine (Get_any _ (by omega) (by omega) _).mono ?_; rintro e w1 ⟨rfl, rfl⟩) | (go_at_call 36; refine (mwithin_yes _ _ (by omega) _).mono ?_; rintro e w1 ⟨rfl, rfl⟩))
      go_ret2
      exact ⟨rfl, rfl⟩
    · rw [if_neg o, if_neg o]
      have o' : odds 16 (f k) = false := by simpa using o
      clear o
      go_enter Try.func22, Try.ntmps22
      go_wp2_with (first | (go_at_call 47; refine (Get_any _ (by omega) (by omega) _).mono ?_; rintro e w1 ⟨rfl, rfl⟩) | (go_at_call 36; refine (mwithin_yes _ _ (by omega) _).mono ?_; rintro e w1 ⟨rfl, rfl⟩))
      go_ret2
      exact ⟨rfl, rfl⟩
  · unfold mReadV mReadE
    rw [if_neg h, if_neg h]
    go_enter Try.func22, Try.ntmps22
    go_wp2_with (first | (go_at_call 36; refine (mwithin_no _ _ (by omega) _).mono ?_; rintro e w1 ⟨rfl, rfl⟩))
    go_ret2
    exact ⟨rfl, rfl⟩
/-- The first k words are in their places, the others 0. -/
def putAt (h : Nat → Int) (k i : Nat) : Int := if i < k then h i else 0
theorem putAt_zero (h : Nat → Int) : (fun _ => 0) = putAt h 0 := by funext i; unfold putAt; rw [if_neg (by omega)]
theorem putAt_succ (h : Nat → Int) (k : Nat) : (fun i => if i = k then h k else putAt h k i) = putAt h (k + 1) := by
  funext i
  unfold putAt
  by_cases c : i = k
  · subst c; rw [if_pos rfl, if_pos (by omega)]
  · rw [if_neg c]
    by_cases d : i < k
    · rw [if_pos d, if_pos (by omega)]
    · rw [if_neg d, if_neg (by omega)]
theorem putAt_full (h : Nat → Int) (n : Nat) : lst n (putAt h n) = lst n h := lst_congr (fun i hi => by unfold putAt; rw [if_pos hi])
set_option maxHeartbeats 2000000 in
theorem Words3_any (A : Option Addr) (n c : Nat) (f : Nat → Int) (w : World) (hr : Row .u16 w A n f) (hf : ∀ i, 0 ≤ f i ∧ f i < 65536) (hn : n ≤ 1000000000) :
    Calls Try.prog 29 #[.slice A n c] w (RetOwn .u16 43 (wordsL f n) w) := by
  have HF := Lib.hid hf
  clear hf
  obtain ⟨HR, hA⟩ := rowCase hr
  clear hr
  rcases hA with H0 | ⟨a, rfl⟩
  all_goals
    go_enter Try.func29, Try.ntmps29
    go_wp2_with (at_make; refine make_full w w rfl _ _ 51 rfl .u16 43 2 Try.underlying51 info_word w.heap.size n rfl rfl (by omega) (by omega) (Below.refl _ _) (Nat.le_refl _) ?_; intro w1 hown hb hlt; (have HO := Lib.hid hown; have HB := Lib.hid hb; clear hown hb))
    go_loopw [11] (fun i wr => ∃ k : Nat, k ≤ n ∧ i = .int .i64 k ∧ Arr .u16 43 wr w.heap.size w.heap.size n n (putAt (fun i => f i % 32768) k) ∧ Below w.heap.size w wr) (fun i _ => n - (intOf i).toNat)
    case atStart => exact ⟨0, by omega, rfl, Arr.of_own HO.out (by rw [lst_replicate, putAt_zero]), HB.out⟩
    case round =>
      obtain ⟨k, hk, rfl, oa, hb⟩ := hrel
      by_cases hlt : k < n
      · first
          | (exfalso; have := H0.out; omega)
          | (have hc := (HR.out.below hb (Nat.le_refl _)).at_ hlt
             obtain ⟨g0, g1⟩ := HF.out k
             have hcell := oa.cell hlt
             have hfree := oa.free k
             have hset := oa.set k (f k % 32768)
             have hps := putAt_succ (fun i => f i % 32768) k
             rw [hps] at hset
             have HS := Lib.hid hset
             have HB2 := Lib.hid (hb.setCell (p := ⟨w.heap.size, k, none⟩) (Nat.le_refl _) (.int .u16 (f k % 32768)))
             clear hb oa hset hps HO HB
             go_wp2_with (first | (go_at_call 47; refine (Get_any _ (by omega) (by omega) _).mono ?_; rintro e w1 ⟨rfl, rfl⟩))
             go_roundw
             case rel => exact ⟨k + 1, by omega, by go_num, HS.out, HB2.out⟩
             case measure => simp [intOf]; omega)
      · have e : k = n := by omega
        subst e
        have HB2 := Lib.hid hb
        have HO2 := Lib.hid oa
        clear hb oa HO HB
        go_wp2
        go_ret
        refine ⟨_, rfl, ?_, HB2.out⟩
        have h := HO2.out.to_own
        rw [putAt_full] at h
        exact h
set_option maxHeartbeats 2000000 in
theorem mzeros_any (n : Nat) (w : World) (hn : n ≤ 1000000) :
    Calls Try.prog 42 #[.int .i64 n] w (RetOwn .u16 58 (lst n (fun _ => 32768)) w) := by
  obtain ⟨p0, _⟩ := kpar
  go_enter Try.func42, Try.ntmps42
  go_wp2_with (first | (go_at_call 34; refine (Put_any _ (by omega) (by omega) _).mono ?_; rintro e w1 ⟨rfl, rfl⟩) | (at_make; refine make_full w w rfl _ _ 35 rfl .u16 58 2 Try.underlying35 info_stored w.heap.size n rfl rfl (by omega) (by omega) (Below.refl _ _) (Nat.le_refl _) ?_; intro w1 hown hb hlt; (have HO := Lib.hid hown; have HB := Lib.hid hb; clear hown hb)))
  go_loopw [11] (fun i wr => ∃ k : Nat, k ≤ n ∧ i = .int .i64 k ∧ Arr .u16 58 wr w.heap.size w.heap.size n n (putAt (fun _ => 32768) k) ∧ Below w.heap.size w wr) (fun i _ => n - (intOf i).toNat)
  case atStart => exact ⟨0, by omega, rfl, Arr.of_own HO.out (by rw [lst_replicate, putAt_zero]), HB.out⟩
  case round =>
    obtain ⟨k, hk, rfl, ho, hb⟩ := hrel
    by_cases hlt : k < n
    · have hcell := ho.cell hlt
      have hfree := ho.free k
      have hset := ho.set k 32768
      have hps := putAt_succ (fun _ => 32768) k
      rw [hps] at hset
      have HS := Lib.hid hset
      have HB2 := Lib.hid (hb.setCell (p := ⟨w.heap.size, k, none⟩) (Nat.le_refl _) (.int .u16 32768))
      clear hb ho hset hps HO HB
      go_wp2
      go_roundw
      case rel => exact ⟨k + 1, by omega, by go_num, by have := HS.out; rw [← p0] at this; rw [← p0]; exact this, by have := HB2.out; rw [← p0] at this; exact this⟩
      case measure => simp [intOf]; omega
    · have e : k = n := by omega
      subst e
      have HB2 := Lib.hid hb
      have HO2 := Lib.hid ho
      clear hb ho HO HB
      go_wp2
      go_ret
      refine ⟨_, rfl, ?_, HB2.out⟩
      have h := HO2.out.to_own
      rw [putAt_full] at h
      exact h
set_option maxHeartbeats 2000000 in
theorem Erasable_any (w : World) :
    Calls Try.prog 20 #[] w (RetOwn .u16 58 (lst 2048 (fun _ => 32768)) w) := by
  go_enter Try.func20, Try.ntmps20
  go_wp2_with fail
  refine (mzeros_any 2048 _ (by omega)).mono ?_
  rintro e w1 ⟨v, rfl, hown, hb⟩
  have HO := Lib.hid hown
  have HB := Lib.hid hb
  clear hown hb
  go_wp2
  go_ret
  exact ⟨_, rfl, HO.out, HB.out⟩
end Go.Proofs.Ytamjknckgaffpaa
