/- Contracts of layer 3: the reference's functions on memories. -/
import Derived.Test.YtamjknckgaffpaaL03b
import Derived.Test.YtamjknckgaffpaaL02c
set_option linter.unusedSimpArgs false
set_option linter.unusedVariables false
namespace Go.Proofs.Ytamjknckgaffpaa
open Go.ChangeShapes Go.WideShapes Go.ChangeAt Go.RowKit
def mReadE (n : Nat) (f : Nat → Int) (x : Int) : Int := if 0 ≤ x ∧ x < n then (if odds 16 (f x.toNat) = true then 0 else 11) else 3
def mReadV (n : Nat) (f : Nat → Int) (x : Int) : Int := if 0 ≤ x ∧ x < n then (if odds 16 (f x.toNat) = true then f x.toNat % 32768 else 0) else 0
set_option maxHeartbeats 2000000 in
theorem rRead_any (A : Option Addr) (n c : Nat) (f : Nat → Int) (w : World) (hr : Row .u16 w A n f) (hf : ∀ i, 0 ≤ f i ∧ f i < 65536) (hn : n ≤ 4611686018427387904) (x : Int) (x0 : -9223372036854775808 ≤ x) (x1 : x ≤ 9223372036854775807) :
    Calls Try.prog 23 #[.slice A n c, .int .i64 x] w fun e w' => e = .returned (.tuple #[.int .u16 (mReadV n f x), .int .i64 (mReadE n f x)]) ∧ w = w' := by
  have HR := Lib.hid hr
  have HF := Lib.hid hf
  clear hr hf
  by_cases h : 0 ≤ x ∧ x < n
  · unfold mReadV mReadE
    rw [if_pos h, if_pos h]
    obtain ⟨k, rfl⟩ := Int.eq_ofNat_of_zero_le h.1
    have hk : k < n := by omega
    obtain ⟨a, rfl, hc⟩ := HR.out k hk
    obtain ⟨f0, f1⟩ := HF.out k
    simp only [Int.ofNat_eq_natCast, Int.toNat_natCast]
    clear h
    by_cases o : odds 16 (f k) = true
    · rw [if_pos o, if_pos o]
      go_enter Try.func23, Try.ntmps23
      go_wp2_with (first | (go_at_call 48; refine (rGet_any _ (by omega) (by omega) _).mono ?_; rintro e w1 ⟨rfl, rfl⟩) | (go_at_call 37; refine (rwithin_yes _ _ (by omega) _).mono ?_; rintro e w1 ⟨rfl, rfl⟩))
      go_ret2
      exact ⟨rfl, rfl⟩
    · rw [if_neg o, if_neg o]
      have o' : odds 16 (f k) = false := by simpa using o
      clear o
      go_enter Try.func23, Try.ntmps23
      go_wp2_with (first | (go_at_call 48; refine (rGet_any _ (by omega) (by omega) _).mono ?_; rintro e w1 ⟨rfl, rfl⟩) | (go_at_call 37; refine (rwithin_yes _ _ (by omega) _).mono ?_; rintro e w1 ⟨rfl, rfl⟩))
      go_ret2
      exact ⟨rfl, rfl⟩
  · unfold mReadV mReadE
    rw [if_neg h, if_neg h]
    by_cases g : 0 ≤ x
    · have g2 : ¬ x ≤ (n : Int) - 1 := by omega
      clear h
      go_enter Try.func23, Try.ntmps23
      go_wp2
      go_ret2
      exact ⟨rfl, rfl⟩
    · clear h
      go_enter Try.func23, Try.ntmps23
      go_wp2
      go_ret2
      exact ⟨rfl, rfl⟩
def wordsL (f : Nat → Int) (n : Nat) : List Int := lst n (fun i => f i % 32768)
theorem lst_succ (n : Nat) (h : Nat → Int) : lst (n + 1) h = lst n h ++ [h n] := by simp [lst, List.range_succ]
set_option maxHeartbeats 2000000 in
theorem rWords3_any (A : Option Addr) (n c : Nat) (f : Nat → Int) (w : World) (hr : Row .u16 w A n f) (hf : ∀ i, 0 ≤ f i ∧ f i < 65536) (hn : n ≤ 1000000000) :
    Calls Try.prog 30 #[.slice A n c] w (RetOwn .u16 43 (wordsL f n) w) := by
  have HF := Lib.hid hf
  clear hf
  obtain ⟨HR, hA⟩ := rowCase hr
  clear hr
  rcases hA with H0 | ⟨a, rfl⟩
  all_goals
    go_enter Try.func30, Try.ntmps30
    go_wp2
    go_loopw [3, 4] (fun o i wr => ∃ k : Nat, k ≤ n ∧ i = .int .i64 k ∧ Own .u16 43 wr w.heap.size o (wordsL f k) ∧ Below w.heap.size w wr) (fun _ i _ => n - (intOf i).toNat)
    case atStart => exact ⟨0, by omega, rfl, Own.nil _ _ _ _, Below.refl _ _⟩
    case round =>
      obtain ⟨k, hk, rfl, hown, hb⟩ := hrel
      by_cases hlt : k < n
      · first
          | (exfalso; have := H0.out; omega)
          | (have hc := (HR.out.below hb (Nat.le_refl _)).at_ hlt
             obtain ⟨g0, g1⟩ := HF.out k
             have hz := hb.size
             have hl := lst_len k (fun i => f i % 32768)
             have HS := Lib.hid (lst_succ k (fun i => f i % 32768))
             have HB := Lib.hid hb
             have HO := Lib.hid hown
             clear hb hown
             go_wp2_with (first | (go_at_call 48; refine (rGet_any _ (by omega) (by omega) _).mono ?_; rintro e w1 ⟨rfl, rfl⟩) | (at_builtin; refine app_one rfl _ _ 51 rfl .u16 43 2 Try.underlying51 info_word w _ w.heap.size _ (wordsL f k) _ HO.out rfl rfl (by unfold wordsL; omega) HB.out hz ?_; intro v' w' hown' hb' hz'; (have HO' := Lib.hid hown'; have HB' := Lib.hid hb'; clear hown' hb')))
             go_roundw
             case rel => exact ⟨k + 1, by omega, by go_num, by have := HO'.out; unfold wordsL at this ⊢; rw [HS.out]; exact this, HB'.out⟩
             case measure => simp [intOf]; omega)
      · have e : k = n := by omega
        subst e
        have HB := Lib.hid hb
        have HO := Lib.hid hown
        clear hb hown
        go_wp2
        go_ret
        exact ⟨_, rfl, HO.out, HB.out⟩
def zeroAt (k i : Nat) : Int := if i < k then 32768 else 0
theorem zeroAt_succ (n k : Nat) : (fun i => if i = k then 32768 else zeroAt k i) = zeroAt (k + 1) := by
  funext i
  unfold zeroAt
  by_cases c : i = k
  · subst c; rw [if_pos rfl, if_pos (by omega)]
  · rw [if_neg c]
    by_cases d : i < k
    · rw [if_pos d, if_pos (by omega)]
    · rw [if_neg d, if_neg (by omega)]
set_option maxHeartbeats 2000000 in
theorem zeros_any (n : Nat) (w : World) (hn : n ≤ 1000000) :
    Calls Try.prog 45 #[.int .i64 n] w (RetOwn .u16 58 (lst n (fun _ => 32768)) w) := by
  obtain ⟨p0, _⟩ := kpar
  go_enter Try.func45, Try.ntmps45
  go_wp2_with (at_make; refine make_full w w rfl _ _ 35 rfl .u16 58 2 Try.underlying35 info_stored w.heap.size n rfl rfl (by omega) (by omega) (Below.refl _ _) (Nat.le_refl _) ?_; intro w1 hown hb hlt; (have HO := Lib.hid hown; have HB := Lib.hid hb; clear hown hb))
  go_loopw [4] (fun i wr => ∃ k : Nat, k ≤ n ∧ i = .int .i64 k ∧ Arr .u16 58 wr w.heap.size w.heap.size n n (zeroAt k) ∧ Below w.heap.size w wr) (fun i _ => n - (intOf i).toNat)
  case atStart => exact ⟨0, by omega, rfl, Arr.of_own HO.out (by rw [lst_replicate]; rfl), HB.out⟩
  case round =>
    obtain ⟨k, hk, rfl, ho, hb⟩ := hrel
    by_cases hlt : k < n
    · have hcell := ho.cell hlt
      have hfree := ho.free k
      have hset := ho.set k 32768
      rw [zeroAt_succ n k] at hset
      have HS := Lib.hid hset
      have HB2 := Lib.hid (hb.setCell (p := ⟨w.heap.size, k, none⟩) (Nat.le_refl _) (.int .u16 32768))
      clear hb ho hset HO HB
      go_wp2_with (first | (go_at_call 46; refine (rPut_any _ (by omega) (by omega) _).mono ?_; rintro e w1 ⟨rfl, rfl⟩))
      go_roundw
      case rel => exact ⟨k + 1, by omega, by go_num, HS.out, HB2.out⟩
      case measure => simp [intOf]; omega
    · have e : k = n := by omega
      subst e
      have HB2 := Lib.hid hb
      have HO2 := Lib.hid ho
      clear hb ho HO HB
      go_wp2
      go_ret
      refine ⟨_, rfl, ?_, HB2.out⟩
      have h := HO2.out.to_own
      rw [lst_congr (g := fun _ => 32768) (fun i hi => by unfold zeroAt; rw [if_pos hi])] at h
      exact h
set_option maxHeartbeats 2000000 in
theorem rErasable_any (w : World) : Calls Try.prog 21 #[] w (RetOwn .u16 58 (lst 2048 (fun _ => 32768)) w) := by
  go_enter Try.func21, Try.ntmps21
  go_wp2_with fail
  refine (zeros_any 2048 _ (by omega)).mono ?_
  rintro e w1 ⟨v, rfl, hown, hb⟩
  have HO := Lib.hid hown
  have HB := Lib.hid hb
  clear hown hb
  go_wp2
  go_ret
  exact ⟨_, rfl, HO.out, HB.out⟩
def mWriteE (n : Nat) (x : Int) : Int := if 0 ≤ x ∧ x < n then 0 else 3
def mWriteL (n : Nat) (f : Nat → Int) (x y : Int) : List Int := if 0 ≤ x ∧ x < n then lst n (fun i => if i = x.toNat then pPut y else f i) else []
set_option maxHeartbeats 2000000 in
theorem rWrite_any (A : Option Addr) (n c : Nat) (f : Nat → Int) (w : World) (hr : Row .u16 w A n f) (hn : n ≤ 1000000000) (x : Int) (x0 : -9223372036854775808 ≤ x) (x1 : x ≤ 9223372036854775807) (y : Int) (y0 : 0 ≤ y) (y1 : y < 65536) :
    Calls Try.prog 25 #[.slice A n c, .int .i64 x, .int .u16 y] w (RetOwnE .u16 58 (mWriteL n f x y) (mWriteE n x) w) := by
  have HR := Lib.hid hr
  clear hr
  by_cases h : 0 ≤ x ∧ x < n
  · unfold mWriteL mWriteE
    rw [if_pos h, if_pos h]
    obtain ⟨k, rfl⟩ := Int.eq_ofNat_of_zero_le h.1
    have hk : k < n := by omega
    obtain ⟨a, rfl, _⟩ := HR.out k hk
    simp only [Int.ofNat_eq_natCast, Int.toNat_natCast]
    clear h
    go_enter Try.func25, Try.ntmps25
    go_wp2_with (first | (go_at_call 37; refine (rwithin_yes _ _ (by omega) _).mono ?_; rintro e w1 ⟨rfl, rfl⟩) | (go_at_call 46; refine (rPut_any _ (by omega) (by omega) _).mono ?_; rintro e w1 ⟨rfl, rfl⟩) | (at_builtin; refine app_row rfl _ _ 35 rfl .u16 58 2 Try.underlying35 info_stored w _ w.heap.size (.slice none 0 0) [] (some a) _ _ f (Own.nil _ _ _ _) HR.out (fun h => nomatch h) rfl rfl (by refine ⟨?_, ?_⟩ <;> simp only [List.length_nil] <;> omega) (Below.refl _ _) (Nat.le_refl _) ?_; intro v1 w1 o1 b1 g1; (simp only [List.nil_append] at o1); (obtain ⟨g, c1, rfl, hbg, oa⟩ := Arr.mk_own o1 (by omega)); (have hcell := oa.cell hk; have hfree := oa.free k); (have OA := Lib.hid oa; have B1 := Lib.hid b1; clear oa o1 b1 g1)))
    go_ret2
    exact ⟨_, rfl, by have := (OA.out.set k (pPut y)).to_own; exact this, B1.out.setCell (p := ⟨g, k, none⟩) hbg _⟩
  · unfold mWriteL mWriteE
    rw [if_neg h, if_neg h]
    have h2 : ¬ (0 ≤ x ∧ x ≤ (n : Int) - 1) := by omega
    clear h
    go_enter Try.func25, Try.ntmps25
    go_wp2_with (first | (go_at_call 37; refine (rwithin_no _ _ (by omega) _).mono ?_; rintro e w1 ⟨rfl, rfl⟩))
    go_ret2
    exact ⟨_, rfl, Own.nil _ _ _ _, Below.refl _ _⟩
end Go.Proofs.Ytamjknckgaffpaa
