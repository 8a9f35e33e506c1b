/- Contracts of layer 6: Total of both. -/
import Derived.Test.YteongalbljdjlaaM06g
set_option linter.unusedSimpArgs false
set_option linter.unusedVariables false
set_option maxRecDepth 100000
namespace Go.Proofs.Yteongalbljdjlaa
open Go.ChangeShapes Go.WideShapes Go.ChangeAt Go.RowKit
/-- What a pulse counts for the counter b. -/
def pt (b : Int) (p : Int × Int) : Int := if p.1 = b then (if p.2 = 1 then 1 else if p.2 = 2 then -1 else 0) else 0
/-- The number of plus pulses of the counter b less that of its minus pulses. -/
def tot (b : Int) (M : List (Int × Int)) : Int := M.foldl (fun s p => s + pt b p) 0
theorem tot_from (b : Int) (M : List (Int × Int)) (s : Int) : M.foldl (fun s p => s + pt b p) s = s + tot b M := by
  induction M generalizing s with
  | nil => show s = s + 0; omega
  | cons p M ih =>
    show M.foldl _ (s + pt b p) = s + M.foldl _ (0 + pt b p)
    rw [ih, ih (0 + pt b p)]; omega
theorem tot_append (b : Int) (M L : List (Int × Int)) : tot b (M ++ L) = tot b M + tot b L := by
  unfold tot; rw [List.foldl_append]; exact tot_from b L _
theorem tot_one (b : Int) (p : Int × Int) : tot b [p] = pt b p := by show 0 + pt b p = pt b p; omega
theorem tot_snoc (b : Int) (M : List (Int × Int)) (p : Int × Int) : tot b (M ++ [p]) = tot b M + pt b p := by rw [tot_append, tot_one]
theorem pt_bd (b : Int) (p : Int × Int) : -1 ≤ pt b p ∧ pt b p ≤ 1 := by unfold pt; repeat' split; all_goals omega
theorem tot_bd (b : Int) (M : List (Int × Int)) : -(M.length : Int) ≤ tot b M ∧ tot b M ≤ M.length := by
  induction M with
  | nil => exact ⟨by show -((0 : Nat) : Int) ≤ 0; omega, by show (0 : Int) ≤ ((0 : Nat) : Int); omega⟩
  | cons p M ih =>
    have e : tot b (p :: M) = pt b p + tot b M := by rw [show p :: M = [p] ++ M from rfl, tot_append, tot_one]
    have := pt_bd b p
    rw [e, List.length_cons]
    omega
theorem take_nextQ (M : List (Int × Int)) (q : Nat) (h : q < M.length) : M.take (q + 1) = M.take q ++ [M.getD q (0, 0)] := by
  rw [List.take_add_one, List.getElem?_eq_getElem h, List.getD_eq_getElem?_getD, List.getElem?_eq_getElem h]
  rfl
set_option maxHeartbeats 2000000 in
theorem Total_any (A : Option Addr) (n c : Nat) (M : List (Int × Int)) (b : Int) (hM : M.length = n) (hn : n ≤ 100000) (w : World) (hp : PlsL w A M) :
    Calls Try.prog 10 #[.slice A n c, .int .i64 b] w fun e w' => e = .returned (.int .i64 (tot b M)) ∧ Below w.heap.size w w' := by
  have HP := Lib.hid hp
  have HM := Lib.hid hM
  clear hp hM
  go_enter Try.func10, Try.ntmps10
  go_wp2_with (fail)
  go_loopw [5, 10] (fun s i wr => ∃ k : Nat, k ≤ n ∧ s = .int .i64 (tot b (M.take k)) ∧ i = .int .i64 k ∧ Hid (Below w.heap.size w wr)) (fun _ i _ => n - (intOf i).toNat)
  case atStart => exact ⟨0, Nat.zero_le _, rfl, rfl, Lib.hid (Below.refl _ _)⟩
  case round =>
    obtain ⟨k, hk, rfl, rfl, HB⟩ := hrel
    by_cases hlt : k < n
    · have HLT := Lib.hid hlt
      obtain ⟨a, rfl, d1, d2⟩ := (HP.out.below HB.out (Nat.le_refl _)) k (by rw [HM.out]; exact hlt)
      have HX := Lib.hid (show tot b (M.take (k + 1)) = tot b (M.take k) + pt b (M.getD k (0, 0)) by rw [take_nextQ M k (by rw [HM.out]; exact hlt), tot_snoc])
      have hbd := tot_bd b (M.take k)
      have hlk : ((M.take k).length : Int) ≤ k := by simp; omega
      have t0 : -100000 ≤ tot b (M.take k) ∧ tot b (M.take k) ≤ 100000 := by omega
      clear hbd hlk
      change _ = some (Value.int .i64 (M.getD k (0, 0)).1) at d1
      change _ = some (Value.int .u8 (M.getD k (0, 0)).2) at d2
      generalize M.getD k (0, 0) = p at d1 d2 HX
      generalize tot b (M.take k) = t at HX t0 ⊢
      obtain ⟨p1, p2⟩ := p
      change wr.cell? (a.add (k * 2)) = some (.int .i64 p1) at d1
      change wr.cell? ⟨(a.add (k * 2)).block, (a.add (k * 2)).off + 1, none⟩ = some (.int .u8 p2) at d2
      have HB2 := Lib.hid (HB.out.alloc HB.out.size (.cells #[.int .i64 p1, .int .u8 p2] 25))
      clear HB
      by_cases c1 : p1 = b
      · subst c1
        by_cases c2 : p2 = 1
        · subst c2
          have HV := Lib.hid (show tot p1 (M.take (k + 1)) = t + 1 by rw [HX.out]; unfold pt; simp)
          clear HX
          go_wp2
          exact ⟨⟨k + 1, HLT.out, by rw [HV.out], by go_num, HB2⟩, by simp [intOf]; omega⟩
        · by_cases c3 : p2 = 2
          · subst c3
            have HV := Lib.hid (show tot p1 (M.take (k + 1)) = t - 1 by rw [HX.out]; unfold pt; simp; omega)
            clear HX
            go_wp2
            exact ⟨⟨k + 1, HLT.out, by rw [HV.out], by go_num, HB2⟩, by simp [intOf]; omega⟩
          · have HV := Lib.hid (show tot p1 (M.take (k + 1)) = t by rw [HX.out]; unfold pt; simp [c2, c3])
            have e1 : (p2 == 1) = false := by simp [c2]
            have e2 : (p2 == 2) = false := by simp [c3]
            clear HX c2 c3
            go_wp2
            exact ⟨⟨k + 1, HLT.out, by rw [HV.out], by go_num, HB2⟩, by simp [intOf]; omega⟩
      · have HV := Lib.hid (show tot b (M.take (k + 1)) = t by rw [HX.out]; unfold pt; simp [c1])
        have e1 : (p1 == b) = false := by simp [c1]
        clear HX c1
        go_wp2
        exact ⟨⟨k + 1, HLT.out, by rw [HV.out], by go_num, HB2⟩, by simp [intOf]; omega⟩
    · have e : k = n := by omega
      subst e
      have HV := Lib.hid (show M.take k = M by rw [← HM.out]; exact List.take_length)
      rw [HV.out]
      go_wp2
      go_ret
      exact ⟨rfl, HB.out⟩
set_option maxHeartbeats 2000000 in
theorem rTotal_any (A : Option Addr) (n c : Nat) (M : List (Int × Int)) (b : Int) (hM : M.length = n) (hn : n ≤ 100000) (w : World) (hp : PlsL w A M) :
    Calls Try.prog 11 #[.slice A n c, .int .i64 b] w fun e w' => e = .returned (.int .i64 (tot b M)) ∧ Below w.heap.size w w' := by
  have HP := Lib.hid hp
  have HM := Lib.hid hM
  clear hp hM
  go_enter Try.func11, Try.ntmps11
  go_wp2_with (fail)
  go_loopw [5, 6] (fun s i wr => ∃ k : Nat, k ≤ n ∧ s = .int .i64 (tot b (M.take k)) ∧ i = .int .i64 k ∧ Hid (Below w.heap.size w wr)) (fun _ i _ => n - (intOf i).toNat)
  case atStart => exact ⟨0, Nat.zero_le _, rfl, rfl, Lib.hid (Below.refl _ _)⟩
  case round =>
    obtain ⟨k, hk, rfl, rfl, HB⟩ := hrel
    by_cases hlt : k < n
    · have HLT := Lib.hid hlt
      obtain ⟨a, rfl, d1, d2⟩ := (HP.out.below HB.out (Nat.le_refl _)) k (by rw [HM.out]; exact hlt)
      have HX := Lib.hid (show tot b (M.take (k + 1)) = tot b (M.take k) + pt b (M.getD k (0, 0)) by rw [take_nextQ M k (by rw [HM.out]; exact hlt), tot_snoc])
      have hbd := tot_bd b (M.take k)
      have hlk : ((M.take k).length : Int) ≤ k := by simp; omega
      have t0 : -100000 ≤ tot b (M.take k) ∧ tot b (M.take k) ≤ 100000 := by omega
      clear hbd hlk
      change _ = some (Value.int .i64 (M.getD k (0, 0)).1) at d1
      change _ = some (Value.int .u8 (M.getD k (0, 0)).2) at d2
      generalize M.getD k (0, 0) = p at d1 d2 HX
      generalize tot b (M.take k) = t at HX t0 ⊢
      obtain ⟨p1, p2⟩ := p
      change wr.cell? (a.add (k * 2)) = some (.int .i64 p1) at d1
      change wr.cell? ⟨(a.add (k * 2)).block, (a.add (k * 2)).off + 1, none⟩ = some (.int .u8 p2) at d2
      by_cases c1 : p1 = b
      · subst c1
        by_cases c2 : p2 = 1
        · subst c2
          have HV := Lib.hid (show tot p1 (M.take (k + 1)) = t + 1 by rw [HX.out]; unfold pt; simp)
          clear HX
          go_wp2
          all_goals (try (go_quiet (fail); go_wp2))
          exact ⟨⟨k + 1, HLT.out, by rw [HV.out], by go_num, HB⟩, by simp [intOf]; omega⟩
        · by_cases c3 : p2 = 2
          · subst c3
            have HV := Lib.hid (show tot p1 (M.take (k + 1)) = t - 1 by rw [HX.out]; unfold pt; simp; omega)
            clear HX
            go_wp2
            exact ⟨⟨k + 1, HLT.out, by rw [HV.out], by go_num, HB⟩, by simp [intOf]; omega⟩
          · have HV := Lib.hid (show tot p1 (M.take (k + 1)) = t by rw [HX.out]; unfold pt; simp [c2, c3])
            have e1 : (p2 == 1) = false := by simp [c2]
            have e2 : (p2 == 2) = false := by simp [c3]
            clear HX c2 c3
            go_wp2
            exact ⟨⟨k + 1, HLT.out, by rw [HV.out], by go_num, HB⟩, by simp [intOf]; omega⟩
      · have HV := Lib.hid (show tot b (M.take (k + 1)) = t by rw [HX.out]; unfold pt; simp [c1])
        have e1 : (p1 == b) = false := by simp [c1]
        clear HX c1
        go_wp2
        exact ⟨⟨k + 1, HLT.out, by rw [HV.out], by go_num, HB⟩, by simp [intOf]; omega⟩
    · have e : k = n := by omega
      subst e
      have HV := Lib.hid (show M.take k = M by rw [← HM.out]; exact List.take_length)
      rw [HV.out]
      go_wp2
      go_ret
      exact ⟨rfl, HB.out⟩
end Go.Proofs.Yteongalbljdjlaa
