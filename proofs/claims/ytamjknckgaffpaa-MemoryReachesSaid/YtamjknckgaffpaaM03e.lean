/- Contracts of layer 3: what the program checks of banks. -/
import Derived.Test.YtamjknckgaffpaaM03d
set_option linter.unusedSimpArgs false
set_option linter.unusedVariables false
namespace Go.Proofs.Ytamjknckgaffpaa
open Go.ChangeShapes Go.WideShapes Go.ChangeAt Go.RowKit
open Classical in
/-- The error of a bank's words. -/
noncomputable def wordsE (n : Nat) (f : Nat → Int) : Int := if 1024 < n then 4 else if ∃ k, k < n ∧ 32767 < f k then 3 else 0
theorem wordsE_long {n : Nat} {f : Nat → Int} (h : 1024 < n) : wordsE n f = 4 := by unfold wordsE; rw [if_pos h]
theorem wordsE_word {n : Nat} {f : Nat → Int} (h : ¬ 1024 < n) (k : Nat) (hk : k < n) (hw : 32767 < f k) : wordsE n f = 3 := by unfold wordsE; rw [if_neg h, if_pos ⟨k, hk, hw⟩]
theorem wordsE_ok {n : Nat} {f : Nat → Int} (h : ¬ 1024 < n) (hw : ∀ k, k < n → f k ≤ 32767) : wordsE n f = 0 := by
  unfold wordsE; rw [if_neg h, if_neg (fun ⟨k, hk, h2⟩ => by have := hw k hk; omega)]
theorem wordsE_bd (n : Nat) (f : Nat → Int) : 0 ≤ wordsE n f ∧ wordsE n f ≤ 4 := by
  unfold wordsE
  split
  · omega
  · split <;> omega
theorem chk_words {b : BankF} {i : Nat} (h : 0 ≤ b.num i ∧ b.num i ≤ 35) (hd : ∀ k, k < i → b.num k ≠ b.num i) : chk b i = wordsE (b.wn i) (b.wf i) := by
  unfold chk wordsE; rw [if_neg (by simp; exact h), if_neg (fun ⟨k, h1, h2⟩ => hd k h1 h2)]
set_option maxHeartbeats 2000000 in
theorem checkWords_any (A : Option Addr) (n c : Nat) (f : Nat → Int) (w : World) (hr : Row .u16 w A n f) (hf : ∀ i, 0 ≤ f i ∧ f i < 65536) (hn : n ≤ 9223372036854775807) :
    Calls Try.prog 50 #[.slice A n c] w fun e w' => e = .returned (.int .i64 (wordsE n f)) ∧ w = w' := by
  have HF := Lib.hid hf
  clear hf
  by_cases hl : 1024 < n
  · have E := Lib.hid (wordsE_long (f := f) hl)
    have hl2 : 1024 < (n : Int) := by omega
    clear hl hr
    go_enter Try.func50, Try.ntmps50
    go_wp2
    go_ret
    exact ⟨ret_int E.out.symm, rfl⟩
  · have HL := Lib.hid hl
    have hl2 : ¬ 1024 < (n : Int) := by omega
    clear hl
    obtain ⟨HR, hA⟩ := rowCase hr
    clear hr
    rcases hA with H0 | ⟨a, rfl⟩
    all_goals
      go_enter Try.func50, Try.ntmps50
      go_wp2
      go_loop [10] (fun j => ∃ q : Nat, q ≤ n ∧ j = .int .i64 q ∧ Hid (∀ p, p < q → f p ≤ 32767)) (fun j => n - (intOf j).toNat)
      case atStart => exact ⟨0, Nat.zero_le _, rfl, fun q hq => by omega⟩
      case round =>
        obtain ⟨q, hq, rfl, hw⟩ := hrel
        by_cases hql : q < n
        · first
            | (exfalso; have := H0.out; omega)
            | (have hc := HR.out.at_ hql
               obtain ⟨f0, f1⟩ := HF.out q
               by_cases hx : 32767 < f q
               · have E := Lib.hid (wordsE_word HL.out q hql hx)
                 go_wp2
                 go_ret
                 exact ⟨ret_int E.out.symm, rfl⟩
               · have D := Lib.hid (show ∀ p, p < q + 1 → f p ≤ 32767 from fun p hp => by
                   by_cases e : p = q
                   · rw [e]; omega
                   · exact hw.out p (by omega))
                 go_wp2
                 go_round
                 case rel => exact ⟨q + 1, by omega, by go_num, D.out⟩
                 case measure => simp [intOf]; omega)
        · have E := Lib.hid (wordsE_ok HL.out (fun p hp => hw.out p (by omega)))
          go_wp2
          go_ret
          exact ⟨ret_int E.out.symm, rfl⟩
/-- The numbers of the first k banks. -/
def seenB (b : BankF) : Nat → Nat → Bool
  | 0 => fun _ => false
  | k + 1 => fun p => if p = (b.num k).toNat then true else seenB b k p
def seenV (b : BankF) (k : Nat) : Nat → Value := fun p => .bool (seenB b k p)
theorem seenV_zero (b : BankF) : seenV b 0 = fun _ => .bool false := rfl
theorem seenV_succ (b : BankF) (k : Nat) : (fun p => if p = (b.num k).toNat then Value.bool true else seenV b k p) = seenV b (k + 1) := by
  funext p
  unfold seenV
  show _ = Value.bool (if p = (b.num k).toNat then true else seenB b k p)
  by_cases c : p = (b.num k).toNat
  · rw [if_pos c, if_pos c]
  · rw [if_neg c, if_neg c]
theorem seenB_iff (b : BankF) (k p : Nat) (hk : ∀ j, j < k → 0 ≤ b.num j) : seenB b k p = true ↔ ∃ j, j < k ∧ b.num j = p := by
  induction k with
  | zero =>
    constructor
    · intro h; cases h
    · rintro ⟨j, h, _⟩; omega
  | succ k ih =>
    show (if p = (b.num k).toNat then true else seenB b k p) = true ↔ _
    by_cases c : p = (b.num k).toNat
    · rw [if_pos c]
      exact ⟨fun _ => ⟨k, by omega, by have := hk k (by omega); omega⟩, fun _ => rfl⟩
    · rw [if_neg c, ih (fun j hj => hk j (by omega))]
      constructor
      · rintro ⟨j, h1, h2⟩; exact ⟨j, by omega, h2⟩
      · rintro ⟨j, h1, h2⟩
        refine ⟨j, ?_, h2⟩
        by_cases e : j = k
        · subst e; omega
        · omega
theorem banksOk_num {b : BankF} {k : Nat} (h : banksOk b k) : ∀ j, j < k → 0 ≤ b.num j := fun j hj => (chk_zero (h j hj)).1
theorem banksOk_succ {b : BankF} {k : Nat} (h : banksOk b k) (hk : chk b k = 0) : banksOk b (k + 1) := fun j hj => by
  by_cases e : j = k
  · rw [e]; exact hk
  · exact h j (by omega)
set_option maxHeartbeats 4000000 in
theorem checkBanks_any (A : Option Addr) (n c : Nat) (b : BankF) (w : World) (hb : Banks w A n b) (hf : b.Fits) (hn : n ≤ 1000000000) :
    Calls Try.prog 41 #[.slice A n c] w fun e w' => e = .returned (.int .i64 (mFixE b n)) ∧ Below w.heap.size w w' := by
  have HF := Lib.hid hf
  obtain ⟨HB, hA⟩ := banksCase hb
  clear hb hf
  rcases hA with H0 | ⟨A, rfl⟩
  all_goals
    go_enter Try.func41, Try.ntmps41
    go_wp2
    go_loopw [9] (fun i wr => ∃ k : Nat, k ≤ n ∧ i = .int .i64 k ∧ ArrV 75 wr w.heap.size w.heap.size 36 36 (seenV b k) ∧ Below w.heap.size w wr ∧ Hid (banksOk b k)) (fun i _ => n - (intOf i).toNat)
    case atStart =>
      refine ⟨0, Nat.zero_le _, rfl, ?_, (Below.refl _ _).alloc (Nat.le_refl _) _, fun i hi => by omega⟩
      exact World.ownsRow_lit (base := w.heap.size) (e := 75) (size := 1) w _ 36 (Nat.le_refl _) (by unfold maxLen; omega) rfl
    case round =>
      obtain ⟨k, hk, rfl, oa, hb, hko⟩ := hrel
      have XA := Lib.hid oa
      have XB := Lib.hid hb
      have hz := oa.lt.2
      clear oa hb
      by_cases hlt : k < n
      · first
          | (exfalso; have := H0.out; omega)
          | (obtain ⟨c0, c1, _⟩ := (HB.out.below XB.out (Nat.le_refl _)).at_ hlt
             obtain ⟨n0, n1⟩ := HF.out.num k
             have R0 := Lib.hid (HB.out.at_ hlt).2.2
             by_cases hr : 0 ≤ b.num k ∧ b.num k ≤ 35
             · have HRG := Lib.hid hr
               obtain ⟨x, hx⟩ := Int.eq_ofNat_of_zero_le hr.1
               try simp only [Int.ofNat_eq_natCast] at hx
               rw [hx] at c0
               have hx36 : x < 36 := by omega
               have HX := Lib.hid hx
               clear hx hr n0 n1
               have cell := XA.out.cell hx36
               have free := XA.out.free x
               unfold seenV at cell
               by_cases hs : seenB b k x = true
               · rw [hs] at cell
                 obtain ⟨j, hj1, hj2⟩ := (seenB_iff b k x (banksOk_num hko.out)).1 hs
                 have E0 : chk b k = 8 := chk_dup HRG.out j hj1 (by rw [hj2, HX.out])
                 have E := Lib.hid ((mFix_bad hlt (by rw [E0]; omega) hko.out).2.trans E0)
                 clear hs hj2 E0
                 go_wp2_with (first | (go_at_call 36; refine (mwithin_yes _ _ (by omega) _).mono ?_; rintro e w1 ⟨rfl, rfl⟩))
                 go_ret
                 exact ⟨ret_int E.out.symm, XB.out.alloc (by omega) _⟩
               · have hs2 : seenB b k x = false := by simpa using hs
                 rw [hs2] at cell
                 have hd : ∀ j, j < k → b.num j ≠ b.num k := fun j hj e => hs ((seenB_iff b k x (banksOk_num hko.out)).2 ⟨j, hj, by rw [e, HX.out]⟩)
                 have EW := Lib.hid (chk_words HRG.out hd)
                 have hset := XA.out.set x (.bool true)
                 have hss := seenV_succ b k
                 rw [HX.out, Int.toNat_natCast] at hss
                 rw [hss] at hset
                 have XS := Lib.hid hset
                 have HWF := Lib.hid (HF.out.wf k)
                 have hwn := HF.out.wn k
                 have XB2 := Lib.hid (XB.out.setCell (p := ⟨w.heap.size, x, none⟩) (Nat.le_refl _) (.bool true))
                 clear hs hs2 hd hset hss
                 by_cases hq : wordsE (b.wn k) (b.wf k) = 0
                 · have KO := Lib.hid (banksOk_succ hko.out (EW.out.trans hq))
                   go_wp2_with (first | (go_at_call 36; refine (mwithin_yes _ _ (by omega) _).mono ?_; rintro e w1 ⟨rfl, rfl⟩) | (go_at_call 50; refine (checkWords_any _ _ _ _ _ (R0.out.below (XB2.out.alloc (by simp; omega) _) (Nat.le_refl _)) HWF.out hwn).mono ?_; rintro e w1 ⟨rfl, rfl⟩))
                   go_roundw
                   case rel => exact ⟨k + 1, by omega, by go_num, XS.out.below ((Below.refl _ _).alloc (Nat.le_refl _) _) (Nat.le_refl _), XB2.out.alloc (by simp; omega) _, KO.out⟩
                   case measure => simp [intOf]; omega
                 · have E := Lib.hid ((mFix_bad hlt (by rw [EW.out]; exact hq) hko.out).2.trans EW.out)
                   have hq2 : (wordsE (b.wn k) (b.wf k) != 0) = true := by rw [bne_iff_ne]; exact hq
                   go_wp2_with (first | (go_at_call 36; refine (mwithin_yes _ _ (by omega) _).mono ?_; rintro e w1 ⟨rfl, rfl⟩) | (go_at_call 50; refine (checkWords_any _ _ _ _ _ (R0.out.below (XB2.out.alloc (by simp; omega) _) (Nat.le_refl _)) HWF.out hwn).mono ?_; rintro e w1 ⟨rfl, rfl⟩))
                   go_ret
                   exact ⟨ret_int E.out.symm, XB2.out.alloc (by simp; omega) _⟩
             · have E0 := chk_range hr
               have E := Lib.hid ((mFix_bad hlt (by rw [E0]; omega) hko.out).2.trans E0)
               clear E0
               go_wp2_with (first | (go_at_call 36; refine (mwithin_no _ _ (by omega) _).mono ?_; rintro e w1 ⟨rfl, rfl⟩))
               go_ret
               exact ⟨ret_int E.out.symm, XB.out.alloc (by omega) _⟩)
      · have e : k = n := by omega
        subst e
        have E := Lib.hid (mFix_ok hko.out).2
        go_wp2
        go_ret
        exact ⟨ret_int E.out.symm, XB.out⟩
end Go.Proofs.Ytamjknckgaffpaa
