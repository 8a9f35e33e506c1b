/- Plain functions of layer 7: what is collected. -/
import Derived.Test.YtmmpifcfhjdfnaaP07
set_option linter.unusedSimpArgs false
set_option linter.unusedVariables false
namespace Go.Proofs.Ytmmpifcfhjdfnaa
open Go.RowKit
/-- The numbers that were taken but wo, as bits. -/
def cl (wo : Int) (l : List (Fin 10)) : Int := l.foldl (fun a x => if (x.val : Int) + 1 = wo then a else bits .or .u16 a (bV (x.val + 1))) 0
theorem cl_snoc_no (wo : Int) (l : List (Fin 10)) (x : Fin 10) (h : (x.val : Int) + 1 = wo) : cl wo (l ++ [x]) = cl wo l := by
  unfold cl; rw [List.foldl_append]; simp [h]
theorem cl_snoc_yes (wo : Int) (l : List (Fin 10)) (x : Fin 10) (h : ¬ (x.val : Int) + 1 = wo) : cl wo (l ++ [x]) = bits .or .u16 (cl wo l) (bV (x.val + 1)) := by
  unfold cl; rw [List.foldl_append]; simp [h]
/-- Which bits of p are kept. -/
def kq (p wo : Int) (n : Nat) : Bool := pb p n && !decide ((n : Int) = wo)
theorem or_new (q : Nat → Bool) (j : Nat) (hj : j < 10) (h : q (j + 1) = true) : bits .or .u16 ((sB q j : Nat) : Int) (bV (j + 1)) = ((sB q (j + 1) : Nat) : Int) := by
  have := bV_bd (j + 1) (by omega)
  have h1 := sB_lt q j
  have h2 : (2 : Nat) ^ (j + 1) ≤ 2 ^ 10 := Nat.pow_le_pow_right (by decide) (by omega)
  rw [u16_or _ _ (by omega) (by omega) this.1 this.2]
  unfold bV
  rw [Int.toNat_natCast, Int.toNat_natCast]
  congr 1
  show _ = (if q (j + 1) = true then 2 ^ (j + 1) else 0) ||| sB q j
  rw [if_pos h, Nat.or_comm]
theorem sB_skip (q : Nat → Bool) (j : Nat) (h : q (j + 1) = false) : sB q (j + 1) = sB q j := by
  show (if q (j + 1) = true then 2 ^ (j + 1) else 0) ||| sB q j = _
  rw [h]; simp
theorem cl_yl (p wo : Int) : ∀ j, j ≤ 10 → cl wo (yl p j) = ((sB (kq p wo) j : Nat) : Int)
  | 0, _ => rfl
  | j + 1, hj => by
    have ih := cl_yl p wo j (by omega)
    by_cases c : pb p (j + 1) = true
    · rw [yl_yes p j (by omega) c]
      by_cases d : (j : Int) + 1 = wo
      · rw [cl_snoc_no _ _ _ d, ih, sB_skip]
        unfold kq
        have : ((j + 1 : Nat) : Int) = wo := by omega
        simp [this]
      · rw [cl_snoc_yes _ _ _ d, ih]
        refine or_new _ j (by omega) ?_
        unfold kq
        have : ¬ ((j + 1 : Nat) : Int) = wo := by omega
        rw [c]; simp only [this, decide_false, Bool.not_false, Bool.and_true]
    · have c' : pb p (j + 1) = false := by simpa using c
      rw [yl_no p j c', ih, sB_skip]
      unfold kq; rw [c']; rfl
theorem cl_all (p wo : Int) : cl wo (yl p 10) = ((sB (kq p wo) 10 : Nat) : Int) := cl_yl p wo 10 (Nat.le_refl _)
end Go.Proofs.Ytmmpifcfhjdfnaa
