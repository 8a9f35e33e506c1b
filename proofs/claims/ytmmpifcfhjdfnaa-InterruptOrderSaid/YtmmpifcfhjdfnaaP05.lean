/- Plain functions of layer 5: registers, views, and what an instruction does. -/
import Derived.Test.YtmmpifcfhjdfnaaP04
import Derived.Test.YtmmpifcfhjdfnaaP03
import Derived.Test.YtmmpifcfhjdfnaaL01
set_option linter.unusedSimpArgs false
set_option linter.unusedVariables false
namespace Go.Proofs.Ytmmpifcfhjdfnaa
open Go.RowKit
/-- The registers. -/
structure Rg where
  A : Int
  L : Int
  Q : Int
  Z : Int
  EB : Int
  FB : Int
  Su : Int
  Ex : Bool
  Ix : Int
  Hd : Bool
  B : Int
  Ih : Bool
  Sv : Bool
/-- They are numbers of their kinds. -/
structure Rg.Fit (r : Rg) : Prop where
  A : 0 ≤ r.A ∧ r.A ≤ 65535
  L : 0 ≤ r.L ∧ r.L ≤ 65535
  Q : 0 ≤ r.Q ∧ r.Q ≤ 65535
  Z : -9223372036854775808 ≤ r.Z ∧ r.Z ≤ 9223372036854775807
  EB : -9223372036854775808 ≤ r.EB ∧ r.EB ≤ 9223372036854775807
  FB : -9223372036854775808 ≤ r.FB ∧ r.FB ≤ 9223372036854775807
  Su : -9223372036854775808 ≤ r.Su ∧ r.Su ≤ 9223372036854775807
  Ix : 0 ≤ r.Ix ∧ r.Ix ≤ 65535
  B : 0 ≤ r.B ∧ r.B ≤ 65535
def Rg.may (r : Rg) : Prop := r.L ≤ 32767 ∧ r.Q ≤ 32767 ∧ r.Ix ≤ 32767 ∧ r.B ≤ 32767 ∧ 0 ≤ r.Z ∧ r.Z ≤ 4095 ∧ 0 ≤ r.EB ∧ r.EB ≤ 7 ∧ 0 ≤ r.FB ∧ r.FB ≤ 31 ∧ 0 ≤ r.Su ∧ r.Su ≤ 7
instance (r : Rg) : Decidable r.may := by unfold Rg.may; infer_instance
def Rg.V (r : Rg) : Value := .agg #[.int .u16 r.A, .int .u16 r.L, .int .u16 r.Q, .int .i64 r.Z, .int .i64 r.EB, .int .i64 r.FB, .int .i64 r.Su, .bool r.Ex, .int .u16 r.Ix, .bool r.Hd, .int .u16 r.B, .bool r.Ih, .bool r.Sv]
def rg0 : Rg := ⟨0, 0, 0, 0, 0, 0, 0, false, 0, false, 0, false, false⟩
/-- A view: erasable words, fixed words, channels. -/
structure Vw where
  ne : Nat
  ze : Nat → Int
  nf : Nat
  zf : Nat → Int
  nc : Nat
  zc : Nat → Int
/-- The word at an index of a view's slice. -/
def wd (n : Nat) (z : Nat → Int) (a : Int) : Int := if (n : Int) ≤ a then 0 else z a.toNat % 32768
/-- The word of memory that an operand addresses. -/
def spc (k : Int) : Int := if k ≤ 1023 then 1 else 2
def adr (r : Rg) (k : Int) : Int := if k ≤ 767 then k else if k ≤ 1023 then 256 * r.EB + k - 768 else if k ≤ 2047 then 1024 * mBankV r.FB r.Su + k - 1024 else k
def has (r : Rg) (k : Int) : Prop := ¬ (mBankE r.FB r.Su ≠ 0 ∧ 1024 ≤ k ∧ k ≤ 2047)
instance (r : Rg) (k : Int) : Decidable (has r k) := by unfold has; infer_instance
def nxt (s a : Int) : Int := if (if s = 2 then 36863 else 2047) < a + 1 then 0 else a + 1
/-- The value at a word of memory; whether it is memory that is read. -/
def val (r : Rg) (v : Vw) (s a : Int) : Int :=
  if s = 2 then oExt (wd v.nf v.zf a) else if a = 0 then r.A else if a = 1 then oExt r.L else if a = 2 then oExt r.Q else if a = 3 then oExt (256 * r.EB) else if a = 4 then oExt (1024 * r.FB)
  else if a = 5 then oExt r.Z else if a = 6 then oExt (1024 * r.FB + r.EB) else if a = 7 then 0 else oExt (wd v.ne v.ze a)
def isW (s a : Int) : Prop := s = 2 ∨ a < 0 ∨ 7 < a
instance (s a : Int) : Decidable (isW s a) := by unfold isW; infer_instance
def rds (s a : Int) : List (Int × Int) := if isW s a then [(s, a)] else []
theorem spc_or (k : Int) : spc k = 1 ∨ spc k = 2 := by unfold spc; split <;> omega
theorem adr_bd {r : Rg} (h : r.may) {k : Int} (k0 : 0 ≤ k) (k1 : k ≤ 4095) : 0 ≤ adr r k ∧ adr r k ≤ (if spc k = 2 then 36863 else 2047) := by
  obtain ⟨_, _, _, _, _, _, e0, e1, f0, f1, s0, s1⟩ := h
  have hb : 0 ≤ mBankV r.FB r.Su ∧ mBankV r.FB r.Su ≤ 35 := by unfold mBankV; repeat (first | omega | split)
  unfold adr spc
  by_cases c1 : k ≤ 767
  · rw [if_pos c1, if_pos (show k ≤ 1023 by omega), if_neg (by omega)]; omega
  · by_cases c2 : k ≤ 1023
    · rw [if_neg c1, if_pos c2, if_pos c2, if_neg (by omega)]; omega
    · by_cases c3 : k ≤ 2047
      · rw [if_neg c1, if_neg c2, if_pos c3, if_neg c2, if_pos rfl]; omega
      · rw [if_neg c1, if_neg c2, if_neg c3, if_neg c2, if_pos rfl]; omega
/-- Products and quotients. -/
def oNg (a : Int) : Int := 32767 - a % 32768
def mag (a : Int) : Int := if oVal a < 0 then -oVal a else oVal a
def sgn (a : Int) : Bool := decide (16383 < a % 32768)
def mulHi (a b : Int) : Int := if sgn a = sgn b then mag a * mag b / 16384 else oNg (mag a * mag b / 16384)
def mulLo (a b : Int) : Int := if sgn a = sgn b then mag a * mag b % 16384 else oNg (mag a * mag b % 16384)
def dvN (hi lo : Int) : Int := let n := 16384 * oVal hi + oVal lo; if n < 0 then -n else n
def dvS (hi lo : Int) : Bool := if oVal hi = 0 then sgn lo else sgn hi
def dvOk (hi lo d : Int) : Prop := dvN hi lo < 16384 * mag d
instance (hi lo d : Int) : Decidable (dvOk hi lo d) := by unfold dvOk; infer_instance
def dvQ (hi lo d : Int) : Int := let q := if dvOk hi lo d then dvN hi lo / mag d else 16383; if dvS hi lo = sgn d then q else oNg q
def dvR (hi lo d : Int) : Int := if dvOk hi lo d then (if dvS hi lo then oNg (dvN hi lo % mag d) else dvN hi lo % mag d) else lo % 32768
theorem mag_bd (a : Int) : 0 ≤ mag a ∧ mag a ≤ 16383 := by unfold mag; have : -16383 ≤ oVal a ∧ oVal a ≤ 16383 := by { unfold oVal; split <;> omega }; split <;> omega
/-- Fetching. -/
def fW (r : Rg) (v : Vw) : Int := if r.Hd then r.B else oCorr (val r v (spc r.Z) (adr r r.Z))
def fI (r : Rg) (v : Vw) : Int := oAdd (fW r v) r.Ix
def fRds (r : Rg) : List (Int × Int) := if r.Hd then [] else rds (spc r.Z) (adr r r.Z)
def fRg (r : Rg) : Rg := { r with Z := (r.Z + 1) % 4096, Hd := false, Ex := false, B := 0, Ix := 0 }
def fOk (r : Rg) : Prop := r.Hd = true ∨ has r r.Z
instance (r : Rg) : Decidable (fOk r) := by unfold fOk; infer_instance
end Go.Proofs.Ytmmpifcfhjdfnaa
