/- Contracts of layer 5: the reference's small functions. -/
import Derived.Test.YtmmpifcfhjdfnaaChecked
import Derived.Test.YtmmpifcfhjdfnaaP05
import Derived.Test.YtmmpifcfhjdfnaaL03
import Derived.Test.YtmmpifcfhjdfnaaApp
import Derived.Test.YtmmpifcfhjdfnaaCells2
import Derived.Test.YtmmpifcfhjdfnaaRes1
set_option linter.unusedSimpArgs false
set_option linter.unusedVariables false
namespace Go.Proofs.Ytmmpifcfhjdfnaa
open Go.ChangeShapes Go.WideShapes Go.ChangeAt Go.RowKit
/-- A view in memory. -/
structure VwAt (w : World) (v : Vw) (ea fa ca : Option Addr) : Prop where
  e : Row .u16 w ea v.ne v.ze
  f : Row .u16 w fa v.nf v.zf
  c : Row .u16 w ca v.nc v.zc
  be : ∀ i, i < v.ne → 0 ≤ v.ze i ∧ v.ze i ≤ 65535
  bf : ∀ i, i < v.nf → 0 ≤ v.zf i ∧ v.zf i ≤ 65535
  bc : ∀ i, i < v.nc → 0 ≤ v.zc i ∧ v.zc i ≤ 65535
  le : v.ne ≤ 140737488355328
  lf : v.nf ≤ 140737488355328
  lc : v.nc ≤ 140737488355328
theorem VwAt.below {w w' : World} {v : Vw} {ea fa ca : Option Addr} {B : Nat} (h : VwAt w v ea fa ca) (hb : Below B w w') (hB : w.heap.size ≤ B) : VwAt w' v ea fa ca :=
  ⟨h.e.below hb hB, h.f.below hb hB, h.c.below hb hB, h.be, h.bf, h.bc, h.le, h.lf, h.lc⟩
theorem VwAt.alloc {w : World} {v : Vw} {ea fa ca : Option Addr} (h : VwAt w v ea fa ca) (o : Obj) : VwAt (w.alloc o) v ea fa ca := h.below ((Below.refl _ _).alloc (Nat.le_refl _) o) (Nat.le_refl _)
set_option maxHeartbeats 1000000 in
theorem rMay_any (r : Rg) (t : Bool) (ht : decide r.may = t) (w : World) :
    Calls Try.prog 21 #[.agg #[.int .u16 r.A, .int .u16 r.L, .int .u16 r.Q, .int .i64 r.Z, .int .i64 r.EB, .int .i64 r.FB, .int .i64 r.Su, .bool r.Ex, .int .u16 r.Ix, .bool r.Hd, .int .u16 r.B, .bool r.Ih, .bool r.Sv]] w fun e w' => e = .returned (.bool t) ∧ Below w.heap.size w w' := by
  by_cases h : r.may
  · have e : t = true := by rw [← ht]; exact decide_eq_true h
    subst e
    obtain ⟨h0, h1, h2, h3, h4, h5, h6, h7, h8, h9, ha, hb⟩ := h
    clear ht
    go_enter Try.func21, Try.ntmps21
    go_wp2
    go_ret
    exact ⟨rfl, (Below.refl _ _).alloc (Nat.le_refl _) _⟩
  · have HT := Lib.hid ht
    have H := Lib.hid h
    clear h ht
    go_enter Try.func21, Try.ntmps21
    go_wp2
    all_goals
      go_ret
      refine ⟨?_, (Below.refl _ _).alloc (Nat.le_refl _) _⟩
      rw [← HT.out, decide_eq_false H.out]
      first
        | rfl
        | (exfalso; have := H.out; unfold Rg.may at this; omega)
        | (have := H.out; unfold Rg.may at this; simp [*]; done)
        | (have := H.out; unfold Rg.may at this; simp [*]; omega)
theorem below2 (w : World) (o o' : Obj) : Below w.heap.size w ((w.alloc o).alloc o') := ((Below.refl _ _).alloc (Nat.le_refl _) _).alloc (by simp) _
theorem bank_bd {r : Rg} (h : r.may) : 0 ≤ mBankV r.FB r.Su ∧ mBankV r.FB r.Su ≤ 35 := by
  obtain ⟨_, _, _, _, _, _, e0, e1, f0, f1, s0, s1⟩ := h
  unfold mBankV; repeat (first | omega | split)
theorem abs_eq {r : Rg} (h : r.may) {k : Int} (k0 : 0 ≤ k) (k1 : k ≤ 4095) : mAbsS k r.EB (mBankV r.FB r.Su) = spc k ∧ mAbsA k r.EB (mBankV r.FB r.Su) = adr r k ∧ mAbsE k r.EB (mBankV r.FB r.Su) = 0 := by
  have hb := bank_bd h
  obtain ⟨_, _, _, _, _, _, e0, e1, f0, f1, s0, s1⟩ := h
  have ok : mAbsOk k r.EB (mBankV r.FB r.Su) := ⟨k0, k1, e0, e1, hb.1, hb.2⟩
  unfold mAbsS mAbsA mAbsE spc adr
  rw [if_pos ok, if_pos ok, if_pos ok]
  exact ⟨rfl, rfl, rfl⟩
theorem bankE_or (a b : Int) : mBankE a b = 0 ∨ (mBankE a b = 3 ∧ mBankV a b = 0) := by
  unfold mBankE mBankV
  repeat (first | (exact .inl rfl) | (exact .inr ⟨rfl, rfl⟩) | split)
end Go.Proofs.Ytmmpifcfhjdfnaa
