/- Plain facts of layer 5: DAS, DCA, DCS (CpuDoubles). -/
import Derived.Test.YtjjkikghfmnikaaGreatDoorTop5
set_option linter.unusedSimpArgs false
set_option linter.unusedVariables false
set_option maxRecDepth 100000
namespace Go.Proofs.YtjjkikghfmnikaaGreatDoor
open Go.RowKit
def rDas (a l : Int) : Rg := { rAt with A := a, L := l }
def rEx : Rg := { rAt with Ex := true }
def dT (l y : Int) : Int := oAddA (oExt (y % 32768)) (oExt l)
def dU (a l x y : Int) : Int := oAddA (oAddA (oExt (x % 32768)) a) (sg (oOver (dT l y)))
theorem fI_word (r : Rg) (v : Vw) (z : Nat) (hz : r.Z = z) (z0 : 2048 ≤ z) (zn : z < v.nf) (hh : r.Hd = false) (hi : r.Ix = 0) (x : Int) (hx : v.zf z = x) (x0 : 0 ≤ x) (x1 : x < 32768) : fI r v = x := by
  unfold fI fW
  rw [hh, hi, hz]
  have hs : spc (z : Int) = 2 := by unfold spc; rw [if_neg (by omega)]
  have ha : adr r (z : Int) = z := by unfold adr; rw [if_neg (by omega), if_neg (by omega), if_neg (by omega)]
  rw [hs, ha]
  have hw : wd v.nf v.zf (z : Int) = x := by unfold wd; rw [if_neg (by omega)]; simp; rw [hx]; omega
  have hv : val r v 2 (z : Int) = oExt x := by unfold val; rw [if_pos rfl, hw]
  rw [if_neg (by decide), hv]
  have hc : oCorr (oExt x) = x := by unfold oExt oCorr; split <;> omega
  rw [hc]
  exact oAdd_zero x x0 x1
theorem val_mem (r : Rg) (v : Vw) (n : Int) (h : 8 ≤ n) : valP r v 1 n = oExt (wd v.ne v.ze n) := by
  unfold valP val
  rw [if_pos rfl, if_neg (by decide), if_neg (by omega), if_neg (by omega), if_neg (by omega), if_neg (by omega), if_neg (by omega), if_neg (by omega), if_neg (by omega), if_neg (by omega)]
theorem sp_low (r : Rg) (k : Int) (k0 : 0 ≤ k) (k1 : k ≤ 767) : spS r k = 1 ∧ spA r k = k ∧ spE r k = 0 := by
  have h : 0 ≤ k ∧ k ≤ 4095 ∧ has r k := ⟨k0, by omega, has_out r k (by omega)⟩
  refine ⟨?_, ?_, ?_⟩
  · unfold spS; rw [if_pos h]; unfold spc; rw [if_pos (by omega)]
  · unfold spA; rw [if_pos h]; unfold adr; rw [if_pos k1]
  · unfold spE; rw [if_pos h]
theorem at_x (p x y : Int) : wd (vAt p x y).ne (vAt p x y).ze 100 = x % 32768 := by rfl
theorem at_y (p x y : Int) : wd (vAt p x y).ne (vAt p x y).ze 101 = y % 32768 := by rfl
/-- Step of a word that 'at' lays, whose operand is 100. -/
theorem st_at (r : Rg) (p x y : Int) (i : Nat) (hz : r.Z = 2048) (hh : r.Hd = false) (hx : r.Ix = 0) (p0 : 0 ≤ p) (p1 : p < 32768) (hi : decI p r.Ex = i) (hk : p - bs i = 100) :
    sMs r (vAt p x y) = 0 ∧ sSt r (vAt p x y) = eff i { r := fRg r, cells := [], outs := [], reads := fRds r, cyc := cy i, op := (i : Int) + 1, k := 100, ss := 1, sa := 100 } (vAt p x y) := by
  have hf : fI r (vAt p x y) = p := fI_word r (vAt p x y) 2048 hz (by decide) (by show 2048 < 2049; decide) hh hx p (by rfl) p0 p1
  have h1 : sI r (vAt p x y) = i := by unfold sI; rw [hf, hi]
  have h2 : sK r (vAt p x y) = 100 := by unfold sK; rw [h1, hf]; exact hk
  have h3 := sp_low (fRg r) 100 (by decide) (by decide)
  refine ⟨?_, ?_⟩
  · unfold sMs; rw [h2]; exact h3.2.2
  · unfold sSt stp0; rw [h1, h2, h3.1, h3.2.1]
theorem put_mem (s : St) (a x : Int) (h : 20 ≤ a) : s.put a x = { s with cells := s.cells ++ [(a, oCorr x % 32768)] } := by
  unfold St.put
  rw [if_neg (by omega)]
  have e : oEdit a (oCorr x) = oCorr x % 32768 := by unfold oEdit; rw [if_neg (by omega), if_neg (by omega), if_neg (by omega), if_neg (by omega)]
  rw [e]
theorem das_st (a l x y : Int) : sMs (rDas a l) (vAt 8292 x y) = 0 ∧ (sSt (rDas a l) (vAt 8292 x y)).cells = [(101, oCorr (dT l y) % 32768), (100, oCorr (dU a l x y) % 32768)] ∧ (sSt (rDas a l) (vAt 8292 x y)).r = { rg0 with A := sg (oOver (dU a l x y)), Z := 2049 } := by
  obtain ⟨h1, h2⟩ := st_at (rDas a l) 8292 x y 6 rfl rfl rfl (by decide) (by decide) (by rfl) (by rfl)
  have e1 : ∀ s : St, s.r = fRg (rDas a l) → s.ss = 1 → s.sa = 100 → dasT s (vAt 8292 x y) = dT l y ∧ dasU s (vAt 8292 x y) = dU a l x y := by
    intro s hr hs ha
    have n1 : nxtP (1 : Int) 100 = 101 := by decide
    have g1 : s.gA (vAt 8292 x y) = oExt (y % 32768) := by unfold St.gA; rw [hs, ha, n1, val_mem _ _ _ (by decide), at_y]
    have g2 : s.g (vAt 8292 x y) = oExt (x % 32768) := by unfold St.g; rw [hs, ha, val_mem _ _ _ (by decide), at_x]
    have t1 : dasT s (vAt 8292 x y) = dT l y := by unfold dasT dT; rw [g1, hr]; rfl
    refine ⟨t1, ?_⟩
    unfold dasU dU
    rw [g2, t1, hr]
    rfl
  obtain ⟨e2, e3⟩ := e1 { r := fRg (rDas a l), cells := [], outs := [], reads := fRds (rDas a l), cyc := cy 6, op := ((6 : Nat) : Int) + 1, k := 100, ss := 1, sa := 100 } rfl rfl rfl
  refine ⟨h1, ?_, ?_⟩
  · rw [h2]
    show (effDAS _ _).cells = _
    unfold effDAS
    simp only []
    rw [e2, e3, if_neg (by decide), show nxtP (1 : Int) 100 = 101 by decide, put_mem _ _ _ (by decide), put_mem _ _ _ (by decide)]
    rfl
  · rw [h2]
    show (effDAS _ _).r = _
    unfold effDAS
    simp only []
    rw [e2, e3, if_neg (by decide), show nxtP (1 : Int) 100 = 101 by decide, put_mem _ _ _ (by decide), put_mem _ _ _ (by decide)]
    rfl
theorem dca_st (x y : Int) : sMs rEx (vAt 12388 x y) = 0 ∧ (sSt rEx (vAt 12388 x y)).r = { rg0 with A := oExt (x % 32768), L := oCorr (oExt (y % 32768)), Z := 2049 } := by
  obtain ⟨h1, h2⟩ := st_at rEx 12388 x y 33 rfl rfl rfl (by decide) (by decide) (by rfl) (by rfl)
  refine ⟨h1, ?_⟩
  rw [h2]
  rfl
theorem dcs_st (x y : Int) : sMs rEx (vAt 16484 x y) = 0 ∧ (sSt rEx (vAt 16484 x y)).r = { rg0 with A := 65535 - oExt (x % 32768), L := oNg (oCorr (oExt (y % 32768))), Z := 2049 } := by
  obtain ⟨h1, h2⟩ := st_at rEx 16484 x y 34 rfl rfl rfl (by decide) (by decide) (by rfl) (by rfl)
  refine ⟨h1, ?_⟩
  rw [h2]
  rfl
/-- The value of an accumulator. -/
def aV (t : Int) : Int := if t ≤ 32767 then t else t - 65535
theorem aV_ext (x : Int) (x0 : 0 ≤ x) (x1 : x < 32768) : aV (oExt x) = oVal x := by unfold aV oExt oVal; repeat' split; all_goals omega
theorem aV_bd (t : Int) (t0 : 0 ≤ t) (t1 : t < 65536) : -32767 ≤ aV t ∧ aV t ≤ 32767 := by unfold aV; split <;> omega
theorem aV_add (s t : Int) (s0 : 0 ≤ s) (s1 : s < 65536) (t0 : 0 ≤ t) (t1 : t < 65536) (h0 : -32767 ≤ aV s + aV t) (h1 : aV s + aV t ≤ 32767) : aV (oAddA s t) = aV s + aV t ∧ 0 ≤ oAddA s t ∧ oAddA s t < 65536 := by
  unfold aV at h0 h1 ⊢
  unfold oAddA
  repeat' split
  all_goals (repeat' split at h0)
  all_goals (repeat' split at h1)
  all_goals omega
theorem aV_split (t : Int) (t0 : 0 ≤ t) (t1 : t < 65536) : aV t = oVal (oCorr t) + 16384 * oOver t ∧ -1 ≤ oOver t ∧ oOver t ≤ 1 ∧ 0 ≤ oCorr t ∧ oCorr t < 32768 := by
  unfold aV oVal oCorr oOver
  repeat' split
  all_goals omega
theorem oExt_bd2 (z : Int) (h0 : 0 ≤ z) (h1 : z < 32768) : 0 ≤ oExt z ∧ oExt z < 65536 := by unfold oExt; split <;> omega
/-- The words of CpuDoubles. -/
theorem das_sum (a l x y : Int) (a0 : 0 ≤ a) (a1 : a < 32768) (l0 : 0 ≤ l) (l1 : l < 32768) (x0 : 0 ≤ x) (x1 : x < 32768) (y0 : 0 ≤ y) (y1 : y < 32768) :
    ∃ W1 W0 P o, oCorr (dT l y) % 32768 = W1 ∧ oCorr (dU (oExt a) l x y) % 32768 = W0 ∧ sg (oOver (dU (oExt a) l x y)) = P ∧ oVal (oCorr P) = o ∧ 0 ≤ W1 ∧ W1 < 32768 ∧ 0 ≤ W0 ∧ W0 < 32768 ∧ 0 ≤ P ∧ P < 65536 ∧ 0 ≤ oCorr P ∧ oCorr P < 65536 ∧ -1 ≤ o ∧ o ≤ 1 ∧
      16384 * (oVal a + oVal x) + oVal l + oVal y = 16384 * oVal W0 + oVal W1 + o * 268435456 := by
  have bx : ∀ z : Int, 0 ≤ z → z < 32768 → 0 ≤ oExt z ∧ oExt z < 65536 ∧ -16383 ≤ oVal z ∧ oVal z ≤ 16383 := by
    intro z h0 h1
    unfold oExt oVal
    repeat' split
    all_goals omega
  obtain ⟨ea0, ea1, va0, va1⟩ := bx a a0 a1
  obtain ⟨el0, el1, vl0, vl1⟩ := bx l l0 l1
  obtain ⟨ex0, ex1, vx0, vx1⟩ := bx x x0 x1
  obtain ⟨ey0, ey1, vy0, vy1⟩ := bx y y0 y1
  have ea := aV_ext a a0 a1
  have el := aV_ext l l0 l1
  have ex := aV_ext x x0 x1
  have ey := aV_ext y y0 y1
  obtain ⟨t1, t2, t3⟩ := aV_add (oExt y) (oExt l) ey0 ey1 el0 el1 (by omega) (by omega)
  have hT : dT l y = oAddA (oExt y) (oExt l) := by unfold dT; rw [show y % 32768 = y by omega]
  obtain ⟨s1, s2, s3, s4, s5⟩ := aV_split (dT l y) (by rw [hT]; exact t2) (by rw [hT]; exact t3)
  obtain ⟨u1, u2, u3⟩ := aV_add (oExt x) (oExt a) ex0 ex1 ea0 ea1 (by omega) (by omega)
  have hsg : ∀ o : Int, -1 ≤ o → o ≤ 1 → aV (sg o) = o ∧ 0 ≤ sg o ∧ sg o < 65536 ∧ oVal (oCorr (sg o)) = o ∧ 0 ≤ oCorr (sg o) ∧ oCorr (sg o) < 65536 := by
    intro o h0 h1
    have h : o = -1 ∨ o = 0 ∨ o = 1 := by omega
    rcases h with rfl | rfl | rfl <;> decide
  obtain ⟨g1, g2, g3, _⟩ := hsg (oOver (dT l y)) s2 s3
  obtain ⟨v1, v2, v3⟩ := aV_add (oAddA (oExt x) (oExt a)) (sg (oOver (dT l y))) u2 u3 g2 g3 (by omega) (by omega)
  have hU : dU (oExt a) l x y = oAddA (oAddA (oExt x) (oExt a)) (sg (oOver (dT l y))) := by unfold dU; rw [show x % 32768 = x by omega]
  obtain ⟨r1, r2, r3, r4, r5⟩ := aV_split (dU (oExt a) l x y) (by rw [hU]; exact v2) (by rw [hU]; exact v3)
  obtain ⟨k1, k2, k3, k4, k5, k6⟩ := hsg (oOver (dU (oExt a) l x y)) r2 r3
  rw [hU] at r1
  rw [hT] at s1
  refine ⟨_, _, _, _, rfl, rfl, rfl, rfl, by omega, by omega, by omega, by omega, k2, k3, k5, k6, by omega, by omega, ?_⟩
  rw [k4, show oCorr (dU (oExt a) l x y) % 32768 = oCorr (dU (oExt a) l x y) by omega, show oCorr (dT l y) % 32768 = oCorr (dT l y) by omega]
  rw [hU, hT] at *
  omega
end Go.Proofs.YtjjkikghfmnikaaGreatDoor
