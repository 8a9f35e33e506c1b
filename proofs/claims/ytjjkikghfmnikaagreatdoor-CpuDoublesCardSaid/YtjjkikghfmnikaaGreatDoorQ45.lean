/- Plain facts of layer 5: what TC does (CpuCalls). -/
import Derived.Test.YtjjkikghfmnikaaGreatDoorQ42
import Derived.Test.YtjjkikghfmnikaaGreatDoorQ04
import Derived.Lib.Hide
import Derived.Test.YtjjkikghfmnikaaGreatDoorQ01
import Derived.RangeFuncNested
import Derived.RangeFuncBound
import Derived.RangeFuncCalls
import Derived.RangeFuncLeaves
import Derived.RangeFuncBox
import Derived.Shelf.Abstract
import Derived.Shelf.RegionOpen
import Derived.WalkKit
import Derived.OwnWalkIn
import Derived.TacticsInMore
import Derived.LoopNIn
import Derived.LoopIn
import Derived.Maps.AppendAt
import Derived.Stop.RegionWithIn
import Derived.Sort.QuietTacIn
import Derived.Test.YtjjkikghfmnikaaGreatDoorQ03
set_option linter.unusedSimpArgs false
set_option linter.unusedVariables false
set_option maxRecDepth 100000
namespace Go.Proofs.YtjjkikghfmnikaaGreatDoor
open Go.RowKit
theorem has_out (r : Rg) (k : Int) (h : k < 1024 ∨ 2047 < k) : has r k := by unfold has; omega
theorem dec_tc (x : Int) (x1 : x < 4096) (n3 : x ≠ 3) (n4 : x ≠ 4) (n6 : x ≠ 6) : decI x false = 0 := by
  unfold decI; rw [if_pos rfl, if_neg n3, if_neg n4, if_neg n6, if_pos x1]
theorem tc_st (r : Rg) (v : Vw) (x : Int) (hx : fI r v = x) (he : r.Ex = false) (x0 : 0 ≤ x) (x1 : x < 4096) (n3 : x ≠ 3) (n4 : x ≠ 4) (n6 : x ≠ 6) (ho : x < 1024 ∨ 2047 < x) :
    sMs r v = 0 ∧ sSt r v = effTC (stp0 r 0 x) := by
  have hi : sI r v = 0 := by unfold sI; rw [hx, he]; exact dec_tc x x1 n3 n4 n6
  have hk : sK r v = x := by unfold sK; rw [hi, hx]; show x - 0 = x; omega
  refine ⟨?_, ?_⟩
  · unfold sMs spE; rw [hk, if_pos ⟨x0, by omega, has_out _ _ ho⟩]
  · unfold sSt; rw [hi, hk]; rfl
theorem oAdd_zero (x : Int) (x0 : 0 ≤ x) (x1 : x < 32768) : oAdd x 0 = x := by unfold oAdd; split <;> omega
/-- A word of the unswitched fixed banks is fetched. -/
theorem fI_fixed (r : Rg) (v : Vw) (z : Nat) (hz : r.Z = z) (z0 : 2048 ≤ z) (zn : z < v.nf) (hh : r.Hd = false) (hi : r.Ix = 0) (x : Int) (hx : v.zf z = x) (x0 : 0 ≤ x) (x1 : x < 16384) : fI r v = x := by
  unfold fI fW
  rw [hh, hi, hz]
  have hs : spc (z : Int) = 2 := by unfold spc; rw [if_neg (by omega)]
  have ha : adr r (z : Int) = z := by unfold adr; rw [if_neg (by omega), if_neg (by omega), if_neg (by omega)]
  rw [hs, ha]
  have hw : wd v.nf v.zf (z : Int) = x := by unfold wd; rw [if_neg (by omega)]; simp; rw [hx]; omega
  have hv : val r v 2 (z : Int) = oExt x := by unfold val; rw [if_pos rfl, hw]
  rw [if_neg (by decide), hv]
  have hc : oCorr (oExt x) = x := by unfold oExt oCorr; rw [if_neg (by omega)]; omega
  rw [hc]
  exact oAdd_zero x x0 (by omega)
def vT (a b : Nat) : Vw := { ne := 0, ze := fun _ => 0, nf := 4096, zf := fun i => if i = a then (b : Int) else if i = b then 2 else 0, nc := 0, zc := fun _ => 0 }
def rT1 (a : Nat) : Rg := { rg0 with Z := a, A := 5 }
def rT2 (a b : Nat) : Rg := { rg0 with Z := b, A := 5, Q := (a : Int) + 1 }
def rT3 (a b : Nat) : Rg := { rg0 with Z := 2, A := 5, Q := ((b : Int) + 1) % 4096, Hd := true, B := (a : Int) + 1 }
def rT4 (a : Nat) : Rg := { rg0 with Z := (a : Int) + 1, A := 5, Q := 3 }
theorem rT1_ok (a : Nat) (h : a ≤ 4095) : (rT1 a).Fit ∧ (rT1 a).may := by
  unfold Rg.may rT1 rg0
  exact ⟨by constructor <;> simp <;> omega, by simp; omega⟩
theorem rT2_ok (a b : Nat) (h : a ≤ 4095) (h2 : b ≤ 4095) : (rT2 a b).Fit ∧ (rT2 a b).may := by
  unfold Rg.may rT2 rg0
  exact ⟨by constructor <;> simp <;> omega, by simp; omega⟩
theorem rT3_ok (a b : Nat) (h : a ≤ 4095) (h2 : b ≤ 4095) : (rT3 a b).Fit ∧ (rT3 a b).may := by
  unfold Rg.may rT3 rg0
  exact ⟨by constructor <;> simp <;> omega, by simp; omega⟩
theorem tc1 (a b : Nat) (a0 : 2048 ≤ a) (a1 : a ≤ 4094) (b0 : 2048 ≤ b) (b1 : b ≤ 4095) : sMs (rT1 a) (vT a b) = 0 ∧ fOk (rT1 a) ∧ (sSt (rT1 a) (vT a b)).r = rT2 a b := by
  have hf : fI (rT1 a) (vT a b) = b := fI_fixed (rT1 a) (vT a b) a rfl a0 (by show a < 4096; omega) rfl rfl _ (by show (if a = a then (b : Int) else _) = b; rw [if_pos rfl]) (by omega) (by omega)
  obtain ⟨h1, h2⟩ := tc_st (rT1 a) (vT a b) b hf rfl (by omega) (by omega) (by omega) (by omega) (by omega) (by omega)
  refine ⟨h1, .inr (has_out _ _ (by show (a : Int) < 1024 ∨ 2047 < (a : Int); omega)), ?_⟩
  rw [h2]
  unfold effTC stp0 fRg rT1 rT2 rg0
  simp only
  rw [if_neg (by omega), if_neg (by omega), show ((a : Int) + 1) % 4096 = a + 1 by omega]
theorem tc2 (a b : Nat) (hab : a ≠ b) (a0 : 2048 ≤ a) (a1 : a ≤ 4094) (b0 : 2048 ≤ b) (b1 : b ≤ 4095) : sMs (rT2 a b) (vT a b) = 0 ∧ fOk (rT2 a b) ∧ (sSt (rT2 a b) (vT a b)).r = rT3 a b := by
  have hf : fI (rT2 a b) (vT a b) = 2 := fI_fixed (rT2 a b) (vT a b) b rfl b0 (by show b < 4096; omega) rfl rfl _ (by show (if b = a then (b : Int) else if b = b then 2 else 0) = 2; rw [if_neg (Ne.symm hab), if_pos rfl]) (by omega) (by omega)
  obtain ⟨h1, h2⟩ := tc_st (rT2 a b) (vT a b) 2 hf rfl (by omega) (by omega) (by omega) (by omega) (by omega) (by omega)
  refine ⟨h1, .inr (has_out _ _ (by show (b : Int) < 1024 ∨ 2047 < (b : Int); omega)), ?_⟩
  rw [h2]
  unfold effTC stp0 fRg rT2 rT3 rg0
  simp
theorem tc3 (a b : Nat) (a0 : 2048 ≤ a) (a1 : a ≤ 4094) (b0 : 2048 ≤ b) (b1 : b ≤ 4095) : sMs (rT3 a b) (vT a b) = 0 ∧ fOk (rT3 a b) ∧ (sSt (rT3 a b) (vT a b)).r = rT4 a ∧ (sSt (rT3 a b) (vT a b)).reads = [] ∧ (sSt (rT3 a b) (vT a b)).op = 1 := by
  have hf : fI (rT3 a b) (vT a b) = (a : Int) + 1 := by
    show oAdd ((a : Int) + 1) 0 = (a : Int) + 1
    exact oAdd_zero _ (by omega) (by omega)
  obtain ⟨h1, h2⟩ := tc_st (rT3 a b) (vT a b) ((a : Int) + 1) hf rfl (by omega) (by omega) (by omega) (by omega) (by omega) (by omega)
  refine ⟨h1, .inl rfl, ?_, ?_, ?_⟩
  · rw [h2]
    unfold effTC stp0 fRg rT3 rT4 rg0
    simp only
    rw [if_neg (by omega), if_neg (by omega)]
    simp
  · rw [h2]; rfl
  · rw [h2]; rfl
end Go.Proofs.YtjjkikghfmnikaaGreatDoor

/- A family of blocks that are as they were made, and what lay there before the call. -/
set_option linter.unusedSimpArgs false
set_option linter.unusedVariables false
namespace Go.Proofs.YtjjkikghfmnikaaGreatDoor
open Go.ChangeShapes Go.WideShapes Go.ChangeAt Go.RowKit
def FB (w : World) (L : List (Nat × List Value)) (X : World) : Prop := (∀ (i : Nat) (g : Nat) (l : List Value), L[i]? = some (g, l) → Blk X g l ∧ g < X.heap.size) ∧ Below w.heap.size w X
theorem FB.start (w : World) : FB w [] w := ⟨fun i g l h => by simp at h, Below.refl _ _⟩
theorem FB.blk {w X : World} {L : List (Nat × List Value)} (h : FB w L X) (i : Nat) {g : Nat} {l : List Value} (e : L[i]? = some (g, l)) : Blk X g l := (h.1 i g l e).1
theorem FB.lt {w X : World} {L : List (Nat × List Value)} (h : FB w L X) (i : Nat) {g : Nat} {l : List Value} (e : L[i]? = some (g, l)) : g < X.heap.size := (h.1 i g l e).2
theorem FB.call {w X Y : World} {L : List (Nat × List Value)} (h : FB w L X) (hb : Below X.heap.size X Y) : FB w L Y :=
  ⟨fun i g l e => ⟨(h.1 i g l e).1.below hb (h.1 i g l e).2, Nat.lt_of_lt_of_le (h.1 i g l e).2 hb.size⟩, h.2.trans (hb.mono h.2.size)⟩
theorem FB.alloc {w X : World} {L : List (Nat × List Value)} (h : FB w L X) (l : List Value) (T : TypeId) : FB w ((X.heap.size, l) :: L) (X.alloc (.cells l.toArray T)) :=
  ⟨fun i g m e => by
    match i, e with
    | 0, e =>
      simp at e
      obtain ⟨rfl, rfl⟩ := e
      exact ⟨Blk.new X T _ _ rfl, by simp⟩
    | i + 1, e =>
      simp only [List.getElem?_cons_succ] at e
      exact ⟨(h.1 i g m e).1.alloc (h.1 i g m e).2 _, by have := (h.1 i g m e).2; simp; omega⟩, h.2.alloc h.2.size _⟩
theorem FB.drew {w X : World} {L : List (Nat × List Value)} (h : FB w L X) : FB w L X.drew := ⟨h.1, h.2.drew⟩
theorem FB.drewN {w X : World} {L : List (Nat × List Value)} (h : FB w L X) (n : Nat) : FB w L (X.drewN n) := ⟨h.1, below_drewN h.2 n⟩
theorem FB.cons {w X : World} {L : List (Nat × List Value)} (h : FB w L X) {g : Nat} {l : List Value} (hb : Blk X g l) (hg : g < X.heap.size) : FB w ((g, l) :: L) X :=
  ⟨fun i g' m e => by
    match i, e with
    | 0, e => simp at e; obtain ⟨rfl, rfl⟩ := e; exact ⟨hb, hg⟩
    | i + 1, e => simp only [List.getElem?_cons_succ] at e; exact h.1 i g' m e, h.2⟩
/-- A cell of a block stored, which no other block of the family is. -/
theorem FB.set {w X : World} {L : List (Nat × List Value)} {g : Nat} {l : List Value} (h : FB w ((g, l) :: L) X) (hn : ∀ (i : Nat) (g' : Nat) (m : List Value), L[i]? = some (g', m) → g' ≠ g) (hw : w.heap.size ≤ g) (j : Nat) (hj : j < l.length) (y : Value) : FB w ((g, l.set j y) :: L) (X.setCell ⟨g, j, none⟩ y) :=
  ⟨fun i g' m e => by
    match i, e with
    | 0, e =>
      simp at e
      obtain ⟨rfl, rfl⟩ := e
      exact ⟨(h.1 0 g l rfl).1.set j hj y, by simpa using (h.1 0 g l rfl).2⟩
    | i + 1, e =>
      simp only [List.getElem?_cons_succ] at e
      have := h.1 (i + 1) g' m (by simpa using e)
      exact ⟨this.1.other (Ne.symm (hn i g' m e)) j y, by simpa using this.2⟩, h.2.setCell (p := ⟨g, j, none⟩) hw y⟩
end Go.Proofs.YtjjkikghfmnikaaGreatDoor

/- Plain functions of layer 7 (interrupt): sets of the numbers 1 to 10 as bits. -/
set_option linter.unusedSimpArgs false
set_option linter.unusedVariables false
namespace Go.Proofs.YtjjkikghfmnikaaGreatDoor
open Go.RowKit
/-- The set of the numbers from 1 to k that q holds of, as bits. -/
def sB (q : Nat → Bool) : Nat → Nat
  | 0 => 0
  | k + 1 => (if q (k + 1) = true then 2 ^ (k + 1) else 0) ||| sB q k
/-- Whether the bit n is set. -/
def pb (p : Int) (n : Nat) : Bool := p.toNat.testBit n
theorem sB_bit (q : Nat → Bool) : ∀ k i, (sB q k).testBit i = (decide (1 ≤ i ∧ i ≤ k) && q i)
  | 0, i => by simp [sB]; omega
  | k + 1, i => by
    unfold sB
    rw [Nat.testBit_or, sB_bit q k i]
    by_cases h : i = k + 1
    · subst h
      split
      · rename_i h; rw [Nat.testBit_two_pow_self]; simp [h]
      · rename_i h; simp [h]
    · have e : ∀ b : Bool, (if b = true then 2 ^ (k + 1) else 0 : Nat).testBit i = false := fun b => by
        split
        · rw [Nat.testBit_two_pow]; simp; omega
        · simp
      rw [e]
      have e2 : (1 ≤ i ∧ i ≤ k) ↔ (1 ≤ i ∧ i ≤ k + 1) := by omega
      simp [e2]
theorem sB_lt (q : Nat → Bool) : ∀ k, sB q k < 2 ^ (k + 1)
  | 0 => by simp [sB]
  | k + 1 => by
    have h := sB_lt q k
    have p : (2 : Nat) ^ (k + 1 + 1) = 2 ^ (k + 1) + 2 ^ (k + 1) := by rw [Nat.pow_succ]; omega
    unfold sB
    refine Nat.or_lt_two_pow ?_ ?_
    · have := Nat.two_pow_pos (k + 1); split <;> omega
    · omega
theorem sB_add (q : Nat → Bool) (k : Nat) : sB q (k + 1) = sB q k + (if q (k + 1) = true then 2 ^ (k + 1) else 0) := by
  have h := sB_lt q k
  show (if q (k + 1) = true then 2 ^ (k + 1) else 0) ||| sB q k = _
  split
  · have e := Nat.two_pow_add_eq_or_of_lt h 1
    rw [Nat.mul_one] at e
    rw [← e, Nat.add_comm]
  · simp
theorem sB_congr {q r : Nat → Bool} : ∀ k, (∀ n, 1 ≤ n → n ≤ k → q n = r n) → sB q k = sB r k
  | 0, _ => rfl
  | k + 1, h => by unfold sB; rw [sB_congr k (fun n h0 h1 => h n h0 (by omega)), h (k + 1) (by omega) (by omega)]
theorem sB10 (q : Nat → Bool) : sB q 10 < 2048 := sB_lt q 10
theorem pb_sB (q : Nat → Bool) (n : Nat) (h0 : 1 ≤ n) (h1 : n ≤ 10) : pb ((sB q 10 : Nat) : Int) n = q n := by
  unfold pb
  rw [Int.toNat_natCast, sB_bit]
  simp [h0, h1]
theorem sB_pb (q : Nat → Bool) : sB (pb ((sB q 10 : Nat) : Int)) 10 = sB q 10 := sB_congr 10 (fun n h0 h1 => pb_sB q n h0 h1)
/-- The bit of a number. -/
def bV (n : Nat) : Int := ((2 ^ n : Nat) : Int)
theorem bV_bd (n : Nat) (h : n ≤ 15) : 0 ≤ bV n ∧ bV n < 65536 := by
  unfold bV
  have h1 := Nat.pow_le_pow_right (n := 2) (by decide) h
  generalize (2 : Nat) ^ n = m at *
  have : (2 : Nat) ^ 15 = 32768 := by decide
  omega
theorem and_yes (p : Int) (h0 : 0 ≤ p) (h1 : p < 65536) (n : Nat) (hn : n ≤ 15) (h : pb p n = true) : bits .and .u16 p (bV n) = bV n := by
  have := bV_bd n hn
  rw [u16_and p (bV n) h0 h1 this.1 this.2]
  unfold bV
  rw [Int.toNat_natCast]
  congr 1
  apply Nat.eq_of_testBit_eq
  intro i
  rw [Nat.testBit_and, Nat.testBit_two_pow]
  by_cases c : n = i
  · subst c; unfold pb at h; simp [h]
  · simp [c]
theorem and_no (p : Int) (h0 : 0 ≤ p) (h1 : p < 65536) (n : Nat) (hn : n ≤ 15) (h : pb p n = false) : bits .and .u16 p (bV n) = 0 := by
  have := bV_bd n hn
  rw [u16_and p (bV n) h0 h1 this.1 this.2]
  unfold bV
  rw [Int.toNat_natCast]
  have e : p.toNat &&& 2 ^ n = 0 := by
    apply Nat.eq_of_testBit_eq
    intro i
    rw [Nat.testBit_and, Nat.testBit_two_pow]
    by_cases c : n = i
    · subst c; unfold pb at h; simp [h]
    · simp [c]
  rw [e]; rfl
theorem bV_ne (n : Nat) : bV n ≠ 0 := by unfold bV; have := Nat.two_pow_pos n; omega
/-- A number is joined to a set. -/
theorem or_bit (q : Nat → Bool) (n : Nat) (h0 : 1 ≤ n) (h1 : n ≤ 10) : bits .or .u16 ((sB q 10 : Nat) : Int) (bV n) = ((sB (fun i => i == n || q i) 10 : Nat) : Int) := by
  have := bV_bd n (by omega)
  have h := sB10 q
  rw [u16_or _ _ (by omega) (by omega) this.1 this.2]
  unfold bV
  rw [Int.toNat_natCast, Int.toNat_natCast]
  congr 1
  apply Nat.eq_of_testBit_eq
  intro i
  rw [Nat.testBit_or, sB_bit, sB_bit, Nat.testBit_two_pow]
  by_cases c : n = i
  · subst c; simp [h0, h1]
  · have c' : ¬ i = n := fun e => c e.symm
    have c2 : (i == n) = false := by rw [beq_eq_false_iff_ne]; exact c'
    simp [c, c2]
/-- The numbers that are taken one after the other, each less 1. -/
def yl (p : Int) : Nat → List (Fin 10)
  | 0 => []
  | j + 1 => if h : j < 10 then (if pb p (j + 1) = true then yl p j ++ [⟨j, h⟩] else yl p j) else yl p j
theorem yl_yes (p : Int) (j : Nat) (h : j < 10) (c : pb p (j + 1) = true) : yl p (j + 1) = yl p j ++ [⟨j, h⟩] := by
  show (if h : j < 10 then (if pb p (j + 1) = true then yl p j ++ [⟨j, h⟩] else yl p j) else yl p j) = _
  rw [dif_pos h, if_pos c]
theorem yl_no (p : Int) (j : Nat) (c : pb p (j + 1) = false) : yl p (j + 1) = yl p j := by
  show (if h : j < 10 then (if pb p (j + 1) = true then yl p j ++ [⟨j, h⟩] else yl p j) else yl p j) = _
  rw [c]; simp
theorem yl_len (p : Int) : ∀ j, (yl p j).length ≤ j
  | 0 => Nat.le_refl _
  | j + 1 => by
    have := yl_len p j
    show (if h : j < 10 then (if pb p (j + 1) = true then yl p j ++ [⟨j, h⟩] else yl p j) else yl p j).length ≤ _
    split
    · split
      · simp; omega
      · omega
    · omega
/-- The least number of those up to k; 0 if there is none. -/
def fs (p : Int) : Nat → Nat
  | 0 => 0
  | k + 1 => if fs p k ≠ 0 then fs p k else if pb p (k + 1) = true then k + 1 else 0
theorem fs_keep (p : Int) (k : Nat) (h : fs p k ≠ 0) : ∀ m, fs p (k + m) = fs p k
  | 0 => rfl
  | m + 1 => by
    have e := fs_keep p k h m
    show (if fs p (k + m) ≠ 0 then fs p (k + m) else _) = _
    rw [if_pos (by rw [e]; exact h), e]
theorem fs_at (p : Int) (j : Nat) (h : j < 10) (h0 : fs p j = 0) (c : pb p (j + 1) = true) : fs p 10 = j + 1 := by
  have e : fs p (j + 1) = j + 1 := by
    show (if fs p j ≠ 0 then fs p j else if pb p (j + 1) = true then j + 1 else 0) = _
    simp [h0, c]
  have := fs_keep p (j + 1) (by omega) (10 - (j + 1))
  rw [show j + 1 + (10 - (j + 1)) = 10 by omega] at this
  rw [this, e]
theorem fs_no (p : Int) (j : Nat) (h0 : fs p j = 0) (c : pb p (j + 1) = false) : fs p (j + 1) = 0 := by
  show (if fs p j ≠ 0 then fs p j else if pb p (j + 1) = true then j + 1 else 0) = _
  simp [h0, c]
theorem yl_nil (p : Int) : ∀ j, j ≤ 10 → yl p j = [] → fs p j = 0
  | 0, _, _ => rfl
  | j + 1, hj, h => by
    by_cases c : pb p (j + 1) = true
    · rw [yl_yes p j (by omega) c] at h; simp at h
    · have c : pb p (j + 1) = false := by simpa using c
      rw [yl_no p j c] at h
      exact fs_no p j (yl_nil p j (by omega) h) c
/-- The first number that is taken is the least one. -/
theorem yl_first (p : Int) (j : Nat) (h : j < 10) (c : pb p (j + 1) = true) (x : Fin 10) (e : yl p (j + 1) = [x]) : fs p 10 = x.val + 1 := by
  rw [yl_yes p j h c] at e
  have e1 : yl p j = [] := by
    rcases hl : yl p j with _ | ⟨a, l⟩
    · rfl
    · rw [hl] at e; simp at e
  rw [e1] at e
  simp at e
  subst e
  exact fs_at p j h (yl_nil p j (by omega) e1) c
theorem fs_spec (p : Int) : ∀ k, (fs p k = 0 ∧ ∀ n, 1 ≤ n → n ≤ k → pb p n = false) ∨ (1 ≤ fs p k ∧ fs p k ≤ k ∧ pb p (fs p k) = true ∧ ∀ n, 1 ≤ n → n < fs p k → pb p n = false)
  | 0 => .inl ⟨rfl, fun n h0 h1 => by omega⟩
  | k + 1 => by
    have e : fs p (k + 1) = if fs p k ≠ 0 then fs p k else if pb p (k + 1) = true then k + 1 else 0 := rfl
    rcases fs_spec p k with ⟨h0, h1⟩ | ⟨h0, h1, h2, h3⟩
    · by_cases c : pb p (k + 1) = true
      · rw [e, h0]; simp only [c, if_true, ne_eq, not_true_eq_false, if_false]
        exact .inr ⟨by omega, by omega, trivial, fun n a b => h1 n a (by omega)⟩
      · have c' : pb p (k + 1) = false := by simpa using c
        rw [e, h0]; simp only [c, if_false, ne_eq, not_true_eq_false]
        refine .inl ⟨rfl, fun n a b => ?_⟩
        by_cases d : n = k + 1
        · subst d; exact c'
        · exact h1 n a (by omega)
    · rw [e, if_pos (by omega)]
      exact .inr ⟨h0, by omega, h2, h3⟩
end Go.Proofs.YtjjkikghfmnikaaGreatDoor

/- Contracts of layer 7: the small functions, and the iterator. -/
set_option linter.unusedSimpArgs false
set_option linter.unusedVariables false
set_option maxRecDepth 100000
namespace Go.Proofs.YtjjkikghfmnikaaGreatDoor
open Go.RowKit Go.Shelf Go.ChangeShapes Go.WideShapes Go.ChangeAt
attribute [local go_sem] Oper.semAt_some
theorem bit_any (n : Nat) (h0 : 1 ≤ n) (h1 : n ≤ 10) (w : World) : Calls Tryz.prog 137 #[.int .i64 n] w fun e w' => e = .returned (.int .u16 (bV n)) ∧ w = w' := by
  have hn : n = 1 ∨ n = 2 ∨ n = 3 ∨ n = 4 ∨ n = 5 ∨ n = 6 ∨ n = 7 ∨ n = 8 ∨ n = 9 ∨ n = 10 := by omega
  clear h0 h1
  rcases hn with rfl | rfl | rfl | rfl | rfl | rfl | rfl | rfl | rfl | rfl
  all_goals
    go_enter Tryz.func137, Tryz.ntmps137
    go_wp2
    go_ret
    exact ⟨rfl, rfl⟩
theorem isRupt_any (n : Int) (t : Bool) (ht : decide (1 ≤ n ∧ n ≤ 10) = t) (w : World) : Calls Tryz.prog 182 #[.int .i64 n] w fun e w' => e = .returned (.bool t) ∧ w = w' := by
  subst ht
  by_cases c : 1 ≤ n
  · go_enter Tryz.func182, Tryz.ntmps182
    go_wp2
    go_ret
    exact ⟨ret_bool (by simp [c]), rfl⟩
  · go_enter Tryz.func182, Tryz.ntmps182
    go_wp2
    go_ret
    exact ⟨ret_bool (by symm; simp; omega), rfl⟩
set_option maxHeartbeats 1000000 in
theorem pending_in (n : Nat) (p : Int) (w : World) :
    CallsIn Fence.wide n Tryz.prog 136 #[.agg #[.int .u16 p]] w fun e w' => e = .returned (.func (.func 181) #[] #[.pointer (some ⟨w.heap.size, 0, none⟩)]) ∧ w' = w.alloc (.cells #[.int .u16 p] 77) := by
  refine callsIn_of_wp Tryz.func136 rfl trivial ?_ rfl
  simp only [Tryz.ntmps136, List.size_toArray, List.length_cons, List.length_nil, Nat.reduceAdd, Nat.reduceSub, Array.replicate_succ, Array.replicate_zero, List.push_toArray, List.append_toArray, List.nil_append, List.cons_append]
  gi_wp2
  go_ret
  exact ⟨rfl, rfl⟩
/-- What was taken when the walk ended early. -/
def Sofar (p : Int) (pre : List (Fin 10)) : Prop := ∃ j x, j < 10 ∧ pb p (j + 1) = true ∧ pre = yl p j ++ [x] ∧ x.val = j
theorem below_of_drew {B : Nat} {w w' : World} (h : Below B w.drew w') : Below B w w' := ⟨h.os, h.tape, h.output, h.size, h.block⟩
theorem asked_wide (P : Program) (o : Oper) (a : Act) (C : World → Prop) : Oper.askedIn Fence.wide P o a C := fun _ _ _ _ => trivial
theorem grown_drewN (w : World) (m : Nat) : w.grownBy (w.drewN m) none := ⟨rfl, rfl, rfl, Nat.le_refl _, fun _ _ _ => rfl⟩
theorem grown_drew (w : World) : w.grownBy w.drew none := ⟨rfl, rfl, rfl, Nat.le_refl _, fun _ _ _ => rfl⟩
set_option maxHeartbeats 2000000 in
theorem pending1_in (n : Nat) (hn : 1 ≤ n) (l Bs : Nat) (p : Int) (p0 : 0 ≤ p) (p1 : p < 65536) (Kp : World → World → Prop) (hKc : ∀ A B, Kp A B → B.cell? ⟨Bs, 0, none⟩ = A.cell? ⟨Bs, 0, none⟩) (J Jx : List (Fin 10) → World → Prop) (B : Nat) (hA : AbidesFrom B J)
    (hY : ∀ (pre : List (Fin 10)) (x : Fin 10) (W : World), J pre W → pre.length < 10 → YieldAt Fence.wide (n - 1) Tryz.prog l #[.int .i64 ((x.val : Int) + 1)] W fun e W' =>
      (e = .returned (.bool true) ∧ J (pre ++ [x]) W' ∧ Kp W W') ∨ (e = .returned (.bool false) ∧ Jx (pre ++ [x]) W'))
    (W : World) (hc : W.cell? ⟨Bs, 0, none⟩ = some (.int .u16 p)) (h0 : J [] W) :
    CallsIn Fence.wide n Tryz.prog 181 #[.func (.yield l) #[] #[], .pointer (some ⟨Bs, 0, none⟩)] W fun e W' => (∃ v, e = .returned v) ∧
      ((∃ ys, ys = yl p 10 ∧ J ys W') ∨ (∃ pre, Sofar p pre ∧ Jx pre W')) := by
  have HY := Lib.hid hY
  have HA := Lib.hid hA
  have HK := Lib.hid hKc
  clear hY hA hKc
  refine callsIn_of_wp Tryz.func181 rfl trivial ?_ rfl
  simp only [Tryz.ntmps181, List.size_toArray, List.length_cons, List.length_nil, Nat.reduceAdd, Nat.reduceSub, Array.replicate_succ, Array.replicate_zero, List.push_toArray, List.append_toArray, List.nil_append, List.cons_append]
  gi_wp2
  gi_loopw [3] (fun i wr => ∃ k : Nat, k ≤ 10 ∧ i = .int .i64 ((k : Int) + 1) ∧ J (yl p k) wr ∧ wr.cell? ⟨Bs, 0, none⟩ = some (.int .u16 p)) (fun i _ => 11 - (intOf i).toNat)
  case atStart => exact ⟨0, Nat.zero_le _, rfl, h0, hc⟩
  case round =>
    obtain ⟨k, hk, rfl, hJ, hb⟩ := hrel
    by_cases hlt : k < 10
    · have HB := Lib.hid hb
      have HLn := Lib.hid (Nat.lt_of_le_of_lt (yl_len p k) hlt)
      have hbv := bV_bd (k + 1) (by omega)
      by_cases ho : pb p (k + 1) = true
      · have HS := Lib.hid (yl_yes p k hlt ho)
        have HO := Lib.hid ho
        have ha := and_yes p p0 p1 (k + 1) (by omega) ho
        have hne : (bV (k + 1) != 0) = true := by rw [bne_iff_ne]; exact bV_ne _
        clear ho
        obtain ⟨fn, tmps, assign, body, hy, hR⟩ := HY.out _ ⟨k, hlt⟩ wr.drew (HA.out _ _ _ none hJ (grown_drew wr) (fun r e => by cases e)) HLn.out
        have HR : RoundIn Fence.wide (n - 1) Tryz.prog l fn tmps assign body wr.drew fun e W' => ∃ b, e = .returned (.bool b) ∧ Hid ((b = true ∧ J (yl p k ++ [⟨k, hlt⟩]) W' ∧ Kp wr.drew W') ∨ (b = false ∧ Jx (yl p k ++ [⟨k, hlt⟩]) W')) := hR.mono (fun e w h => by
          rcases h with ⟨rfl, h⟩ | ⟨rfl, h⟩
          · exact ⟨true, rfl, Lib.hid (.inl ⟨rfl, h⟩)⟩
          · exact ⟨false, rfl, Lib.hid (.inr ⟨rfl, h⟩)⟩)
        have HR := Lib.hid HR
        clear hR hJ
        gi_wp2
        gi_region_with (first | (refine ⟨trivial, ?_⟩; gi_at_call 137; refine (callsIn_wide.2 (bit_any (k + 1) (by omega) (by omega) _)).mono ?_; rintro e w' ⟨rfl, rfl⟩) | (refine HR.out.mono ?_; rintro e W3 ⟨b, rfl, HQ⟩))
        all_goals
          clear ha hne
          rcases HQ.out with ⟨rfl, hJ3, hk3⟩ | ⟨rfl, hJx3⟩
          · gi_wp2
            go_roundw
            case rel => exact ⟨k + 1, by omega, by simp, by rw [HS.out]; exact hJ3, (HK.out _ _ hk3).trans HB.out⟩
            case measure => simp [intOf]; omega
          · gi_wp2
            refine bodyPost_ret (results_none rfl _ _ _) rfl ?_
            exact ⟨⟨_, rfl⟩, .inr ⟨_, ⟨k, ⟨k, hlt⟩, hlt, HO.out, rfl, rfl⟩, hJx3⟩⟩
      · have ho' : pb p (k + 1) = false := by simpa using ho
        have HS := Lib.hid (yl_no p k ho')
        have ha := and_no p p0 p1 (k + 1) (by omega) ho'
        clear ho ho'
        have hne : ((0 : Int) != 0) = false := rfl
        gi_wp2
        refine wpIn_region_quiet_lit rfl (by kernel_rfl) (by kernel_rfl) ?_
        repeat (refine wpQuietIn_step (asked_wide _ _ _ _) (fun K hK => ?_); go_simp; first | (refine hK _ ?_; clear hK K) | (apply Exists.intro; refine ⟨fun _ => ?_, hK _ ?_⟩; (gi_at_call 137; exact callsIn_wide.2 (quiet_left (bit_any (k + 1) (by omega) (by omega) _))); clear hK K))
        refine wpQuietIn_nil ?_
        intro _ hw'
        obtain ⟨nq, hw''⟩ := hw'
        subst hw''
        gi_wp2
        go_roundw
        case rel => exact ⟨k + 1, by omega, by simp, by rw [HS.out]; exact HA.out _ _ _ none hJ (grown_drewN wr nq) (fun r e => by cases e), HB.out⟩
        case measure => simp [intOf]; omega
    · obtain rfl : k = 10 := by omega
      gi_wp2
      go_end0
      exact ⟨⟨_, rfl⟩, .inl ⟨_, rfl, hJ⟩⟩
theorem pending_stops (n : Nat) (hn : 1 ≤ n) (Bs : Nat) (p : Int) (p0 : 0 ≤ p) (p1 : p < 65536) (Kp : World → World → Prop) (hKc : ∀ A B, Kp A B → B.cell? ⟨Bs, 0, none⟩ = A.cell? ⟨Bs, 0, none⟩) (w : World) (hBs : Bs < w.heap.size) (hc : w.cell? ⟨Bs, 0, none⟩ = some (.int .u16 p)) :
    SeqStopsK Fence.wide n Tryz.prog 181 #[.pointer (some ⟨Bs, 0, none⟩)] (fun x : Fin 10 => #[Value.int .i64 ((x.val : Int) + 1)]) Kp (fun ys => ys = yl p 10) (Sofar p) 10 w := fun l J Jx W hW hJ _ hY h0 =>
  pending1_in n hn l Bs p p0 p1 Kp hKc J Jx _ hJ hY W ((hW.cell (p := ⟨Bs, 0, none⟩) hBs).trans hc) h0
/-- What lay below g stays, and the box Bs. -/
def KpB (g Bs : Nat) (A B : World) : Prop := Below g A B ∧ B.cell? ⟨Bs, 0, none⟩ = A.cell? ⟨Bs, 0, none⟩
theorem KpB.box {g Bs : Nat} : ∀ A B, KpB g Bs A B → B.cell? ⟨Bs, 0, none⟩ = A.cell? ⟨Bs, 0, none⟩ := fun _ _ h => h.2
theorem KpB.trans {g Bs : Nat} {A B C : World} (h : KpB g Bs A B) (k : KpB g Bs B C) : KpB g Bs A C := ⟨h.1.trans k.1, k.2.trans h.2⟩
theorem KpB.put {g Bs : Nat} {w : World} (hg : g ≤ w.heap.size) (hB : Bs < w.heap.size) : ∀ (W : World) (l : Nat) (o o' : Obj), w.heap.size ≤ l → W.heap[l]? = some o → o.isCells = false → o.isWalk = false → KpB g Bs W (W.putObj l o') := fun W l o o' hl ho h1 h2 =>
  ⟨belowK_b (w := w) hg W l o o' hl ho h1 h2, (belowK_b (w := w) (n₀ := Bs + 1) hB W l o o' hl ho h1 h2).cell (p := ⟨Bs, 0, none⟩) (Nat.lt_succ_self _)⟩
end Go.Proofs.YtjjkikghfmnikaaGreatDoor
