/- The walk of CounterCounts. -/
import Derived.Test.YteongalbljdjlaaM06i
import Derived.Test.YteongalbljdjlaaM06h
import Derived.Test.YteongalbljdjlaaP06b
import Derived.Test.YteongalbljdjlaaFB
import Derived.Test.YteongalbljdjlaaOpenB
import Derived.Deep.RegionLaw
import Derived.OwnWalk
import Derived.Deep.DeepCutAuto
import Derived.Deep.RegionHeld3
import Derived.BigQuiet
set_option linter.unusedSimpArgs false
set_option linter.unusedVariables false
set_option maxRecDepth 100000
namespace Go.Proofs.Yteongalbljdjlaa
open Go.ChangeShapes Go.WideShapes Go.ChangeAt Go.RowKit
/-- The queue of the first k numbers. -/
def qc (f : Nat → Int) : Nat → List (Int × Int)
  | 0 => []
  | k + 1 => qc f k ++ [(20 + f k % 28, if 128 ≤ f k then 2 else 1)]
theorem qc_len (f : Nat → Int) : ∀ k, (qc f k).length = k
  | 0 => rfl
  | k + 1 => by unfold qc; rw [List.length_append, qc_len f k]; rfl
theorem qc_mem (f : Nat → Int) : ∀ k, ∀ p ∈ qc f k, 20 ≤ p.1 ∧ p.1 ≤ 47 ∧ (p.2 = 1 ∨ p.2 = 2)
  | 0, p, h => by simp [qc] at h
  | k + 1, p, h => by
    unfold qc at h
    rcases List.mem_append.1 h with h | h
    · exact qc_mem f k p h
    · simp at h; subst h; simp only; split <;> omega
theorem pv1 (x : Int) (h0 : 0 ≤ x) (h1 : x < 32768) : oVal (pW x 1) + 16384 * pS x 1 = oVal x + 1 := by
  have e1 : pW x 1 = if x = 16383 then 0 else oAdd x 1 := by unfold pW; rw [if_pos rfl]
  have e2 : pS x 1 = if x = 16383 then 1 else 0 := by unfold pS; rw [if_pos rfl]
  rw [e1, e2]
  by_cases c : x = 16383
  · subst c; decide
  · rw [if_neg c, if_neg c]
    unfold oVal oAdd
    repeat' split
    all_goals omega
theorem pv2 (x : Int) (h0 : 0 ≤ x) (h1 : x < 32768) : oVal (pW x 2) + 16384 * pS x 2 = oVal x - 1 := by
  have e1 : pW x 2 = if x = 16384 then 32767 else oAdd x 32766 := by unfold pW; rw [if_neg (by decide), if_pos rfl]
  have e2 : pS x 2 = if x = 16384 then -1 else 0 := by unfold pS; rw [if_neg (by decide), if_pos rfl]
  rw [e1, e2]
  by_cases c : x = 16384
  · subst c; decide
  · rw [if_neg c, if_neg c]
    unfold oVal oAdd
    repeat' split
    all_goals omega
/-- A plus or a minus pulse moves the value and 16384 times the signal by 1. -/
theorem pulse_val (x b : Int) (p : Int × Int) (h0 : 0 ≤ x) (h1 : x < 32768) (hb : p.1 = b) (hk : p.2 = 1 ∨ p.2 = 2) : oVal (pW x p.2) + 16384 * pS x p.2 = oVal x + pt b p := by
  unfold pt
  rw [if_pos hb]
  rcases hk with h | h
  · rw [h, if_pos rfl]; exact pv1 x h0 h1
  · rw [h, if_neg (by decide), if_pos rfl]; have := pv2 x h0 h1; omega
theorem tot_without (b : Int) (M : List (Int × Int)) (q : Nat) (h : q < M.length) : tot b (without M q) + pt b (M.getD q (0, 0)) = tot b M := by
  have hs := split_at M q h
  have e1 : tot b M = tot b (M.take q) + (tot b [M.getD q (0, 0)] + tot b (M.drop (q + 1))) := by
    conv => lhs; rw [hs]
    rw [tot_append, tot_append]
  unfold without
  rw [tot_append, e1, tot_one]
  omega
theorem pt_other (b : Int) (p : Int × Int) (h : p.1 ≠ b) : pt b p = 0 := by unfold pt; rw [if_neg h]
theorem OwnP.qmb {T : TypeId} {w : World} {B : Nat} {v : Value} {L : List (Int × Int)} (h : OwnP .i64 .u8 T w B v L) : ∃ A c, v = .slice A L.length c ∧ PlsL w A L ∧ (A = none → c = 0) ∧ L.length ≤ c := by
  obtain ⟨A, c, rfl, hp, hA⟩ := h.q
  refine ⟨A, c, rfl, hp, hA, ?_⟩
  rcases h.2 with ⟨_, e⟩ | ⟨g, cap, cur, e, hb, hh, h1, _⟩
  · omega
  · injection e with _ _ e3; omega
theorem PlsL.otherc {w : World} {A : Option Addr} {L : List (Int × Int)} (h : PlsL w A L) (p : Addr) (hp : 0 < L.length → ∀ a, A = some a → a.block ≠ p.block) (v : Value) : PlsL (w.setCell p v) A L := fun i hi => by
  obtain ⟨a, e, h1, h2⟩ := h i hi
  have hb := hp (by omega) a e
  have hb2 : (a.add (i * 2)).block ≠ p.block := by rw [add_block]; exact hb
  refine ⟨a, e, ?_, ?_⟩
  · rw [World.cell?_setCell_other _ _ _ _ (fun x => hb2 (by rw [x]))]; exact h1
  · rw [World.cell?_setCell_other _ _ _ _ (fun x => hb2 (by rw [x]))]; exact h2
def lenOfc : Value → Nat
  | .slice _ n _ => n
  | _ => 0
theorem OwnP.blk {T : TypeId} {w : World} {B : Nat} {v : Value} {L : List (Int × Int)} (h : OwnP .i64 .u8 T w B v L) (h0 : 0 < L.length) (a : Addr) (n c : Nat) (e : v = .slice (some a) n c) : B ≤ a.block := by
  rcases h.2 with ⟨_, e2⟩ | ⟨g, cap, cur, e2, hb, _⟩
  · omega
  · rw [e] at e2
    injection e2 with e3
    injection e3 with e3
    subst e3
    exact hb
theorem info_word6c : (Try.prog.info? 35).map (fun i => (i.zero, i.size, i.bytes)) = some (some (.int .u16 0), 1, 2) := by kernel_rfl
theorem info_int6c : (Try.prog.info? 3).map (fun i => (i.zero, i.size, i.bytes)) = some (some (.int .i64 0), 1, 8) := by kernel_rfl
set_option maxHeartbeats 4000000 in
theorem ccounts_any (A : Option Addr) (len cap n : Nat) (f : Nat → Int) (z : Nat → Int) (hz : ∀ i, 0 ≤ z i ∧ z i < 65536) (hf : ∀ i, i < len → 0 ≤ f i ∧ f i < 256) (hlen : len ≤ 9223372036854775807) (hn : n = min len 64) (w : World) (hr : Row .u8 w A len f) :
    Calls Try.prog 4 #[.agg ((List.range 28).map (fun i => Value.int .u16 (z i))).toArray, .slice A len cap] w fun e w' => e = .returned (.bool true) ∧ Below w.heap.size w w' := by
  have HR := Lib.hid hr
  have HF := Lib.hid hf
  have HN := Lib.hid hn
  have hn64 : n ≤ 64 := by omega
  have hnl : n ≤ len := by omega
  have HZ := Lib.hid hz
  clear hr hf hn hz
  go_enter Try.func4, Try.ntmps4
  go_wp2_with (fail)
  have R0 := row_lit .u16 w ((List.range 28).map z) 42
  have hRz : ∀ i, i < 28 → ((List.range 28).map z).getD i 0 = z i := fun i hi => by simp [List.getD_eq_getElem?_getD, hi]
  have HRW := Lib.hid (show Row .u16 (w.alloc (.cells (((List.range 28).map z).map (Value.int .u16)).toArray 42)) (some ⟨w.heap.size, 0, none⟩) 28 z from fun i hi => by
    obtain ⟨a, e, h⟩ := R0 i (by simp; exact hi)
    exact ⟨a, e, by rw [h]; exact congrArg (fun x => some (Value.int .u16 x)) (hRz i hi)⟩)
  have B0 := (Below.refl w.heap.size w).alloc (Nat.le_refl _) (.cells (((List.range 28).map z).map (Value.int .u16)).toArray 42)
  clear R0 hRz
  change Code.wp _ _ _ _ (w.alloc (.cells (((List.range 28).map z).map (Value.int .u16)).toArray 42))
  generalize Value.agg (List.map (fun i => Value.int IntKind.u16 (z i)) (List.range 28)).toArray = av0
  have hgw : w.heap.size < (w.alloc (.cells (((List.range 28).map z).map (Value.int .u16)).toArray 42)).heap.size := by simp
  generalize w.alloc (.cells (((List.range 28).map z).map (Value.int .u16)).toArray 42) = V at HRW B0 hgw ⊢
  have HB0 := Lib.hid B0
  have HRV := Lib.hid (HR.out.below B0 (Nat.le_refl _))
  clear B0 HR
  go_loopw [5, 6] (fun l i wr => ∃ k : Nat, k ≤ n ∧ i = .int .i64 k ∧ Hid (OwnP .i64 .u8 25 wr V.heap.size l (qc f k)) ∧ Hid (Below V.heap.size V wr)) (fun _ i _ => n - (intOf i).toNat)
  case atStart => exact ⟨0, Nat.zero_le _, rfl, Lib.hid (OwnP.nil _ _ _ _ _), Lib.hid (Below.refl _ _)⟩
  case round =>
    obtain ⟨k, hk, rfl, HO, HB⟩ := hrel
    by_cases hlt : k < n
    · have HLT := Lib.hid hlt
      have hkl : (k : Int) < (len : Int) := by omega
      have hk64 : (k : Int) < 64 := by omega
      obtain ⟨a, rfl, hx⟩ := HRV.out k (by omega)
      have hxr := (HB.out.cell (lt_of_cell hx)).trans hx
      have hfk := HF.out k (by omega)
      have HQ := Lib.hid (show qc f (k + 1) = qc f k ++ [(20 + f k % 28, if 128 ≤ f k then 2 else 1)] from rfl)
      obtain ⟨A1, c1, rfl, hp1, hA1⟩ := HO.out.q
      rw [qc_len]
      have HQL := Lib.hid (qc_len f k)
      have HP1 := Lib.hid hp1
      have HA1 := Lib.hid hA1
      clear hp1 hA1
      generalize f k = x at *
      have ht : x.tmod 28 = x % 28 := Int.tmod_eq_emod_of_nonneg hfk.1
      have hw3 : IntKind.i64.wrap (20 + x % 28) = 20 + x % 28 := IntWalk.i64_in _ (by omega)
      clear hx
      have hE : ∀ kd : Int, 1 ≤ kd ∧ kd ≤ 7 → addE (20 + x % 28) kd k = 0 := fun kd h => by unfold addE; rw [if_neg (by omega), if_neg (by omega), if_neg (by omega)]
      have HAD := Lib.hid (fun kd h => by have := Add_pulse A1 k c1 (qc f k) HQL.out HA1.out (20 + x % 28) kd wr HP1.out; rw [hE kd h] at this; exact this)
      have HS := Lib.hid HB.out.size
      clear hE
      by_cases c128 : 128 ≤ x
      · rw [if_pos c128] at HQ
        go_wp2_with (fail)
        refine (HAD.out 2 (by decide)).mono ?_
        rintro e w1 ⟨v, rfl, ho, hb⟩
        rw [if_pos rfl] at ho
        have HO2 := Lib.hid (show OwnP .i64 .u8 25 w1 V.heap.size v (qc f (k + 1)) from by rw [HQ.out]; exact ho.low HS.out)
        have HB2 := Lib.hid (HB.out.trans (hb.mono HS.out))
        obtain ⟨A2, n2, c2, rfl⟩ := ho.shape
        clear ho hb hxr
        go_wp2_with (fail)
        go_roundw
        case rel => exact ⟨k + 1, HLT.out, by go_num, HO2, HB2⟩
        case measure => have := HLT.out; simp [intOf]; omega
      · rw [if_neg c128] at HQ
        go_wp2_with (fail)
        refine (HAD.out 1 (by decide)).mono ?_
        rintro e w1 ⟨v, rfl, ho, hb⟩
        rw [if_pos rfl] at ho
        have HO2 := Lib.hid (show OwnP .i64 .u8 25 w1 V.heap.size v (qc f (k + 1)) from by rw [HQ.out]; exact ho.low HS.out)
        have HB2 := Lib.hid (HB.out.trans (hb.mono HS.out))
        obtain ⟨A2, n2, c2, rfl⟩ := ho.shape
        clear ho hb hxr
        go_wp2_with (fail)
        go_roundw
        case rel => exact ⟨k + 1, HLT.out, by go_num, HO2, HB2⟩
        case measure => have := HLT.out; simp [intOf]; omega
    · have e : k = n := by omega
      subst e
      have hcase : (¬ (k : Int) < (len : Int)) ∨ ((k : Int) < (len : Int) ∧ ¬ (k : Int) < 64) := by have := HN.out; omega
      obtain ⟨A1, c1, rfl, hp, hA, hcl⟩ := HO.out.qmb
      have HP := Lib.hid hp
      have HA := Lib.hid hA
      have HML := qc_len f k
      have HMM := Lib.hid (qc_mem f k)
      have HQL := Lib.hid HML
      rw [HML] at hcl ⊢
      have HCL := Lib.hid hcl
      generalize qc f k = M at *
      clear HO HF HN hp HML hlen hnl hA hcl HRV
      rcases hcase with hc | ⟨hc, hc2⟩
      all_goals
        have hwV := HB.out.size
        obtain ⟨gE, hgE⟩ : ∃ g, wr.heap.size = g := ⟨_, rfl⟩
        have HGE := Lib.hid hgE
        have HEV := Lib.hid (show V.heap.size ≤ gE by omega)
        have HRW2 := Lib.hid (HRW.out.below HB.out (Nat.le_refl _))
        clear hgE hwV
        go_wp2_with (at_make; refine make_full wr wr rfl _ _ 26 rfl .u16 35 2 Try.underlying26 info_word6c wr.heap.size 48 rfl rfl (by decide) (by decide) (Below.refl _ _) (Nat.le_refl _) ?_; intro wm hown hbm hsm; (have A1m := Lib.hid (Arr.of_own hown (lst_replicate 48 0))); (have BM := Lib.hid hbm); (have SM := Lib.hid hsm); clear hown hbm hsm; try clear hc2; clear hc)
        rw [HGE.out] at A1m SM BM
        obtain ⟨W0, hW0⟩ : ∃ W, W = wr := ⟨_, rfl⟩
        rw [← hW0] at HP HB HGE HRW2 BM
        rw [show wr.heap.size = gE by rw [← hW0]; exact HGE.out]
        clear hW0
        have hgE : w.heap.size < gE := by have := HEV.out; omega
        go_loopw [11] (fun i vr => ∃ j : Nat, j ≤ 28 ∧ i = .int .i64 j ∧ Hid (Arr .u16 35 vr gE gE 48 48 (fun q => if 20 ≤ q ∧ q < 20 + j then z (q - 20) % 32768 else 0)) ∧ Hid (Below gE W0 vr)) (fun i _ => 28 - (intOf i).toNat)
        case atStart => exact ⟨0, by omega, rfl, Lib.hid (A1m.out.congr (fun q _ => by show _ = Value.int .u16 (if _ then _ else _); rw [if_neg (by omega)])), BM⟩
        case round =>
          obtain ⟨j, hj1, rfl, HE, HQ⟩ := hrel
          clear A1m BM
          by_cases hjt : j < 28
          · have HJT := Lib.hid hjt
            have hj2 : (j : Int) < 28 := by omega
            obtain ⟨m, hm⟩ : ∃ m : Nat, (20 : Int) + (j : Int) = (m : Int) := ⟨20 + j, by omega⟩
            have hm48 : m < 48 := by omega
            have hm48i : (m : Int) < 48 := by omega
            have HMJ := Lib.hid (show m = 20 + j by omega)
            obtain ⟨aw, eaw, hw1⟩ := (HRW2.out.below HQ.out (by rw [HGE.out]; exact Nat.le_refl _)) j hjt
            injection eaw with eaw
            subst eaw
            have hzj := HZ.out j
            have ht : (z j).tmod 32768 = z j % 32768 := Int.tmod_eq_emod_of_nonneg hzj.1
            have hyw : IntKind.u16.wrap (z j % 32768) = z j % 32768 := IntWalk.u16_in _ (by omega)
            have HZJ := Lib.hid (show z j % 32768 = z (m - 20) % 32768 by rw [HMJ.out]; congr 2; omega)
            generalize z j = zj at hw1 ht hyw HZJ
            clear hzj
            have cE := HE.out.cell hm48
            have fE := HE.out.free m
            rw [if_neg (by rw [HMJ.out]; omega)] at cE
            rw [show (⟨w.heap.size, 0, none⟩ : Addr).add j = ⟨w.heap.size, j, none⟩ by unfold Addr.add; by_cases c0 : j = 0 <;> simp [c0]] at hw1
            go_wp2_with (fail)
            go_roundw
            case rel => exact ⟨j + 1, HJT.out, by go_num, Lib.hid ((HE.out.set m (zj % 32768)).congr (fun q hq => by
              show Value.int .u16 (if q = m then zj % 32768 else if 20 ≤ q ∧ q < 20 + j then z (q - 20) % 32768 else 0) = Value.int .u16 (if 20 ≤ q ∧ q < 20 + (j + 1) then z (q - 20) % 32768 else 0)
              congr 1
              have := HMJ.out
              by_cases c0 : q = m
              · subst c0; rw [if_pos rfl, if_pos (by omega), HZJ.out]
              · rw [if_neg c0]
                by_cases c1 : 20 ≤ q ∧ q < 20 + j
                · rw [if_pos c1, if_pos (by omega)]
                · rw [if_neg c1, if_neg (by omega)])), Lib.hid (HQ.out.setCell (p := ⟨gE, m, none⟩) (Nat.le_refl _) _)⟩
            case measure => have := HJT.out; simp [intOf]; omega
          · have e : j = 28 := by omega
            subst e
            clear hj1 hjt
            rw [show ((28 : Nat) : Int) = 28 from rfl]
            go_wp2_with (at_make; refine make_full wr wr rfl _ _ 44 rfl .i64 3 8 Try.underlying44 info_int6c wr.heap.size 48 rfl rfl (by decide) (by decide) (Below.refl _ _) (Nat.le_refl _) ?_; intro wn hown hbn hsn; (have A2n := Lib.hid (Arr.of_own hown (lst_replicate 48 0))); (have A1n := Lib.hid (HE.out.below hbn (Nat.le_refl _))); (have BN := Lib.hid (HQ.out.trans (hbn.mono (Nat.le_of_lt HE.out.lt.2)))); (have SN := Lib.hid hsn); clear hown hbn hsn)
            obtain ⟨gT, hgT⟩ : ∃ g, wr.heap.size = g := ⟨_, rfl⟩
            have hET : gE < gT := by rw [← hgT]; exact HE.out.lt.2
            rw [hgT] at A2n SN
            rw [hgT]
            clear hgT HE HQ
            have hAW : 0 < k → ∀ a, A1 = some a → a.block < gE := fun h0 a e => by
              obtain ⟨b, e', h1, _⟩ := HP.out 0 (by rw [HQL.out]; exact h0)
              rw [e] at e'
              injection e' with e'
              subst e'
              rw [← HGE.out]
              have := lt_of_cell h1
              simpa [add_block] using this
            have HP0 := Lib.hid (HP.out.below BN.out (by rw [HGE.out]; exact Nat.le_refl _))
            have hk1 := HCL.out
            go_loopw [13] (fun l vr => ∃ (m : Nat) (L : List (Int × Int)) (e : Nat → Int) (sg : Nat → Int) (A' : Option Addr) (c' : Nat), l = .slice A' m c' ∧ m ≤ k ∧ m ≤ c' ∧ Hid (L.length = m) ∧ Hid (PlsL vr A' L) ∧ Hid (0 < m → ∀ a, A' = some a → a.block ≠ gE ∧ a.block ≠ gT) ∧ Hid (Arr .u16 35 vr gE gE 48 48 e) ∧ Hid (Arr .i64 3 vr gT gT 48 48 sg) ∧ Hid (∀ r : Nat, 20 ≤ r → r < 48 → 0 ≤ e r ∧ e r < 32768 ∧ (m : Int) - k ≤ sg r ∧ sg r ≤ (k : Int) - m ∧ oVal (e r) + 16384 * sg r + tot r L = oVal (z (r - 20) % 32768) + tot r M) ∧ Hid (∀ p ∈ L, 20 ≤ p.1 ∧ p.1 ≤ 47 ∧ (p.2 = 1 ∨ p.2 = 2)) ∧ Hid (Below gE W0 vr)) (fun l _ => lenOfc l)
            case atStart => exact ⟨k, M, (fun q => if 20 ≤ q ∧ q < 20 + 28 then z (q - 20) % 32768 else 0), (fun _ => 0), A1, c1, rfl, Nat.le_refl _, hk1, HQL, HP0, Lib.hid (fun h0 a e => by have := hAW h0 a e; omega), A1n, A2n, Lib.hid (fun r h0 h1 => by
              show 0 ≤ (if 20 ≤ r ∧ r < 20 + 28 then z (r - 20) % 32768 else 0) ∧ (if 20 ≤ r ∧ r < 20 + 28 then z (r - 20) % 32768 else 0) < 32768 ∧ (k : Int) - k ≤ 0 ∧ (0 : Int) ≤ (k : Int) - k ∧ oVal (if 20 ≤ r ∧ r < 20 + 28 then z (r - 20) % 32768 else 0) + 16384 * 0 + tot r M = oVal (z (r - 20) % 32768) + tot r M
              rw [if_pos ⟨h0, by omega⟩]
              refine ⟨by omega, by omega, by omega, by omega, by omega⟩), HMM, BN⟩
            case round =>
              obtain ⟨m, L, e, sg, A', c', rfl, hmk, hmc, HL, HPL, HAB, HE2, HT2, HFN, HRG, HB2⟩ := hrel
              clear A1n A2n BN hAW HP0 hk1
              by_cases hm0 : 0 < m
              · obtain ⟨m', rfl⟩ : ∃ m', m = m' + 1 := ⟨m - 1, by omega⟩
                obtain ⟨q, hq⟩ : ∃ q, nx (fun i => (L.getD i (0, 0)).1) (m' + 1) = q := ⟨_, rfl⟩
                have hqlt : q < L.length := by rw [HL.out, ← hq]; exact nx_lt _ _ (by omega)
                have hrg := HRG.out _ (getD_mem hqlt)
                obtain ⟨kk, hkk⟩ : ∃ kk : Nat, (L.getD q (0, 0)).1 = (kk : Int) := ⟨(L.getD q (0, 0)).1.toNat, by omega⟩
                have hkl : kk < 48 := by omega
                have hkl2 : 20 ≤ kk := by omega
                have hfe := HFN.out kk hkl2 hkl
                obtain ⟨X, hX⟩ : ∃ X, pW (e kk) (L.getD q (0, 0)).2 = X := ⟨_, rfl⟩
                obtain ⟨S, hS⟩ : ∃ S, pS (e kk) (L.getD q (0, 0)).2 = S := ⟨_, rfl⟩
                have hXb := pW_bd (e kk) (L.getD q (0, 0)).2 hfe.1 hfe.2.1
                have hSb := pS_bd (e kk) (L.getD q (0, 0)).2
                have hpv := pulse_val (e kk) kk (L.getD q (0, 0)) hfe.1 hfe.2.1 hkk hrg.2.2
                have htw := tot_without kk L q hqlt
                rw [hX] at hXb hpv
                rw [hS] at hSb hpv
                have HSV := Lib.hid (Serve_yes A' (m' + 1) c' L HL.out (by omega) (by omega) hmc (some ⟨gE, 0, none⟩) 48 48 e wr HPL.out HE2.out.row q hq kk hkl hkk (e kk) rfl ⟨hfe.1, by omega⟩ _ rfl (by omega) X S (by rw [show e kk % 32768 = e kk by omega]; exact hX) (by rw [show e kk % 32768 = e kk by omega]; exact hS))
                have HNEW := Lib.hid (fun (r : Nat) (h0 : 20 ≤ r) (h1 : r < 48) => show 0 ≤ (if r = kk then X else e r) ∧ (if r = kk then X else e r) < 32768 ∧ (m' : Int) - k ≤ (if r = kk then sg kk + S else sg r) ∧ (if r = kk then sg kk + S else sg r) ≤ (k : Int) - m' ∧ oVal (if r = kk then X else e r) + 16384 * (if r = kk then sg kk + S else sg r) + tot r (without L q) = oVal (z (r - 20) % 32768) + tot r M from by
                  have hb := HFN.out r h0 h1
                  by_cases e1 : r = kk
                  · subst e1
                    rw [if_pos rfl, if_pos rfl]
                    refine ⟨hXb.1, hXb.2, by omega, by omega, by omega⟩
                  · rw [if_neg e1, if_neg e1]
                    have h2 := tot_without r L q hqlt
                    rw [pt_other r _ (by omega)] at h2
                    refine ⟨hb.1, hb.2.1, by omega, by omega, by omega⟩)
                have HSB := Lib.hid (show -65 ≤ sg kk ∧ sg kk ≤ 65 by omega)
                have hwS : IntKind.i64.wrap (sg kk + S) = sg kk + S := IntWalk.i64_in _ (by omega)
                have HMW := Lib.hid (fun p (hp : p ∈ without L q) => HRG.out p (mem_without hp))
                clear hq hrg hfe hX hS hpv htw hXb hSb HFN HRG
                go_wp2_with (fail)
                refine HSV.out.mono ?_
                rintro er w3 ⟨v, rfl, ho, hb⟩
                obtain ⟨A2, c2, rfl, hp2, hA2, hc2⟩ := ho.qmb
                have hB2 := OwnP.blk ho
                have SZ3 := Lib.hid (show gT < w3.heap.size by have := HT2.out.lt.2; have := hb.size; omega)
                have hwl := without_len hqlt
                rw [HL.out, Nat.add_sub_cancel] at hwl
                rw [hwl] at hc2 ⊢
                have KL := Lib.hid hwl
                have KP := Lib.hid (hp2.below ((Below.refl _ _).alloc (Nat.le_refl _) (.cells #[.int .i64 kk, .int .u16 X] 37)) (Nat.le_refl _))
                have KAB := Lib.hid (fun (h0 : 0 < m') (a : Addr) (e' : A2 = some a) => show a.block ≠ gE ∧ a.block ≠ gT from by have := hB2 (by rw [hwl]; exact h0) a _ _ (by rw [e']); have := HE2.out.lt.2; have := HT2.out.lt.2; omega)
                have KE := Lib.hid ((HE2.out.below hb (Nat.le_refl _)).below ((Below.refl _ _).alloc (Nat.le_refl _) (.cells #[.int .i64 kk, .int .u16 X] 37)) (Nat.le_refl _))
                have KT := Lib.hid ((HT2.out.below hb (Nat.le_refl _)).below ((Below.refl _ _).alloc (Nat.le_refl _) (.cells #[.int .i64 kk, .int .u16 X] 37)) (Nat.le_refl _))
                have KB := Lib.hid ((HB2.out.trans (hb.mono (Nat.le_of_lt HE2.out.lt.2))).alloc (Nat.le_trans (Nat.le_of_lt HE2.out.lt.2) hb.size) (.cells #[.int .i64 kk, .int .u16 X] 37))
                have KC := Blk.new w3 37 [.int .i64 kk, .int .u16 X] _ rfl
                clear ho hb hp2 hB2 HPL HAB HE2 HT2 HB2 HSV hA2
                go_upto_region 23 with (fail)
                generalize w3.alloc (.cells #[.int .i64 kk, .int .u16 X] 37) = U at KP KE KT KB KC ⊢
                have u0 := KC.cell 0 _ rfl
                have u1 := KC.cell 1 _ rfl
                have cE := KE.out.cell hkl
                have fE := KE.out.free kk
                have cT := KT.out.cell hkl
                have fT := KT.out.free kk
                have hkk2 : (kk : Int) < 48 := by omega
                have hne3 : w3.heap.size ≠ gE := by have := SZ3.out; omega
                have hne4 : w3.heap.size ≠ gT := by have := SZ3.out; omega
                clear KC
                go_upto_region 24 with (fail)
                go_region
                all_goals
                  clear u0 u1 cE fE cT fT
                  go_wp2
                  go_roundw
                  case rel => exact ⟨m', without L q, (fun i => if i = kk then X else e i), (fun i => if i = kk then sg kk + S else sg i), A2, c2, rfl, by omega, hc2, KL, Lib.hid ((PlsL.otherc KP.out ⟨gE, kk, none⟩ (fun h0 a e' => (KAB.out (by rw [← KL.out]; exact h0) a e').1) _).otherc ⟨gT, kk, none⟩ (fun h0 a e' => (KAB.out (by rw [← KL.out]; exact h0) a e').2) _), KAB, Lib.hid ((KE.out.set kk X).other (p := ⟨gT, kk, none⟩) (by show gE ≠ gT; omega) _), Lib.hid ((KT.out.other (p := ⟨gE, kk, none⟩) (by show gT ≠ gE; omega) _).set kk (sg kk + S)), HNEW, HMW, Lib.hid ((KB.out.setCell (p := ⟨gE, kk, none⟩) (Nat.le_refl _) _).setCell (p := ⟨gT, kk, none⟩) (by show gE ≤ gT; omega) _).drew⟩
                  case measure => simp [lenOfc]
              · have e0 : m = 0 := by omega
                subst e0
                have hL0 : L = [] := List.length_eq_zero_iff.1 HL.out
                subst hL0
                have HWR := Lib.hid (HRW2.out.below HB2.out (by rw [HGE.out]; exact Nat.le_refl _))
                have HPW := Lib.hid (HP.out.below HB2.out (by rw [HGE.out]; exact Nat.le_refl _))
                have HWB := Lib.hid (show Below w.heap.size w wr from (HB0.out.trans (HB.out.mono (Nat.le_of_lt hgw))).trans (HB2.out.mono (Nat.le_of_lt hgE)))
                clear HL HPL HAB HRG hm0 hmc hmk
                go_wp2_with (fail)
                go_loopw [18] (fun i vr => ∃ j : Nat, j ≤ 28 ∧ i = .int .i64 j ∧ Hid (Below wr.heap.size wr vr)) (fun i _ => 28 - (intOf i).toNat)
                case atStart => exact ⟨0, by omega, rfl, Lib.hid (Below.refl _ _)⟩
                case round =>
                  obtain ⟨j, hj1, rfl, HX⟩ := hrel
                  by_cases hjt : j < 28
                  · have HJT := Lib.hid hjt
                    have hj2 : (j : Int) < 28 := by omega
                    obtain ⟨m, hm⟩ : ∃ m : Nat, (20 : Int) + (j : Int) = (m : Int) := ⟨20 + j, by omega⟩
                    have hmj : m = 20 + j := by omega
                    have hm48 : m < 48 := by omega
                    have hm48i : (m : Int) < 48 := by omega
                    obtain ⟨aw, eaw, hw1⟩ := (HWR.out.below HX.out (Nat.le_refl _)) j hjt
                    injection eaw with eaw
                    subst eaw
                    rw [show (⟨w.heap.size, 0, none⟩ : Addr).add j = ⟨w.heap.size, j, none⟩ by unfold Addr.add; by_cases c0 : j = 0 <;> simp [c0]] at hw1
                    have hzj := HZ.out j
                    have hfn := HFN.out m (by omega) hm48
                    rw [show m - 20 = j by omega] at hfn
                    have cE := (HE2.out.below HX.out (Nat.le_refl _)).cell hm48
                    have cT := (HT2.out.below HX.out (Nat.le_refl _)).cell hm48
                    have HTA := Lib.hid (fun w h => Total_any A1 k c1 M m HQL.out (by omega) w h)
                    have htb := tot_bd m M
                    rw [HQL.out] at htb
                    have K1 := Lib.hid (fun w => Value_any (z j) hzj.1 hzj.2 w)
                    have K2 := Lib.hid (fun w => Value_any (e m) hfn.1 (by omega) w)
                    have bv : ∀ x : Int, -16383 ≤ oVal x ∧ oVal x ≤ 16383 := fun x => by unfold oVal; split <;> omega
                    have b1 := bv (z j)
                    have b2 := bv (e m)
                    have hzz : oVal (z j % 32768) = oVal (z j) := by unfold oVal; rw [show z j % 32768 % 32768 = z j % 32768 by omega]
                    rw [hzz, show tot m [] = 0 from rfl] at hfn
                    generalize oVal (z j) = vz at *
                    generalize oVal (e m) = ve at *
                    generalize tot m M = tm at *
                    generalize sg m = sm at *
                    generalize z j = zj at *
                    generalize e m = em at *
                    have heq : (ve + 16384 * sm != vz + tm) = false := by rw [show ve + 16384 * sm = vz + tm by omega]; simp
                    have HEQ := Lib.hid heq
                    have s1 : -64 ≤ sm ∧ sm ≤ 64 := by omega
                    have s2 : -64 ≤ tm ∧ tm ≤ 64 := by omega
                    clear hfn htb bv hzz hmj hzj heq
                    go_wp2_with (fail)
                    go_quiet (first
                      | (go_at_call_of 15 (Value.int IntKind.u16 zj); exact quiet_left (K1.out _))
                      | (go_at_call_of 15 (Value.int IntKind.u16 em); exact quiet_left (K2.out _))
                      | fail)
                    clear hw1 cE K1 K2
                    go_wp2_with (fail)
                    have hgl : gT < wr.heap.size := lt_of_cell cT
                    have hPX := Lib.hid (HPW.out.below HX.out (Nat.le_refl _))
                    have hwm : IntKind.i64.wrap (m : Int) = (m : Int) := IntWalk.i64_in _ (by omega)
                    have hwa : IntKind.i64.wrap (16384 * sm) = 16384 * sm := IntWalk.i64_in _ (by omega)
                    have hwb : IntKind.i64.wrap (ve + 16384 * sm) = ve + 16384 * sm := IntWalk.i64_in _ (by omega)
                    have hwc : IntKind.i64.wrap (vz + tm) = vz + tm := IntWalk.i64_in _ (by omega)
                    go_region_law ((try go_simp); go_at_call 10; refine (HTA.out _ ?_).mono ?_; exact hPX.out; rintro er w5 ⟨rfl, hb⟩; (have hb5 : Below wr.heap.size wr w5 := by first | exact from_drewN hb | exact from_drewN (from_drew hb) | exact from_drewN (from_drewN hb)); (have HX5 := Lib.hid (HX.out.trans (hb5.mono HX.out.size))); (have cT5 := (hb5.cell (p := ⟨gT, m, none⟩) hgl).trans cT); clear hb hb5)
                    all_goals
                      clear cT cT5
                      have heq := HEQ.out
                      go_wp2
                      go_roundw
                      case rel => exact ⟨j + 1, HJT.out, by go_num, HX5⟩
                      case measure => have := HJT.out; simp [intOf]; omega
                  · have e1 : j = 28 := by omega
                    subst e1
                    have HWB2 := Lib.hid (HWB.out.trans (HX.out.mono HWB.out.size))
                    clear HE2 HT2 hj1 hjt
                    rw [show ((28 : Nat) : Int) = 28 from rfl]
                    go_wp2_with (go_at_call 14; refine (works_any _).mono ?_; rintro er w6 ⟨rfl, hb⟩; (have HB6 := Lib.hid (HWB2.out.trans (hb.mono HWB2.out.size))); clear hb)
                    go_ret
                    exact ⟨rfl, HB6.out⟩
theorem counterCounts_walk (a0 a1 a2 a3 a4 a5 a6 a7 a8 a9 a10 a11 a12 a13 a14 a15 a16 a17 a18 a19 a20 a21 a22 a23 a24 a25 a26 a27 : Int) (A : Option Addr) (len cap : Nat) (f : Nat → Int) (w : World) (w0 : (Lit.int .u16 a0).wf = true) (w1 : (Lit.int .u16 a1).wf = true) (w2 : (Lit.int .u16 a2).wf = true) (w3 : (Lit.int .u16 a3).wf = true) (w4 : (Lit.int .u16 a4).wf = true) (w5 : (Lit.int .u16 a5).wf = true) (w6 : (Lit.int .u16 a6).wf = true) (w7 : (Lit.int .u16 a7).wf = true) (w8 : (Lit.int .u16 a8).wf = true) (w9 : (Lit.int .u16 a9).wf = true) (w10 : (Lit.int .u16 a10).wf = true) (w11 : (Lit.int .u16 a11).wf = true) (w12 : (Lit.int .u16 a12).wf = true) (w13 : (Lit.int .u16 a13).wf = true) (w14 : (Lit.int .u16 a14).wf = true) (w15 : (Lit.int .u16 a15).wf = true) (w16 : (Lit.int .u16 a16).wf = true) (w17 : (Lit.int .u16 a17).wf = true) (w18 : (Lit.int .u16 a18).wf = true) (w19 : (Lit.int .u16 a19).wf = true) (w20 : (Lit.int .u16 a20).wf = true) (w21 : (Lit.int .u16 a21).wf = true) (w22 : (Lit.int .u16 a22).wf = true) (w23 : (Lit.int .u16 a23).wf = true) (w24 : (Lit.int .u16 a24).wf = true) (w25 : (Lit.int .u16 a25).wf = true) (w26 : (Lit.int .u16 a26).wf = true) (w27 : (Lit.int .u16 a27).wf = true) (wb : IsBytes w A len cap f) :
    Calls Try.prog 4 #[.agg #[.int .u16 a0, .int .u16 a1, .int .u16 a2, .int .u16 a3, .int .u16 a4, .int .u16 a5, .int .u16 a6, .int .u16 a7, .int .u16 a8, .int .u16 a9, .int .u16 a10, .int .u16 a11, .int .u16 a12, .int .u16 a13, .int .u16 a14, .int .u16 a15, .int .u16 a16, .int .u16 a17, .int .u16 a18, .int .u16 a19, .int .u16 a20, .int .u16 a21, .int .u16 a22, .int .u16 a23, .int .u16 a24, .int .u16 a25, .int .u16 a26, .int .u16 a27], .slice A len cap] w fun e w' => e = .returned (.bool true) ∧ Below w.heap.size w w' := by
  obtain ⟨hr, h1, h2, _, hf⟩ := wb
  have hall : ∀ x ∈ [a0, a1, a2, a3, a4, a5, a6, a7, a8, a9, a10, a11, a12, a13, a14, a15, a16, a17, a18, a19, a20, a21, a22, a23, a24, a25, a26, a27], 0 ≤ x ∧ x < 65536 := by
    intro x hx
    simp only [List.mem_cons, List.not_mem_nil, or_false] at hx
    rcases hx with rfl | rfl | rfl | rfl | rfl | rfl | rfl | rfl | rfl | rfl | rfl | rfl | rfl | rfl | rfl | rfl | rfl | rfl | rfl | rfl | rfl | rfl | rfl | rfl | rfl | rfl | rfl | rfl
    · have := bounds_u16 w0; omega
    · have := bounds_u16 w1; omega
    · have := bounds_u16 w2; omega
    · have := bounds_u16 w3; omega
    · have := bounds_u16 w4; omega
    · have := bounds_u16 w5; omega
    · have := bounds_u16 w6; omega
    · have := bounds_u16 w7; omega
    · have := bounds_u16 w8; omega
    · have := bounds_u16 w9; omega
    · have := bounds_u16 w10; omega
    · have := bounds_u16 w11; omega
    · have := bounds_u16 w12; omega
    · have := bounds_u16 w13; omega
    · have := bounds_u16 w14; omega
    · have := bounds_u16 w15; omega
    · have := bounds_u16 w16; omega
    · have := bounds_u16 w17; omega
    · have := bounds_u16 w18; omega
    · have := bounds_u16 w19; omega
    · have := bounds_u16 w20; omega
    · have := bounds_u16 w21; omega
    · have := bounds_u16 w22; omega
    · have := bounds_u16 w23; omega
    · have := bounds_u16 w24; omega
    · have := bounds_u16 w25; omega
    · have := bounds_u16 w26; omega
    · have := bounds_u16 w27; omega
  refine ccounts_any A len cap (min len 64) f (fun i => [a0, a1, a2, a3, a4, a5, a6, a7, a8, a9, a10, a11, a12, a13, a14, a15, a16, a17, a18, a19, a20, a21, a22, a23, a24, a25, a26, a27].getD i 0) (fun i => ?_) (fun i _ => hf i) (by omega) rfl w hr
  by_cases c : i < [a0, a1, a2, a3, a4, a5, a6, a7, a8, a9, a10, a11, a12, a13, a14, a15, a16, a17, a18, a19, a20, a21, a22, a23, a24, a25, a26, a27].length
  · show 0 ≤ [a0, a1, a2, a3, a4, a5, a6, a7, a8, a9, a10, a11, a12, a13, a14, a15, a16, a17, a18, a19, a20, a21, a22, a23, a24, a25, a26, a27].getD i 0 ∧ [a0, a1, a2, a3, a4, a5, a6, a7, a8, a9, a10, a11, a12, a13, a14, a15, a16, a17, a18, a19, a20, a21, a22, a23, a24, a25, a26, a27].getD i 0 < 65536
    rw [List.getD_eq_getElem?_getD, List.getElem?_eq_getElem c]
    exact hall _ (List.getElem_mem c)
  · show 0 ≤ [a0, a1, a2, a3, a4, a5, a6, a7, a8, a9, a10, a11, a12, a13, a14, a15, a16, a17, a18, a19, a20, a21, a22, a23, a24, a25, a26, a27].getD i 0 ∧ [a0, a1, a2, a3, a4, a5, a6, a7, a8, a9, a10, a11, a12, a13, a14, a15, a16, a17, a18, a19, a20, a21, a22, a23, a24, a25, a26, a27].getD i 0 < 65536
    rw [List.getD_eq_getElem?_getD, List.getElem?_eq_none (by omega)]
    exact ⟨by decide, by decide⟩
end Go.Proofs.Yteongalbljdjlaa
