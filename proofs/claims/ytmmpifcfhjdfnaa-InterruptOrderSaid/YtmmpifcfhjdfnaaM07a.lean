/- Contracts of layer 7: the small functions, and the iterator. -/
import Derived.RangeFuncNested
import Derived.RangeFuncBound
import Derived.RangeFuncCalls
import Derived.RangeFuncLeaves
import Derived.RangeFuncBox
import Derived.Shelf.Abstract
import Derived.Shelf.RegionOpen
import Derived.WalkKit
import Derived.OwnWalkIn
import Derived.TacticsInMore
import Derived.LoopNIn
import Derived.LoopIn
import Derived.Maps.AppendAt
import Derived.Stop.RegionWithIn
import Derived.Sort.QuietTacIn
import Derived.Test.YtmmpifcfhjdfnaaP07
import Derived.Test.YtmmpifcfhjdfnaaRes1
import Derived.Test.YtmmpifcfhjdfnaaBlk
set_option linter.unusedSimpArgs false
set_option linter.unusedVariables false
set_option maxRecDepth 100000
namespace Go.Proofs.Ytmmpifcfhjdfnaa
open Go.RowKit Go.Shelf Go.ChangeShapes Go.WideShapes Go.ChangeAt
attribute [local go_sem] Oper.semAt_some
theorem bit_any (n : Nat) (h0 : 1 ≤ n) (h1 : n ≤ 10) (w : World) : Calls Try.prog 29 #[.int .i64 n] w fun e w' => e = .returned (.int .u16 (bV n)) ∧ w = w' := by
  have hn : n = 1 ∨ n = 2 ∨ n = 3 ∨ n = 4 ∨ n = 5 ∨ n = 6 ∨ n = 7 ∨ n = 8 ∨ n = 9 ∨ n = 10 := by omega
  clear h0 h1
  rcases hn with rfl | rfl | rfl | rfl | rfl | rfl | rfl | rfl | rfl | rfl
  all_goals
    go_enter Try.func29, Try.ntmps29
    go_wp2
    go_ret
    exact ⟨rfl, rfl⟩
theorem isRupt_any (n : Int) (t : Bool) (ht : decide (1 ≤ n ∧ n ≤ 10) = t) (w : World) : Calls Try.prog 28 #[.int .i64 n] w fun e w' => e = .returned (.bool t) ∧ w = w' := by
  subst ht
  by_cases c : 1 ≤ n
  · go_enter Try.func28, Try.ntmps28
    go_wp2
    go_ret
    exact ⟨ret_bool (by simp [c]), rfl⟩
  · go_enter Try.func28, Try.ntmps28
    go_wp2
    go_ret
    exact ⟨ret_bool (by symm; simp; omega), rfl⟩
set_option maxHeartbeats 1000000 in
theorem pending_in (n : Nat) (p : Int) (w : World) :
    CallsIn Fence.wide n Try.prog 30 #[.agg #[.int .u16 p]] w fun e w' => e = .returned (.func (.func 36) #[] #[.pointer (some ⟨w.heap.size, 0, none⟩)]) ∧ w' = w.alloc (.cells #[.int .u16 p] 28) := by
  refine callsIn_of_wp Try.func30 rfl trivial ?_ rfl
  simp only [Try.ntmps30, List.size_toArray, List.length_cons, List.length_nil, Nat.reduceAdd, Nat.reduceSub, Array.replicate_succ, Array.replicate_zero, List.push_toArray, List.append_toArray, List.nil_append, List.cons_append]
  gi_wp2
  go_ret
  exact ⟨rfl, rfl⟩
/-- What was taken when the walk ended early. -/
def Sofar (p : Int) (pre : List (Fin 10)) : Prop := ∃ j x, j < 10 ∧ pb p (j + 1) = true ∧ pre = yl p j ++ [x] ∧ x.val = j
theorem below_of_drew {B : Nat} {w w' : World} (h : Below B w.drew w') : Below B w w' := ⟨h.os, h.tape, h.output, h.size, h.block⟩
theorem asked_wide (P : Program) (o : Oper) (a : Act) (C : World → Prop) : Oper.askedIn Fence.wide P o a C := fun _ _ _ _ => trivial
theorem grown_drewN (w : World) (m : Nat) : w.grownBy (w.drewN m) none := ⟨rfl, rfl, rfl, Nat.le_refl _, fun _ _ _ => rfl⟩
theorem grown_drew (w : World) : w.grownBy w.drew none := ⟨rfl, rfl, rfl, Nat.le_refl _, fun _ _ _ => rfl⟩
set_option maxHeartbeats 2000000 in
theorem pending1_in (n : Nat) (hn : 1 ≤ n) (l Bs : Nat) (p : Int) (p0 : 0 ≤ p) (p1 : p < 65536) (Kp : World → World → Prop) (hKc : ∀ A B, Kp A B → B.cell? ⟨Bs, 0, none⟩ = A.cell? ⟨Bs, 0, none⟩) (J Jx : List (Fin 10) → World → Prop) (B : Nat) (hA : AbidesFrom B J)
    (hY : ∀ (pre : List (Fin 10)) (x : Fin 10) (W : World), J pre W → pre.length < 10 → YieldAt Fence.wide (n - 1) Try.prog l #[.int .i64 ((x.val : Int) + 1)] W fun e W' =>
      (e = .returned (.bool true) ∧ J (pre ++ [x]) W' ∧ Kp W W') ∨ (e = .returned (.bool false) ∧ Jx (pre ++ [x]) W'))
    (W : World) (hc : W.cell? ⟨Bs, 0, none⟩ = some (.int .u16 p)) (h0 : J [] W) :
    CallsIn Fence.wide n Try.prog 36 #[.func (.yield l) #[] #[], .pointer (some ⟨Bs, 0, none⟩)] W fun e W' => (∃ v, e = .returned v) ∧
      ((∃ ys, ys = yl p 10 ∧ J ys W') ∨ (∃ pre, Sofar p pre ∧ Jx pre W')) := by
  have HY := Lib.hid hY
  have HA := Lib.hid hA
  have HK := Lib.hid hKc
  clear hY hA hKc
  refine callsIn_of_wp Try.func36 rfl trivial ?_ rfl
  simp only [Try.ntmps36, List.size_toArray, List.length_cons, List.length_nil, Nat.reduceAdd, Nat.reduceSub, Array.replicate_succ, Array.replicate_zero, List.push_toArray, List.append_toArray, List.nil_append, List.cons_append]
  gi_wp2
  gi_loopw [3] (fun i wr => ∃ k : Nat, k ≤ 10 ∧ i = .int .i64 ((k : Int) + 1) ∧ J (yl p k) wr ∧ wr.cell? ⟨Bs, 0, none⟩ = some (.int .u16 p)) (fun i _ => 11 - (intOf i).toNat)
  case atStart => exact ⟨0, Nat.zero_le _, rfl, h0, hc⟩
  case round =>
    obtain ⟨k, hk, rfl, hJ, hb⟩ := hrel
    by_cases hlt : k < 10
    · have HB := Lib.hid hb
      have HLn := Lib.hid (Nat.lt_of_le_of_lt (yl_len p k) hlt)
      have hbv := bV_bd (k + 1) (by omega)
      by_cases ho : pb p (k + 1) = true
      · have HS := Lib.hid (yl_yes p k hlt ho)
        have HO := Lib.hid ho
        have ha := and_yes p p0 p1 (k + 1) (by omega) ho
        have hne : (bV (k + 1) != 0) = true := by rw [bne_iff_ne]; exact bV_ne _
        clear ho
        obtain ⟨fn, tmps, assign, body, hy, hR⟩ := HY.out _ ⟨k, hlt⟩ wr.drew (HA.out _ _ _ none hJ (grown_drew wr) (fun r e => by cases e)) HLn.out
        have HR : RoundIn Fence.wide (n - 1) Try.prog l fn tmps assign body wr.drew fun e W' => ∃ b, e = .returned (.bool b) ∧ Hid ((b = true ∧ J (yl p k ++ [⟨k, hlt⟩]) W' ∧ Kp wr.drew W') ∨ (b = false ∧ Jx (yl p k ++ [⟨k, hlt⟩]) W')) := hR.mono (fun e w h => by
          rcases h with ⟨rfl, h⟩ | ⟨rfl, h⟩
          · exact ⟨true, rfl, Lib.hid (.inl ⟨rfl, h⟩)⟩
          · exact ⟨false, rfl, Lib.hid (.inr ⟨rfl, h⟩)⟩)
        have HR := Lib.hid HR
        clear hR hJ
        gi_wp2
        gi_region_with (first | (refine ⟨trivial, ?_⟩; gi_at_call 29; refine (callsIn_wide.2 (bit_any (k + 1) (by omega) (by omega) _)).mono ?_; rintro e w' ⟨rfl, rfl⟩) | (refine HR.out.mono ?_; rintro e W3 ⟨b, rfl, HQ⟩))
        all_goals
          clear ha hne
          rcases HQ.out with ⟨rfl, hJ3, hk3⟩ | ⟨rfl, hJx3⟩
          · gi_wp2
            go_roundw
            case rel => exact ⟨k + 1, by omega, by simp, by rw [HS.out]; exact hJ3, (HK.out _ _ hk3).trans HB.out⟩
            case measure => simp [intOf]; omega
          · gi_wp2
            refine bodyPost_ret (results_none rfl _ _ _) rfl ?_
            exact ⟨⟨_, rfl⟩, .inr ⟨_, ⟨k, ⟨k, hlt⟩, hlt, HO.out, rfl, rfl⟩, hJx3⟩⟩
      · have ho' : pb p (k + 1) = false := by simpa using ho
        have HS := Lib.hid (yl_no p k ho')
        have ha := and_no p p0 p1 (k + 1) (by omega) ho'
        clear ho ho'
        have hne : ((0 : Int) != 0) = false := rfl
        gi_wp2
        refine wpIn_region_quiet_lit rfl (by kernel_rfl) (by kernel_rfl) ?_
        repeat (refine wpQuietIn_step (asked_wide _ _ _ _) (fun K hK => ?_); go_simp; first | (refine hK _ ?_; clear hK K) | (apply Exists.intro; refine ⟨fun _ => ?_, hK _ ?_⟩; (gi_at_call 29; exact callsIn_wide.2 (quiet_left (bit_any (k + 1) (by omega) (by omega) _))); clear hK K))
        refine wpQuietIn_nil ?_
        intro _ hw'
        obtain ⟨nq, hw''⟩ := hw'
        subst hw''
        gi_wp2
        go_roundw
        case rel => exact ⟨k + 1, by omega, by simp, by rw [HS.out]; exact HA.out _ _ _ none hJ (grown_drewN wr nq) (fun r e => by cases e), HB.out⟩
        case measure => simp [intOf]; omega
    · obtain rfl : k = 10 := by omega
      gi_wp2
      go_end0
      exact ⟨⟨_, rfl⟩, .inl ⟨_, rfl, hJ⟩⟩
theorem pending_stops (n : Nat) (hn : 1 ≤ n) (Bs : Nat) (p : Int) (p0 : 0 ≤ p) (p1 : p < 65536) (Kp : World → World → Prop) (hKc : ∀ A B, Kp A B → B.cell? ⟨Bs, 0, none⟩ = A.cell? ⟨Bs, 0, none⟩) (w : World) (hBs : Bs < w.heap.size) (hc : w.cell? ⟨Bs, 0, none⟩ = some (.int .u16 p)) :
    SeqStopsK Fence.wide n Try.prog 36 #[.pointer (some ⟨Bs, 0, none⟩)] (fun x : Fin 10 => #[Value.int .i64 ((x.val : Int) + 1)]) Kp (fun ys => ys = yl p 10) (Sofar p) 10 w := fun l J Jx W hW hJ _ hY h0 =>
  pending1_in n hn l Bs p p0 p1 Kp hKc J Jx _ hJ hY W ((hW.cell (p := ⟨Bs, 0, none⟩) hBs).trans hc) h0
/-- What lay below g stays, and the box Bs. -/
def KpB (g Bs : Nat) (A B : World) : Prop := Below g A B ∧ B.cell? ⟨Bs, 0, none⟩ = A.cell? ⟨Bs, 0, none⟩
theorem KpB.box {g Bs : Nat} : ∀ A B, KpB g Bs A B → B.cell? ⟨Bs, 0, none⟩ = A.cell? ⟨Bs, 0, none⟩ := fun _ _ h => h.2
theorem KpB.trans {g Bs : Nat} {A B C : World} (h : KpB g Bs A B) (k : KpB g Bs B C) : KpB g Bs A C := ⟨h.1.trans k.1, k.2.trans h.2⟩
theorem KpB.put {g Bs : Nat} {w : World} (hg : g ≤ w.heap.size) (hB : Bs < w.heap.size) : ∀ (W : World) (l : Nat) (o o' : Obj), w.heap.size ≤ l → W.heap[l]? = some o → o.isCells = false → o.isWalk = false → KpB g Bs W (W.putObj l o') := fun W l o o' hl ho h1 h2 =>
  ⟨belowK_b (w := w) hg W l o o' hl ho h1 h2, (belowK_b (w := w) (n₀ := Bs + 1) hB W l o o' hl ho h1 h2).cell (p := ⟨Bs, 0, none⟩) (Nat.lt_succ_self _)⟩
end Go.Proofs.Ytmmpifcfhjdfnaa
