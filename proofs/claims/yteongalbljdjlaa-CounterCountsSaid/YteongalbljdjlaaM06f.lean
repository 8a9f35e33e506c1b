/- Contracts of layer 6: slices.Concat of two queues. -/
import Derived.Test.YteongalbljdjlaaM06e
import Derived.Deep.RegionLaw
set_option linter.unusedSimpArgs false
set_option linter.unusedVariables false
set_option maxRecDepth 100000
namespace Go.Proofs.Yteongalbljdjlaa
open Go.ChangeShapes Go.WideShapes Go.ChangeAt Go.RowKit
def RetQ (L : List (Int × Int)) (w : World) (e : Ending) (w' : World) : Prop := ∃ v, e = .returned v ∧ OwnP .i64 .u8 25 w' w.heap.size v L ∧ Below w.heap.size w w'
theorem PlsL.below {w w' : World} {A : Option Addr} {M : List (Int × Int)} {B : Nat} (h : PlsL w A M) (hb : Below B w w') (hB : w.heap.size ≤ B) : PlsL w' A M := Pls.below h hb hB
set_option maxHeartbeats 4000000 in
theorem Concat_two (g : Nat) (A1 A2 : Option Addr) (n1 n2 c1 c2 : Nat) (M1 M2 : List (Int × Int)) (h1 : M1.length = n1) (h2 : M2.length = n2) (k1 : A1 = none → c1 = 0) (k2 : A2 = none → c2 = 0) (hn : n1 + n2 ≤ 100000) (w : World)
    (p1 : PlsL w A1 M1) (p2 : PlsL w A2 M2) (d1 : w.cell? ⟨g, 0, none⟩ = some (.slice A1 n1 c1)) (d2 : w.cell? ⟨g, 1, none⟩ = some (.slice A2 n2 c2)) (c : Nat) :
    Calls Try.prog 18 #[.slice (some ⟨g, 0, none⟩) 2 c] w (RetQ (M1 ++ M2) w) := by
  have P1 := Lib.hid p1
  have P2 := Lib.hid p2
  have H1 := Lib.hid h1
  have H2 := Lib.hid h2
  have K1 := Lib.hid k1
  have K2 := Lib.hid k2
  have hg : g < w.heap.size := lt_of_cell d1
  have D1 := Lib.hid d1
  have D2 := Lib.hid d2
  clear p1 p2 h1 h2 k1 k2
  go_enter Try.func18, Try.ntmps18
  go_wp2
  go_loopw [3, 11] (fun s i wr => ∃ j z : Int, ((j = 0 ∧ z = 0) ∨ (j = 1 ∧ z = n1) ∨ (j = 2 ∧ z = n1 + n2)) ∧ s = .int .i64 z ∧ i = .int .i64 j ∧ ∃ m, wr = w.drewN m) (fun _ i _ => (2 - intOf i).toNat)
  case atStart => exact ⟨0, 0, by omega, rfl, rfl, 0, rfl⟩
  case round =>
    obtain ⟨j, z, hj, rfl, rfl, m, rfl⟩ := hrel
    rcases hj with ⟨rfl, rfl⟩ | ⟨rfl, rfl⟩ | ⟨rfl, rfl⟩
    · go_wp2
      exact ⟨⟨1, n1, by omega, by go_num, rfl, m, rfl⟩, by decide⟩
    · go_wp2
      exact ⟨⟨2, n1 + n2, by omega, by go_num, rfl, m, rfl⟩, by decide⟩
    · go_wp2_with (fail)
      refine (Grow_any (n1 + n2) (by omega) _).mono ?_
      rintro e w1 ⟨v, rfl, ho, hb⟩
      obtain ⟨A, n, cv, rfl⟩ := ho.shape
      replace hb := from_drewN hb
      have HO := Lib.hid (ho.low (B' := w.heap.size) (Nat.le_refl _))
      have HB := Lib.hid hb
      clear ho hb
      go_wp2_with (fail)
      go_loopw [6, 27] (fun v i wr => ∃ (j : Int) (L : List (Int × Int)), ((j = 0 ∧ L = []) ∨ (j = 1 ∧ L = M1) ∨ (j = 2 ∧ L = M1 ++ M2)) ∧ i = .int .i64 j ∧ OwnP .i64 .u8 25 wr w.heap.size v L ∧ Below w.heap.size w wr) (fun _ i _ => (2 - intOf i).toNat)
      case atStart => exact ⟨0, [], by simp, rfl, HO.out, HB.out⟩
      case round =>
        clear HO HB
        obtain ⟨j, L, hj, rfl, ho, hb⟩ := hrel
        obtain ⟨A', n', cv', rfl⟩ := ho.shape
        have HO := Lib.hid ho
        have HB := Lib.hid hb
        clear d1 d2
        rcases hj with ⟨rfl, rfl⟩ | ⟨rfl, rfl⟩ | ⟨rfl, rfl⟩
        · have e1 := (hb.cell (p := ⟨g, 0, none⟩) hg).trans D1.out
          clear ho hb
          go_wp2_with (at_builtin; refine wp_appQ rfl _ _ _ rfl 25 _ 16 Try.underlying22 info_pulse rfl w w.heap.size _ A1 n1 c1 [] M1 H1.out HO.out (P1.out.below HB.out (Nat.le_refl _)) K1.out rfl rfl (by simp; omega) HB.out HB.out.size ?_; intro v2 w2 ho2 hb2 _ _; (obtain ⟨A2', n2', cv2', rfl⟩ := ho2.shape); (have HO2 := Lib.hid ho2); (have HB2 := Lib.hid hb2); clear ho2 hb2)
          exact ⟨⟨1, _, by simp, rfl, HO2.out, HB2.out⟩, by decide⟩
        · have e1 := (hb.cell (p := ⟨g, 1, none⟩) hg).trans D2.out
          clear ho hb
          go_wp2_with (at_builtin; refine wp_appQ rfl _ _ _ rfl 25 _ 16 Try.underlying22 info_pulse rfl w w.heap.size _ A2 n2 c2 _ M2 H2.out HO.out (P2.out.below HB.out (Nat.le_refl _)) K2.out rfl rfl (by rw [H1.out]; omega) HB.out HB.out.size ?_; intro v2 w2 ho2 hb2 _ _; (obtain ⟨A2', n2', cv2', rfl⟩ := ho2.shape); (have HO2 := Lib.hid ho2); (have HB2 := Lib.hid hb2); clear ho2 hb2)
          exact ⟨⟨2, _, by simp, rfl, HO2.out, HB2.out⟩, by decide⟩
        · clear ho hb
          go_wp2_with (fail)
          go_ret
          exact ⟨_, rfl, HO.out, HB.out⟩
end Go.Proofs.Yteongalbljdjlaa
