/- Contracts of layer 7: none, Allowed. -/
import Derived.Test.YtmmpifcfhjdfnaaM07c
import Derived.Test.YtmmpifcfhjdfnaaRgl
import Derived.Deep.RegionHeld3
set_option linter.unusedSimpArgs false
set_option linter.unusedVariables false
set_option maxRecDepth 100000
namespace Go.Proofs.Ytmmpifcfhjdfnaa
open Go.ChangeShapes Go.WideShapes Go.ChangeAt Go.RowKit
/-- Whether an interrupt is allowed. -/
def alw (r : Rg) : Bool := !r.Ih && (!r.Sv && (!r.Ex && (!r.Hd && (decide (r.Ix % 32768 = 0) && decide (oOver r.A = 0)))))
set_option maxHeartbeats 1000000 in
theorem none_any (n : Nat) (hn : n ≤ 1000) (f : Nat → Bool) (a : Addr) (c : Nat) (t : Bool) (w : World) (hc : ∀ i, i < n → w.cell? (a.add i) = some (.bool (f i))) (ht : t = true ↔ ∀ i, i < n → f i = false) :
    Calls Try.prog 31 #[.slice (some a) n c] w fun e w' => e = .returned (.bool t) ∧ w = w' := by
  have HC := Lib.hid hc
  have HT := Lib.hid ht
  clear hc ht
  go_enter Try.func31, Try.ntmps31
  go_wp2
  go_loop [7] (fun i => ∃ k : Nat, k ≤ n ∧ i = .int .i64 k ∧ Hid (∀ j, j < k → f j = false)) (fun i => n - (intOf i).toNat)
  case atStart => exact ⟨0, Nat.zero_le _, rfl, Lib.hid (fun j hj => by omega)⟩
  case round =>
    obtain ⟨k, hk, rfl, HF⟩ := hrel
    by_cases hlt : k < n
    · have hx := HC.out k hlt
      rcases hf : f k with _ | _
      · rw [hf] at hx
        have HK := Lib.hid hf
        clear hf
        go_wp2
        go_round
        case rel => exact ⟨k + 1, by omega, by go_num, Lib.hid (fun j hj => by
          by_cases e : j = k
          · subst e; exact HK.out
          · exact HF.out j (by omega))⟩
        case measure => simp [intOf]; omega
      · rw [hf] at hx
        have ht : t = false := by
          rcases h : t with _ | _
          · rfl
          · rw [HT.out.1 h k hlt] at hf; cases hf
        subst ht
        clear hf
        go_wp2
        go_ret
        exact ⟨rfl, rfl⟩
    · have e : k = n := by omega
      subst e
      have ht : t = true := HT.out.2 HF.out
      subst ht
      go_wp2
      go_ret
      exact ⟨rfl, rfl⟩
theorem alw_all (r : Rg) (f : Nat → Bool) (h0 : f 0 = r.Ih) (h1 : f 1 = r.Sv) (h2 : f 2 = r.Ex) (h3 : f 3 = r.Hd) (h4 : f 4 = !decide (r.Ix % 32768 = 0)) (h5 : f 5 = !decide (oOver r.A = 0)) : alw r = true ↔ ∀ i, i < 6 → f i = false := by
  have e : (∀ i, i < 6 → f i = false) ↔ (f 0 = false ∧ f 1 = false ∧ f 2 = false ∧ f 3 = false ∧ f 4 = false ∧ f 5 = false) := by
    constructor
    · intro h; exact ⟨h 0 (by omega), h 1 (by omega), h 2 (by omega), h 3 (by omega), h 4 (by omega), h 5 (by omega)⟩
    · rintro ⟨a, b, c, d, e, g⟩ i hi
      match i, hi with
      | 0, _ => exact a
      | 1, _ => exact b
      | 2, _ => exact c
      | 3, _ => exact d
      | 4, _ => exact e
      | 5, _ => exact g
  rw [e, h0, h1, h2, h3, h4, h5]
  unfold alw
  generalize decide (r.Ix % 32768 = 0) = u
  generalize decide (oOver r.A = 0) = v
  generalize r.Ih = a
  generalize r.Sv = b
  generalize r.Ex = c
  generalize r.Hd = d
  revert a b c d u v
  decide
theorem add0 (g i : Nat) : (⟨g, 0, none⟩ : Addr).add i = ⟨g, i, none⟩ := by unfold Addr.add; by_cases c : i = 0 <;> simp [c]
theorem blk_bools {w : World} {g : Nat} (l : List Bool) (h : Blk w g (l.map Value.bool)) : ∀ i, i < l.length → w.cell? ((⟨g, 0, none⟩ : Addr).add i) = some (.bool (l.getD i false)) := fun i hi => by
  rw [add0]
  refine h.cell i _ ?_
  rw [List.getElem?_map, List.getElem?_eq_getElem hi]
  simp [List.getD_eq_getElem?_getD, List.getElem?_eq_getElem hi]
set_option maxHeartbeats 1000000 in
theorem Allowed_any (r : Rg) (hf : r.Fit) (t : Bool) (ht : alw r = t) (w : World) :
    Calls Try.prog 18 #[.agg #[.int .u16 r.A, .int .u16 r.L, .int .u16 r.Q, .int .i64 r.Z, .int .i64 r.EB, .int .i64 r.FB, .int .i64 r.Su, .bool r.Ex, .int .u16 r.Ix, .bool r.Hd, .int .u16 r.B, .bool r.Ih, .bool r.Sv]] w fun e w' => e = .returned (.bool t) ∧ Below w.heap.size w w' := by
  have hi := and15 r.Ix hf.Ix.1 (by have := hf.Ix.2; omega)
  have ho := fun W => Overflow_any r.A hf.A.1 (by have := hf.A.2; omega) W
  have HL : Hid (t = true ↔ ∀ i, i < 6 → [r.Ih, r.Sv, r.Ex, r.Hd, r.Ix % 32768 != 0, oOver r.A != 0].getD i false = false) := Lib.hid (by
    rw [← ht]
    refine alw_all r _ rfl rfl rfl rfl ?_ ?_
    · show (r.Ix % 32768 != 0) = _
      by_cases c : r.Ix % 32768 = 0 <;> simp [c]
    · show (oOver r.A != 0) = _
      by_cases c : oOver r.A = 0 <;> simp [c])
  clear ht hf
  generalize r.Ix % 32768 = ix at *
  generalize oOver r.A = oa at *
  go_enter Try.func18, Try.ntmps18
  go_wp2
  have R1 := Blk.new w 26 (rgList r) _ rfl
  have X1 := (Below.refl w.heap.size w).alloc (Nat.le_refl _) (.cells (rgList r).toArray 26)
  have hW : w.heap.size < (w.alloc (.cells (rgList r).toArray 26)).heap.size := by simp
  simp only [rgList] at R1 X1 hW
  have HR := Lib.hid R1
  have HX := Lib.hid X1
  clear R1 X1
  generalize w.alloc (.cells #[.int .u16 r.A, .int .u16 r.L, .int .u16 r.Q, .int .i64 r.Z, .int .i64 r.EB, .int .i64 r.FB, .int .i64 r.Su, .bool r.Ex, .int .u16 r.Ix, .bool r.Hd, .int .u16 r.B, .bool r.Ih, .bool r.Sv] 26) = W at *
  have HR2 := Lib.hid (HR.out.drew.alloc hW (.cells #[.bool r.Ih, .bool r.Sv, .bool r.Ex, .bool r.Hd, .bool (ix != 0), .bool (oa != 0)] 4))
  have HN := Lib.hid (Blk.new W.drew 4 [.bool r.Ih, .bool r.Sv, .bool r.Ex, .bool r.Hd, .bool (ix != 0), .bool (oa != 0)] W.heap.size rfl)
  go_region_held3 (fun w' => w'.cell? ⟨w.heap.size, 0, none⟩ = some (.int .u16 r.A) ∧ w'.cell? ⟨w.heap.size, 1, none⟩ = some (.int .u16 r.L) ∧ w'.cell? ⟨w.heap.size, 2, none⟩ = some (.int .u16 r.Q) ∧ w'.cell? ⟨w.heap.size, 3, none⟩ = some (.int .i64 r.Z) ∧ w'.cell? ⟨w.heap.size, 4, none⟩ = some (.int .i64 r.EB) ∧ w'.cell? ⟨w.heap.size, 5, none⟩ = some (.int .i64 r.FB) ∧ w'.cell? ⟨w.heap.size, 6, none⟩ = some (.int .i64 r.Su) ∧ w'.cell? ⟨w.heap.size, 7, none⟩ = some (.bool r.Ex) ∧ w'.cell? ⟨w.heap.size, 8, none⟩ = some (.int .u16 r.Ix) ∧ w'.cell? ⟨w.heap.size, 9, none⟩ = some (.bool r.Hd) ∧ w'.cell? ⟨w.heap.size, 10, none⟩ = some (.int .u16 r.B) ∧ w'.cell? ⟨w.heap.size, 11, none⟩ = some (.bool r.Ih) ∧ w'.cell? ⟨w.heap.size, 12, none⟩ = some (.bool r.Sv))
    (first
      | exact ⟨HR.out.cell 0 _ rfl, HR.out.cell 1 _ rfl, HR.out.cell 2 _ rfl, HR.out.cell 3 _ rfl, HR.out.cell 4 _ rfl, HR.out.cell 5 _ rfl, HR.out.cell 6 _ rfl, HR.out.cell 7 _ rfl, HR.out.cell 8 _ rfl, HR.out.cell 9 _ rfl, HR.out.cell 10 _ rfl, HR.out.cell 11 _ rfl, HR.out.cell 12 _ rfl⟩
      | exact ⟨HR2.out.cell 0 _ rfl, HR2.out.cell 1 _ rfl, HR2.out.cell 2 _ rfl, HR2.out.cell 3 _ rfl, HR2.out.cell 4 _ rfl, HR2.out.cell 5 _ rfl, HR2.out.cell 6 _ rfl, HR2.out.cell 7 _ rfl, HR2.out.cell 8 _ rfl, HR2.out.cell 9 _ rfl, HR2.out.cell 10 _ rfl, HR2.out.cell 11 _ rfl, HR2.out.cell 12 _ rfl⟩)
    (first
      | (go_at_call 32; refine (ho _).mono ?_; rintro e w' ⟨rfl, rfl⟩)
      | (go_at_call 31; refine (none_any 6 (by omega) _ ⟨W.heap.size, 0, none⟩ _ t _ (blk_bools [r.Ih, r.Sv, r.Ex, r.Hd, ix != 0, oa != 0] HN.out) HL.out).mono ?_; rintro e w' ⟨rfl, rfl⟩)
      | fail)
  all_goals go_wp2
  all_goals go_ret
  all_goals exact ⟨rfl, HX.out.drew.alloc (by simpa using Nat.le_of_lt hW) _⟩
end Go.Proofs.Ytmmpifcfhjdfnaa
