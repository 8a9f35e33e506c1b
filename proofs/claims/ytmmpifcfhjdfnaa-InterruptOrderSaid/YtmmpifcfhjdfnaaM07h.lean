/- Layer 7: the statements' own small functions. -/
import Derived.Test.YtmmpifcfhjdfnaaM07g
import Derived.Test.YtmmpifcfhjdfnaaPrs
set_option linter.unusedSimpArgs false
set_option linter.unusedVariables false
set_option maxRecDepth 100000
namespace Go.Proofs.Ytmmpifcfhjdfnaa
open Go.ChangeShapes Go.WideShapes Go.ChangeAt Go.RowKit Go.Shelf
/-- The set of the first k numbers of f. -/
def pkF (f : Nat → Nat) : Nat → Int
  | 0 => 0
  | k + 1 => ((rq (pkF f k) (f k) : Nat) : Int)
theorem pkF_bd (f : Nat → Nat) : ∀ k, 0 ≤ pkF f k ∧ pkF f k < 65536
  | 0 => ⟨Int.le_refl _, by show (0 : Int) < 65536; decide⟩
  | k + 1 => by
    have := sB10 (fun i => i == f k || pb (pkF f k) i)
    show 0 ≤ ((rq (pkF f k) (f k) : Nat) : Int) ∧ ((rq (pkF f k) (f k) : Nat) : Int) < 65536
    unfold rq
    omega
set_option maxHeartbeats 2000000 in
theorem lcells_same (A1 A2 : Option Addr) (c1 c2 n : Nat) (L : List (Int × Int)) (hn : L.length = n) (w : World) (h1 : Prs .i64 .u16 w A1 L) (h2 : Prs .i64 .u16 w A2 L) (hl : n ≤ 1000) :
    Calls Try.prog 17 #[.slice A1 n c1, .slice A2 n c2] w fun e w' => e = .returned (.bool true) ∧ ∃ m, w' = w.drewN m := by
  subst hn
  have H1 := Lib.hid h1
  have H2 := Lib.hid h2
  clear h1 h2
  obtain ⟨n, hn⟩ : ∃ n, L.length = n := ⟨_, rfl⟩
  rw [hn] at hl ⊢
  have HN := Lib.hid hn
  clear hn
  go_enter Try.func17, Try.ntmps17
  go_wp2
  go_loopw [5] (fun j wr => ∃ k : Nat, k ≤ n ∧ j = .int .i64 k ∧ ∃ m, wr = w.drewN m) (fun j _ => n - (intOf j).toNat)
  case atStart => exact ⟨0, Nat.zero_le _, rfl, 0, rfl⟩
  case round =>
    obtain ⟨k, hk, rfl, m, rfl⟩ := hrel
    by_cases hlt : k < n
    · obtain ⟨g1, rfl, d1, d2⟩ := H1.out k (by rw [HN.out]; exact hlt)
      obtain ⟨g2, rfl, d3, d4⟩ := H2.out k (by rw [HN.out]; exact hlt)
      generalize (L.getD k (0, 0)).1 = p at d1 d3
      generalize (L.getD k (0, 0)).2 = q at d2 d4
      go_wp2
      go_quiet (fail)
      go_wp2
      exact ⟨⟨k + 1, by omega, by go_num, _, rfl⟩, by simp [intOf]; omega⟩
    · have e : k = n := by omega
      subst e
      go_wp2
      go_ret
      exact ⟨rfl, _, rfl⟩
theorem prs_blk2 {w : World} {g : Nat} {a b c d : Int} (h : Blk w g [.int .i64 a, .int .u16 b, .int .i64 c, .int .u16 d]) : Prs .i64 .u16 w (some ⟨g, 0, none⟩) [(a, b), (c, d)] := fun i hi => by
  match i, hi with
  | 0, _ => exact ⟨g, rfl, h.cell 0 _ rfl, h.cell 1 _ rfl⟩
  | 1, _ => exact ⟨g, rfl, h.cell 2 _ rfl, h.cell 3 _ rfl⟩
set_option maxHeartbeats 2000000 in
theorem pendL_any (n : Nat) (hn : n ≤ 1000) (f : Nat → Nat) (hf : ∀ i, i < n → 1 ≤ f i ∧ f i ≤ 10) (a : Addr) (c : Nat) (w : World) (hc : ∀ i, i < n → w.cell? (a.add i) = some (.int .i64 (f i))) (s : Int) (hs : pkF f n = s) :
    Calls Try.prog 16 #[.slice (some a) n c] w fun e w' => e = .returned (.agg #[.int .u16 s]) ∧ Below w.heap.size w w' := by
  have HC := Lib.hid hc
  have HF := Lib.hid hf
  have HS := Lib.hid hs
  clear hc hf hs
  go_enter Try.func16, Try.ntmps16
  go_wp2
  go_loopw [4] (fun i wr => ∃ k : Nat, k ≤ n ∧ i = .int .i64 k ∧ Hid (Blk wr (w.heap.size + 1) [.int .u16 (pkF f k)]) ∧ Hid (Blk wr w.heap.size [.int .u16 0]) ∧ w.heap.size + 2 ≤ wr.heap.size ∧ Hid (Below w.heap.size w wr)) (fun i _ => n - (intOf i).toNat)
  case atStart => exact ⟨0, Nat.zero_le _, rfl, Lib.hid (Blk.new (w.alloc (.cells #[.int .u16 0] 28)) 28 [.int .u16 0] (w.heap.size + 1) (by simp)), Lib.hid ((Blk.new w 28 [.int .u16 0] w.heap.size rfl).alloc (by simp) (.cells #[.int .u16 0] 28)), by simp, Lib.hid (below2 _ _ _)⟩
  case round =>
    obtain ⟨k, hk, rfl, H1, H0, hz, HB⟩ := hrel
    by_cases hlt : k < n
    · have hx := HC.out k hlt
      have hl := lt_of_cell hx
      have hxr := (HB.out.cell hl).trans hx
      have hfk := HF.out k hlt
      have hpk := pkF_bd f k
      have HR := Lib.hid (Request_yes (pkF f k) hpk.1 hpk.2 (f k) hfk.1 hfk.2)
      have HE := Lib.hid (show ((rq (pkF f k) (f k) : Nat) : Int) = pkF f (k + 1) from rfl)
      generalize pkF f k = u at *
      generalize rq u (f k) = v at *
      generalize f k = x at *
      have HX := Lib.hid hx
      have q1 := H1.out.cell 0 _ rfl
      clear hx hl hpk hfk
      go_wp2
      have A1 := H1.out.alloc (show w.heap.size + 1 < wr.heap.size by omega) (.cells #[.int .u16 0] 28)
      have q2 := A1.cell 0 _ rfl
      have A5 := Lib.hid (Blk.new wr 28 [.int .u16 0] _ rfl)
      have A0 := Lib.hid (H0.out.alloc (show w.heap.size < wr.heap.size by omega) (.cells #[.int .u16 0] 28))
      have AB := Lib.hid (HB.out.alloc (by omega) (.cells #[.int .u16 0] 28))
      have HA := Lib.hid A1
      have hxa : (wr.alloc (.cells #[.int .u16 0] 28)).cell? (a.add k) = some (.int .i64 x) := (AB.out.cell (lt_of_cell HX.out)).trans HX.out
      clear A1
      have hza : wr.heap.size + 1 ≤ (wr.alloc (.cells #[.int .u16 0] 28)).drew.heap.size := by show _ ≤ (wr.alloc _).heap.size; simp
      go_region_with (first
        | (go_at_call 13; refine (HR.out wr.drew).mono ?_; rintro e w3 ⟨rfl, hb⟩; (have H13 := Lib.hid (H1.out.drew.below hb (by show _ < wr.heap.size; omega))); (have H03 := Lib.hid (H0.out.drew.below hb (by show _ < wr.heap.size; omega))); (have HB3 := Lib.hid (HB.out.trans ((from_drew hb).mono (by omega)))); (have hz3 : w.heap.size + 2 ≤ w3.heap.size := by have := hb.size; have e : wr.drew.heap.size = wr.heap.size := rfl; omega); (have p1 := H13.out.cell 0 _ rfl); (have p2 := H13.out.free 0 _ rfl); clear hb)
        | (go_at_call 13; refine (HR.out _).mono ?_; rintro e w3 ⟨rfl, hb⟩; (have H13 := Lib.hid (HA.out.drew.below hb (by show _ < (wr.alloc _).heap.size; simp; omega))); (have H03 := Lib.hid (A0.out.drew.below hb (by show _ < (wr.alloc _).heap.size; simp; omega))); (have H53 := Lib.hid (A5.out.drew.below hb (by show _ < (wr.alloc _).heap.size; simp))); (have HB3 := Lib.hid (AB.out.trans ((from_drew hb).mono (by simp; omega)))); (have hz3 : wr.heap.size + 1 ≤ w3.heap.size := Nat.le_trans hza hb.size); (have p1 := H13.out.cell 0 _ rfl); (have p2 := H13.out.free 0 _ rfl); (have p3 := H53.out.cell 0 _ rfl); (have p4 := H53.out.free 0 _ rfl); clear hb))
      all_goals clear q1 hxr q2 hxa p1 p2
      all_goals first
        | (clear p3 p4
           have Y1 := Lib.hid (H13.out.other (show wr.heap.size ≠ w.heap.size + 1 by omega) 0 (.int .u16 v))
           have Y0 := Lib.hid (H03.out.other (show wr.heap.size ≠ w.heap.size by omega) 0 (.int .u16 v))
           have y5 := (H53.out.set 0 (by simp) (.int .u16 v)).cell 0 _ rfl
           have YB := Lib.hid (HB3.out.setCell (p := ⟨wr.heap.size, 0, none⟩) (by show _ ≤ wr.heap.size; omega) (.int .u16 v))
           have yz : w.heap.size + 2 ≤ (w3.setCell ⟨wr.heap.size, 0, none⟩ (.int .u16 v)).heap.size := by simp; omega
           clear H13 H03 H53 HB3
           generalize w3.setCell ⟨wr.heap.size, 0, none⟩ (.int .u16 v) = Y at Y1 Y0 y5 YB yz ⊢)
        | (have Y1 := Lib.hid (H13.out.alloc (by omega) (.cells #[.int .u16 v] 28))
           have Y0 := Lib.hid (H03.out.alloc (by omega) (.cells #[.int .u16 v] 28))
           have y5 := (Blk.new w3 28 [.int .u16 v] _ rfl).cell 0 _ rfl
           have YB := Lib.hid (HB3.out.alloc (by omega) (.cells #[.int .u16 v] 28))
           have yz : w.heap.size + 2 ≤ (w3.alloc (.cells #[.int .u16 v] 28)).heap.size := by simp; omega
           clear H13 H03 HB3
           generalize w3.alloc (.cells #[.int .u16 v] 28) = Y at Y1 Y0 y5 YB yz ⊢)
      all_goals
        have y1 := Y1.out.cell 0 _ rfl
        have y2 := Y1.out.free 0 _ rfl
        clear H1 H0 HB A5 A0 AB HA hza HR HX
        go_wp2
        go_roundw
        case rel => exact ⟨k + 1, by omega, by go_num, by rw [← HE.out]; exact Lib.hid (Y1.out.set 0 (by simp) (.int .u16 v)), Lib.hid (Y0.out.other (by omega) 0 _), by simp; omega, Lib.hid (YB.out.setCell (p := ⟨w.heap.size + 1, 0, none⟩) (by show _ ≤ w.heap.size + 1; omega) _)⟩
        case measure => simp [intOf]; omega
    · have e : k = n := by omega
      subst e
      have q1 := H1.out.cell 0 _ rfl
      have q3 := H0.out.cell 0 _ rfl
      have q4 := H0.out.free 0 _ rfl
      rw [HS.out] at q1
      go_wp2
      exact ret_struct1 Try.results16 Try.underlying28 [.int .u16 s] (by kernel_rfl) w.heap.size rfl (H0.out.set 0 (by simp) (.int .u16 s)).cells rfl ⟨rfl, HB.out.setCell (p := ⟨w.heap.size, 0, none⟩) (Nat.le_refl _) _⟩
end Go.Proofs.Ytmmpifcfhjdfnaa
