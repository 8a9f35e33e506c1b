/- Contracts of layer 6: Serve where it fails. -/
import Derived.Test.YteongalbljdjlaaW06a
import Derived.Test.YteongalbljdjlaaRow
set_option linter.unusedSimpArgs false
set_option linter.unusedVariables false
set_option maxRecDepth 100000
namespace Go.Proofs.Yteongalbljdjlaa
open Go.ChangeShapes Go.WideShapes Go.ChangeAt Go.RowKit
theorem results_serve {fn : Func} {p u v x : Tmp} {T : TypeId} (h : fn.results = #[.tmp u, .cell p T, .tmp v, .tmp x]) (tmps : Array Value) (P : Program) (w : World) :
    (results fn tmps).run P w = ((asAddr (tmps.getD p undef)).run P w).andThen fun a w₁ => ((loadVar T a).run P w₁).andThen fun y w₂ => .ok (.tuple #[tmps.getD u undef, y, tmps.getD v undef, tmps.getD x undef]) w₂ := by
  simp only [results, h]
  simp [Sem.run_bind, Result.andThen]
theorem ret_serve {P : Program} {fn : Func} {R : Ending → World → Prop} {a : Act} {w : World} {p u v x : Tmp} {T : TypeId} {fs : Array Field} (hres : fn.results = #[.tmp u, .cell p T, .tmp v, .tmp x]) (ht : P.underlying T = some (.struct fs))
    (cs : List Value) (hi : (P.info? T).map (·.size) = some cs.length) (g : Nat) (vu vv vx : Value)
    (hR : R (.returned (.tuple #[vu, .agg cs.toArray, vv, vx])) w)
    (hc : Blk w g cs) (hp : a.tmps.getD p undef = .pointer (some ⟨g, 0, none⟩))
    (hu : a.tmps.getD u undef = vu) (hv : a.tmps.getD v undef = vv) (hx : a.tmps.getD x undef = vx) (hd : a.defers = []) : bodyPost P fn R .ret a w := by
  refine bodyPost_ret ?_ hd hR
  rw [results_serve hres, hp, hu, hv, hx]
  simp [asAddr, Sem.run_bind, Result.andThen, run_loadVar_struct ht cs hi w g hc.cells]
/-- The row of words at A: n words h 0, .. -/
def svE (f g : Nat → Int) (n m : Nat) : Int := if n = 0 then 14 else if f (nx f n) < 0 ∨ (m : Int) ≤ f (nx f n) then 9 else pE (g (nx f n))
def SvErr (er : Int) (w : World) (e : Ending) (w' : World) : Prop := e = .returned (.tuple #[.slice none 0 0, .agg #[.int .i64 0, .int .u16 0], .int .i64 0, .int .i64 er]) ∧ Below w.heap.size w w'
set_option maxHeartbeats 4000000 in
theorem Serve_empty (A : Option Addr) (c : Nat) (B : Option Addr) (m d : Nat) (w : World) :
    Calls Try.prog 12 #[.slice A 0 c, .slice B m d] w (SvErr 14 w) := by
  have HN := Lib.hid (fun w => Next_any A 0 c (fun _ => 0) (fun _ => 0) (by omega) w (fun i hi => by omega))
  have Z := Lib.hid (Blk.new w 37 [.int .i64 0, .int .u16 0] _ rfl)
  go_enter Try.func12, Try.ntmps12
  go_wp2_with (fail)
  refine (HN.out _).mono ?_
  rintro e w1 ⟨rfl, hb⟩
  have Z1 := Z.out.below hb (by simp)
  have X1 := Lib.hid (((Below.refl w.heap.size w).alloc (Nat.le_refl _) _).trans (hb.mono (by simp)))
  clear hb Z
  have Y1 := Lib.hid Z1
  have c0 := Z1.cell 0 _ rfl; have c1 := Z1.cell 1 _ rfl; have d0 := Z1.free 0 _ rfl; have d1 := Z1.free 1 _ rfl
  clear Z1
  go_wp2_with (fail)
  change bodyPost _ _ _ _ _ (w1.setCells w.heap.size 0 [.int .i64 0, .int .u16 0])
  exact ret_serve Try.results12 Try.underlying37 [.int .i64 0, .int .u16 0] (by kernel_rfl) w.heap.size (.slice none 0 0) (.int .i64 0) (.int .i64 14)
    ⟨rfl, below_setCells w.heap.size (Nat.le_refl _) _ 0 _ X1.out⟩ (Y1.out.overS _ rfl) rfl rfl rfl rfl rfl
set_option maxHeartbeats 4000000 in
theorem Serve_short (A : Option Addr) (n c : Nat) (f g : Nat → Int) (hn : n ≤ 100000) (h0 : 0 < n) (B : Option Addr) (m d : Nat) (w : World) (hp : Pls w A n f g) (hs : f (nx f n) < 0 ∨ (m : Int) ≤ f (nx f n)) :
    Calls Try.prog 12 #[.slice A n c, .slice B m d] w (SvErr 9 w) := by
  have HN := Lib.hid (fun w (hp : Pls w A n f g) => Next_any A n c f g hn w hp)
  have hq := nx_lt f n h0
  rw [show decide (0 < n) = true by simp [h0]] at HN
  have HP := Lib.hid hp
  clear hp
  obtain ⟨q, hqe⟩ : ∃ q, nx f n = q := ⟨_, rfl⟩
  rw [hqe] at HN hs hq
  obtain ⟨a, rfl, _⟩ := HP.out q hq
  have Z := Lib.hid (Blk.new w 37 [.int .i64 0, .int .u16 0] _ rfl)
  have HS := Lib.hid hs
  clear hqe hs hn
  go_enter Try.func12, Try.ntmps12
  go_wp2_with (fail)
  refine (HN.out _ (HP.out.below ((Below.refl _ _).alloc (Nat.le_refl _) _) (Nat.le_refl _))).mono ?_
  rintro e w1 ⟨rfl, hb⟩
  have Z1 := Z.out.below hb (by simp)
  have X1 := Lib.hid (((Below.refl w.heap.size w).alloc (Nat.le_refl _) _).trans (hb.mono (by simp)))
  have P1 := HP.out.below X1.out (Nat.le_refl _)
  obtain ⟨d1, d2⟩ := P1.at_ hq
  generalize f q = fq at d1 HS
  have D1 := Lib.hid d1
  generalize g q = gq at d2
  clear hb Z HN P1
  have Y1 := Lib.hid Z1
  have c0 := Z1.cell 0 _ rfl; have c1 := Z1.cell 1 _ rfl; have d0 := Z1.free 0 _ rfl; have d1 := Z1.free 1 _ rfl
  clear Z1
  have hz : w.heap.size < w1.heap.size := by
    rcases Nat.lt_or_ge w.heap.size w1.heap.size with h | h
    · exact h
    · have := lt_of_cell c0; exact absurd this (by simp; omega)
  have V1 := D1.out
  have X2 := Lib.hid ((below_setCells w.heap.size (Nat.le_refl _) [.int .i64 0, .int .u16 0] 0 _ X1.out).alloc (by rw [setCells_size]; omega) (.cells #[.int .i64 fq, .int .u8 gq] 25))
  have Y2 := Lib.hid ((Y1.out.overS [.int .i64 0, .int .u16 0] rfl).alloc (by rw [setCells_size]; exact hz) (.cells #[.int .i64 fq, .int .u8 gq] 25))
  clear D1
  rcases HS.out with hs | hs
  all_goals
    clear HS
    go_wp2_with (fail)
    all_goals
      change bodyPost _ _ _ _ _ ((w1.setCells w.heap.size 0 [.int .i64 0, .int .u16 0]).alloc (.cells #[.int .i64 fq, .int .u8 gq] 25))
      exact ret_serve Try.results12 Try.underlying37 [.int .i64 0, .int .u16 0] (by kernel_rfl) w.heap.size (.slice none 0 0) (.int .i64 0) (.int .i64 9)
        ⟨rfl, X2.out⟩ Y2.out rfl rfl rfl rfl rfl
set_option maxHeartbeats 4000000 in
theorem Serve_bad (A : Option Addr) (n c : Nat) (f g : Nat → Int) (hn : n ≤ 100000) (h0 : 0 < n) (B : Option Addr) (m d : Nat) (h : Nat → Int) (w : World) (hp : Pls w A n f g) (hr : Row .u16 w B m h) (k : Nat) (hk : k < m) (hfk : f (nx f n) = k) (x : Int) (hx : h k = x) (x0 : 0 ≤ x ∧ x < 65536) (hg : ¬ (1 ≤ g (nx f n) ∧ g (nx f n) ≤ 7)) :
    Calls Try.prog 12 #[.slice A n c, .slice B m d] w (SvErr 2 w) := by
  have HN := Lib.hid (fun w (hp : Pls w A n f g) => Next_any A n c f g hn w hp)
  have hq := nx_lt f n h0
  rw [show decide (0 < n) = true by simp [h0]] at HN
  have HP := Lib.hid hp
  have HR := Lib.hid hr
  clear hp hr
  obtain ⟨q, hqe⟩ : ∃ q, nx f n = q := ⟨_, rfl⟩
  rw [hqe] at HN hfk hq hg
  obtain ⟨a, rfl, _⟩ := HP.out q hq
  obtain ⟨b, rfl, _⟩ := HR.out k hk
  have Z := Lib.hid (Blk.new w 37 [.int .i64 0, .int .u16 0] _ rfl)
  have HF := Lib.hid hfk
  have HX := Lib.hid hx
  have HG := Lib.hid (show pE (g q) = 2 by unfold pE; rw [if_neg hg])
  clear hqe hfk hn hx hg
  go_enter Try.func12, Try.ntmps12
  go_wp2_with (fail)
  refine (HN.out _ (HP.out.below ((Below.refl _ _).alloc (Nat.le_refl _) _) (Nat.le_refl _))).mono ?_
  rintro e w1 ⟨rfl, hb⟩
  have Z1 := Z.out.below hb (by simp)
  have X1 := Lib.hid (((Below.refl w.heap.size w).alloc (Nat.le_refl _) _).trans (hb.mono (by simp)))
  have P1 := HP.out.below X1.out (Nat.le_refl _)
  obtain ⟨d1, d2⟩ := P1.at_ hq
  rw [HF.out] at d1
  have d3 := ((HR.out.below X1.out (Nat.le_refl _)).at_ hk)
  rw [HX.out] at d3
  generalize g q = gq at d2 HG
  clear hb Z HN P1
  have Y1 := Lib.hid Z1
  have hz : w.heap.size < w1.heap.size := lt_of_cell (Z1.cell 0 _ rfl)
  have D3 := Lib.hid (((HR.out.below X1.out (Nat.le_refl _)).below ((Below.refl _ _).alloc (Nat.le_refl _) (.cells #[.int .i64 k, .int .u8 gq] 25)) (Nat.le_refl _)).at_ hk)
  rw [HX.out] at D3
  clear Z1
  go_wp2_with (fail)
  have d4 := D3.out
  go_region_with (go_at_call 19; refine (Apply_any x gq x0.1 x0.2 _).mono ?_; rintro e w2 ⟨rfl, hb2⟩; (have HB2 := Lib.hid hb2); clear hb2)
  all_goals
    rw [HG.out]
    have hb3 := HB2.out
    replace hb3 := from_drew hb3
    have X2 := Lib.hid ((X1.out.alloc (by omega) (.cells #[.int .i64 k, .int .u8 gq] 25)).trans (hb3.mono (by simp; omega)))
    have Y2 := Lib.hid ((Y1.out.alloc hz (.cells #[.int .i64 k, .int .u8 gq] 25)).below hb3 (by simp; omega))
    have Z2 := Y2.out
    clear d4 D3 hb3 HB2
    have c0 := Z2.cell 0 _ rfl; have c1 := Z2.cell 1 _ rfl; have e0 := Z2.free 0 _ rfl; have e1 := Z2.free 1 _ rfl
    clear Z2
    go_wp2_with (fail)
    change bodyPost _ _ _ _ _ (w2.setCells w.heap.size 0 [.int .i64 0, .int .u16 0])
    exact ret_serve Try.results12 Try.underlying37 [.int .i64 0, .int .u16 0] (by kernel_rfl) w.heap.size (.slice none 0 0) (.int .i64 0) (.int .i64 2)
      ⟨rfl, below_setCells w.heap.size (Nat.le_refl _) _ 0 _ X2.out⟩ (Y2.out.overS _ rfl) rfl rfl rfl rfl rfl
end Go.Proofs.Yteongalbljdjlaa
