/- Plain functions of layer 7: what is collected. -/
import Derived.Test.YtjjkikghfmnikaaGreatDoorQ45
import Derived.BigQuiet
import Derived.Deep.RegionWith
import Derived.Test.YtjjkikghfmnikaaGreatDoorQ05
import Derived.Deep.RegionHeld3
set_option linter.unusedSimpArgs false
set_option linter.unusedVariables false
namespace Go.Proofs.YtjjkikghfmnikaaGreatDoor
open Go.RowKit
/-- The numbers that were taken but wo, as bits. -/
def cl (wo : Int) (l : List (Fin 10)) : Int := l.foldl (fun a x => if (x.val : Int) + 1 = wo then a else bits .or .u16 a (bV (x.val + 1))) 0
theorem cl_snoc_no (wo : Int) (l : List (Fin 10)) (x : Fin 10) (h : (x.val : Int) + 1 = wo) : cl wo (l ++ [x]) = cl wo l := by
  unfold cl; rw [List.foldl_append]; simp [h]
theorem cl_snoc_yes (wo : Int) (l : List (Fin 10)) (x : Fin 10) (h : ¬ (x.val : Int) + 1 = wo) : cl wo (l ++ [x]) = bits .or .u16 (cl wo l) (bV (x.val + 1)) := by
  unfold cl; rw [List.foldl_append]; simp [h]
/-- Which bits of p are kept. -/
def kq (p wo : Int) (n : Nat) : Bool := pb p n && !decide ((n : Int) = wo)
theorem or_new (q : Nat → Bool) (j : Nat) (hj : j < 10) (h : q (j + 1) = true) : bits .or .u16 ((sB q j : Nat) : Int) (bV (j + 1)) = ((sB q (j + 1) : Nat) : Int) := by
  have := bV_bd (j + 1) (by omega)
  have h1 := sB_lt q j
  have h2 : (2 : Nat) ^ (j + 1) ≤ 2 ^ 10 := Nat.pow_le_pow_right (by decide) (by omega)
  rw [u16_or _ _ (by omega) (by omega) this.1 this.2]
  unfold bV
  rw [Int.toNat_natCast, Int.toNat_natCast]
  congr 1
  show _ = (if q (j + 1) = true then 2 ^ (j + 1) else 0) ||| sB q j
  rw [if_pos h, Nat.or_comm]
theorem sB_skip (q : Nat → Bool) (j : Nat) (h : q (j + 1) = false) : sB q (j + 1) = sB q j := by
  show (if q (j + 1) = true then 2 ^ (j + 1) else 0) ||| sB q j = _
  rw [h]; simp
theorem cl_yl (p wo : Int) : ∀ j, j ≤ 10 → cl wo (yl p j) = ((sB (kq p wo) j : Nat) : Int)
  | 0, _ => rfl
  | j + 1, hj => by
    have ih := cl_yl p wo j (by omega)
    by_cases c : pb p (j + 1) = true
    · rw [yl_yes p j (by omega) c]
      by_cases d : (j : Int) + 1 = wo
      · rw [cl_snoc_no _ _ _ d, ih, sB_skip]
        unfold kq
        have : ((j + 1 : Nat) : Int) = wo := by omega
        simp [this]
      · rw [cl_snoc_yes _ _ _ d, ih]
        refine or_new _ j (by omega) ?_
        unfold kq
        have : ¬ ((j + 1 : Nat) : Int) = wo := by omega
        rw [c]; simp only [this, decide_false, Bool.not_false, Bool.and_true]
    · have c' : pb p (j + 1) = false := by simpa using c
      rw [yl_no p j c', ih, sB_skip]
      unfold kq; rw [c']; rfl
theorem cl_all (p wo : Int) : cl wo (yl p 10) = ((sB (kq p wo) 10 : Nat) : Int) := cl_yl p wo 10 (Nat.le_refl _)
end Go.Proofs.YtjjkikghfmnikaaGreatDoor

/- Contracts of layer 7: collect. -/
set_option linter.unusedSimpArgs false
set_option linter.unusedVariables false
set_option maxRecDepth 100000
namespace Go.Proofs.YtjjkikghfmnikaaGreatDoor
open Go.RowKit Go.Shelf Go.ChangeShapes Go.WideShapes Go.ChangeAt
attribute [local go_sem] Oper.semAt_some
theorem results_struct1 {P : Program} {fn : Func} {w : World} {p : Tmp} {T : TypeId} {fs : Array Field} (hres : fn.results = #[.cell p T]) (ht : P.underlying T = some (.struct fs)) (cs : List Value) (hi : (P.info? T).map (·.size) = some cs.length) (g : Nat)
    (tmps : Array Value) (hp : tmps.getD p undef = .pointer (some ⟨g, 0, none⟩)) (hc : ∀ j v, cs[j]? = some v → w.cell? ⟨g, j, none⟩ = some v) : (results fn tmps).run P w = .ok (.agg cs.toArray) w := by
  rw [results_cell hres, hp]
  simp [asAddr, Sem.run_bind, Result.andThen, run_loadVar_struct ht cs hi w g hc]
/-- What collect keeps while it ranges: g is its first block. -/
def CI (p wo : Int) (g : Nat) (w : World) (pre : List (Fin 10)) (W : World) : Prop :=
  Boxed W (g + 1) 3 (.int .i64 wo) ∧ Boxed W (g + 2) 77 (.int .u16 0) ∧ Boxed W (g + 3) 77 (.int .u16 (cl wo pre)) ∧ Below g w W
theorem CI.own (p wo : Int) (g : Nat) (w : World) (hw : w.heap.size = g) (B : Nat) (hB : g ≤ B) : OwnFrom B (CI p wo g w) :=
  OwnFrom.and (Own.from (boxed_own (g + 1) 3 (fun _ => .int .i64 wo)) _) (OwnFrom.and (Own.from (boxed_own (g + 2) 77 (fun _ => .int .u16 0)) _)
    (OwnFrom.and (Own.from (boxed_own (g + 3) 77 (fun pre => .int .u16 (cl wo pre))) _) (ownFrom_below (Nat.le_of_eq hw.symm) hB)))
set_option maxHeartbeats 2000000 in
theorem collect_any (p wo : Int) (p0 : 0 ≤ p) (p1 : p < 65536) (w : World) :
    Calls Tryz.prog 69 #[.agg #[.int .u16 p], .int .i64 wo] w fun e w' => e = .returned (.agg #[.int .u16 (sB (kq p wo) 10 : Nat)]) ∧ Below w.heap.size w w' := by
  refine (callsIn_wide (n := 3)).1 ?_
  refine callsIn_of_wp_marks Tryz.func69 rfl trivial ?_ rfl
  simp only [Tryz.ntmps69, List.size_toArray, List.length_cons, List.length_nil, Nat.reduceAdd, Nat.reduceSub, Array.replicate_succ, Array.replicate_zero, List.push_toArray, List.append_toArray, List.nil_append, List.cons_append]
  gi_wp2_with (refine ⟨trivial, ?_⟩; gi_at_call 136; refine (pending_in _ _ _).mono ?_; rintro e w' ⟨rfl, rfl⟩)
  have bA := ((((Boxed.new w 77 (.int .u16 p)).alloc (.cells #[.int .i64 wo] 3)).alloc (.cells #[.int .u16 0] 77)).alloc (.cells #[.int .u16 0] 77)).alloc (.cells #[.int .u16 p] 77)
  have bB := (((Boxed.new (w.alloc (.cells #[.int .u16 p] 77)) 3 (.int .i64 wo)).alloc (.cells #[.int .u16 0] 77)).alloc (.cells #[.int .u16 0] 77)).alloc (.cells #[.int .u16 p] 77)
  have bC := ((Boxed.new ((w.alloc (.cells #[.int .u16 p] 77)).alloc (.cells #[.int .i64 wo] 3)) 77 (.int .u16 0)).alloc (.cells #[.int .u16 0] 77)).alloc (.cells #[.int .u16 p] 77)
  have bD := (Boxed.new (((w.alloc (.cells #[.int .u16 p] 77)).alloc (.cells #[.int .i64 wo] 3)).alloc (.cells #[.int .u16 0] 77)) 77 (.int .u16 0)).alloc (.cells #[.int .u16 p] 77)
  have bE := Boxed.new ((((w.alloc (.cells #[.int .u16 p] 77)).alloc (.cells #[.int .i64 wo] 3)).alloc (.cells #[.int .u16 0] 77)).alloc (.cells #[.int .u16 0] 77)) 77 (.int .u16 p)
  have hB0 : Below w.heap.size w (((((w.alloc (.cells #[.int .u16 p] 77)).alloc (.cells #[.int .i64 wo] 3)).alloc (.cells #[.int .u16 0] 77)).alloc (.cells #[.int .u16 0] 77)).alloc (.cells #[.int .u16 p] 77)) :=
    (((((Below.refl _ w).alloc (Nat.le_refl _) _).alloc (by simp) _).alloc (by simp; omega) _).alloc (by simp; omega) _).alloc (by simp; omega) _
  have hsz : (((((w.alloc (.cells #[.int .u16 p] 77)).alloc (.cells #[.int .i64 wo] 3)).alloc (.cells #[.int .u16 0] 77)).alloc (.cells #[.int .u16 0] 77)).alloc (.cells #[.int .u16 p] 77)).heap.size = w.heap.size + 5 := by simp
  simp only [World.size_alloc] at bB bC bD bE
  generalize (((((w.alloc (.cells #[.int .u16 p] 77)).alloc (.cells #[.int .i64 wo] 3)).alloc (.cells #[.int .u16 0] 77)).alloc (.cells #[.int .u16 0] 77)).alloc (.cells #[.int .u16 p] 77)) = V at *
  have hc := bE.cell
  refine wpIn_rangeFunc_ownG rfl (by omega) (gf := 181) (lb := #[.pointer (some ⟨w.heap.size + 1 + 1 + 1 + 1, 0, none⟩)]) rfl trivial (enters_of Tryz.func181 (by kernel_rfl) rfl)
    (pending_stops _ (by omega) (w.heap.size + 1 + 1 + 1 + 1) p p0 p1 (KpB w.heap.size (w.heap.size + 1 + 1 + 1 + 1)) KpB.box V (by omega) hc) KpB.trans (KpB.put (by omega) (by omega)) (Below.refl _ _) (fun _ => rfl)
    (CI p wo w.heap.size w)
    (fun _ _ _ => False)
    (CI.own _ _ _ _ rfl _ (by omega))
    (fun _ _ _ _ _ hs _ _ => hs)
    ⟨bB, bC, bD, hB0⟩
    (fun x => { tmps := #[.agg #[.int .u16 p], .int .i64 wo, .pointer (some ⟨w.heap.size, 0, none⟩), .pointer (some ⟨w.heap.size + 1, 0, none⟩), .pointer (some ⟨w.heap.size + 1 + 1, 0, none⟩), .pointer (some ⟨w.heap.size + 1 + 1 + 1, 0, none⟩), .int .i64 ((x.val : Int) + 1), .agg #[.int .u16 p], .func (.func 181) #[] #[.pointer (some ⟨w.heap.size + 1 + 1 + 1 + 1, 0, none⟩)], .int .i64 ((x.val : Int) + 1), undef, undef, undef, undef, undef, undef, undef, undef, undef, undef], defers := [] }) ?assign ?body ?done ?stop
  case assign =>
    intro l x W K hK
    gi_wp2
    exact hK
  case body =>
    rintro l pre x W ⟨h1, h2, h3, hB⟩ hlt
    have hc1 := h1.cell
    have hc3 := h3.cell
    have hf3 := h3.frozen
    have hx : x.val < 10 := x.isLt
    by_cases c : (x.val : Int) + 1 = wo
    · subst c
      have hl := cl_snoc_no ((x.val : Int) + 1) pre x rfl
      gi_wp2
      exact ⟨⟨Nat.le_refl _, fun _ _ _ h _ => h⟩, ⟨Below.refl _ _, rfl⟩, h1, h2, by rw [hl]; exact h3, hB⟩
    · have hl := Lib.hid (cl_snoc_yes wo pre x c)
      have H2 := Lib.hid h2
      clear h2
      have hne : ((x.val : Int) + 1 != wo) = true := by rw [bne_iff_ne]; exact c
      gi_wp2
      gi_region_with (refine ⟨trivial, ?_⟩; gi_at_call 137; refine (callsIn_wide.2 (bit_any (x.val + 1) (by omega) (by omega) _)).mono ?_; rintro e w' ⟨rfl, rfl⟩)
      all_goals gi_wp2
      all_goals
        refine ⟨((KeepsOthers.drew W).trans (KeepsOthers.setCell _ _ _)).from _, ⟨(Below.refl _ _).drew.setCell (by show _ ≤ w.heap.size + 3; omega) _, World.cell?_setCell_other _ _ _ _ (by intro e; injection e with e; omega)⟩, ?_, ?_, ?_, ?_⟩
        · exact Boxed.other h1 (by omega) _
        · exact Boxed.other H2.out (by omega) _
        · rw [hl.out]; exact Boxed.set _ h3
        · exact hB.drew.setCell (by show _ ≤ w.heap.size + 3; omega) _
  case done =>
    rintro D ys W hD rfl ⟨h1, h2, h3, hB⟩ hK
    have hc3 := h3.cell
    have hc2 := h2.cell
    have hf2 := h2.frozen
    rw [cl_all] at hc3
    gi_wp2
    have hD' : D ≠ w.heap.size + 1 + 1 := by omega
    have hK' : (W.setCell ⟨w.heap.size + 1 + 1, 0, none⟩ (.int .u16 (sB (kq p wo) 10 : Nat))).heap[D]? = some (.deferred (some [])) := by rw [Below.heap_setCell _ _ _ _ hD']; exact hK
    have hP := belowK_b (n₀ := V.heap.size) (w := V) (Nat.le_refl _) (W.setCell ⟨w.heap.size + 1 + 1, 0, none⟩ (.int .u16 (sB (kq p wo) 10 : Nat))) D _ (.deferred none) hD hK' rfl rfl
    refine ⟨by simp, .inl ⟨_, _, rfl, run_takeDeferred hK', ?_⟩⟩
    refine ⟨_, results_struct1 Tryz.results69 Tryz.underlying77 [.int .u16 (sB (kq p wo) 10 : Nat)] (by kernel_rfl) (w.heap.size + 1 + 1) _ rfl ?_, rfl, ?_⟩
    · intro j v hj
      match j, hj with
      | 0, hj =>
        simp at hj
        subst hj
        rw [hP.cell (p := ⟨w.heap.size + 1 + 1, 0, none⟩) (by show w.heap.size + 1 + 1 < _; omega)]
        exact World.cell?_setCell_same' _ _ _ (by rw [hc2]; rfl)
      | j + 1, hj => simp at hj
    · exact (hB.setCell (by show _ ≤ w.heap.size + 1 + 1; omega) _).trans (hP.mono (by omega))
  case stop =>
    rintro D c pre W _ _ h _
    exact h.elim
end Go.Proofs.YtjjkikghfmnikaaGreatDoor

/- Contracts of layer 7: Request, Waits, none, Allowed. -/
set_option linter.unusedSimpArgs false
set_option linter.unusedVariables false
set_option maxRecDepth 100000
namespace Go.Proofs.YtjjkikghfmnikaaGreatDoor
open Go.ChangeShapes Go.WideShapes Go.ChangeAt Go.RowKit
/-- The set with n. -/
def rq (p : Int) (n : Nat) : Nat := sB (fun i => i == n || pb p i) 10
theorem kq0 (p : Int) : sB (kq p 0) 10 = sB (pb p) 10 := sB_congr 10 (fun n h0 h1 => by
  unfold kq
  have : ¬ (n : Int) = 0 := by omega
  simp only [this, decide_false, Bool.not_false, Bool.and_true])
theorem Request_no (p n : Int) (h : ¬ (1 ≤ n ∧ n ≤ 10)) (w : World) :
    Calls Tryz.prog 138 #[.agg #[.int .u16 p], .int .i64 n] w fun e w' => e = .returned (.tuple #[.agg #[.int .u16 0], .int .i64 3]) ∧ Below w.heap.size w w' := by
  have hr := isRupt_any n false (decide_eq_false h)
  go_enter Tryz.func138, Tryz.ntmps138
  go_wp2_with (go_at_call 182; refine (hr _).mono ?_; rintro e w' ⟨rfl, rfl⟩)
  exact ret_struct2 Tryz.results138 Tryz.underlying77 [.int .u16 0] (by kernel_rfl) (w.heap.size + 1) rfl (at_allocN (by simp) [.int .u16 0]) (.int .i64 3) rfl rfl ⟨rfl, ((Below.refl _ _).alloc (Nat.le_refl _) _).alloc (by simp) _⟩
set_option maxHeartbeats 1000000 in
theorem Request_yes (p : Int) (p0 : 0 ≤ p) (p1 : p < 65536) (n : Nat) (h0 : 1 ≤ n) (h1 : n ≤ 10) (w : World) :
    Calls Tryz.prog 138 #[.agg #[.int .u16 p], .int .i64 n] w fun e w' => e = .returned (.tuple #[.agg #[.int .u16 (rq p n : Nat)], .int .i64 0]) ∧ Below w.heap.size w w' := by
  have hr := isRupt_any n true (decide_eq_true (by omega))
  have hor := or_bit (pb p) n h0 h1
  have hsb := sB10 (pb p)
  change bits .or .u16 _ _ = ((rq p n : Nat) : Int) at hor
  have hc := fun W => collect_any p 0 p0 p1 W
  rw [kq0] at hc
  generalize sB (pb p) 10 = s at *
  generalize rq p n = q at *
  go_enter Tryz.func138, Tryz.ntmps138
  go_wp2_with (first | (go_at_call 182; refine (hr _).mono ?_; rintro e w' ⟨rfl, rfl⟩) | (go_at_call 69; refine (hc _).mono ?_; rintro e w1 ⟨rfl, hb⟩))
  have B1 := (Blk.new (w.alloc (.cells #[.int .u16 p] 77)) 77 [.int .u16 0] (w.heap.size + 1) (by simp)).below hb (by simp)
  have hz := hb.size
  simp only [World.size_alloc] at hz
  have hz1 : w.heap.size + 1 < w1.heap.size := by omega
  have hc1 := B1.cell 0 _ rfl
  have hf1 := B1.free 0 _ rfl
  have hX := (((((Below.refl w.heap.size w).alloc (Nat.le_refl _) (.cells #[.int .u16 p] 77)).alloc (by simp) (.cells #[.int .u16 0] 77)).trans (hb.mono (by simp; omega))).setCell (p := ⟨w.heap.size + 1, 0, none⟩) (by show _ ≤ w.heap.size + 1; omega) (.int .u16 q)).alloc (by simp; omega) (.cells #[.int .u16 q] 77)
  have HX := Lib.hid hX
  have HB := Lib.hid ((B1.set 0 (by simp) (.int .u16 q)).alloc (by simpa using hz1) (.cells #[.int .u16 q] 77))
  clear hX B1 hb hc hr
  go_region_with (go_at_call 137; refine (bit_any n h0 h1 _).mono ?_; rintro e w' ⟨rfl, rfl⟩)
  all_goals
    go_wp2
    exact ret_struct2 Tryz.results138 Tryz.underlying77 [.int .u16 q] (by kernel_rfl) (w.heap.size + 1) rfl HB.out.drew.cells (.int .i64 0) rfl rfl ⟨rfl, HX.out.drew⟩
end Go.Proofs.YtjjkikghfmnikaaGreatDoor

/- Contracts of layer 7: none, Allowed. -/
set_option linter.unusedSimpArgs false
set_option linter.unusedVariables false
set_option maxRecDepth 100000
namespace Go.Proofs.YtjjkikghfmnikaaGreatDoor
open Go.ChangeShapes Go.WideShapes Go.ChangeAt Go.RowKit
/-- Whether an interrupt is allowed. -/
def alw (r : Rg) : Bool := !r.Ih && (!r.Sv && (!r.Ex && (!r.Hd && (decide (r.Ix % 32768 = 0) && decide (oOver r.A = 0)))))
set_option maxHeartbeats 1000000 in
theorem none_any (n : Nat) (hn : n ≤ 1000) (f : Nat → Bool) (a : Addr) (c : Nat) (t : Bool) (w : World) (hc : ∀ i, i < n → w.cell? (a.add i) = some (.bool (f i))) (ht : t = true ↔ ∀ i, i < n → f i = false) :
    Calls Tryz.prog 179 #[.slice (some a) n c] w fun e w' => e = .returned (.bool t) ∧ w = w' := by
  have HC := Lib.hid hc
  have HT := Lib.hid ht
  clear hc ht
  go_enter Tryz.func179, Tryz.ntmps179
  go_wp2
  go_loop [7] (fun i => ∃ k : Nat, k ≤ n ∧ i = .int .i64 k ∧ Hid (∀ j, j < k → f j = false)) (fun i => n - (intOf i).toNat)
  case atStart => exact ⟨0, Nat.zero_le _, rfl, Lib.hid (fun j hj => by omega)⟩
  case round =>
    obtain ⟨k, hk, rfl, HF⟩ := hrel
    by_cases hlt : k < n
    · have hx := HC.out k hlt
      rcases hf : f k with _ | _
      · rw [hf] at hx
        have HK := Lib.hid hf
        clear hf
        go_wp2
        go_round
        case rel => exact ⟨k + 1, by omega, by go_num, Lib.hid (fun j hj => by
          by_cases e : j = k
          · subst e; exact HK.out
          · exact HF.out j (by omega))⟩
        case measure => simp [intOf]; omega
      · rw [hf] at hx
        have ht : t = false := by
          rcases h : t with _ | _
          · rfl
          · rw [HT.out.1 h k hlt] at hf; cases hf
        subst ht
        clear hf
        go_wp2
        go_ret
        exact ⟨rfl, rfl⟩
    · have e : k = n := by omega
      subst e
      have ht : t = true := HT.out.2 HF.out
      subst ht
      go_wp2
      go_ret
      exact ⟨rfl, rfl⟩
theorem alw_all (r : Rg) (f : Nat → Bool) (h0 : f 0 = r.Ih) (h1 : f 1 = r.Sv) (h2 : f 2 = r.Ex) (h3 : f 3 = r.Hd) (h4 : f 4 = !decide (r.Ix % 32768 = 0)) (h5 : f 5 = !decide (oOver r.A = 0)) : alw r = true ↔ ∀ i, i < 6 → f i = false := by
  have e : (∀ i, i < 6 → f i = false) ↔ (f 0 = false ∧ f 1 = false ∧ f 2 = false ∧ f 3 = false ∧ f 4 = false ∧ f 5 = false) := by
    constructor
    · intro h; exact ⟨h 0 (by omega), h 1 (by omega), h 2 (by omega), h 3 (by omega), h 4 (by omega), h 5 (by omega)⟩
    · rintro ⟨a, b, c, d, e, g⟩ i hi
      match i, hi with
      | 0, _ => exact a
      | 1, _ => exact b
      | 2, _ => exact c
      | 3, _ => exact d
      | 4, _ => exact e
      | 5, _ => exact g
  rw [e, h0, h1, h2, h3, h4, h5]
  unfold alw
  generalize decide (r.Ix % 32768 = 0) = u
  generalize decide (oOver r.A = 0) = v
  generalize r.Ih = a
  generalize r.Sv = b
  generalize r.Ex = c
  generalize r.Hd = d
  revert a b c d u v
  decide
theorem add0 (g i : Nat) : (⟨g, 0, none⟩ : Addr).add i = ⟨g, i, none⟩ := by unfold Addr.add; by_cases c : i = 0 <;> simp [c]
theorem blk_bools {w : World} {g : Nat} (l : List Bool) (h : Blk w g (l.map Value.bool)) : ∀ i, i < l.length → w.cell? ((⟨g, 0, none⟩ : Addr).add i) = some (.bool (l.getD i false)) := fun i hi => by
  rw [add0]
  refine h.cell i _ ?_
  rw [List.getElem?_map, List.getElem?_eq_getElem hi]
  simp [List.getD_eq_getElem?_getD, List.getElem?_eq_getElem hi]
set_option maxHeartbeats 1000000 in
theorem Allowed_any (r : Rg) (hf : r.Fit) (t : Bool) (ht : alw r = t) (w : World) :
    Calls Tryz.prog 135 #[.agg #[.int .u16 r.A, .int .u16 r.L, .int .u16 r.Q, .int .i64 r.Z, .int .i64 r.EB, .int .i64 r.FB, .int .i64 r.Su, .bool r.Ex, .int .u16 r.Ix, .bool r.Hd, .int .u16 r.B, .bool r.Ih, .bool r.Sv]] w fun e w' => e = .returned (.bool t) ∧ Below w.heap.size w w' := by
  have hi := and15 r.Ix hf.Ix.1 (by have := hf.Ix.2; omega)
  have ho := fun W => Overflow_any r.A hf.A.1 (by have := hf.A.2; omega) W
  have HL : Hid (t = true ↔ ∀ i, i < 6 → [r.Ih, r.Sv, r.Ex, r.Hd, r.Ix % 32768 != 0, oOver r.A != 0].getD i false = false) := Lib.hid (by
    rw [← ht]
    refine alw_all r _ rfl rfl rfl rfl ?_ ?_
    · show (r.Ix % 32768 != 0) = _
      by_cases c : r.Ix % 32768 = 0 <;> simp [c]
    · show (oOver r.A != 0) = _
      by_cases c : oOver r.A = 0 <;> simp [c])
  clear ht hf
  generalize r.Ix % 32768 = ix at *
  generalize oOver r.A = oa at *
  go_enter Tryz.func135, Tryz.ntmps135
  go_wp2
  have R1 := Blk.new w 26 (rgList r) _ rfl
  have X1 := (Below.refl w.heap.size w).alloc (Nat.le_refl _) (.cells (rgList r).toArray 26)
  have hW : w.heap.size < (w.alloc (.cells (rgList r).toArray 26)).heap.size := by simp
  simp only [rgList] at R1 X1 hW
  have HR := Lib.hid R1
  have HX := Lib.hid X1
  clear R1 X1
  generalize w.alloc (.cells #[.int .u16 r.A, .int .u16 r.L, .int .u16 r.Q, .int .i64 r.Z, .int .i64 r.EB, .int .i64 r.FB, .int .i64 r.Su, .bool r.Ex, .int .u16 r.Ix, .bool r.Hd, .int .u16 r.B, .bool r.Ih, .bool r.Sv] 26) = W at *
  have HR2 := Lib.hid (HR.out.drew.alloc hW (.cells #[.bool r.Ih, .bool r.Sv, .bool r.Ex, .bool r.Hd, .bool (ix != 0), .bool (oa != 0)] 4))
  have HN := Lib.hid (Blk.new W.drew 4 [.bool r.Ih, .bool r.Sv, .bool r.Ex, .bool r.Hd, .bool (ix != 0), .bool (oa != 0)] W.heap.size rfl)
  go_region_held3 (fun w' => w'.cell? ⟨w.heap.size, 0, none⟩ = some (.int .u16 r.A) ∧ w'.cell? ⟨w.heap.size, 1, none⟩ = some (.int .u16 r.L) ∧ w'.cell? ⟨w.heap.size, 2, none⟩ = some (.int .u16 r.Q) ∧ w'.cell? ⟨w.heap.size, 3, none⟩ = some (.int .i64 r.Z) ∧ w'.cell? ⟨w.heap.size, 4, none⟩ = some (.int .i64 r.EB) ∧ w'.cell? ⟨w.heap.size, 5, none⟩ = some (.int .i64 r.FB) ∧ w'.cell? ⟨w.heap.size, 6, none⟩ = some (.int .i64 r.Su) ∧ w'.cell? ⟨w.heap.size, 7, none⟩ = some (.bool r.Ex) ∧ w'.cell? ⟨w.heap.size, 8, none⟩ = some (.int .u16 r.Ix) ∧ w'.cell? ⟨w.heap.size, 9, none⟩ = some (.bool r.Hd) ∧ w'.cell? ⟨w.heap.size, 10, none⟩ = some (.int .u16 r.B) ∧ w'.cell? ⟨w.heap.size, 11, none⟩ = some (.bool r.Ih) ∧ w'.cell? ⟨w.heap.size, 12, none⟩ = some (.bool r.Sv))
    (first
      | exact ⟨HR.out.cell 0 _ rfl, HR.out.cell 1 _ rfl, HR.out.cell 2 _ rfl, HR.out.cell 3 _ rfl, HR.out.cell 4 _ rfl, HR.out.cell 5 _ rfl, HR.out.cell 6 _ rfl, HR.out.cell 7 _ rfl, HR.out.cell 8 _ rfl, HR.out.cell 9 _ rfl, HR.out.cell 10 _ rfl, HR.out.cell 11 _ rfl, HR.out.cell 12 _ rfl⟩
      | exact ⟨HR2.out.cell 0 _ rfl, HR2.out.cell 1 _ rfl, HR2.out.cell 2 _ rfl, HR2.out.cell 3 _ rfl, HR2.out.cell 4 _ rfl, HR2.out.cell 5 _ rfl, HR2.out.cell 6 _ rfl, HR2.out.cell 7 _ rfl, HR2.out.cell 8 _ rfl, HR2.out.cell 9 _ rfl, HR2.out.cell 10 _ rfl, HR2.out.cell 11 _ rfl, HR2.out.cell 12 _ rfl⟩)
    (first
      | (go_at_call 180; refine (ho _).mono ?_; rintro e w' ⟨rfl, rfl⟩)
      | (go_at_call 179; refine (none_any 6 (by omega) _ ⟨W.heap.size, 0, none⟩ _ t _ (blk_bools [r.Ih, r.Sv, r.Ex, r.Hd, ix != 0, oa != 0] HN.out) HL.out).mono ?_; rintro e w' ⟨rfl, rfl⟩)
      | fail)
  all_goals go_wp2
  all_goals go_ret
  all_goals exact ⟨rfl, HX.out.drew.alloc (by simpa using Nat.le_of_lt hW) _⟩
end Go.Proofs.YtjjkikghfmnikaaGreatDoor
