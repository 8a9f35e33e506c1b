/- Contracts of layer 5: the program's next. -/
import Derived.Test.YtjjkikghfmnikaaGreatDoorQ06
import Derived.Test.YtjjkikghfmnikaaGreatDoorQ13
import Derived.Test.YtjjkikghfmnikaaGreatDoorQ14
import Derived.Deep.DeepCutAuto
import Derived.Deep.CutBlock
import Derived.Maps.AppendAt
import Derived.Laws.AppendOwnNone
set_option linter.unusedSimpArgs false
set_option linter.unusedVariables false
namespace Go.Proofs.YtjjkikghfmnikaaGreatDoor
open Go.ChangeShapes Go.WideShapes Go.ChangeAt Go.RowKit
theorem val_bd {r : Rg} (hf : r.Fit) (v : Vw) (s a : Int) : 0 ≤ val r v s a ∧ val r v s a ≤ 65535 := by
  have e : ∀ x, 0 ≤ oExt x ∧ oExt x ≤ 65535 := fun x => by unfold oExt; split <;> omega
  have := hf.A
  unfold val
  repeat (first | exact e _ | exact this | omega | split)
theorem fW_bd {r : Rg} (hf : r.Fit) (h : r.may) (v : Vw) : 0 ≤ fW r v ∧ fW r v ≤ 32767 := by
  obtain ⟨_, _, _, h3, _⟩ := h
  have := val_bd hf v (spc r.Z) (adr r r.Z)
  have hb := hf.B
  unfold fW oCorr
  split <;> omega
theorem next_arg (r : Rg) (hf : r.Fit) (h : ¬ r.may) (v : Vw) (ea : Option Addr) (ec : Nat) (fa : Option Addr) (fc : Nat) (ca : Option Addr) (cc : Nat) (w : World) :
    Calls Tryz.prog 44 #[.agg #[.int .u16 r.A, .int .u16 r.L, .int .u16 r.Q, .int .i64 r.Z, .int .i64 r.EB, .int .i64 r.FB, .int .i64 r.Su, .bool r.Ex, .int .u16 r.Ix, .bool r.Hd, .int .u16 r.B, .bool r.Ih, .bool r.Sv], .agg #[.slice ea v.ne ec, .slice fa v.nf fc, .slice ca v.nc cc]] w (LoadRet 0 [] 2 w) := by
  have HF := Lib.hid (decide_eq_false h)
  clear h
  go_enter Tryz.func44, Tryz.ntmps44
  go_wp2_with (go_at_call 11; refine (May_any r false HF.out _).mono ?_; rintro e w1 ⟨rfl, hb⟩; (have X1 := Lib.hid ((below2 w _ _).trans (hb.mono (by simp; omega)))); clear hb)
  go_ret3
  exact ⟨_, rfl, OwnP.nil _ _ _ _ _, X1.out⟩
set_option maxHeartbeats 1000000 in
theorem next_held (r : Rg) (hf : r.Fit) (h : r.may) (hh : r.Hd = true) (v : Vw) (ea : Option Addr) (ec : Nat) (fa : Option Addr) (fc : Nat) (ca : Option Addr) (cc : Nat) (w : World) :
    Calls Tryz.prog 44 #[.agg #[.int .u16 r.A, .int .u16 r.L, .int .u16 r.Q, .int .i64 r.Z, .int .i64 r.EB, .int .i64 r.FB, .int .i64 r.Su, .bool r.Ex, .int .u16 r.Ix, .bool r.Hd, .int .u16 r.B, .bool r.Ih, .bool r.Sv], .agg #[.slice ea v.ne ec, .slice fa v.nf fc, .slice ca v.nc cc]] w (LoadRet (fW r v) (fRds r) 0 w) := by
  have HF := Lib.hid (decide_eq_true h)
  have e : fW r v = r.B := by unfold fW; rw [if_pos hh]
  have e2 : fRds r = [] := by unfold fRds; rw [if_pos hh]
  rw [e, e2]
  clear h e e2
  go_enter Tryz.func44, Tryz.ntmps44
  rw [hh]
  clear hh
  have HF2 : Hid (decide (({ r with Hd := true } : Rg).may) = true) := HF.out
  go_wp2_with (go_at_call 11; refine (May_any { r with Hd := true } true HF2.out _).mono ?_; rintro e w1 ⟨rfl, hb⟩; (obtain ⟨hk1, hl1⟩ := bcell hb); (have hz1 : w.heap.size + 1 < w1.heap.size := by have := hb.size; simp at this; omega); (have hy1 : w.heap.size < w1.heap.size := by omega); (have X1 := Lib.hid ((below2 w _ _).trans (hb.mono (by simp; omega)))); clear hb)
  go_ret3
  exact ⟨_, rfl, OwnP.nil _ _ _ _ _, X1.out⟩
set_option maxHeartbeats 1000000 in
theorem next_no (r : Rg) (hf : r.Fit) (h : r.may) (hh : r.Hd = false) (hn : ¬ has r r.Z) (v : Vw) (ea : Option Addr) (ec : Nat) (fa : Option Addr) (fc : Nat) (ca : Option Addr) (cc : Nat) (w : World) :
    Calls Tryz.prog 44 #[.agg #[.int .u16 r.A, .int .u16 r.L, .int .u16 r.Q, .int .i64 r.Z, .int .i64 r.EB, .int .i64 r.FB, .int .i64 r.Su, .bool r.Ex, .int .u16 r.Ix, .bool r.Hd, .int .u16 r.B, .bool r.Ih, .bool r.Sv], .agg #[.slice ea v.ne ec, .slice fa v.nf fc, .slice ca v.nc cc]] w (LoadRet 0 [] 3 w) := by
  obtain ⟨A, L, Q, Z, EB, FB, Su, Ex, Ix, Hd, B, Ih, Sv⟩ := r
  simp only at hh
  subst hh
  have HF := Lib.hid (decide_eq_true h)
  have HM := Lib.hid h
  have HFt := Lib.hid hf
  have hz : 0 ≤ Z ∧ Z ≤ 4095 := ⟨h.2.2.2.2.1, h.2.2.2.2.2.1⟩
  have HH := Lib.hid (fun (c : 0 ≤ Z ∧ Z ≤ 4095 ∧ has ⟨A, L, Q, Z, EB, FB, Su, Ex, Ix, false, B, Ih, Sv⟩ Z) => hn c.2.2)
  clear h hn hf
  go_enter Tryz.func44, Tryz.ntmps44
  go_wp2_with (first
    | (go_at_call 11; refine (May_any ⟨A, L, Q, Z, EB, FB, Su, Ex, Ix, false, B, Ih, Sv⟩ true HF.out _).mono ?_; rintro e w1 ⟨rfl, hb⟩; (obtain ⟨hk1, hl1⟩ := bcell hb); (have hz1 : w.heap.size + 1 < w1.heap.size := by have := hb.size; simp at this; omega); (have hy1 : w.heap.size < w1.heap.size := by omega); (have X1 := Lib.hid ((below2 w _ _).trans (hb.mono (by simp; omega)))); clear hb)
    | (go_at_call 13; refine (mLoad_no ⟨A, L, Q, Z, EB, FB, Su, Ex, Ix, false, B, Ih, Sv⟩ HFt.out HM.out v ea ec fa fc ca cc Z (by omega) (by omega) HH.out _).mono ?_; rintro e w2 ⟨vl, rfl, ho, hb⟩; (have HO := Lib.hid (ho.low X1.out.size)); (have X2 := Lib.hid (X1.out.trans (hb.mono X1.out.size))); clear hb ho)
    | (go_at_call 28; refine (Correct_any _ (by decide) (by decide) _).mono ?_; rintro e w1 ⟨rfl, rfl⟩))
  go_ret3
  exact ⟨_, rfl, HO.out, X2.out⟩
set_option maxHeartbeats 1000000 in
theorem next_yes (r : Rg) (hf : r.Fit) (h : r.may) (hh : r.Hd = false) (hn : has r r.Z) (v : Vw) (ea : Option Addr) (ec : Nat) (fa : Option Addr) (fc : Nat) (ca : Option Addr) (cc : Nat) (w : World) (hv : VwAt w v ea fa ca) :
    Calls Tryz.prog 44 #[.agg #[.int .u16 r.A, .int .u16 r.L, .int .u16 r.Q, .int .i64 r.Z, .int .i64 r.EB, .int .i64 r.FB, .int .i64 r.Su, .bool r.Ex, .int .u16 r.Ix, .bool r.Hd, .int .u16 r.B, .bool r.Ih, .bool r.Sv], .agg #[.slice ea v.ne ec, .slice fa v.nf fc, .slice ca v.nc cc]] w (LoadRet (fW r v) (fRds r) 0 w) := by
  have vb := val_bd hf v (spc r.Z) (adr r r.Z)
  have e : fW r v = oCorr (val r v (spc r.Z) (adr r r.Z)) := by unfold fW; rw [if_neg (by rw [hh]; decide)]
  have e2 : fRds r = rds (spc r.Z) (adr r r.Z) := by unfold fRds; rw [if_neg (by rw [hh]; decide)]
  rw [e, e2]
  clear e e2
  obtain ⟨A, L, Q, Z, EB, FB, Su, Ex, Ix, Hd, B, Ih, Sv⟩ := r
  simp only at hh
  subst hh
  have HF := Lib.hid (decide_eq_true h)
  have HM := Lib.hid h
  have HFt := Lib.hid hf
  have hz : 0 ≤ Z ∧ Z ≤ 4095 := ⟨h.2.2.2.2.1, h.2.2.2.2.2.1⟩
  have HH := Lib.hid hn
  have HV := Lib.hid hv
  clear h hn hf hv
  simp only at vb ⊢
  obtain ⟨x, hx⟩ : ∃ x, val ⟨A, L, Q, Z, EB, FB, Su, Ex, Ix, false, B, Ih, Sv⟩ v (spc Z) (adr ⟨A, L, Q, Z, EB, FB, Su, Ex, Ix, false, B, Ih, Sv⟩ Z) = x := ⟨_, rfl⟩
  rw [hx] at vb ⊢
  have HX := Lib.hid hx
  clear hx
  go_enter Tryz.func44, Tryz.ntmps44
  go_wp2_with (first
    | (go_at_call 11; refine (May_any ⟨A, L, Q, Z, EB, FB, Su, Ex, Ix, false, B, Ih, Sv⟩ true HF.out _).mono ?_; rintro e w1 ⟨rfl, hb⟩; (obtain ⟨hk1, hl1⟩ := bcell hb); (have hz1 : w.heap.size + 1 < w1.heap.size := by have := hb.size; simp at this; omega); (have hy1 : w.heap.size < w1.heap.size := by omega); (have X1 := Lib.hid ((below2 w _ _).trans (hb.mono (by simp; omega)))); clear hb)
    | (go_at_call 13; refine (mLoad_has ⟨A, L, Q, Z, EB, FB, Su, Ex, Ix, false, B, Ih, Sv⟩ HFt.out HM.out v ea ec fa fc ca cc Z (by omega) (by omega) HH.out _ (HV.out.below X1.out (Nat.le_refl _))).mono ?_; rintro e w2 ⟨vl, rfl, ho, hb⟩; rw [HX.out]; (have HO := Lib.hid (ho.low X1.out.size)); (have X2 := Lib.hid (X1.out.trans (hb.mono X1.out.size))); clear hb ho)
    | (go_at_call 28; refine (Correct_any _ (by omega) (by omega) _).mono ?_; rintro e w1 ⟨rfl, rfl⟩))
  go_ret3
  exact ⟨_, rfl, HO.out, X2.out⟩
end Go.Proofs.YtjjkikghfmnikaaGreatDoor

/- Contracts of layer 5: the program's Fetch. -/
set_option linter.unusedSimpArgs false
set_option linter.unusedVariables false
namespace Go.Proofs.YtjjkikghfmnikaaGreatDoor
open Go.ChangeShapes Go.WideShapes Go.ChangeAt Go.RowKit
/-- All cells of a block written anew, one after another. -/
def setAll (w : World) (g : Nat) : Nat → List Value → World
  | _, [] => w
  | j, v :: l => setAll (w.setCell ⟨g, j, none⟩ v) g (j + 1) l
theorem take_set_succ : ∀ (l : List Value) (j : Nat) (v : Value), j < l.length → (l.set j v).take (j + 1) = l.take j ++ [v]
  | [], _, _, h => absurd h (by simp)
  | x :: l, 0, v, _ => by simp
  | x :: l, j + 1, v, h => by
    have := take_set_succ l j v (by simpa using h)
    simp only [List.set_cons_succ, List.take_succ_cons, List.cons_append]
    rw [this]
theorem Blk.setFrom {g : Nat} : ∀ (m : List Value) (w : World) (j : Nat) (l : List Value), Blk w g l → j + m.length = l.length → Blk (setAll w g j m) g (l.take j ++ m)
  | [], w, j, l, h, e => by
    simp only [List.length_nil, Nat.add_zero] at e
    subst e
    simpa [setAll] using h
  | v :: m, w, j, l, h, e => by
    simp only [List.length_cons] at e
    have h1 := h.set j (by omega) v
    have := Blk.setFrom m _ (j + 1) _ h1 (by simp; omega)
    have e2 := take_set_succ l j v (by omega)
    rw [e2] at this
    simpa [setAll] using this
theorem Blk.over {w : World} {g : Nat} {l : List Value} (h : Blk w g l) (m : List Value) (e : m.length = l.length) : Blk (setAll w g 0 m) g m := by
  have := Blk.setFrom m w 0 l h (by omega)
  simpa using this
theorem Blk.others {g g' : Nat} (hne : g' ≠ g) : ∀ (m : List Value) (w : World) (j : Nat) (l : List Value), Blk w g l → Blk (setAll w g' j m) g l
  | [], _, _, _, h => h
  | v :: m, w, j, l, h => Blk.others hne m _ (j + 1) l (h.other hne j v)
theorem setAll_size (g : Nat) : ∀ (m : List Value) (w : World) (j : Nat), (setAll w g j m).heap.size = w.heap.size
  | [], _, _ => rfl
  | v :: m, w, j => by rw [setAll, setAll_size g m]; simp
theorem below_setAll {B : Nat} {a : World} (g : Nat) (hg : B ≤ g) : ∀ (m : List Value) (w : World) (j : Nat), Below B a w → Below B a (setAll w g j m)
  | [], _, _, h => h
  | v :: m, w, j, h => below_setAll g hg m _ (j + 1) (h.setCell (p := ⟨g, j, none⟩) hg v)
theorem Own2.set_low {T : TypeId} {w : World} {B n : Nat} {v : Value} {p q : Nat → Value} (h : Own2 T w B v n p q) {a : Addr} (ha : a.block < B) (y : Value) : Own2 T (w.setCell a y) B v n p q := by
  refine ⟨h.1, ?_⟩
  rcases h.2 with hn | ⟨g, cap, cur, rfl, hg, hh, rest⟩
  · exact .inl hn
  · refine .inr ⟨g, cap, cur, rfl, hg, ?_, rest⟩
    rw [Below.heap_setCell _ _ _ _ (by omega)]; exact hh
theorem OwnP.setAll_low {k1 k2 : IntKind} {T : TypeId} {B : Nat} {v : Value} {L : List (Int × Int)} {g : Nat} (hg : g < B) : ∀ (m : List Value) (w : World) (j : Nat), OwnP k1 k2 T w B v L → OwnP k1 k2 T (setAll w g j m) B v L
  | [], _, _, h => h
  | x :: m, w, j, h => OwnP.setAll_low hg m _ (j + 1) (Own2.set_low h (a := ⟨g, j, none⟩) hg x)
theorem results_fetch {fn : Func} {p q u v x : Tmp} {T T' : TypeId} (h : fn.results = #[.cell p T, .tmp u, .cell q T', .tmp v, .tmp x]) (tmps : Array Value) (P : Program) (w : World) :
    (results fn tmps).run P w =
      ((asAddr (tmps.getD p undef)).run P w).andThen fun a w₁ => ((loadVar T a).run P w₁).andThen fun y w₂ => ((asAddr (tmps.getD q undef)).run P w₂).andThen fun b w₃ => ((loadVar T' b).run P w₃).andThen fun z w₄ => .ok (.tuple #[y, tmps.getD u undef, z, tmps.getD v undef, tmps.getD x undef]) w₄ := by
  simp only [results, h]
  simp [Sem.run_bind, Result.andThen]
theorem ret_fetch {P : Program} {fn : Func} {R : Ending → World → Prop} {a : Act} {w : World} {p q u v x : Tmp} {T T' : TypeId} {fs fs' : Array Field} (hres : fn.results = #[.cell p T, .tmp u, .cell q T', .tmp v, .tmp x]) (ht : P.underlying T = some (.struct fs)) (ht' : P.underlying T' = some (.struct fs'))
    (cs cs' : List Value) (hi : (P.info? T).map (·.size) = some cs.length) (hi' : (P.info? T').map (·.size) = some cs'.length) (g g' : Nat) (vu vv vx : Value)
    (hR : R (.returned (.tuple #[.agg cs.toArray, vu, .agg cs'.toArray, vv, vx])) w)
    (hc : Blk w g cs) (hc' : Blk w g' cs')
    (hp : a.tmps.getD p undef = .pointer (some ⟨g, 0, none⟩)) (hq : a.tmps.getD q undef = .pointer (some ⟨g', 0, none⟩))
    (hu : a.tmps.getD u undef = vu) (hv : a.tmps.getD v undef = vv) (hx : a.tmps.getD x undef = vx) (hd : a.defers = []) : bodyPost P fn R .ret a w := by
  refine bodyPost_ret ?_ hd hR
  rw [results_fetch hres, hp, hq, hu, hv, hx]
  simp [asAddr, Sem.run_bind, Result.andThen, run_loadVar_struct ht cs hi w g hc.cells, run_loadVar_struct ht' cs' hi' w g' hc'.cells]
def opL0 : List Value := [.int .u8 0, .string ⟨#[]⟩, .bool false, .int .u8 0, .int .i64 0, .int .i64 0]
def opLi (i : Nat) : List Value := [.int .u8 ((i : Int) + 1), .string (nm i), .bool (decide (19 ≤ i)), .int .u8 (kd i), .int .i64 (bt (kd i)), .int .i64 (cy i)]
def FetchRet (i : Nat) (k : Int) (r : Rg) (L : List (Int × Int)) (w : World) (e : Ending) (w' : World) : Prop := ∃ vl, e = .returned (.tuple #[.agg #[.int .u8 ((i : Int) + 1), .string (nm i), .bool (decide (19 ≤ i)), .int .u8 (kd i), .int .i64 (bt (kd i)), .int .i64 (cy i)], .int .i64 k, .agg #[.int .u16 r.A, .int .u16 r.L, .int .u16 r.Q, .int .i64 r.Z, .int .i64 r.EB, .int .i64 r.FB, .int .i64 r.Su, .bool r.Ex, .int .u16 r.Ix, .bool r.Hd, .int .u16 r.B, .bool r.Ih, .bool r.Sv], vl, .int .i64 0]) ∧ OwnP .u8 .i64 59 w' w.heap.size vl L ∧ Below w.heap.size w w'
def FetchErr (er : Int) (w : World) (e : Ending) (w' : World) : Prop := e = .returned (.tuple #[.agg #[.int .u8 0, .string ⟨#[]⟩, .bool false, .int .u8 0, .int .i64 0, .int .i64 0], .int .i64 0, .agg #[.int .u16 rg0.A, .int .u16 rg0.L, .int .u16 rg0.Q, .int .i64 rg0.Z, .int .i64 rg0.EB, .int .i64 rg0.FB, .int .i64 rg0.Su, .bool rg0.Ex, .int .u16 rg0.Ix, .bool rg0.Hd, .int .u16 rg0.B, .bool rg0.Ih, .bool rg0.Sv], .slice none 0 0, .int .i64 er]) ∧ Below w.heap.size w w'
/-- The four blocks that Fetch begins with. -/
def fet4 (w : World) (r : Rg) (ea : Option Addr) (ec : Nat) (fa : Option Addr) (fc : Nat) (ca : Option Addr) (cc : Nat) (v : Vw) : World := (((w.alloc (.cells (rgList r).toArray 26)).alloc (.cells [.slice ea v.ne ec, .slice fa v.nf fc, .slice ca v.nc cc].toArray 29)).alloc (.cells opL0.toArray 41)).alloc (.cells (rgList rg0).toArray 26)
theorem fet4_facts (w : World) (r : Rg) (ea : Option Addr) (ec : Nat) (fa : Option Addr) (fc : Nat) (ca : Option Addr) (cc : Nat) (v : Vw) : Blk (fet4 w r ea ec fa fc ca cc v) w.heap.size (rgList r) ∧ Blk (fet4 w r ea ec fa fc ca cc v) (w.heap.size + 1) [.slice ea v.ne ec, .slice fa v.nf fc, .slice ca v.nc cc] ∧ Blk (fet4 w r ea ec fa fc ca cc v) (w.heap.size + 1 + 1) opL0 ∧ Blk (fet4 w r ea ec fa fc ca cc v) (w.heap.size + 1 + 1 + 1) (rgList rg0) ∧ (fet4 w r ea ec fa fc ca cc v).heap.size = w.heap.size + 4 ∧ Below w.heap.size w (fet4 w r ea ec fa fc ca cc v) := by
  unfold fet4
  refine ⟨?_, ?_, ?_, ?_, by simp, ?_⟩
  · exact (((Blk.new _ _ _ _ rfl).alloc (by simp) _).alloc (by simp; try omega) _).alloc (by simp; try omega) _
  · exact ((Blk.new _ _ _ _ (by simp)).alloc (by simp) _).alloc (by simp; try omega) _
  · exact (Blk.new _ _ _ _ (by simp)).alloc (by simp) _
  · exact Blk.new _ _ _ _ (by simp)
  · exact (below3 _ _ _ _).alloc (by simp; try omega) _
theorem next_err (r : Rg) (hf : r.Fit) (h : ¬ r.may ∨ (r.may ∧ r.Hd = false ∧ ¬ has r r.Z)) (er : Int) (her : er = if r.may then 3 else 2) (v : Vw) (ea : Option Addr) (ec : Nat) (fa : Option Addr) (fc : Nat) (ca : Option Addr) (cc : Nat) (w : World) :
    Calls Tryz.prog 44 #[.agg #[.int .u16 r.A, .int .u16 r.L, .int .u16 r.Q, .int .i64 r.Z, .int .i64 r.EB, .int .i64 r.FB, .int .i64 r.Su, .bool r.Ex, .int .u16 r.Ix, .bool r.Hd, .int .u16 r.B, .bool r.Ih, .bool r.Sv], .agg #[.slice ea v.ne ec, .slice fa v.nf fc, .slice ca v.nc cc]] w (LoadRet 0 [] er w) := by
  rcases h with h | ⟨h, h1, h2⟩
  · rw [if_neg h] at her; subst her; exact next_arg r hf h v ea ec fa fc ca cc w
  · rw [if_pos h] at her; subst her; exact next_no r hf h h1 h2 v ea ec fa fc ca cc w
set_option maxHeartbeats 1000000 in
theorem mFetch_err (r : Rg) (hf : r.Fit) (h : ¬ r.may ∨ (r.may ∧ r.Hd = false ∧ ¬ has r r.Z)) (er : Int) (her : er = if r.may then 3 else 2) (v : Vw) (ea : Option Addr) (ec : Nat) (fa : Option Addr) (fc : Nat) (ca : Option Addr) (cc : Nat) (w : World) :
    Calls Tryz.prog 16 #[.agg #[.int .u16 r.A, .int .u16 r.L, .int .u16 r.Q, .int .i64 r.Z, .int .i64 r.EB, .int .i64 r.FB, .int .i64 r.Su, .bool r.Ex, .int .u16 r.Ix, .bool r.Hd, .int .u16 r.B, .bool r.Ih, .bool r.Sv], .agg #[.slice ea v.ne ec, .slice fa v.nf fc, .slice ca v.nc cc]] w (FetchErr er w) := by
  have hN := Lib.hid (fun w => next_err r hf h er her v ea ec fa fc ca cc w)
  have hne : (er == 0) = false := by rw [beq_eq_false_iff_ne]; split at her <;> omega
  have K := Lib.hid (fet4_facts w r ea ec fa fc ca cc v)
  clear h her hf
  go_enter Tryz.func16, Tryz.ntmps16
  go_upto_region 1 with (fail)
  change Code.wp _ _ _ _ (fet4 w r ea ec fa fc ca cc v)
  obtain ⟨k1, k2, k3, k4, k5, k6⟩ := K.out
  generalize fet4 w r ea ec fa fc ca cc v = W at k1 k2 k3 k4 k5 k6 ⊢
  have c : W.cell? ⟨w.heap.size, 0, none⟩ = some (.int .u16 r.A) ∧ W.cell? ⟨w.heap.size, 1, none⟩ = some (.int .u16 r.L) ∧ W.cell? ⟨w.heap.size, 2, none⟩ = some (.int .u16 r.Q) ∧ W.cell? ⟨w.heap.size, 3, none⟩ = some (.int .i64 r.Z) ∧ W.cell? ⟨w.heap.size, 4, none⟩ = some (.int .i64 r.EB) ∧ W.cell? ⟨w.heap.size, 5, none⟩ = some (.int .i64 r.FB) ∧ W.cell? ⟨w.heap.size, 6, none⟩ = some (.int .i64 r.Su) ∧ W.cell? ⟨w.heap.size, 7, none⟩ = some (.bool r.Ex) ∧ W.cell? ⟨w.heap.size, 8, none⟩ = some (.int .u16 r.Ix) ∧ W.cell? ⟨w.heap.size, 9, none⟩ = some (.bool r.Hd) ∧ W.cell? ⟨w.heap.size, 10, none⟩ = some (.int .u16 r.B) ∧ W.cell? ⟨w.heap.size, 11, none⟩ = some (.bool r.Ih) ∧ W.cell? ⟨w.heap.size, 12, none⟩ = some (.bool r.Sv) := ⟨k1.cell 0 _ rfl, k1.cell 1 _ rfl, k1.cell 2 _ rfl, k1.cell 3 _ rfl, k1.cell 4 _ rfl, k1.cell 5 _ rfl, k1.cell 6 _ rfl, k1.cell 7 _ rfl, k1.cell 8 _ rfl, k1.cell 9 _ rfl, k1.cell 10 _ rfl, k1.cell 11 _ rfl, k1.cell 12 _ rfl⟩
  obtain ⟨c0, c1, c2, c3, c4, c5, c6, c7, c8, c9, c10, c11, c12⟩ := c
  have d : W.cell? ⟨(w.heap.size + 1), 0, none⟩ = some (.slice ea v.ne ec) ∧ W.cell? ⟨(w.heap.size + 1), 1, none⟩ = some (.slice fa v.nf fc) ∧ W.cell? ⟨(w.heap.size + 1), 2, none⟩ = some (.slice ca v.nc cc) := ⟨k2.cell 0 _ rfl, k2.cell 1 _ rfl, k2.cell 2 _ rfl⟩
  obtain ⟨d0, d1, d2⟩ := d
  clear K
  go_wp2_with (go_at_call 44; refine (hN.out _).mono ?_; rintro e w1 ⟨vl, rfl, ho, hb⟩; (have Q2 := k3.below hb (by omega)); (have Q3 := k4.below hb (by omega)); (have X1 := Lib.hid (k6.trans (hb.mono k6.size))); (have hz1 : w.heap.size + 4 ≤ w1.heap.size := by have := hb.size; omega); clear ho hb; have p0 := Q2.cell 0 _ rfl; have p1 := Q2.cell 1 _ rfl; have p2 := Q2.cell 2 _ rfl; have p3 := Q2.cell 3 _ rfl; have p4 := Q2.cell 4 _ rfl; have p5 := Q2.cell 5 _ rfl; have q0 := Q2.free 0 _ rfl; have q1 := Q2.free 1 _ rfl; have q2 := Q2.free 2 _ rfl; have q3 := Q2.free 3 _ rfl; have q4 := Q2.free 4 _ rfl; have q5 := Q2.free 5 _ rfl; have m0 := Q3.cell 0 _ rfl; have m1 := Q3.cell 1 _ rfl; have m2 := Q3.cell 2 _ rfl; have m3 := Q3.cell 3 _ rfl; have m4 := Q3.cell 4 _ rfl; have m5 := Q3.cell 5 _ rfl; have m6 := Q3.cell 6 _ rfl; have m7 := Q3.cell 7 _ rfl; have m8 := Q3.cell 8 _ rfl; have m9 := Q3.cell 9 _ rfl; have m10 := Q3.cell 10 _ rfl; have m11 := Q3.cell 11 _ rfl; have m12 := Q3.cell 12 _ rfl; have o0 := Q3.free 0 _ rfl; have o1 := Q3.free 1 _ rfl; have o2 := Q3.free 2 _ rfl; have o3 := Q3.free 3 _ rfl; have o4 := Q3.free 4 _ rfl; have o5 := Q3.free 5 _ rfl; have o6 := Q3.free 6 _ rfl; have o7 := Q3.free 7 _ rfl; have o8 := Q3.free 8 _ rfl; have o9 := Q3.free 9 _ rfl; have o10 := Q3.free 10 _ rfl; have o11 := Q3.free 11 _ rfl; have o12 := Q3.free 12 _ rfl)
  clear p0 p1 p2 p3 p4 p5 q0 q1 q2 q3 q4 q5 m0 m1 m2 m3 m4 m5 m6 m7 m8 m9 m10 m11 m12 o0 o1 o2 o3 o4 o5 o6 o7 o8 o9 o10 o11 o12 c0 c1 c2 c3 c4 c5 c6 c7 c8 c9 c10 c11 c12 d0 d1 d2
  change bodyPost _ _ _ _ _ (setAll (setAll w1 (w.heap.size + 1 + 1) 0 opL0) (w.heap.size + 1 + 1 + 1) 0 (rgList rg0))
  have Z2 := ((Q2.over opL0 rfl).others (show w.heap.size + 1 + 1 + 1 ≠ w.heap.size + 1 + 1 by omega) (rgList rg0) _ 0)
  have Z3 := ((Q3.others (show w.heap.size + 1 + 1 ≠ w.heap.size + 1 + 1 + 1 by omega) opL0 _ 0).over (rgList rg0) rfl)
  have ZX := below_setAll (w.heap.size + 1 + 1 + 1) (by omega) (rgList rg0) _ 0 (below_setAll (w.heap.size + 1 + 1) (by omega) opL0 _ 0 X1.out)
  generalize setAll (setAll w1 (w.heap.size + 1 + 1) 0 opL0) (w.heap.size + 1 + 1 + 1) 0 (rgList rg0) = V at Z2 Z3 ZX ⊢
  exact ret_fetch Tryz.results16 Tryz.underlying41 Tryz.underlying26 opL0 (rgList rg0) (by kernel_rfl) (by kernel_rfl) (w.heap.size + 1 + 1) (w.heap.size + 1 + 1 + 1) (.int .i64 0) (.slice none 0 0) (.int .i64 er) ⟨rfl, ZX⟩ Z2 Z3 rfl rfl rfl rfl rfl rfl
end Go.Proofs.YtjjkikghfmnikaaGreatDoor

/- Contracts of layer 5: the program's Fetch, the good way. -/
set_option linter.unusedSimpArgs false
set_option linter.unusedVariables false
namespace Go.Proofs.YtjjkikghfmnikaaGreatDoor
open Go.ChangeShapes Go.WideShapes Go.ChangeAt Go.RowKit
theorem Own2.other {T : TypeId} {w : World} {B n : Nat} {v : Value} {p q : Nat → Value} (h : Own2 T w B v n p q) {a : Addr} (ha : v.ownBlock ≠ some a.block) (y : Value) : Own2 T (w.setCell a y) B v n p q := by
  refine ⟨h.1, ?_⟩
  rcases h.2 with hn | ⟨g, cap, cur, rfl, hg, hh, rest⟩
  · exact .inl hn
  · refine .inr ⟨g, cap, cur, rfl, hg, ?_, rest⟩
    rw [Below.heap_setCell _ _ _ _ (fun e => ha (by rw [← e]; rfl))]; exact hh
theorem OwnP.fresh {k1 k2 : IntKind} {T : TypeId} {w : World} {B : Nat} {v : Value} {L : List (Int × Int)} (h : OwnP k1 k2 T w B v L) : v.ownBlock ≠ some w.heap.size := by
  rcases h.2 with ⟨rfl, _⟩ | ⟨g, cap, cur, rfl, hg, hh, rest⟩
  · simp [Value.ownBlock]
  · intro e
    have e2 : g = w.heap.size := by simpa [Value.ownBlock] using e
    have := (Array.getElem?_eq_some_iff.1 hh).1
    omega
theorem OwnP.setAll_other {k1 k2 : IntKind} {T : TypeId} {B : Nat} {v : Value} {L : List (Int × Int)} {g : Nat} (hg : v.ownBlock ≠ some g) : ∀ (m : List Value) (w : World) (j : Nat), OwnP k1 k2 T w B v L → OwnP k1 k2 T (setAll w g j m) B v L
  | [], _, _, h => h
  | x :: m, w, j, h => OwnP.setAll_other hg m _ (j + 1) (Own2.other h (a := ⟨g, j, none⟩) hg x)
/-- Some cells of a block written anew, one after another. -/
def sets (w : World) (g : Nat) : List (Nat × Value) → World
  | [] => w
  | (j, v) :: m => sets (w.setCell ⟨g, j, none⟩ v) g m
def lsets (l : List Value) : List (Nat × Value) → List Value
  | [] => l
  | (j, v) :: m => lsets (l.set j v) m
theorem Blk.sets {g : Nat} : ∀ (m : List (Nat × Value)) (w : World) (l : List Value), Blk w g l → (m.all fun p => decide (p.1 < l.length)) = true → Blk (sets w g m) g (lsets l m)
  | [], _, _, h, _ => h
  | (j, v) :: m, w, l, h, e => by
    simp only [List.all_cons, Bool.and_eq_true, decide_eq_true_eq] at e
    exact Blk.sets m _ _ (h.set j e.1 v) (by simpa using e.2)
theorem Blk.setsO {g g' : Nat} (hne : g' ≠ g) : ∀ (m : List (Nat × Value)) (w : World) (l : List Value), Blk w g l → Blk (Go.Proofs.YtjjkikghfmnikaaGreatDoor.sets w g' m) g l
  | [], _, _, h => h
  | (j, v) :: m, w, l, h => Blk.setsO hne m _ l (h.other hne j v)
theorem below_sets {B : Nat} {a : World} {g : Nat} (hg : B ≤ g) : ∀ (m : List (Nat × Value)) (w : World), Below B a w → Below B a (sets w g m)
  | [], _, h => h
  | (j, v) :: m, w, h => below_sets hg m _ (h.setCell (p := ⟨g, j, none⟩) hg v)
theorem sets_size (g : Nat) : ∀ (m : List (Nat × Value)) (w : World), (sets w g m).heap.size = w.heap.size
  | [], _ => rfl
  | (j, v) :: m, w => by rw [sets, sets_size g m]; simp
theorem OwnP.sets_other {k1 k2 : IntKind} {T : TypeId} {B : Nat} {v : Value} {L : List (Int × Int)} {g : Nat} (hg : v.ownBlock ≠ some g) : ∀ (m : List (Nat × Value)) (w : World), OwnP k1 k2 T w B v L → OwnP k1 k2 T (sets w g m) B v L
  | [], _, h => h
  | (j, x) :: m, w, h => OwnP.sets_other hg m _ (Own2.other h (a := ⟨g, j, none⟩) hg x)
theorem OwnP.sets_low {k1 k2 : IntKind} {T : TypeId} {B : Nat} {v : Value} {L : List (Int × Int)} {g : Nat} (hg : g < B) : ∀ (m : List (Nat × Value)) (w : World), OwnP k1 k2 T w B v L → OwnP k1 k2 T (sets w g m) B v L
  | [], _, h => h
  | (j, x) :: m, w, h => OwnP.sets_low hg m _ (Own2.set_low h (a := ⟨g, j, none⟩) hg x)
theorem next_good (r : Rg) (hf : r.Fit) (h : r.may) (ok : fOk r) (v : Vw) (ea : Option Addr) (ec : Nat) (fa : Option Addr) (fc : Nat) (ca : Option Addr) (cc : Nat) (w : World) (hv : VwAt w v ea fa ca) :
    Calls Tryz.prog 44 #[.agg #[.int .u16 r.A, .int .u16 r.L, .int .u16 r.Q, .int .i64 r.Z, .int .i64 r.EB, .int .i64 r.FB, .int .i64 r.Su, .bool r.Ex, .int .u16 r.Ix, .bool r.Hd, .int .u16 r.B, .bool r.Ih, .bool r.Sv], .agg #[.slice ea v.ne ec, .slice fa v.nf fc, .slice ca v.nc cc]] w (LoadRet (fW r v) (fRds r) 0 w) := by
  by_cases c : r.Hd = true
  · exact next_held r hf h c v ea ec fa fc ca cc w
  · have c2 : r.Hd = false := by simpa using c
    exact next_yes r hf h c2 (by rcases ok with k | k; exact absurd k c; exact k) v ea ec fa fc ca cc w hv
theorem fI_bd {r : Rg} (hf : r.Fit) (h : r.may) (v : Vw) : 0 ≤ fI r v ∧ fI r v ≤ 32767 := by
  have := fW_bd hf h v
  have h3 := h.2.2.1
  have h4 := hf.Ix
  unfold fI oAdd
  split <;> omega
set_option maxHeartbeats 2000000 in
theorem mFetch_yes (r : Rg) (hf : r.Fit) (h : r.may) (ok : fOk r) (v : Vw) (i : Nat) (x : Int) (hx : fI r v = x) (hi : decI x r.Ex = i) (ea : Option Addr) (ec : Nat) (fa : Option Addr) (fc : Nat) (ca : Option Addr) (cc : Nat) (w : World) (hv : VwAt w v ea fa ca) (hL : Lay w) :
    Calls Tryz.prog 16 #[.agg #[.int .u16 r.A, .int .u16 r.L, .int .u16 r.Q, .int .i64 r.Z, .int .i64 r.EB, .int .i64 r.FB, .int .i64 r.Su, .bool r.Ex, .int .u16 r.Ix, .bool r.Hd, .int .u16 r.B, .bool r.Ih, .bool r.Sv], .agg #[.slice ea v.ne ec, .slice fa v.nf fc, .slice ca v.nc cc]] w (FetchRet i (x - bs i) (fRg r) (fRds r) w) := by
  have hN := Lib.hid (fun w hv => next_good r hf h ok v ea ec fa fc ca cc w hv)
  have hwb := fW_bd hf h v
  have hxb := fI_bd hf h v
  rw [hx] at hxb
  have hib : 0 ≤ r.Ix ∧ r.Ix ≤ 32767 := ⟨hf.Ix.1, h.2.2.1⟩
  have hzb : 0 ≤ r.Z ∧ r.Z ≤ 4095 := ⟨h.2.2.2.2.1, h.2.2.2.2.2.1⟩
  have HI := Lib.hid hi
  have HV := Lib.hid hv
  have HL := Lib.hid hL
  obtain ⟨y, hy⟩ : ∃ y, fW r v = y := ⟨_, rfl⟩
  have HXY : Hid (oAdd y r.Ix = x) := by rw [← hx, ← hy]; rfl
  rw [hy] at hN hwb
  have ez : (r.Z + 1).tmod 4096 = (r.Z + 1) % 4096 := Int.tmod_eq_emod_of_nonneg (by omega)
  obtain ⟨z, hz⟩ : ∃ z, (r.Z + 1) % 4096 = z := ⟨_, rfl⟩
  have HFR : Hid (fRg r = { r with Z := z, Hd := false, Ex := false, B := 0, Ix := 0 }) := by unfold fRg; rw [hz]; rfl
  rw [hz] at ez
  have K := Lib.hid (fet4_facts w r ea ec fa fc ca cc v)
  clear h hf ok hx hi hv hL hy hz
  rw [HFR.out]
  go_enter Tryz.func16, Tryz.ntmps16
  go_upto_region 1 with (fail)
  change Code.wp _ _ _ _ (fet4 w r ea ec fa fc ca cc v)
  obtain ⟨k1, k2, k3, k4, k5, k6⟩ := K.out
  generalize fet4 w r ea ec fa fc ca cc v = W at k1 k2 k3 k4 k5 k6 ⊢
  have c : W.cell? ⟨w.heap.size, 0, none⟩ = some (.int .u16 r.A) ∧ W.cell? ⟨w.heap.size, 1, none⟩ = some (.int .u16 r.L) ∧ W.cell? ⟨w.heap.size, 2, none⟩ = some (.int .u16 r.Q) ∧ W.cell? ⟨w.heap.size, 3, none⟩ = some (.int .i64 r.Z) ∧ W.cell? ⟨w.heap.size, 4, none⟩ = some (.int .i64 r.EB) ∧ W.cell? ⟨w.heap.size, 5, none⟩ = some (.int .i64 r.FB) ∧ W.cell? ⟨w.heap.size, 6, none⟩ = some (.int .i64 r.Su) ∧ W.cell? ⟨w.heap.size, 7, none⟩ = some (.bool r.Ex) ∧ W.cell? ⟨w.heap.size, 8, none⟩ = some (.int .u16 r.Ix) ∧ W.cell? ⟨w.heap.size, 9, none⟩ = some (.bool r.Hd) ∧ W.cell? ⟨w.heap.size, 10, none⟩ = some (.int .u16 r.B) ∧ W.cell? ⟨w.heap.size, 11, none⟩ = some (.bool r.Ih) ∧ W.cell? ⟨w.heap.size, 12, none⟩ = some (.bool r.Sv) := ⟨k1.cell 0 _ rfl, k1.cell 1 _ rfl, k1.cell 2 _ rfl, k1.cell 3 _ rfl, k1.cell 4 _ rfl, k1.cell 5 _ rfl, k1.cell 6 _ rfl, k1.cell 7 _ rfl, k1.cell 8 _ rfl, k1.cell 9 _ rfl, k1.cell 10 _ rfl, k1.cell 11 _ rfl, k1.cell 12 _ rfl⟩
  obtain ⟨c0, c1, c2, c3, c4, c5, c6, c7, c8, c9, c10, c11, c12⟩ := c
  have d : W.cell? ⟨(w.heap.size + 1), 0, none⟩ = some (.slice ea v.ne ec) ∧ W.cell? ⟨(w.heap.size + 1), 1, none⟩ = some (.slice fa v.nf fc) ∧ W.cell? ⟨(w.heap.size + 1), 2, none⟩ = some (.slice ca v.nc cc) := ⟨k2.cell 0 _ rfl, k2.cell 1 _ rfl, k2.cell 2 _ rfl⟩
  obtain ⟨d0, d1, d2⟩ := d
  clear K
  have Y0 := Lib.hid k6
  have K1 := Lib.hid k1
  have K3 := Lib.hid k3
  have K4 := Lib.hid k4
  clear k1 k2 k3 k4 k6
  go_upto_region 4 with (go_at_call 44; refine (hN.out _ (HV.out.below Y0.out (Nat.le_refl _))).mono ?_; rintro e w1 ⟨vl, rfl, ho, hb⟩; (have HO := Lib.hid (ho.low (B' := w.heap.size + 4) (by omega))); (have Q1 := Lib.hid (K1.out.below hb (by omega))); (have Q2 := Lib.hid (K3.out.below hb (by omega))); (have Q3 := Lib.hid (K4.out.below hb (by omega))); (have X1 := Lib.hid (Y0.out.trans (hb.mono Y0.out.size))); (have hz1 : w.heap.size + 4 ≤ w1.heap.size := by have := hb.size; omega); clear ho hb)
  clear c0 c1 c2 c3 c4 c5 c6 c7 c8 c9 c10 c11 c12 d0 d1 d2 k5
  have hz2 : w.heap.size < w1.heap.size := by omega
  have LW := Lib.hid (HL.out.below X1.out)
  have G0 := Lib.hid (Blk.new w1 41 opL0 _ rfl)
  go_cut [2, 4, 6, 10, 11, 12, 13] (fun s2 s4 s6 s10 s11 s12 s13 wx => s2 = .pointer (some ⟨w.heap.size, 0, none⟩) ∧ s4 = .pointer (some ⟨w.heap.size + 1 + 1, 0, none⟩) ∧ s6 = .pointer (some ⟨w.heap.size + 1 + 1 + 1, 0, none⟩) ∧ s11 = .int .i64 0 ∧ s13 = .int .i64 (x - bs i) ∧ ∃ go : Nat, s12 = .pointer (some ⟨go, 0, none⟩) ∧ w.heap.size + 4 ≤ go ∧ go < wx.heap.size ∧ OwnP .u8 .i64 59 wx (w.heap.size + 4) s10 (fRds r) ∧ Blk wx w.heap.size (rgList r) ∧ Blk wx (w.heap.size + 1 + 1) opL0 ∧ Blk wx (w.heap.size + 1 + 1 + 1) (rgList rg0) ∧ Blk wx go (opLi i) ∧ Below w.heap.size w wx)
  case first =>
    have q8 : w1.drew.cell? ⟨w.heap.size, 8, none⟩ = some (.int .u16 r.Ix) := Q1.out.cell 8 _ rfl
    have q7 : w1.drew.cell? ⟨w.heap.size, 7, none⟩ = some (.bool r.Ex) := Q1.out.cell 7 _ rfl
    have r8 : (w1.alloc (.cells opL0.toArray 41)).drew.cell? ⟨w.heap.size, 8, none⟩ = some (.int .u16 r.Ix) := (Q1.out.alloc hz2 _).cell 8 _ rfl
    have r7 : (w1.alloc (.cells opL0.toArray 41)).drew.cell? ⟨w.heap.size, 7, none⟩ = some (.bool r.Ex) := (Q1.out.alloc hz2 _).cell 7 _ rfl
    simp only [opL0] at r8 r7
    have L1 := LW.out.drew
    have L2 := (LW.out.alloc (.cells opL0.toArray 41)).drew
    simp only [opL0] at L2
    go_region_held3 (fun w' => w'.cell? ⟨w.heap.size, 8, none⟩ = some (.int .u16 r.Ix) ∧ w'.cell? ⟨w.heap.size, 7, none⟩ = some (.bool r.Ex))
      (first
        | with_reducible exact ⟨q8, q7⟩
        | with_reducible exact ⟨r8, r7⟩
        | with_reducible exact ⟨s8, s7⟩
        | with_reducible exact ⟨t8 _, t7 _⟩
        | exact ⟨(D1.out.others hne (opLi i) w2 0).cell 8 _ rfl, (D1.out.others hne (opLi i) w2 0).cell 7 _ rfl⟩)
      (first
        | (go_at_call 46; refine (Add_any _ (by omega) (by omega) _ (by omega) (by omega) _).mono ?_; rintro e w2 ⟨rfl, rfl⟩; rw [HXY.out])
        | (go_at_call 45; with_reducible refine (Decode_yes x hxb.1 hxb.2 r.Ex i HI.out _ L1).mono ?_; rintro e w2 ⟨rfl, hb⟩; (replace hb := from_drew hb); (have D1 := Lib.hid (Q1.out.below hb (by omega))); (have D2 := Lib.hid (Q2.out.below hb (by omega))); (have D3 := Lib.hid (Q3.out.below hb (by omega))); (have DO := Lib.hid (HO.out.below hb (Nat.le_refl _))); (have X2 := Lib.hid (X1.out.trans (hb.mono X1.out.size))); (have hz3 : w.heap.size < w2.heap.size := by have := hb.size; omega); (have hz4 : w.heap.size + 4 ≤ w2.heap.size := by have := hb.size; omega); (have s8 : w2.cell? ⟨w.heap.size, 8, none⟩ = some (.int .u16 r.Ix) := D1.out.cell 8 _ rfl); (have s7 : w2.cell? ⟨w.heap.size, 7, none⟩ = some (.bool r.Ex) := D1.out.cell 7 _ rfl); (have t8 : ∀ o, (w2.alloc o).cell? ⟨w.heap.size, 8, none⟩ = some (.int .u16 r.Ix) := fun o => (D1.out.alloc hz3 o).cell 8 _ rfl); (have t7 : ∀ o, (w2.alloc o).cell? ⟨w.heap.size, 7, none⟩ = some (.bool r.Ex) := fun o => (D1.out.alloc hz3 o).cell 7 _ rfl); clear hb)
        | (go_at_call 45; with_reducible refine (Decode_yes x hxb.1 hxb.2 r.Ex i HI.out _ L2).mono ?_; rintro e w2 ⟨rfl, hb⟩; (replace hb := from_drew hb); (have hs1 : w1.heap.size + 1 ≤ w2.heap.size := by have := hb.size; simpa using this); (have D1 := Lib.hid ((Q1.out.alloc hz2 _).below hb (by simp; omega))); (have D2 := Lib.hid ((Q2.out.alloc (by omega) _).below hb (by simp; omega))); (have D3 := Lib.hid ((Q3.out.alloc (by omega) _).below hb (by simp; omega))); (have DG := Lib.hid (G0.out.below hb (by simp))); (have DO := Lib.hid ((HO.out.below ((Below.refl _ _).alloc (Nat.le_refl _) _) (Nat.le_refl _)).below hb (Nat.le_refl _))); (have X2 := Lib.hid ((X1.out.alloc X1.out.size _).trans (hb.mono (X1.out.alloc X1.out.size _).size))); (have hz3 : w1.heap.size < w2.heap.size := by omega); (have hne : w1.heap.size ≠ w.heap.size := by omega); have p0 := DG.out.cell 0 _ rfl; have p1 := DG.out.cell 1 _ rfl; have p2 := DG.out.cell 2 _ rfl; have p3 := DG.out.cell 3 _ rfl; have p4 := DG.out.cell 4 _ rfl; have p5 := DG.out.cell 5 _ rfl; have q0 := DG.out.free 0 _ rfl; have q1 := DG.out.free 1 _ rfl; have q2 := DG.out.free 2 _ rfl; have q3 := DG.out.free 3 _ rfl; have q4 := DG.out.free 4 _ rfl; have q5 := DG.out.free 5 _ rfl; (have s8 : w2.cell? ⟨w.heap.size, 8, none⟩ = some (.int .u16 r.Ix) := D1.out.cell 8 _ rfl); (have s7 : w2.cell? ⟨w.heap.size, 7, none⟩ = some (.bool r.Ex) := D1.out.cell 7 _ rfl); clear hb))
    all_goals
      go_wp2
      go_meet
      first
        | exact ⟨rfl, rfl, rfl, rfl, rfl, w2.heap.size, rfl, hz4, by simp, DO.out.below ((Below.refl _ _).alloc (Nat.le_refl _) _) (Nat.le_refl _), D1.out.alloc hz3 _, D2.out.alloc (by omega) _, D3.out.alloc (by omega) _, Blk.new w2 41 (opLi i) _ rfl, X2.out.alloc X2.out.size _⟩
        | exact ⟨rfl, rfl, rfl, rfl, rfl, w1.heap.size, rfl, hz1, by simp; omega, OwnP.setAll_other HO.out.fresh (opLi i) _ 0 DO.out, D1.out.others hne (opLi i) w2 0, D2.out.others (by omega) (opLi i) w2 0, D3.out.others (by omega) (opLi i) w2 0, DG.out.over (opLi i) rfl, below_setAll _ (by omega) (opLi i) _ 0 X2.out⟩
  case rest =>
    obtain ⟨rfl, rfl, rfl, rfl, rfl, go, rfl, hg1, hg2, ho, b1, b2, b3, b4, hb⟩ := hcut
    have E2 := Lib.hid b2
    have E3 := Lib.hid b3
    have EG := Lib.hid b4
    have EO := Lib.hid ho
    have EX := Lib.hid hb
    have E1 := Lib.hid b1
    have c0 := b1.cell 0 _ rfl; have c1 := b1.cell 1 _ rfl; have c2 := b1.cell 2 _ rfl; have c3 := b1.cell 3 _ rfl; have c4 := b1.cell 4 _ rfl; have c5 := b1.cell 5 _ rfl; have c6 := b1.cell 6 _ rfl; have c7 := b1.cell 7 _ rfl; have c8 := b1.cell 8 _ rfl; have c9 := b1.cell 9 _ rfl; have c10 := b1.cell 10 _ rfl; have c11 := b1.cell 11 _ rfl; have c12 := b1.cell 12 _ rfl; have f0 := b1.free 0 _ rfl; have f1 := b1.free 1 _ rfl; have f2 := b1.free 2 _ rfl; have f3 := b1.free 3 _ rfl; have f4 := b1.free 4 _ rfl; have f5 := b1.free 5 _ rfl; have f6 := b1.free 6 _ rfl; have f7 := b1.free 7 _ rfl; have f8 := b1.free 8 _ rfl; have f9 := b1.free 9 _ rfl; have f10 := b1.free 10 _ rfl; have f11 := b1.free 11 _ rfl; have f12 := b1.free 12 _ rfl
    clear b1 b2 b3 b4 ho hb K3 K4 K1 Q1 Q2 Q3 HO G0
    go_upto_region 10 with (fail)
    change Code.wp _ _ _ _ (sets wc w.heap.size [(3, .int .i64 z), (9, .bool false), (7, .bool false), (10, .int .u16 0), (8, .int .u16 0)])
    clear c0 c1 c2 c3 c4 c5 c6 c7 c8 c9 c10 c11 c12 f0 f1 f2 f3 f4 f5 f6 f7 f8 f9 f10 f11 f12
    have F1 : Blk (sets wc w.heap.size [(3, .int .i64 z), (9, .bool false), (7, .bool false), (10, .int .u16 0), (8, .int .u16 0)]) w.heap.size [.int .u16 r.A, .int .u16 r.L, .int .u16 r.Q, .int .i64 z, .int .i64 r.EB, .int .i64 r.FB, .int .i64 r.Su, .bool false, .int .u16 0, .bool false, .int .u16 0, .bool r.Ih, .bool r.Sv] := E1.out.sets _ _ _ rfl
    have F2 := E2.out.setsO (show w.heap.size ≠ w.heap.size + 1 + 1 by omega) [(3, .int .i64 z), (9, .bool false), (7, .bool false), (10, .int .u16 0), (8, .int .u16 0)] wc
    have F3 := E3.out.setsO (show w.heap.size ≠ w.heap.size + 1 + 1 + 1 by omega) [(3, .int .i64 z), (9, .bool false), (7, .bool false), (10, .int .u16 0), (8, .int .u16 0)] wc
    have FG := EG.out.setsO (show w.heap.size ≠ go by omega) [(3, .int .i64 z), (9, .bool false), (7, .bool false), (10, .int .u16 0), (8, .int .u16 0)] wc
    have FO := Lib.hid (OwnP.sets_low (show w.heap.size < w.heap.size + 4 by omega) [(3, .int .i64 z), (9, .bool false), (7, .bool false), (10, .int .u16 0), (8, .int .u16 0)] wc EO.out)
    have FX := Lib.hid (below_sets (Nat.le_refl _) [(3, .int .i64 z), (9, .bool false), (7, .bool false), (10, .int .u16 0), (8, .int .u16 0)] wc EX.out)
    generalize sets wc w.heap.size [(3, .int .i64 z), (9, .bool false), (7, .bool false), (10, .int .u16 0), (8, .int .u16 0)] = V at F1 F2 F3 FG FO FX ⊢
    have c0 := F1.cell 0 _ rfl; have c1 := F1.cell 1 _ rfl; have c2 := F1.cell 2 _ rfl; have c3 := F1.cell 3 _ rfl; have c4 := F1.cell 4 _ rfl; have c5 := F1.cell 5 _ rfl; have c6 := F1.cell 6 _ rfl; have c7 := F1.cell 7 _ rfl; have c8 := F1.cell 8 _ rfl; have c9 := F1.cell 9 _ rfl; have c10 := F1.cell 10 _ rfl; have c11 := F1.cell 11 _ rfl; have c12 := F1.cell 12 _ rfl; have g0 := FG.cell 0 _ rfl; have g1 := FG.cell 1 _ rfl; have g2 := FG.cell 2 _ rfl; have g3 := FG.cell 3 _ rfl; have g4 := FG.cell 4 _ rfl; have g5 := FG.cell 5 _ rfl; have p0 := F2.cell 0 _ rfl; have p1 := F2.cell 1 _ rfl; have p2 := F2.cell 2 _ rfl; have p3 := F2.cell 3 _ rfl; have p4 := F2.cell 4 _ rfl; have p5 := F2.cell 5 _ rfl; have q0 := F2.free 0 _ rfl; have q1 := F2.free 1 _ rfl; have q2 := F2.free 2 _ rfl; have q3 := F2.free 3 _ rfl; have q4 := F2.free 4 _ rfl; have q5 := F2.free 5 _ rfl; have m0 := F3.cell 0 _ rfl; have m1 := F3.cell 1 _ rfl; have m2 := F3.cell 2 _ rfl; have m3 := F3.cell 3 _ rfl; have m4 := F3.cell 4 _ rfl; have m5 := F3.cell 5 _ rfl; have m6 := F3.cell 6 _ rfl; have m7 := F3.cell 7 _ rfl; have m8 := F3.cell 8 _ rfl; have m9 := F3.cell 9 _ rfl; have m10 := F3.cell 10 _ rfl; have m11 := F3.cell 11 _ rfl; have m12 := F3.cell 12 _ rfl; have o0 := F3.free 0 _ rfl; have o1 := F3.free 1 _ rfl; have o2 := F3.free 2 _ rfl; have o3 := F3.free 3 _ rfl; have o4 := F3.free 4 _ rfl; have o5 := F3.free 5 _ rfl; have o6 := F3.free 6 _ rfl; have o7 := F3.free 7 _ rfl; have o8 := F3.free 8 _ rfl; have o9 := F3.free 9 _ rfl; have o10 := F3.free 10 _ rfl; have o11 := F3.free 11 _ rfl; have o12 := F3.free 12 _ rfl
    have H2 := Lib.hid F2
    have H3 := Lib.hid F3
    clear F1 F2 F3 FG E1 E2 E3 EG EO EX
    go_region
    rename_i K hK
    refine hK _ _ (wp_ret ?_)
    clear hK c0 c1 c2 c3 c4 c5 c6 c7 c8 c9 c10 c11 c12 g0 g1 g2 g3 g4 g5 p0 p1 p2 p3 p4 p5 q0 q1 q2 q3 q4 q5 m0 m1 m2 m3 m4 m5 m6 m7 m8 m9 m10 m11 m12 o0 o1 o2 o3 o4 o5 o6 o7 o8 o9 o10 o11 o12
    change bodyPost _ _ _ _ _ (setAll (setAll V (w.heap.size + 1 + 1) 0 (opLi i)) (w.heap.size + 1 + 1 + 1) 0 (rgList { r with Z := z, Hd := false, Ex := false, B := 0, Ix := 0 })).drew
    have Z2 := ((H2.out.over (opLi i) rfl).others (show w.heap.size + 1 + 1 + 1 ≠ w.heap.size + 1 + 1 by omega) (rgList { r with Z := z, Hd := false, Ex := false, B := 0, Ix := 0 }) _ 0)
    have Z3 := ((H3.out.others (show w.heap.size + 1 + 1 ≠ w.heap.size + 1 + 1 + 1 by omega) (opLi i) _ 0).over (rgList { r with Z := z, Hd := false, Ex := false, B := 0, Ix := 0 }) rfl)
    have ZX := below_setAll (w.heap.size + 1 + 1 + 1) (by omega) (rgList { r with Z := z, Hd := false, Ex := false, B := 0, Ix := 0 }) _ 0 (below_setAll (w.heap.size + 1 + 1) (by omega) (opLi i) _ 0 FX.out)
    have ZO := OwnP.setAll_low (show w.heap.size + 1 + 1 + 1 < w.heap.size + 4 by omega) (rgList { r with Z := z, Hd := false, Ex := false, B := 0, Ix := 0 }) _ 0 (OwnP.setAll_low (show w.heap.size + 1 + 1 < w.heap.size + 4 by omega) (opLi i) _ 0 FO.out)
    generalize setAll (setAll V (w.heap.size + 1 + 1) 0 (opLi i)) (w.heap.size + 1 + 1 + 1) 0 (rgList { r with Z := z, Hd := false, Ex := false, B := 0, Ix := 0 }) = U at Z2 Z3 ZX ZO ⊢
    exact ret_fetch Tryz.results16 Tryz.underlying41 Tryz.underlying26 (opLi i) (rgList { r with Z := z, Hd := false, Ex := false, B := 0, Ix := 0 }) (by kernel_rfl) (by kernel_rfl) (w.heap.size + 1 + 1) (w.heap.size + 1 + 1 + 1) (.int .i64 (x - bs i)) u10 (.int .i64 0) ⟨_, rfl, ZO.drew.low (by omega), ZX.drew⟩ Z2.drew Z3.drew rfl rfl rfl rfl rfl rfl
end Go.Proofs.YtjjkikghfmnikaaGreatDoor

/- append of a list of pairs to a list of pairs of the call's own. -/
set_option linter.unusedSimpArgs false
set_option linter.unusedVariables false
namespace Go.Proofs.YtjjkikghfmnikaaGreatDoor
open Go.ChangeShapes Go.WideShapes Go.ChangeAt Go.RowKit
end Go.Proofs.YtjjkikghfmnikaaGreatDoor
