/- Results that are structs and lie in memory. -/
import Derived.Test.YtjjkikghfmnikaaGreatDoorQ02
import Derived.Laws.ResultCell
import Derived.Test.YtjjkikghfmnikaaGreatDoorChecked
import Derived.Test.YtjjkikghfmnikaaGreatDoorQ01
set_option linter.unusedSimpArgs false
set_option linter.unusedVariables false
namespace Go.Proofs.YtjjkikghfmnikaaGreatDoor
open Go.ChangeShapes Go.WideShapes Go.ChangeAt Go.RowKit
theorem run_loadVar_struct {P : Program} {T : TypeId} {fs : Array Field} (ht : P.underlying T = some (.struct fs)) (cs : List Value) (hi : (P.info? T).map (·.size) = some cs.length) (w : World) (g : Nat)
    (hc : ∀ j v, cs[j]? = some v → w.cell? ⟨g, j, none⟩ = some v) : (loadVar T ⟨g, 0, none⟩).run P w = .ok (.agg cs.toArray) w := by
  have hl := run_loadCells_list (P := P) w ⟨g, 0, none⟩ cs (fun j v hj => by
    have e1 : (⟨g, 0, none⟩ : Addr).add j = ⟨g, j, none⟩ := by unfold Addr.add; by_cases c : j = 0 <;> simp [c]
    rw [e1]; exact hc j v hj)
  cases hq : P.info? T with
  | none => simp [hq] at hi
  | some i =>
    have hs : i.size = cs.length := by simpa [hq] using hi
    simp [loadVar, isAgg, run_underlying ht, sizeOf, typeInfo, hq, hs, hl, Sem.run_bind, Result.andThen]
theorem ret_struct2 {P : Program} {fn : Func} {R : Ending → World → Prop} {a : Act} {w : World} {p u : Tmp} {T : TypeId} {fs : Array Field} (hres : fn.results = #[.cell p T, .tmp u]) (ht : P.underlying T = some (.struct fs)) (cs : List Value) (hi : (P.info? T).map (·.size) = some cs.length) (g : Nat)
    (hp : a.tmps.getD p undef = .pointer (some ⟨g, 0, none⟩)) (hc : ∀ j v, cs[j]? = some v → w.cell? ⟨g, j, none⟩ = some v) (x : Value) (hx : a.tmps.getD u undef = x) (hd : a.defers = []) (hR : R (.returned (.tuple #[.agg cs.toArray, x])) w) : bodyPost P fn R .ret a w := by
  refine bodyPost_ret ?_ hd hR
  rw [results_cell_tmp hres, hp, hx]
  simp [asAddr, Sem.run_bind, Result.andThen, run_loadVar_struct ht cs hi w g hc]
theorem set6 {w : World} {g : Nat} (h : ∀ j, j < 6 → (w.cell? ⟨g, j, none⟩).isSome = true) (v0 v1 v2 v3 v4 v5 : Value) :
    ∀ j v, [v0, v1, v2, v3, v4, v5][j]? = some v → ((((((w.setCell ⟨g, 0, none⟩ v0).setCell ⟨g, 1, none⟩ v1).setCell ⟨g, 2, none⟩ v2).setCell ⟨g, 3, none⟩ v3).setCell ⟨g, 4, none⟩ v4).setCell ⟨g, 5, none⟩ v5).cell? ⟨g, j, none⟩ = some v := by
  have h0 := h 0 (by omega)
  have h1 := h 1 (by omega)
  have h2 := h 2 (by omega)
  have h3 := h 3 (by omega)
  have h4 := h 4 (by omega)
  have h5 := h 5 (by omega)
  intro j v hj
  match j, hj with
  | 0, hj => simp at hj; subst hj; simp [go_sem, h0]
  | 1, hj => simp at hj; subst hj; simp [go_sem, h1]
  | 2, hj => simp at hj; subst hj; simp [go_sem, h2]
  | 3, hj => simp at hj; subst hj; simp [go_sem, h3]
  | 4, hj => simp at hj; subst hj; simp [go_sem, h4]
  | 5, hj => simp at hj; subst hj; simp [go_sem, h5]
  | j + 6, hj => simp at hj
end Go.Proofs.YtjjkikghfmnikaaGreatDoor

/- Results that are one struct. -/
set_option linter.unusedSimpArgs false
set_option linter.unusedVariables false
namespace Go.Proofs.YtjjkikghfmnikaaGreatDoor
open Go.ChangeShapes Go.WideShapes Go.ChangeAt Go.RowKit
theorem results_cell {fn : Func} {p : Tmp} {ty : TypeId} (h : fn.results = #[.cell p ty]) (tmps : Array Value) (P : Program) (w : World) :
    (results fn tmps).run P w = ((asAddr (tmps.getD p undef)).run P w).andThen fun a w₁ => (loadVar ty a).run P w₁ := by
  simp only [results, h]
  simp [Sem.run_bind, Result.andThen]
theorem ret_struct1 {P : Program} {fn : Func} {R : Ending → World → Prop} {a : Act} {w : World} {p : Tmp} {T : TypeId} {fs : Array Field} (hres : fn.results = #[.cell p T]) (ht : P.underlying T = some (.struct fs)) (cs : List Value) (hi : (P.info? T).map (·.size) = some cs.length) (g : Nat)
    (hp : a.tmps.getD p undef = .pointer (some ⟨g, 0, none⟩)) (hc : ∀ j v, cs[j]? = some v → w.cell? ⟨g, j, none⟩ = some v) (hd : a.defers = []) (hR : R (.returned (.agg cs.toArray)) w) : bodyPost P fn R .ret a w := by
  refine bodyPost_ret ?_ hd hR
  rw [results_cell hres, hp]
  simp [asAddr, Sem.run_bind, Result.andThen, run_loadVar_struct ht cs hi w g hc]
theorem at_allocN {w : World} {T : TypeId} {g : Nat} (hg : w.heap.size = g) (cs : List Value) : ∀ j v, cs[j]? = some v → (w.alloc (.cells cs.toArray T)).cell? ⟨g, j, none⟩ = some v := by
  subst hg
  intro j v h
  rw [World.cell?_alloc_at _ _ _ _ rfl, List.getElem?_toArray]
  exact h
end Go.Proofs.YtjjkikghfmnikaaGreatDoor

/- Contracts of layer 5: the reference's small functions. -/
set_option linter.unusedSimpArgs false
set_option linter.unusedVariables false
namespace Go.Proofs.YtjjkikghfmnikaaGreatDoor
open Go.ChangeShapes Go.WideShapes Go.ChangeAt Go.RowKit
/-- A view in memory. -/
structure VwAt (w : World) (v : Vw) (ea fa ca : Option Addr) : Prop where
  e : Row .u16 w ea v.ne v.ze
  f : Row .u16 w fa v.nf v.zf
  c : Row .u16 w ca v.nc v.zc
  be : ∀ i, i < v.ne → 0 ≤ v.ze i ∧ v.ze i ≤ 65535
  bf : ∀ i, i < v.nf → 0 ≤ v.zf i ∧ v.zf i ≤ 65535
  bc : ∀ i, i < v.nc → 0 ≤ v.zc i ∧ v.zc i ≤ 65535
  le : v.ne ≤ 140737488355328
  lf : v.nf ≤ 140737488355328
  lc : v.nc ≤ 140737488355328
theorem VwAt.below {w w' : World} {v : Vw} {ea fa ca : Option Addr} {B : Nat} (h : VwAt w v ea fa ca) (hb : Below B w w') (hB : w.heap.size ≤ B) : VwAt w' v ea fa ca :=
  ⟨h.e.below hb hB, h.f.below hb hB, h.c.below hb hB, h.be, h.bf, h.bc, h.le, h.lf, h.lc⟩
theorem VwAt.alloc {w : World} {v : Vw} {ea fa ca : Option Addr} (h : VwAt w v ea fa ca) (o : Obj) : VwAt (w.alloc o) v ea fa ca := h.below ((Below.refl _ _).alloc (Nat.le_refl _) o) (Nat.le_refl _)
set_option maxHeartbeats 1000000 in
theorem rMay_any (r : Rg) (t : Bool) (ht : decide r.may = t) (w : World) :
    Calls Tryz.prog 12 #[.agg #[.int .u16 r.A, .int .u16 r.L, .int .u16 r.Q, .int .i64 r.Z, .int .i64 r.EB, .int .i64 r.FB, .int .i64 r.Su, .bool r.Ex, .int .u16 r.Ix, .bool r.Hd, .int .u16 r.B, .bool r.Ih, .bool r.Sv]] w fun e w' => e = .returned (.bool t) ∧ Below w.heap.size w w' := by
  by_cases h : r.may
  · have e : t = true := by rw [← ht]; exact decide_eq_true h
    subst e
    obtain ⟨h0, h1, h2, h3, h4, h5, h6, h7, h8, h9, ha, hb⟩ := h
    clear ht
    go_enter Tryz.func12, Tryz.ntmps12
    go_wp2
    go_ret
    exact ⟨rfl, (Below.refl _ _).alloc (Nat.le_refl _) _⟩
  · have HT := Lib.hid ht
    have H := Lib.hid h
    clear h ht
    go_enter Tryz.func12, Tryz.ntmps12
    go_wp2
    all_goals
      go_ret
      refine ⟨?_, (Below.refl _ _).alloc (Nat.le_refl _) _⟩
      rw [← HT.out, decide_eq_false H.out]
      first
        | rfl
        | (exfalso; have := H.out; unfold Rg.may at this; omega)
        | (have := H.out; unfold Rg.may at this; simp [*]; done)
        | (have := H.out; unfold Rg.may at this; simp [*]; omega)
theorem rword_any (A : Option Addr) (n c : Nat) (z : Nat → Int) (a x : Int) (hx : wd n z a = x) (a0 : 0 ≤ a) (hn : n ≤ 140737488355328) (w : World) (hr : Row .u16 w A n z) (hz : ∀ i, i < n → 0 ≤ z i ∧ z i ≤ 65535) :
    Calls Tryz.prog 80 #[.slice A n c, .int .i64 a] w fun e w' => e = .returned (.int .u16 x) ∧ w = w' := by
  obtain ⟨i, rfl⟩ := Int.eq_ofNat_of_zero_le a0
  try simp only [Int.ofNat_eq_natCast] at *
  by_cases h : i < n
  · obtain ⟨p, rfl, hc⟩ := hr i h
    have hb := hz i h
    have e : z i % 32768 = x := by rw [← hx]; unfold wd; rw [if_neg (by omega)]; simp
    have HX := Lib.hid e
    have e1 : IntKind.u16.wrap (z i % 32768) = z i % 32768 := IntWalk.u16_in _ (by omega)
    clear hr hz hx e
    go_enter Tryz.func80, Tryz.ntmps80
    go_wp2_with (go_at_call 87; refine (rLow_any _ (by omega) (by omega) _).mono ?_; rintro e w1 ⟨rfl, rfl⟩)
    go_ret
    exact ⟨ret_int HX.out, rfl⟩
  · have e : 0 = x := by rw [← hx]; unfold wd; rw [if_pos (by omega)]
    have HX := Lib.hid e
    clear hr hz hx e
    go_enter Tryz.func80, Tryz.ntmps80
    go_wp2
    go_ret
    exact ⟨ret_int HX.out, rfl⟩
theorem below2 (w : World) (o o' : Obj) : Below w.heap.size w ((w.alloc o).alloc o') := ((Below.refl _ _).alloc (Nat.le_refl _) _).alloc (by simp) _
set_option maxHeartbeats 1000000 in
theorem rafter_any (s a x : Int) (hx : nxt s a = x) (a0 : 0 ≤ a) (a1 : a ≤ 65535) (w : World) :
    Calls Tryz.prog 118 #[.agg #[.int .u8 s, .int .i64 a]] w fun e w' => e = .returned (.agg #[.int .u8 s, .int .i64 x]) ∧ Below w.heap.size w w' := by
  unfold nxt at hx
  by_cases h : s = 2
  · subst h
    rw [if_pos rfl] at hx
    by_cases h2 : 36863 < a + 1
    · rw [if_pos h2] at hx
      subst hx
      go_enter Tryz.func118, Tryz.ntmps118
      go_wp2
      exact ret_struct1 Tryz.results118 Tryz.underlying59 [.int .u8 2, .int .i64 0] (by kernel_rfl) (w.heap.size + 1) rfl (at_allocN (by simp) [.int .u8 2, .int .i64 0]) rfl ⟨rfl, below2 _ _ _⟩
    · rw [if_neg h2] at hx
      subst hx
      go_enter Tryz.func118, Tryz.ntmps118
      go_wp2
      exact ret_struct1 Tryz.results118 Tryz.underlying59 [.int .u8 2, .int .i64 (a + 1)] (by kernel_rfl) (w.heap.size + 1) rfl (at_allocN (by simp) [.int .u8 2, .int .i64 (a + 1)]) rfl ⟨rfl, below2 _ _ _⟩
  · rw [if_neg h] at hx
    have t : (s == 2) = false := by rw [beq_eq_false_iff_ne]; exact h
    by_cases h2 : 2047 < a + 1
    · rw [if_pos h2] at hx
      subst hx
      go_enter Tryz.func118, Tryz.ntmps118
      go_wp2
      exact ret_struct1 Tryz.results118 Tryz.underlying59 [.int .u8 s, .int .i64 0] (by kernel_rfl) (w.heap.size + 1) rfl (at_allocN (by simp) [.int .u8 s, .int .i64 0]) rfl ⟨rfl, below2 _ _ _⟩
    · rw [if_neg h2] at hx
      subst hx
      go_enter Tryz.func118, Tryz.ntmps118
      go_wp2
      exact ret_struct1 Tryz.results118 Tryz.underlying59 [.int .u8 s, .int .i64 (a + 1)] (by kernel_rfl) (w.heap.size + 1) rfl (at_allocN (by simp) [.int .u8 s, .int .i64 (a + 1)]) rfl ⟨rfl, below2 _ _ _⟩
theorem bank_bd {r : Rg} (h : r.may) : 0 ≤ mBankV r.FB r.Su ∧ mBankV r.FB r.Su ≤ 35 := by
  obtain ⟨_, _, _, _, _, _, e0, e1, f0, f1, s0, s1⟩ := h
  unfold mBankV; repeat (first | omega | split)
theorem abs_eq {r : Rg} (h : r.may) {k : Int} (k0 : 0 ≤ k) (k1 : k ≤ 4095) : mAbsS k r.EB (mBankV r.FB r.Su) = spc k ∧ mAbsA k r.EB (mBankV r.FB r.Su) = adr r k ∧ mAbsE k r.EB (mBankV r.FB r.Su) = 0 := by
  have hb := bank_bd h
  obtain ⟨_, _, _, _, _, _, e0, e1, f0, f1, s0, s1⟩ := h
  have ok : mAbsOk k r.EB (mBankV r.FB r.Su) := ⟨k0, k1, e0, e1, hb.1, hb.2⟩
  unfold mAbsS mAbsA mAbsE spc adr
  rw [if_pos ok, if_pos ok, if_pos ok]
  exact ⟨rfl, rfl, rfl⟩
theorem bankE_or (a b : Int) : mBankE a b = 0 ∨ (mBankE a b = 3 ∧ mBankV a b = 0) := by
  unfold mBankE mBankV
  repeat (first | (exact .inl rfl) | (exact .inr ⟨rfl, rfl⟩) | split)
set_option maxHeartbeats 2000000 in
theorem rfind_yes (r : Rg) (hm : r.may) (k s a : Int) (k0 : 0 ≤ k) (k1 : k ≤ 4095) (hh : has r k) (hs : spc k = s) (ha : adr r k = a) (w : World) :
    Calls Tryz.prog 42 #[.agg #[.int .u16 r.A, .int .u16 r.L, .int .u16 r.Q, .int .i64 r.Z, .int .i64 r.EB, .int .i64 r.FB, .int .i64 r.Su, .bool r.Ex, .int .u16 r.Ix, .bool r.Hd, .int .u16 r.B, .bool r.Ih, .bool r.Sv], .int .i64 k] w fun e w' => e = .returned (.tuple #[.agg #[.int .u8 s, .int .i64 a], .int .i64 0]) ∧ Below w.heap.size w w' := by
  have hb := bank_bd hm
  obtain ⟨q1, q2, q3⟩ := abs_eq hm k0 k1
  obtain ⟨_, _, _, _, _, _, e0, e1, f0, f1, s0, s1⟩ := hm
  obtain ⟨n, hn⟩ : ∃ n, mBankV r.FB r.Su = n := ⟨_, rfl⟩
  rw [hn] at q1 q2 q3 hb
  rw [← hs, ← ha]
  have HS := Lib.hid q1
  have HA := Lib.hid q2
  have HE := Lib.hid q3
  have HN := Lib.hid hn
  clear q1 q2 q3 hs ha
  rcases bankE_or r.FB r.Su with hE | ⟨hE, hV⟩
  · have HB := Lib.hid hE
    clear hE hn hh
    go_enter Tryz.func42, Tryz.ntmps42
    go_wp2_with (first
      | (go_at_call 77; refine (rBank_any r.FB r.Su (by omega) (by omega) (by omega) (by omega) _).mono ?_; rintro e w1 ⟨rfl, rfl⟩; rw [HN.out, HB.out])
      | (go_at_call 78; refine (rAbsolute_any k r.EB n (by omega) (by omega) (by omega) (by omega) (by omega) (by omega) _).mono ?_; rintro e w1 ⟨rfl, rfl⟩; rw [HS.out, HA.out, HE.out]))
    exact ret_struct2 Tryz.results42 Tryz.underlying59 [.int .u8 (spc k), .int .i64 (adr r k)] (by kernel_rfl) (w.heap.size + 1) rfl (at_allocN (by simp) [.int .u8 (spc k), .int .i64 (adr r k)]) (.int .i64 0) rfl rfl ⟨rfl, below2 _ _ _⟩
  · have HB := Lib.hid hE
    have e : n = 0 := by rw [← hn]; exact hV
    subst e
    have hk : k < 1024 ∨ 2047 < k := by unfold has at hh; omega
    clear hE hn hh hV
    rcases hk with hk | hk
    all_goals
      go_enter Tryz.func42, Tryz.ntmps42
      go_wp2_with (first
        | (go_at_call 77; refine (rBank_any r.FB r.Su (by omega) (by omega) (by omega) (by omega) _).mono ?_; rintro e w1 ⟨rfl, rfl⟩; rw [HN.out, HB.out])
        | (go_at_call 78; refine (rAbsolute_any k r.EB 0 (by omega) (by omega) (by omega) (by omega) (by omega) (by omega) _).mono ?_; rintro e w1 ⟨rfl, rfl⟩; rw [HS.out, HA.out, HE.out]))
      exact ret_struct2 Tryz.results42 Tryz.underlying59 [.int .u8 (spc k), .int .i64 (adr r k)] (by kernel_rfl) (w.heap.size + 1) rfl (at_allocN (by simp) [.int .u8 (spc k), .int .i64 (adr r k)]) (.int .i64 0) rfl rfl ⟨rfl, below2 _ _ _⟩
set_option maxHeartbeats 2000000 in
theorem rfind_no (r : Rg) (hm : r.may) (k : Int) (k0 : 0 ≤ k) (k1 : k ≤ 4095) (hh : ¬ has r k) (w : World) :
    Calls Tryz.prog 42 #[.agg #[.int .u16 r.A, .int .u16 r.L, .int .u16 r.Q, .int .i64 r.Z, .int .i64 r.EB, .int .i64 r.FB, .int .i64 r.Su, .bool r.Ex, .int .u16 r.Ix, .bool r.Hd, .int .u16 r.B, .bool r.Ih, .bool r.Sv], .int .i64 k] w fun e w' => e = .returned (.tuple #[.agg #[.int .u8 0, .int .i64 0], .int .i64 3]) ∧ Below w.heap.size w w' := by
  obtain ⟨_, _, _, _, _, _, e0, e1, f0, f1, s0, s1⟩ := hm
  unfold has at hh
  obtain ⟨hE, hk0, hk1⟩ := Decidable.not_not.1 hh
  have HB : Hid (mBankE r.FB r.Su = 3) := by rcases bankE_or r.FB r.Su with c | ⟨c, _⟩; exact absurd c hE; exact c
  clear hE hh
  go_enter Tryz.func42, Tryz.ntmps42
  go_wp2_with (go_at_call 77; refine (rBank_any r.FB r.Su (by omega) (by omega) (by omega) (by omega) _).mono ?_; rintro e w1 ⟨rfl, rfl⟩; rw [HB.out])
  exact ret_struct2 Tryz.results42 Tryz.underlying59 [.int .u8 0, .int .i64 0] (by kernel_rfl) (w.heap.size + 1) rfl (at_allocN (by simp) [.int .u8 0, .int .i64 0]) (.int .i64 3) rfl rfl ⟨rfl, below2 _ _ _⟩
end Go.Proofs.YtjjkikghfmnikaaGreatDoor

/- Contracts of layer 5: the reference's values and Load. -/
set_option linter.unusedSimpArgs false
set_option linter.unusedVariables false
namespace Go.Proofs.YtjjkikghfmnikaaGreatDoor
open Go.ChangeShapes Go.WideShapes Go.ChangeAt Go.RowKit
theorem wd_bd (n : Nat) (z : Nat → Int) (a : Int) : 0 ≤ wd n z a ∧ wd n z a ≤ 32767 := by unfold wd; split <;> omega
/-- The three boxes that 'value' makes. -/
theorem below3 (w : World) (o o' o'' : Obj) : Below w.heap.size w (((w.alloc o).alloc o').alloc o'') := (below2 w o o').alloc (by simp; omega) _
theorem ret_vb {a b : Int} {c d : Bool} (h : a = b) (h' : c = d) : Ending.returned (.tuple #[.int .u16 a, .bool c]) = .returned (.tuple #[.int .u16 b, .bool d]) := by rw [h, h']
set_option maxHeartbeats 4000000 in
theorem rvalue_any (r : Rg) (hm : r.may) (hA : 0 ≤ r.A ∧ r.A ≤ 65535) (hf : r.Fit) (v : Vw) (ea : Option Addr) (ec : Nat) (fa : Option Addr) (fc : Nat) (ca : Option Addr) (cc : Nat) (s a x : Int) (m : Bool) (hx : val r v s a = x) (hi : decide (isW s a) = m) (hs : s = 1 ∨ s = 2) (a0 : 0 ≤ a) (w : World) (hv : VwAt w v ea fa ca) :
    Calls Tryz.prog 43 #[.agg #[.int .u16 r.A, .int .u16 r.L, .int .u16 r.Q, .int .i64 r.Z, .int .i64 r.EB, .int .i64 r.FB, .int .i64 r.Su, .bool r.Ex, .int .u16 r.Ix, .bool r.Hd, .int .u16 r.B, .bool r.Ih, .bool r.Sv], .agg #[.slice ea v.ne ec, .slice fa v.nf fc, .slice ca v.nc cc], .agg #[.int .u8 s, .int .i64 a]] w fun e w' => e = .returned (.tuple #[.int .u16 x, .bool m]) ∧ Below w.heap.size w w' := by
  have HV := Lib.hid (((hv.alloc (.cells #[.int .u16 r.A, .int .u16 r.L, .int .u16 r.Q, .int .i64 r.Z, .int .i64 r.EB, .int .i64 r.FB, .int .i64 r.Su, .bool r.Ex, .int .u16 r.Ix, .bool r.Hd, .int .u16 r.B, .bool r.Ih, .bool r.Sv] 26)).alloc (.cells #[.slice ea v.ne ec, .slice fa v.nf fc, .slice ca v.nc cc] 29)).alloc (.cells #[.int .u8 s, .int .i64 a] 59))
  clear hv
  obtain ⟨_, _, _, _, _, _, e0, e1, f0, f1, s0, s1⟩ := hm
  have fL := hf.L
  have fQ := hf.Q
  have fZ := hf.Z
  have HX := Lib.hid hx
  have HI := Lib.hid hi
  rcases hs with rfl | rfl
  · by_cases c : a < 8
    · have ca : a = 0 ∨ a = 1 ∨ a = 2 ∨ a = 3 ∨ a = 4 ∨ a = 5 ∨ a = 6 ∨ a = 7 := by omega
      clear hx hi
      rcases ca with rfl | rfl | rfl | rfl | rfl | rfl | rfl | rfl
      all_goals
        go_enter Tryz.func43, Tryz.ntmps43
        go_wp2_with (go_at_call 79; refine (rExtend_any _ (by omega) (by omega) _).mono ?_; rintro e w1 ⟨rfl, rfl⟩)
        go_ret2
        exact ⟨ret_vb HX.out HI.out, below3 _ _ _ _⟩
    · have e : oExt (wd v.ne v.ze a) = x := by rw [← hx]; unfold val; rw [if_neg (by decide), if_neg (by omega), if_neg (by omega), if_neg (by omega), if_neg (by omega), if_neg (by omega), if_neg (by omega), if_neg (by omega), if_neg (by omega)]
      have HE := Lib.hid e
      have hb := wd_bd v.ne v.ze a
      have HM : Hid (true = m) := by rw [← hi]; exact (decide_eq_true (Or.inr (Or.inr (by omega)))).symm
      clear hx hi e
      go_enter Tryz.func43, Tryz.ntmps43
      go_wp2_with (first
        | (go_at_call 80; refine (rword_any ea v.ne ec v.ze a _ rfl a0 HV.out.le _ HV.out.e HV.out.be).mono ?_; rintro e w1 ⟨rfl, rfl⟩)
        | (go_at_call 79; refine (rExtend_any _ (by omega) (by omega) _).mono ?_; rintro e w1 ⟨rfl, rfl⟩))
      go_ret2
      exact ⟨ret_vb HE.out HM.out, below3 _ _ _ _⟩
  · have e : oExt (wd v.nf v.zf a) = x := by rw [← hx]; unfold val; rw [if_pos rfl]
    have HE := Lib.hid e
    have hb := wd_bd v.nf v.zf a
    have HM : Hid (true = m) := by rw [← hi]; exact (decide_eq_true (Or.inl rfl)).symm
    clear hx hi e
    go_enter Tryz.func43, Tryz.ntmps43
    go_wp2_with (first
      | (go_at_call 80; refine (rword_any fa v.nf fc v.zf a _ rfl a0 HV.out.lf _ HV.out.f HV.out.bf).mono ?_; rintro e w1 ⟨rfl, rfl⟩)
      | (go_at_call 79; refine (rExtend_any _ (by omega) (by omega) _).mono ?_; rintro e w1 ⟨rfl, rfl⟩))
    go_ret2
    exact ⟨ret_vb HE.out HM.out, below3 _ _ _ _⟩
end Go.Proofs.YtjjkikghfmnikaaGreatDoor
