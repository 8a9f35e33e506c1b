/- Contracts of layer 6: Apply. -/
import Derived.Test.YteongalbljdjlaaP06
import Derived.Test.YteongalbljdjlaaBlk
import Derived.Lib.Hide
set_option linter.unusedSimpArgs false
set_option linter.unusedVariables false
set_option maxRecDepth 100000
namespace Go.Proofs.Yteongalbljdjlaa
open Go.ChangeShapes Go.WideShapes Go.ChangeAt Go.RowKit
/-- All blocks from B on stay as they are. -/
def Kept (B : Nat) (w W : World) : Prop := w.heap.size ≤ W.heap.size ∧ ∀ p : Addr, B ≤ p.block → p.block < w.heap.size → W.cell? p = w.cell? p
theorem Kept.refl (B : Nat) (w : World) : Kept B w w := ⟨Nat.le_refl _, fun _ _ _ => rfl⟩
theorem Kept.trans {B : Nat} {w W V : World} (h : Kept B w W) (k : Kept B W V) : Kept B w V :=
  ⟨Nat.le_trans h.1 k.1, fun p h0 h1 => (k.2 p h0 (Nat.lt_of_lt_of_le h1 h.1)).trans (h.2 p h0 h1)⟩
theorem kept_below {B : Nat} {w W : World} (h : Below w.heap.size w W) : Kept B w W := ⟨h.size, fun p _ h1 => h.cell h1⟩
theorem kept_setCell {B : Nat} (w : World) (p : Addr) (v : Value) (h : p.block < B) : Kept B w (w.setCell p v) :=
  ⟨by simp, fun q h0 h1 => by
    have : q ≠ p := fun e => by subst e; omega
    exact World.cell?_setCell_other _ _ _ _ (Ne.symm this)⟩
/-- v is a change of the kind k, in every later world. -/
def Chg (v : Value) (k : Int) (B : Nat) (w : World) : Prop := ∃ (fid : FuncId) (caps : List Value), v = .func (.func fid) #[] caps.toArray ∧
  (∀ (args : Array Value) (W : World), args.size = caps.length + 1 → (callFunc fid args).run Try.prog W = .ok (.enter fid args) W) ∧
  ∀ (W : World), Kept B w W → ∀ x, 0 ≤ x → x < 32768 → Calls Try.prog fid (.int .u16 x :: caps).toArray W fun e W' => e = .returned (.tuple #[.int .u16 (pW x k), .int .i64 (pS x k)]) ∧ ∃ n, W' = W.drewN n
theorem Chg.kept {v : Value} {k : Int} {B : Nat} {w w' : World} (h : Chg v k B w) (hb : Kept B w w') : Chg v k B w' := by
  obtain ⟨fid, caps, rfl, h0, h⟩ := h
  exact ⟨fid, caps, rfl, h0, fun W hW => h W (hb.trans hW)⟩
theorem Chg.below {v : Value} {k : Int} {B : Nat} {w w' : World} (h : Chg v k B w) (hb : Below w.heap.size w w') : Chg v k B w' := h.kept (kept_below hb)
theorem Chg.shape {v : Value} {k : Int} {B : Nat} {w : World} (h : Chg v k B w) : ∃ (fid : FuncId) (caps : Array Value), v = .func (.func fid) #[] caps := by
  obtain ⟨fid, caps, rfl, _⟩ := h
  exact ⟨fid, _, rfl⟩
def RetChg (k : Int) (B : Nat) (w : World) (e : Ending) (w' : World) : Prop := ∃ v, e = .returned v ∧ Chg v k B w' ∧ Below w.heap.size w w'
theorem Blk.kept {w W : World} {g B : Nat} {l : List Value} (h : Blk w g l) (hb : Kept B w W) (hg : g < w.heap.size) (hB : B ≤ g) (j : Nat) (v : Value) (e : l[j]? = some v) : W.cell? ⟨g, j, none⟩ = some v := (hb.2 ⟨g, j, none⟩ hB hg).trans (h j v e).1
set_option maxHeartbeats 1000000 in
theorem turned1_any (k s : Int) (hk : (k = 3 ∧ s = 1) ∨ (k = 4 ∧ s = 32767)) (g : Nat) (w : World) (hg : w.cell? ⟨g, 0, none⟩ = some (.int .u16 s)) (x : Int) (x0 : 0 ≤ x) (x1 : x < 32768) :
    Calls Try.prog 35 #[.int .u16 x, .pointer (some ⟨g, 0, none⟩)] w fun e w' => e = .returned (.tuple #[.int .u16 (pW x k), .int .i64 (pS x k)]) ∧ ∃ n, w' = w.drewN n := by
  have hb := and15 (x + s) (by omega) (by omega)
  have e1 : (x + s) % 32768 = pW x k := by unfold pW; rcases hk with ⟨rfl, rfl⟩ | ⟨rfl, rfl⟩ <;> simp <;> omega
  have e2 : pS x k = 0 := by unfold pS; rcases hk with ⟨rfl, rfl⟩ | ⟨rfl, rfl⟩ <;> simp
  rw [e1] at hb
  rw [e2]
  go_enter Try.func35, Try.ntmps35
  go_wp2
  go_ret2
  exact ⟨rfl, 0, rfl⟩
set_option maxHeartbeats 1000000 in
theorem counted1_any (k s l f g : Int) (hk : (k = 1 ∧ s = 1 ∧ l = 16383 ∧ f = 0 ∧ g = 1) ∨ (k = 2 ∧ s = 32766 ∧ l = 16384 ∧ f = 32767 ∧ g = -1)) (b1 b2 b3 b4 : Nat) (w : World)
    (h1 : w.cell? ⟨b1, 0, none⟩ = some (.int .u16 l)) (h2 : w.cell? ⟨b2, 0, none⟩ = some (.int .u16 f)) (h3 : w.cell? ⟨b3, 0, none⟩ = some (.int .i64 g)) (h4 : w.cell? ⟨b4, 0, none⟩ = some (.int .u16 s)) (x : Int) (x0 : 0 ≤ x) (x1 : x < 32768) :
    Calls Try.prog 36 #[.int .u16 x, .pointer (some ⟨b1, 0, none⟩), .pointer (some ⟨b2, 0, none⟩), .pointer (some ⟨b3, 0, none⟩), .pointer (some ⟨b4, 0, none⟩)] w fun e w' => e = .returned (.tuple #[.int .u16 (pW x k), .int .i64 (pS x k)]) ∧ ∃ n, w' = w.drewN n := by
  have s0 : 0 ≤ s ∧ s < 65536 := by omega
  have HA := Lib.hid (show x = l → pW x k = f ∧ pS x k = g by unfold pW pS; rcases hk with ⟨rfl, rfl, rfl, rfl, rfl⟩ | ⟨rfl, rfl, rfl, rfl, rfl⟩ <;> intro h <;> subst h <;> simp)
  have HB := Lib.hid (show x ≠ l → pW x k = oAdd x s ∧ pS x k = 0 by unfold pW pS; rcases hk with ⟨rfl, rfl, rfl, rfl, rfl⟩ | ⟨rfl, rfl, rfl, rfl, rfl⟩ <;> intro h <;> simp [h])
  clear hk
  go_enter Try.func36, Try.ntmps36
  by_cases c : x = l
  · have hc : (x == l) = true := by simp [c]
    obtain ⟨e1, e2⟩ := HA.out c
    rw [e1, e2]
    clear e1 e2 c
    go_wp2
    go_region
    rename_i K hK
    refine hK _ _ (wp_ret ?_)
    clear hK
    go_ret2
    exact ⟨rfl, 1, rfl⟩
  · have hc : (x == l) = false := by simp [c]
    obtain ⟨e1, e2⟩ := HB.out c
    rw [e1, e2]
    clear e1 e2 c
    go_wp2_with (go_at_call 37; refine (Add_any x (by omega) (by omega) s s0.1 s0.2 _).mono ?_; rintro e w' ⟨rfl, rfl⟩)
    go_ret2
    exact ⟨rfl, 0, rfl⟩
set_option maxHeartbeats 1000000 in
theorem shifted1_any (k s : Int) (hk : (k = 6 ∧ s = 0) ∨ (k = 7 ∧ s = 1)) (g : Nat) (w : World) (hg : w.cell? ⟨g, 0, none⟩ = some (.int .u16 s)) (x : Int) (x0 : 0 ≤ x) (x1 : x < 32768) :
    Calls Try.prog 39 #[.int .u16 x, .pointer (some ⟨g, 0, none⟩)] w fun e w' => e = .returned (.tuple #[.int .u16 (pW x k), .int .i64 (pS x k)]) ∧ ∃ n, w' = w.drewN n := by
  have hb := andBit14 x x0 (by omega)
  have hc : bits .or .u16 (x * 2) s = x * 2 + s := or_join 1 (x * 2) s (by omega) (by omega) (by omega) (by omega) (by omega) (by omega)
  have hd := and15 (x * 2 + s) (by omega) (by omega)
  have e1 : (x * 2 + s) % 32768 = pW x k := by unfold pW; rcases hk with ⟨rfl, rfl⟩ | ⟨rfl, rfl⟩ <;> simp <;> omega
  rw [e1] at hd
  have e2 : x / 16384 % 2 = pS x k := by
    unfold pS
    rcases hk with ⟨rfl, rfl⟩ | ⟨rfl, rfl⟩ <;> simp <;> split <;> omega
  have e3 := Lib.hid e2
  clear e2 e1
  go_enter Try.func39, Try.ntmps39
  go_wp2
  go_ret2
  exact ⟨by rw [← e3.out]; rfl, 0, rfl⟩
set_option maxHeartbeats 1000000 in
theorem dim1_any (vu vd : Value) (B : Nat) (w0 : World) (hu : Chg vu 3 B w0) (hd : Chg vd 4 B w0) (b1 b2 : Nat) (w : World) (hw : Kept B w0 w) (h1 : w.cell? ⟨b1, 0, none⟩ = some vd) (h2 : w.cell? ⟨b2, 0, none⟩ = some vu) (x : Int) (x0 : 0 ≤ x) (x1 : x < 32768) :
    Calls Try.prog 38 #[.int .u16 x, .pointer (some ⟨b1, 0, none⟩), .pointer (some ⟨b2, 0, none⟩)] w fun e w' => e = .returned (.tuple #[.int .u16 (pW x 5), .int .i64 (pS x 5)]) ∧ ∃ n, w' = w.drewN n := by
  obtain ⟨fu, cu, rfl, hu0, hu1⟩ := hu
  obtain ⟨fd, cd, rfl, hd0, hd1⟩ := hd
  have HU := Lib.hid (hu1 w hw x x0 x1)
  have HD := Lib.hid (hd1 w hw x x0 x1)
  have HU0 := Lib.hid hu0
  have HD0 := Lib.hid hd0
  clear hu1 hd1 hw
  go_enter Try.func38, Try.ntmps38
  by_cases c0 : x = 0 ∨ x = 32767
  · have e1 : oVal x = 0 := by unfold oVal; split <;> omega
    have e2 : pW x 5 = x := by unfold pW; simp [c0]
    have e3 : pS x 5 = 0 := by unfold pS; simp [c0]
    rw [e2, e3]
    clear e2 e3 c0 hu0 hd0
    go_wp2_with (go_at_call 15; refine (Value_any x (by omega) (by omega) _).mono ?_; rintro e w' ⟨rfl, rfl⟩; rw [e1])
    go_ret2
    exact ⟨rfl, 0, rfl⟩
  · by_cases c1 : x ≤ 16383
    · have e1 : oVal x = x := by unfold oVal; split <;> omega
      have e2 : pW x 5 = pW x 4 := by unfold pW; simp [c0, c1]; omega
      have e3 : pS x 5 = 1 := by unfold pS; simp [c0, c1]
      have p0 : 0 < x := by omega
      rw [e2, e3]
      have hcf := fun W => hd0 (.int .u16 x :: cd).toArray W (by simp)
      clear e2 e3 c0 hu0 hd0
      go_wp2_with (first | (go_at_call 15; refine (Value_any x (by omega) (by omega) _).mono ?_; rintro e w' ⟨rfl, rfl⟩; rw [e1]) | (with_reducible refine HD.out.mono ?_; rintro e w' ⟨rfl, n, rfl⟩))
      go_ret2
      exact ⟨rfl, n, rfl⟩
    · have e1 : oVal x = x - 32767 := by unfold oVal; split <;> omega
      have e2 : pW x 5 = pW x 3 := by unfold pW; simp [c0, c1]; omega
      have e3 : pS x 5 = -1 := by unfold pS; simp [c0, c1]
      have p0 : x < 32767 := by omega
      have p1 : 16383 < x := by omega
      obtain ⟨y, hy⟩ : ∃ y, x - 32767 = y := ⟨_, rfl⟩
      rw [hy] at e1
      have p2 : y < 0 := by omega
      have p3 : ¬ (0 < y) := by omega
      rw [e2, e3]
      have hcf := fun W => hu0 (.int .u16 x :: cu).toArray W (by simp)
      clear e2 e3 c0 hu0 hd0 hy
      go_wp2_with (first | (go_at_call 15; refine (Value_any x (by omega) (by omega) _).mono ?_; rintro e w' ⟨rfl, rfl⟩; rw [e1]) | (with_reducible refine HU.out.mono ?_; rintro e w' ⟨rfl, n, rfl⟩))
      go_ret2
      exact ⟨rfl, n, rfl⟩
set_option maxHeartbeats 1000000 in
theorem turned_any (k s : Int) (hk : (k = 3 ∧ s = 1) ∨ (k = 4 ∧ s = 32767)) (B : Nat) (w : World) (hB : B ≤ w.heap.size) :
    Calls Try.prog 31 #[.int .u16 s] w (RetChg k B w) := by
  go_enter Try.func31, Try.ntmps31
  go_wp2
  go_ret
  exact ⟨_, rfl, ⟨35, [.pointer (some ⟨w.heap.size, 0, none⟩)], rfl, fun args W h => by
    simp at h
    refine Eq.trans ?_ rfl; kernel_rfl, fun W hW x x0 x1 => turned1_any k s hk w.heap.size W ((hW.2 ⟨w.heap.size, 0, none⟩ hB (by simp)).trans (World.cell?_alloc_at _ _ _ _ rfl)) x x0 x1⟩, (Below.refl _ _).alloc (Nat.le_refl _) _⟩
set_option maxHeartbeats 1000000 in
theorem shifted_any (k s : Int) (hk : (k = 6 ∧ s = 0) ∨ (k = 7 ∧ s = 1)) (B : Nat) (w : World) (hB : B ≤ w.heap.size) :
    Calls Try.prog 34 #[.int .u16 s] w (RetChg k B w) := by
  go_enter Try.func34, Try.ntmps34
  go_wp2
  go_ret
  exact ⟨_, rfl, ⟨39, [.pointer (some ⟨w.heap.size, 0, none⟩)], rfl, fun args W h => by
    simp at h
    refine Eq.trans ?_ rfl; kernel_rfl, fun W hW x x0 x1 => shifted1_any k s hk w.heap.size W ((hW.2 ⟨w.heap.size, 0, none⟩ hB (by simp)).trans (World.cell?_alloc_at _ _ _ _ rfl)) x x0 x1⟩, (Below.refl _ _).alloc (Nat.le_refl _) _⟩
set_option maxHeartbeats 1000000 in
theorem diminished_any (vu vd : Value) (B : Nat) (w0 w : World) (hu : Chg vu 3 B w0) (hd : Chg vd 4 B w0) (hw : Kept B w0 w) (hB : B ≤ w.heap.size) :
    Calls Try.prog 33 #[vu, vd] w (RetChg 5 B w) := by
  have HU := Lib.hid hu
  have HD := Lib.hid hd
  have HW := Lib.hid hw
  obtain ⟨fu, cu, rfl, hu0, hu1⟩ := hu
  obtain ⟨fd, cd, rfl, hd0, hd1⟩ := hd
  clear hu0 hu1 hd0 hd1 hw
  go_enter Try.func33, Try.ntmps33
  go_wp2
  go_ret
  refine ⟨_, rfl, ⟨38, [.pointer (some ⟨w.heap.size + 1, 0, none⟩), .pointer (some ⟨w.heap.size, 0, none⟩)], rfl, fun args W h => by
    simp at h
    refine Eq.trans ?_ rfl; kernel_rfl, fun W hW x x0 x1 => ?_⟩, ((Below.refl _ _).alloc (Nat.le_refl _) _).alloc (by simp) _⟩
  have B1 := ((Blk.new w 61 [.func (.func fu) #[] cu.toArray] _ rfl).alloc (by simp) (.cells #[.func (.func fd) #[] cd.toArray] 61)).kept hW (by simp; omega) hB
  have B2 := (Blk.new (w.alloc (.cells #[.func (.func fu) #[] cu.toArray] 61)) 61 [.func (.func fd) #[] cd.toArray] (w.heap.size + 1) (by simp)).kept hW (by simp) (by omega)
  exact dim1_any _ _ B w0 HU.out HD.out (w.heap.size + 1) w.heap.size W (HW.out.trans ((kept_below (((Below.refl w.heap.size w).alloc (Nat.le_refl _) _).alloc (by simp) _)).trans hW)) (B2 0 _ rfl) (B1 0 _ rfl) x x0 x1
set_option maxHeartbeats 1000000 in
theorem counted_any (k s l f g : Int) (hk : (k = 1 ∧ s = 1 ∧ l = 16383 ∧ f = 0 ∧ g = 1) ∨ (k = 2 ∧ s = 32766 ∧ l = 16384 ∧ f = 32767 ∧ g = -1)) (B : Nat) (w : World) (hB : B ≤ w.heap.size) :
    Calls Try.prog 32 #[.int .u16 s, .int .u16 l, .int .u16 f, .int .i64 g] w (RetChg k B w) := by
  have HK := Lib.hid hk
  clear hk
  go_enter Try.func32, Try.ntmps32
  go_wp2
  go_ret
  refine ⟨_, rfl, ⟨36, [.pointer (some ⟨w.heap.size + 1, 0, none⟩), .pointer (some ⟨w.heap.size + 1 + 1, 0, none⟩), .pointer (some ⟨w.heap.size + 1 + 1 + 1, 0, none⟩), .pointer (some ⟨w.heap.size, 0, none⟩)], rfl, fun args W h => by
    simp at h
    refine Eq.trans ?_ rfl; kernel_rfl, fun W hW x x0 x1 => ?_⟩, ((((Below.refl _ _).alloc (Nat.le_refl _) _).alloc (by simp) _).alloc (by simp; omega) _).alloc (by simp; omega) _⟩
  have B1 := ((((Blk.new w 35 [.int .u16 s] _ rfl).alloc (by simp) (.cells #[.int .u16 l] 35)).alloc (by simp; omega) (.cells #[.int .u16 f] 35)).alloc (by simp; omega) (.cells #[.int .i64 g] 3)).kept hW (by simp; omega) hB
  have B2 := (((Blk.new (w.alloc (.cells #[.int .u16 s] 35)) 35 [.int .u16 l] (w.heap.size + 1) (by simp)).alloc (by simp) (.cells #[.int .u16 f] 35)).alloc (by simp; try omega) (.cells #[.int .i64 g] 3)).kept hW (by simp; try omega) (by omega)
  have B3 := ((Blk.new ((w.alloc (.cells #[.int .u16 s] 35)).alloc (.cells #[.int .u16 l] 35)) 35 [.int .u16 f] (w.heap.size + 1 + 1) (by simp)).alloc (by simp) (.cells #[.int .i64 g] 3)).kept hW (by simp; try omega) (by omega)
  have B4 := (Blk.new (((w.alloc (.cells #[.int .u16 s] 35)).alloc (.cells #[.int .u16 l] 35)).alloc (.cells #[.int .u16 f] 35)) 3 [.int .i64 g] (w.heap.size + 1 + 1 + 1) (by simp)).kept hW (by simp) (by omega)
  exact counted1_any k s l f g HK.out _ _ _ _ W (B2 0 _ rfl) (B3 0 _ rfl) (B4 0 _ rfl) (B1 0 _ rfl) x x0 x1
/-- The table of the changes. -/
def RetTbl (w : World) (e : Ending) (w' : World) : Prop := ∃ v1 v2 v3 v4 v5 v6 v7, e = .returned (.agg #[.nilFunc, v1, v2, v3, v4, v5, v6, v7]) ∧ (∃ B, Chg v1 1 B w' ∧ Chg v2 2 B w' ∧ Chg v3 3 B w' ∧ Chg v4 4 B w' ∧ Chg v5 5 B w' ∧ Chg v6 6 B w' ∧ Chg v7 7 B w') ∧ Below w.heap.size w w'
end Go.Proofs.Yteongalbljdjlaa
