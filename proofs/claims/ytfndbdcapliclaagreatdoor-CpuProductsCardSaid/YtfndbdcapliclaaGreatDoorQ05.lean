/- Contracts of layer 5: the reference's Load. -/
import Derived.Test.YtfndbdcapliclaaGreatDoorQ04
import Derived.Test.YtfndbdcapliclaaGreatDoorQ01
import Derived.Deep.RegionHeld3
set_option linter.unusedSimpArgs false
set_option linter.unusedVariables false
namespace Go.Proofs.YtfndbdcapliclaaGreatDoor
open Go.ChangeShapes Go.WideShapes Go.ChangeAt Go.RowKit
/-- A slice of the call's own whose elements are pairs of numbers. -/
def OwnP (k1 k2 : IntKind) (T : TypeId) (w : World) (B : Nat) (v : Value) (L : List (Int × Int)) : Prop := Own2 T w B v L.length (fun i => .int k1 (L.getD i (0, 0)).1) (fun i => .int k2 (L.getD i (0, 0)).2)
theorem OwnP.nil (k1 k2 : IntKind) (T : TypeId) (w : World) (B : Nat) : OwnP k1 k2 T w B (.slice none 0 0) [] := Own2.nil _ _ _ _ _
theorem OwnP.below {k1 k2 : IntKind} {T : TypeId} {w w' : World} {B B' : Nat} {v : Value} {L : List (Int × Int)} (h : OwnP k1 k2 T w B v L) (hb : Below B' w w') (hB : w.heap.size ≤ B') : OwnP k1 k2 T w' B v L := Own2.below h hb hB
theorem OwnP.one (k1 k2 : IntKind) (T : TypeId) (w : World) (B g : Nat) (x y : Int) (hB : B ≤ w.heap.size) (hg : w.heap.size = g) : OwnP k1 k2 T (w.alloc (.cells #[.int k1 x, .int k2 y] T)) B (.slice (some ⟨g, 0, none⟩) 1 1) [(x, y)] := by
  subst hg
  have := World.ownsRow_lit w (e := T) (size := 2) (base := B) #[.int k1 x, .int k2 y] 1 hB (by unfold maxLen; omega) rfl
  exact this
theorem OwnP.low {k1 k2 : IntKind} {T : TypeId} {w : World} {B B' : Nat} {v : Value} {L : List (Int × Int)} (h : OwnP k1 k2 T w B v L) (hB : B' ≤ B) : OwnP k1 k2 T w B' v L := by
  refine ⟨h.1, ?_⟩
  rcases h.2 with hn | ⟨g, cap, cur, hv, hb, rest⟩
  · exact .inl hn
  · exact .inr ⟨g, cap, cur, hv, by omega, rest⟩
/-- The call returns a value, a list of spots and an error. -/
def LoadRet (x : Int) (L : List (Int × Int)) (er : Int) (w : World) (e : Ending) (w' : World) : Prop := ∃ vl, e = .returned (.tuple #[.int .u16 x, vl, .int .i64 er]) ∧ OwnP .u8 .i64 64 w' w.heap.size vl L ∧ Below w.heap.size w w'
theorem rds_yes {s a : Int} (h : isW s a) : rds s a = [(s, a)] := by unfold rds; rw [if_pos h]
theorem rds_no {s a : Int} (h : ¬ isW s a) : rds s a = [] := by unfold rds; rw [if_neg h]
theorem Load_arg (r : Rg) (hf : r.Fit) (h : ¬ r.may) (v : Vw) (ea : Option Addr) (ec : Nat) (fa : Option Addr) (fc : Nat) (ca : Option Addr) (cc : Nat) (k : Int) (w : World) :
    Calls Tryz.prog 15 #[.agg #[.int .u16 r.A, .int .u16 r.L, .int .u16 r.Q, .int .i64 r.Z, .int .i64 r.EB, .int .i64 r.FB, .int .i64 r.Su, .bool r.Ex, .int .u16 r.Ix, .bool r.Hd, .int .u16 r.B, .bool r.Ih, .bool r.Sv], .agg #[.slice ea v.ne ec, .slice fa v.nf fc, .slice ca v.nc cc], .int .i64 k] w (LoadRet 0 [] 2 w) := by
  have HF := Lib.hid (decide_eq_false h)
  clear h
  go_enter Tryz.func15, Tryz.ntmps15
  go_wp2_with (go_at_call 13; refine (rMay_any r false HF.out _).mono ?_; rintro e w1 ⟨rfl, hb⟩; (have X1 := Lib.hid ((below2 w _ _).trans (hb.mono (by simp; omega)))); clear hb)
  go_ret3
  exact ⟨_, rfl, OwnP.nil _ _ _ _ _, X1.out⟩
theorem Load_range (r : Rg) (hf : r.Fit) (h : r.may) (v : Vw) (ea : Option Addr) (ec : Nat) (fa : Option Addr) (fc : Nat) (ca : Option Addr) (cc : Nat) (k : Int) (hk : ¬ (0 ≤ k ∧ k ≤ 4095)) (w : World) :
    Calls Tryz.prog 15 #[.agg #[.int .u16 r.A, .int .u16 r.L, .int .u16 r.Q, .int .i64 r.Z, .int .i64 r.EB, .int .i64 r.FB, .int .i64 r.Su, .bool r.Ex, .int .u16 r.Ix, .bool r.Hd, .int .u16 r.B, .bool r.Ih, .bool r.Sv], .agg #[.slice ea v.ne ec, .slice fa v.nf fc, .slice ca v.nc cc], .int .i64 k] w (LoadRet 0 [] 3 w) := by
  have HF := Lib.hid (decide_eq_true h)
  have hk2 : k < 0 ∨ 4095 < k := by omega
  clear h hk
  rcases hk2 with hk | hk
  all_goals
    go_enter Tryz.func15, Tryz.ntmps15
    go_wp2_with (go_at_call 13; refine (rMay_any r true HF.out _).mono ?_; rintro e w1 ⟨rfl, hb⟩; (have X1 := Lib.hid ((below2 w _ _).trans (hb.mono (by simp; omega)))); clear hb)
    go_ret3
    exact ⟨_, rfl, OwnP.nil _ _ _ _ _, X1.out⟩
set_option maxHeartbeats 2000000 in
theorem Load_has (r : Rg) (hf : r.Fit) (h : r.may) (v : Vw) (ea : Option Addr) (ec : Nat) (fa : Option Addr) (fc : Nat) (ca : Option Addr) (cc : Nat) (k : Int) (k0 : 0 ≤ k) (k1 : k ≤ 4095) (hh : has r k) (w : World) (hv : VwAt w v ea fa ca) :
    Calls Tryz.prog 15 #[.agg #[.int .u16 r.A, .int .u16 r.L, .int .u16 r.Q, .int .i64 r.Z, .int .i64 r.EB, .int .i64 r.FB, .int .i64 r.Su, .bool r.Ex, .int .u16 r.Ix, .bool r.Hd, .int .u16 r.B, .bool r.Ih, .bool r.Sv], .agg #[.slice ea v.ne ec, .slice fa v.nf fc, .slice ca v.nc cc], .int .i64 k] w (LoadRet (val r v (spc k) (adr r k)) (rds (spc k) (adr r k)) 0 w) := by
  have HF := Lib.hid (decide_eq_true h)
  have HM := Lib.hid h
  have HH := Lib.hid hh
  have ab := adr_bd h k0 k1
  have ab2 : adr r k ≤ 36863 := by have := ab.2; split at this <;> omega
  have S := Lib.hid (spc_or k)
  have HV0 := Lib.hid hv
  clear h hh hv
  obtain ⟨s, hs⟩ : ∃ s, spc k = s := ⟨_, rfl⟩
  obtain ⟨a, ha⟩ : ∃ a, adr r k = a := ⟨_, rfl⟩
  obtain ⟨x, hx⟩ : ∃ x, val r v s a = x := ⟨_, rfl⟩
  rw [ha] at ab ab2
  rw [hs] at S
  rw [hs, ha, hx]
  have H1 := Lib.hid hs
  have H2 := Lib.hid ha
  have H3 := Lib.hid hx
  have ab0 := ab.1
  clear hs ha hx ab
  have big : 0 ≤ r.A ∧ r.A ≤ 65535 := hf.A
  have HFt := Lib.hid hf
  clear hf
  by_cases c : isW s a
  · have HC := Lib.hid (decide_eq_true c)
    rw [rds_yes c]
    clear c
    go_enter Tryz.func15, Tryz.ntmps15
    go_wp2_with (first
      | (go_at_call 13; refine (rMay_any r true HF.out _).mono ?_; rintro e w1 ⟨rfl, hb⟩; (obtain ⟨hk1, hl1⟩ := bcell hb); (have hz1 : w.heap.size + 1 < w1.heap.size := by have := hb.size; simp at this; omega); (have hy1 : w.heap.size < w1.heap.size := by omega); (have X1 := Lib.hid ((below2 w _ _).trans (hb.mono (by simp; omega)))); clear hb)
      | (go_at_call 41; refine (rfind_yes r HM.out k s a k0 k1 HH.out H1.out H2.out _).mono ?_; rintro e w2 ⟨rfl, hb⟩; (obtain ⟨hk2, hl2⟩ := bcell hb); (have hz2 : w.heap.size + 1 < w2.heap.size := by have := hb.size; omega); (have hy2 : w.heap.size < w2.heap.size := by omega); (have X2 := Lib.hid (X1.out.trans (hb.mono X1.out.size))); clear hb)
      | (go_at_call 42; refine (rvalue_any r HM.out big HFt.out v ea ec fa fc ca cc s a x true H3.out HC.out S.out ab0 _ ((HV0.out.below X2.out (Nat.le_refl _)).alloc _)).mono ?_; rintro e w3 ⟨rfl, hb⟩; (obtain ⟨hk3, hl3⟩ := bcell hb); (have hz3 : w2.heap.size < w3.heap.size := by have := hb.size; simp at this; omega); (have X3 := Lib.hid ((X2.out.alloc X2.out.size _).trans (hb.mono (by have := X2.out.size; simp; omega)))); clear hb))
    go_region
    go_wp2
    go_ret3
    exact ⟨_, rfl, OwnP.one .u8 .i64 _ w3 w.heap.size _ s a X3.out.size rfl, (X3.out.alloc X3.out.size _).drew⟩
  · have HC := Lib.hid (decide_eq_false c)
    rw [rds_no c]
    clear c
    go_enter Tryz.func15, Tryz.ntmps15
    go_wp2_with (first
      | (go_at_call 13; refine (rMay_any r true HF.out _).mono ?_; rintro e w1 ⟨rfl, hb⟩; (obtain ⟨hk1, hl1⟩ := bcell hb); (have hz1 : w.heap.size + 1 < w1.heap.size := by have := hb.size; simp at this; omega); (have hy1 : w.heap.size < w1.heap.size := by omega); (have X1 := Lib.hid ((below2 w _ _).trans (hb.mono (by simp; omega)))); clear hb)
      | (go_at_call 41; refine (rfind_yes r HM.out k s a k0 k1 HH.out H1.out H2.out _).mono ?_; rintro e w2 ⟨rfl, hb⟩; (obtain ⟨hk2, hl2⟩ := bcell hb); (have hz2 : w.heap.size + 1 < w2.heap.size := by have := hb.size; omega); (have hy2 : w.heap.size < w2.heap.size := by omega); (have X2 := Lib.hid (X1.out.trans (hb.mono X1.out.size))); clear hb)
      | (go_at_call 42; refine (rvalue_any r HM.out big HFt.out v ea ec fa fc ca cc s a x false H3.out HC.out S.out ab0 _ ((HV0.out.below X2.out (Nat.le_refl _)).alloc _)).mono ?_; rintro e w3 ⟨rfl, hb⟩; (have X3 := Lib.hid ((X2.out.alloc X2.out.size _).trans (hb.mono (by have := X2.out.size; simp; omega)))); clear hb))
    go_ret3
    exact ⟨_, rfl, OwnP.nil _ _ _ _ _, X3.out⟩
theorem Load_no (r : Rg) (hf : r.Fit) (h : r.may) (v : Vw) (ea : Option Addr) (ec : Nat) (fa : Option Addr) (fc : Nat) (ca : Option Addr) (cc : Nat) (k : Int) (k0 : 0 ≤ k) (k1 : k ≤ 4095) (hh : ¬ has r k) (w : World) :
    Calls Tryz.prog 15 #[.agg #[.int .u16 r.A, .int .u16 r.L, .int .u16 r.Q, .int .i64 r.Z, .int .i64 r.EB, .int .i64 r.FB, .int .i64 r.Su, .bool r.Ex, .int .u16 r.Ix, .bool r.Hd, .int .u16 r.B, .bool r.Ih, .bool r.Sv], .agg #[.slice ea v.ne ec, .slice fa v.nf fc, .slice ca v.nc cc], .int .i64 k] w (LoadRet 0 [] 3 w) := by
  have HF := Lib.hid (decide_eq_true h)
  have HM := Lib.hid h
  have HH := Lib.hid hh
  clear h hh
  go_enter Tryz.func15, Tryz.ntmps15
  go_wp2_with (first
    | (go_at_call 13; refine (rMay_any r true HF.out _).mono ?_; rintro e w1 ⟨rfl, hb⟩; (obtain ⟨hk1, hl1⟩ := bcell hb); (have hz1 : w.heap.size + 1 < w1.heap.size := by have := hb.size; simp at this; omega); (have hy1 : w.heap.size < w1.heap.size := by omega); (have X1 := Lib.hid ((below2 w _ _).trans (hb.mono (by simp; omega)))); clear hb)
    | (go_at_call 41; refine (rfind_no r HM.out k k0 k1 HH.out _).mono ?_; rintro e w2 ⟨rfl, hb⟩; (have X2 := Lib.hid (X1.out.trans (hb.mono X1.out.size))); clear hb))
  go_ret3
  exact ⟨_, rfl, OwnP.nil _ _ _ _ _, X2.out.alloc X2.out.size _⟩
end Go.Proofs.YtfndbdcapliclaaGreatDoor

/- Contracts of layer 5: the program's spotOf and Load. -/
set_option linter.unusedSimpArgs false
set_option linter.unusedVariables false
namespace Go.Proofs.YtfndbdcapliclaaGreatDoor
open Go.ChangeShapes Go.WideShapes Go.ChangeAt Go.RowKit
/-- The word that an operand addresses: its memory, its address, the error. -/
def spS (r : Rg) (k : Int) : Int := if 0 ≤ k ∧ k ≤ 4095 ∧ has r k then spc k else 0
def spA (r : Rg) (k : Int) : Int := if 0 ≤ k ∧ k ≤ 4095 ∧ has r k then adr r k else 0
def spE (r : Rg) (k : Int) : Int := if 0 ≤ k ∧ k ≤ 4095 ∧ has r k then 0 else 3
theorem abs_out {r : Rg} {k n : Int} (h : ¬ (0 ≤ k ∧ k ≤ 4095)) : mAbsS k r.EB n = 0 ∧ mAbsA k r.EB n = 0 ∧ mAbsE k r.EB n = 3 := by
  have ok : ¬ mAbsOk k r.EB n := fun h' => h ⟨h'.1, h'.2.1⟩
  unfold mAbsS mAbsA mAbsE
  rw [if_neg ok, if_neg ok, if_neg ok]
  exact ⟨rfl, rfl, rfl⟩
set_option maxHeartbeats 2000000 in
theorem spotOf_any (r : Rg) (hm : r.may) (k s a x : Int) (k0 : -9223372036854775808 ≤ k) (k1 : k ≤ 9223372036854775807) (hs : spS r k = s) (ha : spA r k = a) (hx : spE r k = x) (w : World) :
    Calls Tryz.prog 38 #[.agg #[.int .u16 r.A, .int .u16 r.L, .int .u16 r.Q, .int .i64 r.Z, .int .i64 r.EB, .int .i64 r.FB, .int .i64 r.Su, .bool r.Ex, .int .u16 r.Ix, .bool r.Hd, .int .u16 r.B, .bool r.Ih, .bool r.Sv], .int .i64 k] w fun e w' => e = .returned (.tuple #[.agg #[.int .u8 s, .int .i64 a], .int .i64 x]) ∧ Below w.heap.size w w' := by
  have hb := bank_bd hm
  have HM := Lib.hid hm
  obtain ⟨_, _, _, _, _, _, e0, e1, f0, f1, s0, s1⟩ := hm
  obtain ⟨n, hn⟩ : ∃ n, mBankV r.FB r.Su = n := ⟨_, rfl⟩
  have q : (has r k ∧ mAbsS k r.EB n = s ∧ mAbsA k r.EB n = a ∧ mAbsE k r.EB n = x) ∨ (¬ has r k ∧ s = 0 ∧ a = 0 ∧ x = 3) := by
    rw [← hs, ← ha, ← hx, ← hn]
    unfold spS spA spE
    by_cases d : has r k
    · by_cases c : 0 ≤ k ∧ k ≤ 4095
      · rw [if_pos ⟨c.1, c.2, d⟩, if_pos ⟨c.1, c.2, d⟩, if_pos ⟨c.1, c.2, d⟩]
        exact .inl ⟨d, abs_eq HM.out c.1 c.2⟩
      · rw [if_neg (fun h => c ⟨h.1, h.2.1⟩), if_neg (fun h => c ⟨h.1, h.2.1⟩), if_neg (fun h => c ⟨h.1, h.2.1⟩)]
        exact .inl ⟨d, abs_out c⟩
    · rw [if_neg (fun h => d h.2.2), if_neg (fun h => d h.2.2), if_neg (fun h => d h.2.2)]
      exact .inr ⟨d, rfl, rfl, rfl⟩
  have HN := Lib.hid hn
  rw [hn] at hb
  clear hs ha hx
  rcases q with ⟨c, Q⟩ | ⟨c, rfl, rfl, rfl⟩
  · have Q := Lib.hid Q
    rcases bankE_or r.FB r.Su with hE | ⟨hE, hV⟩
    · have HB := Lib.hid hE
      clear hE hn c
      go_enter Tryz.func38, Tryz.ntmps38
      go_wp2_with (first
        | (go_at_call 71; refine (Bank_any r.FB r.Su (by omega) (by omega) (by omega) (by omega) _).mono ?_; rintro e w1 ⟨rfl, rfl⟩; rw [HN.out, HB.out])
        | (go_at_call 72; refine (Absolute_any k r.EB n (by omega) (by omega) (by omega) (by omega) (by omega) (by omega) _).mono ?_; rintro e w1 ⟨rfl, rfl⟩; rw [Q.out.1, Q.out.2.1, Q.out.2.2]))
      exact ret_struct2 Tryz.results38 Tryz.underlying64 [.int .u8 s, .int .i64 a] (by kernel_rfl) (w.heap.size + 1) rfl (at_allocN (by simp) [.int .u8 s, .int .i64 a]) (.int .i64 x) rfl rfl ⟨rfl, below2 _ _ _⟩
    · have HB := Lib.hid hE
      have e : n = 0 := by rw [← hn]; exact hV
      subst e
      have hk : k < 1024 ∨ 2047 < k := by unfold has at c; omega
      clear hE hn hV c
      rcases hk with hk | hk
      all_goals
        go_enter Tryz.func38, Tryz.ntmps38
        go_wp2_with (first
          | (go_at_call 71; refine (Bank_any r.FB r.Su (by omega) (by omega) (by omega) (by omega) _).mono ?_; rintro e w1 ⟨rfl, rfl⟩; rw [HN.out, HB.out])
          | (go_at_call 72; refine (Absolute_any k r.EB 0 (by omega) (by omega) (by omega) (by omega) (by omega) (by omega) _).mono ?_; rintro e w1 ⟨rfl, rfl⟩; rw [Q.out.1, Q.out.2.1, Q.out.2.2]))
        exact ret_struct2 Tryz.results38 Tryz.underlying64 [.int .u8 s, .int .i64 a] (by kernel_rfl) (w.heap.size + 1) rfl (at_allocN (by simp) [.int .u8 s, .int .i64 a]) (.int .i64 x) rfl rfl ⟨rfl, below2 _ _ _⟩
  · unfold has at c
    obtain ⟨hE, hk0, hk1⟩ := Decidable.not_not.1 c
    have HB : Hid (mBankE r.FB r.Su = 3) := by rcases bankE_or r.FB r.Su with c | ⟨c, _⟩; exact absurd c hE; exact c
    clear hE c hn
    go_enter Tryz.func38, Tryz.ntmps38
    go_wp2_with (go_at_call 71; refine (Bank_any r.FB r.Su (by omega) (by omega) (by omega) (by omega) _).mono ?_; rintro e w1 ⟨rfl, rfl⟩; rw [HB.out])
    exact ret_struct2 Tryz.results38 Tryz.underlying64 [.int .u8 0, .int .i64 0] (by kernel_rfl) (w.heap.size + 1) rfl (at_allocN (by simp) [.int .u8 0, .int .i64 0]) (.int .i64 3) rfl rfl ⟨rfl, below2 _ _ _⟩
end Go.Proofs.YtfndbdcapliclaaGreatDoor

/- Blocks of the call's own that are read and written cell by cell. -/
set_option linter.unusedSimpArgs false
set_option linter.unusedVariables false
namespace Go.Proofs.YtfndbdcapliclaaGreatDoor
open Go.ChangeShapes Go.WideShapes Go.ChangeAt Go.RowKit
/-- The block g holds the values l, and may be written. -/
def Blk (w : World) (g : Nat) (l : List Value) : Prop := ∀ j v, l[j]? = some v → w.cell? ⟨g, j, none⟩ = some v ∧ w.frozen? ⟨g, j, none⟩ = false
theorem Blk.cell {w : World} {g : Nat} {l : List Value} (h : Blk w g l) (j : Nat) (v : Value) (e : l[j]? = some v) : w.cell? ⟨g, j, none⟩ = some v := (h j v e).1
theorem Blk.free {w : World} {g : Nat} {l : List Value} (h : Blk w g l) (j : Nat) (v : Value) (e : l[j]? = some v) : w.frozen? ⟨g, j, none⟩ = false := (h j v e).2
theorem Blk.cells {w : World} {g : Nat} {l : List Value} (h : Blk w g l) : ∀ j v, l[j]? = some v → w.cell? ⟨g, j, none⟩ = some v := fun j v e => (h j v e).1
theorem Blk.below {w w' : World} {g B : Nat} {l : List Value} (h : Blk w g l) (hb : Below B w w') (hg : g < B) : Blk w' g l := fun j v e =>
  ⟨(hb.cell (p := ⟨g, j, none⟩) hg).trans (h j v e).1, (hb.frozen (p := ⟨g, j, none⟩) hg).trans (h j v e).2⟩
theorem Blk.drew {w : World} {g : Nat} {l : List Value} (h : Blk w g l) : Blk w.drew g l := h
theorem Blk.drewN {w : World} {g : Nat} {l : List Value} (h : Blk w g l) (n : Nat) : Blk (w.drewN n) g l := h
theorem Blk.new (w : World) (T : TypeId) (l : List Value) (g : Nat) (hg : w.heap.size = g) : Blk (w.alloc (.cells l.toArray T)) g l := by
  subst hg
  intro j v e
  refine ⟨?_, by simp [go_sem]⟩
  rw [World.cell?_alloc_at _ _ _ _ rfl, List.getElem?_toArray]
  exact e
theorem Blk.alloc {w : World} {g : Nat} {l : List Value} (h : Blk w g l) (hg : g < w.heap.size) (o : Obj) : Blk (w.alloc o) g l := h.below ((Below.refl _ _).alloc (Nat.le_refl _) o) hg
/-- A store into the block. -/
theorem Blk.set {w : World} {g : Nat} {l : List Value} (h : Blk w g l) (i : Nat) (hi : i < l.length) (y : Value) : Blk (w.setCell ⟨g, i, none⟩ y) g (l.set i y) := by
  intro j v e
  rw [List.getElem?_set] at e
  have h0 : (w.cell? ⟨g, i, none⟩).isSome = true := by rw [(h i l[i] (by simp [hi])).1]; rfl
  by_cases c : i = j
  · subst c
    simp [hi] at e
    subst e
    exact ⟨by simp [go_sem, h0], by simp [go_sem, (h i l[i] (by simp [hi])).2]⟩
  · rw [if_neg c] at e
    have := h j v e
    exact ⟨by simp [go_sem, this.1, Ne.symm c], by simp [go_sem, this.2]⟩
/-- A store into another block. -/
theorem Blk.other {w : World} {g g' : Nat} {l : List Value} (h : Blk w g l) (hne : g' ≠ g) (i : Nat) (y : Value) : Blk (w.setCell ⟨g', i, none⟩ y) g l := by
  intro j v e
  have := h j v e
  have hn : g ≠ g' := fun c => hne c.symm
  exact ⟨by simp [go_sem, this.1, hn], by simp [go_sem, this.2]⟩
end Go.Proofs.YtfndbdcapliclaaGreatDoor

/- Contracts of layer 5: the program's Load. -/
set_option linter.unusedSimpArgs false
set_option linter.unusedVariables false
namespace Go.Proofs.YtfndbdcapliclaaGreatDoor
open Go.ChangeShapes Go.WideShapes Go.ChangeAt Go.RowKit
def rgList (r : Rg) : List Value := [.int .u16 r.A, .int .u16 r.L, .int .u16 r.Q, .int .i64 r.Z, .int .i64 r.EB, .int .i64 r.FB, .int .i64 r.Su, .bool r.Ex, .int .u16 r.Ix, .bool r.Hd, .int .u16 r.B, .bool r.Ih, .bool r.Sv]
theorem isW_iff {s a : Int} (hs : s = 1 ∨ s = 2) (a0 : 0 ≤ a) : isW s a ↔ ¬ (s = 1 ∧ a < 8) := by unfold isW; omega
set_option maxHeartbeats 1000000 in
theorem listed_any (s a : Int) (hs : s = 1 ∨ s = 2) (a0 : 0 ≤ a) (B : Nat) (w : World) (hB : B ≤ w.heap.size) :
    Calls Tryz.prog 40 #[.agg #[.int .u8 s, .int .i64 a]] w fun e w' => ∃ vl, e = .returned vl ∧ OwnP .u8 .i64 64 w' B vl (rds s a) ∧ Below w.heap.size w w' := by
  have X0 := Lib.hid ((Below.refl w.heap.size w).alloc (Nat.le_refl _) (.cells #[.int .u8 s, .int .i64 a] 64))
  by_cases c : s = 1 ∧ a < 8
  · rw [rds_no (fun h => (isW_iff hs a0).1 h c)]
    have HD := Lib.hid (decide_eq_true c)
    clear c
    go_enter Tryz.func40, Tryz.ntmps40
    go_wp2_with (go_at_call 73; refine (isRegister_any s a true HD.out _).mono ?_; rintro e w1 ⟨rfl, hb⟩; (have X1 := Lib.hid (X0.out.trans (hb.mono X0.out.size))); clear hb)
    go_ret
    exact ⟨_, rfl, OwnP.nil _ _ _ _ _, X1.out⟩
  · rw [rds_yes ((isW_iff hs a0).2 c)]
    have HD := Lib.hid (decide_eq_false c)
    clear c
    go_enter Tryz.func40, Tryz.ntmps40
    go_wp2_with (go_at_call 73; refine (isRegister_any s a false HD.out _).mono ?_; rintro e w1 ⟨rfl, hb⟩; (obtain ⟨hk1, hl1⟩ := bcell hb); (have hz1 : w.heap.size < w1.heap.size := by have := hb.size; simp at this; omega); (have X1 := Lib.hid (X0.out.trans (hb.mono X0.out.size))); clear hb)
    go_ret
    exact ⟨_, rfl, OwnP.one .u8 .i64 _ w1 B _ s a (Nat.le_trans hB X1.out.size) rfl, X1.out.alloc X1.out.size _⟩
theorem mLoad_arg (r : Rg) (hf : r.Fit) (h : ¬ r.may) (v : Vw) (ea : Option Addr) (ec : Nat) (fa : Option Addr) (fc : Nat) (ca : Option Addr) (cc : Nat) (k : Int) (w : World) :
    Calls Tryz.prog 14 #[.agg #[.int .u16 r.A, .int .u16 r.L, .int .u16 r.Q, .int .i64 r.Z, .int .i64 r.EB, .int .i64 r.FB, .int .i64 r.Su, .bool r.Ex, .int .u16 r.Ix, .bool r.Hd, .int .u16 r.B, .bool r.Ih, .bool r.Sv], .agg #[.slice ea v.ne ec, .slice fa v.nf fc, .slice ca v.nc cc], .int .i64 k] w (LoadRet 0 [] 2 w) := by
  have HF := Lib.hid (decide_eq_false h)
  clear h
  go_enter Tryz.func14, Tryz.ntmps14
  go_wp2_with (go_at_call 12; refine (May_any r false HF.out _).mono ?_; rintro e w1 ⟨rfl, hb⟩; (have X1 := Lib.hid ((below2 w _ _).trans (hb.mono (by simp; omega)))); clear hb)
  go_ret3
  exact ⟨_, rfl, OwnP.nil _ _ _ _ _, X1.out⟩
set_option maxHeartbeats 1000000 in
theorem mLoad_no (r : Rg) (hf : r.Fit) (h : r.may) (v : Vw) (ea : Option Addr) (ec : Nat) (fa : Option Addr) (fc : Nat) (ca : Option Addr) (cc : Nat) (k : Int) (k0 : -9223372036854775808 ≤ k) (k1 : k ≤ 9223372036854775807) (hh : ¬ (0 ≤ k ∧ k ≤ 4095 ∧ has r k)) (w : World) :
    Calls Tryz.prog 14 #[.agg #[.int .u16 r.A, .int .u16 r.L, .int .u16 r.Q, .int .i64 r.Z, .int .i64 r.EB, .int .i64 r.FB, .int .i64 r.Su, .bool r.Ex, .int .u16 r.Ix, .bool r.Hd, .int .u16 r.B, .bool r.Ih, .bool r.Sv], .agg #[.slice ea v.ne ec, .slice fa v.nf fc, .slice ca v.nc cc], .int .i64 k] w (LoadRet 0 [] 3 w) := by
  have HF := Lib.hid (decide_eq_true h)
  have HM := Lib.hid h
  have S : Hid (spS r k = 0 ∧ spA r k = 0 ∧ spE r k = 3) := by unfold spS spA spE; rw [if_neg hh, if_neg hh, if_neg hh]; exact ⟨rfl, rfl, rfl⟩
  clear h hh
  go_enter Tryz.func14, Tryz.ntmps14
  go_wp2_with (first
    | (go_at_call 12; refine (May_any r true HF.out _).mono ?_; rintro e w1 ⟨rfl, hb⟩; (obtain ⟨hk1, hl1⟩ := bcell hb); (have hz1 : w.heap.size + 1 < w1.heap.size := by have := hb.size; simp at this; omega); (have hy1 : w.heap.size < w1.heap.size := by omega); (have X1 := Lib.hid ((below2 w _ _).trans (hb.mono (by simp; omega)))); clear hb)
    | (go_at_call 38; refine (spotOf_any r HM.out k 0 0 3 k0 k1 S.out.1 S.out.2.1 S.out.2.2 _).mono ?_; rintro e w2 ⟨rfl, hb⟩; (have X2 := Lib.hid (X1.out.trans (hb.mono X1.out.size))); clear hb))
  go_ret3
  exact ⟨_, rfl, OwnP.nil _ _ _ _ _, X2.out.alloc X2.out.size _⟩
set_option maxHeartbeats 2000000 in
theorem mLoad_has (r : Rg) (hf : r.Fit) (h : r.may) (v : Vw) (ea : Option Addr) (ec : Nat) (fa : Option Addr) (fc : Nat) (ca : Option Addr) (cc : Nat) (k : Int) (k0 : 0 ≤ k) (k1 : k ≤ 4095) (hh : has r k) (w : World) (hv : VwAt w v ea fa ca) :
    Calls Tryz.prog 14 #[.agg #[.int .u16 r.A, .int .u16 r.L, .int .u16 r.Q, .int .i64 r.Z, .int .i64 r.EB, .int .i64 r.FB, .int .i64 r.Su, .bool r.Ex, .int .u16 r.Ix, .bool r.Hd, .int .u16 r.B, .bool r.Ih, .bool r.Sv], .agg #[.slice ea v.ne ec, .slice fa v.nf fc, .slice ca v.nc cc], .int .i64 k] w (LoadRet (val r v (spc k) (adr r k)) (rds (spc k) (adr r k)) 0 w) := by
  have HF := Lib.hid (decide_eq_true h)
  have HM := Lib.hid h
  have ab := adr_bd h k0 k1
  have S := Lib.hid (spc_or k)
  have HV0 := Lib.hid hv
  obtain ⟨s, hs⟩ : ∃ s, spc k = s := ⟨_, rfl⟩
  obtain ⟨a, ha⟩ : ∃ a, adr r k = a := ⟨_, rfl⟩
  obtain ⟨x, hx⟩ : ∃ x, val r v s a = x := ⟨_, rfl⟩
  have P : Hid (spS r k = s ∧ spA r k = a ∧ spE r k = 0) := by unfold spS spA spE; rw [if_pos ⟨k0, k1, hh⟩, if_pos ⟨k0, k1, hh⟩, if_pos ⟨k0, k1, hh⟩]; exact ⟨hs, ha, rfl⟩
  rw [ha] at ab
  rw [hs] at S
  rw [hs, ha, hx]
  have H3 := Lib.hid hx
  have ab0 := ab.1
  have HFt := Lib.hid hf
  clear hs ha hx ab h hh hv hf
  have K1 := Lib.hid ((Blk.new w 26 (rgList r) _ rfl).alloc (by simp) (.cells #[.slice ea v.ne ec, .slice fa v.nf fc, .slice ca v.nc cc] 29))
  have K2 := Lib.hid (Blk.new (w.alloc (.cells (rgList r).toArray 26)) 29 [.slice ea v.ne ec, .slice fa v.nf fc, .slice ca v.nc cc] (w.heap.size + 1) (by simp))
  go_enter Tryz.func14, Tryz.ntmps14
  go_wp2_with (first
    | (go_at_call 12; refine (May_any r true HF.out _).mono ?_; rintro e w1 ⟨rfl, hb⟩; (have P1 := Lib.hid (K1.out.below hb (by simp; omega))); (have P2 := Lib.hid (K2.out.below hb (by simp))); (obtain ⟨hk1, hl1⟩ := bcell hb); (have hz1 : w.heap.size + 1 < w1.heap.size := by have := hb.size; simp at this; omega); (have hy1 : w.heap.size < w1.heap.size := by omega); (have X1 := Lib.hid ((below2 w _ _).trans (hb.mono (by simp; omega)))); clear hb)
    | (go_at_call 38; refine (spotOf_any r HM.out k s a 0 (by omega) (by omega) P.out.1 P.out.2.1 P.out.2.2 _).mono ?_; rintro e w2 ⟨rfl, hb⟩; (have Q1 := Lib.hid (P1.out.below hb hy1)); (have Q2 := Lib.hid (P2.out.below hb hz1)); (obtain ⟨hk2, hl2⟩ := bcell hb); (have hz2 : w.heap.size + 1 < w2.heap.size := by have := hb.size; omega); (have hy2 : w.heap.size < w2.heap.size := by omega); (have X2 := Lib.hid (X1.out.trans (hb.mono X1.out.size))); clear hb))
  have R1 := Lib.hid ((Q1.out.alloc hy2 (.cells #[.int .u8 s, .int .i64 a] 64)))
  have R2 := Lib.hid ((Q2.out.alloc hz2 (.cells #[.int .u8 s, .int .i64 a] 64)))
  have R3 := Lib.hid (Blk.new w2 64 [.int .u8 s, .int .i64 a] _ rfl)
  have XW := Lib.hid (X2.out.alloc X2.out.size (.cells #[.int .u8 s, .int .i64 a] 64))
  have hW : w2.heap.size < (w2.alloc (.cells #[.int .u8 s, .int .i64 a] 64)).heap.size := by simp
  have VW := Lib.hid ((HV0.out.below X2.out (Nat.le_refl _)).alloc (.cells #[.int .u8 s, .int .i64 a] 64))
  generalize (w2.alloc (.cells #[.int .u8 s, .int .i64 a] 64)) = W at R1 R2 R3 XW hW VW ⊢
  clear hk1 hl1 hk2 hl2
  go_region_held3 (fun w' => w'.cell? ⟨w.heap.size, 0, none⟩ = some (.int .u16 r.A) ∧ w'.cell? ⟨w.heap.size, 1, none⟩ = some (.int .u16 r.L) ∧ w'.cell? ⟨w.heap.size, 2, none⟩ = some (.int .u16 r.Q) ∧ w'.cell? ⟨w.heap.size, 3, none⟩ = some (.int .i64 r.Z) ∧ w'.cell? ⟨w.heap.size, 4, none⟩ = some (.int .i64 r.EB) ∧ w'.cell? ⟨w.heap.size, 5, none⟩ = some (.int .i64 r.FB) ∧ w'.cell? ⟨w.heap.size, 6, none⟩ = some (.int .i64 r.Su) ∧ w'.cell? ⟨w.heap.size, 7, none⟩ = some (.bool r.Ex) ∧ w'.cell? ⟨w.heap.size, 8, none⟩ = some (.int .u16 r.Ix) ∧ w'.cell? ⟨w.heap.size, 9, none⟩ = some (.bool r.Hd) ∧ w'.cell? ⟨w.heap.size, 10, none⟩ = some (.int .u16 r.B) ∧ w'.cell? ⟨w.heap.size, 11, none⟩ = some (.bool r.Ih) ∧ w'.cell? ⟨w.heap.size, 12, none⟩ = some (.bool r.Sv) ∧ w'.cell? ⟨(w.heap.size + 1), 0, none⟩ = some (.slice ea v.ne ec) ∧ w'.cell? ⟨(w.heap.size + 1), 1, none⟩ = some (.slice fa v.nf fc) ∧ w'.cell? ⟨(w.heap.size + 1), 2, none⟩ = some (.slice ca v.nc cc) ∧ w'.cell? ⟨w2.heap.size, 0, none⟩ = some (.int .u8 s) ∧ w'.cell? ⟨w2.heap.size, 1, none⟩ = some (.int .i64 a))
    (first
      | exact ⟨R1.out.cell 0 _ rfl, R1.out.cell 1 _ rfl, R1.out.cell 2 _ rfl, R1.out.cell 3 _ rfl, R1.out.cell 4 _ rfl, R1.out.cell 5 _ rfl, R1.out.cell 6 _ rfl, R1.out.cell 7 _ rfl, R1.out.cell 8 _ rfl, R1.out.cell 9 _ rfl, R1.out.cell 10 _ rfl, R1.out.cell 11 _ rfl, R1.out.cell 12 _ rfl, R2.out.cell 0 _ rfl, R2.out.cell 1 _ rfl, R2.out.cell 2 _ rfl, R3.out.cell 0 _ rfl, R3.out.cell 1 _ rfl⟩
      | exact ⟨T1.out.cell 0 _ rfl, T1.out.cell 1 _ rfl, T1.out.cell 2 _ rfl, T1.out.cell 3 _ rfl, T1.out.cell 4 _ rfl, T1.out.cell 5 _ rfl, T1.out.cell 6 _ rfl, T1.out.cell 7 _ rfl, T1.out.cell 8 _ rfl, T1.out.cell 9 _ rfl, T1.out.cell 10 _ rfl, T1.out.cell 11 _ rfl, T1.out.cell 12 _ rfl, T2.out.cell 0 _ rfl, T2.out.cell 1 _ rfl, T2.out.cell 2 _ rfl, T3.out.cell 0 _ rfl, T3.out.cell 1 _ rfl⟩
      | exact ⟨U1.out.cell 0 _ rfl, U1.out.cell 1 _ rfl, U1.out.cell 2 _ rfl, U1.out.cell 3 _ rfl, U1.out.cell 4 _ rfl, U1.out.cell 5 _ rfl, U1.out.cell 6 _ rfl, U1.out.cell 7 _ rfl, U1.out.cell 8 _ rfl, U1.out.cell 9 _ rfl, U1.out.cell 10 _ rfl, U1.out.cell 11 _ rfl, U1.out.cell 12 _ rfl, U2.out.cell 0 _ rfl, U2.out.cell 1 _ rfl, U2.out.cell 2 _ rfl, U3.out.cell 0 _ rfl, U3.out.cell 1 _ rfl⟩)
    (first
      | (go_at_call 39; refine (valueAt_any r HM.out HFt.out v ea ec fa fc ca cc s a x H3.out S.out ab0 _ (VW.out.below (Below.refl _ _).drew (Nat.le_refl _))).mono ?_; rintro e w3 ⟨rfl, hb⟩; (replace hb := from_drew hb); (have T1 := Lib.hid (R1.out.below hb (by omega))); (have T2 := Lib.hid (R2.out.below hb (by omega))); (have T3 := Lib.hid (R3.out.below hb hW)); (have hz3 : w2.heap.size < w3.heap.size := by have := hb.size; omega); (have X3 := Lib.hid (XW.out.trans (hb.mono XW.out.size))); clear hb)
      | (go_at_call 40; refine (listed_any s a S.out ab0 w.heap.size _ X3.out.size).mono ?_; rintro e w4 ⟨vl, rfl, ho, hb⟩; (have U1 := Lib.hid (T1.out.below hb (by omega))); (have U2 := Lib.hid (T2.out.below hb (by omega))); (have U3 := Lib.hid (T3.out.below hb hz3)); (have HO := Lib.hid ho); (have X4 := Lib.hid (X3.out.trans (hb.mono X3.out.size))); clear hb ho))
  go_wp2
  go_ret3
  exact ⟨_, rfl, HO.out, X4.out⟩
end Go.Proofs.YtfndbdcapliclaaGreatDoor
