/- Contracts of layer 5: the program's small methods. -/
import Derived.Test.YtjjkikghfmnikaaGreatDoorQ17
import Derived.Test.YtjjkikghfmnikaaGreatDoorQ18
set_option linter.unusedSimpArgs false
set_option linter.unusedVariables false
namespace Go.Proofs.YtjjkikghfmnikaaGreatDoor
open Go.ChangeShapes Go.WideShapes Go.ChangeAt Go.RowKit
set_option maxRecDepth 100000 in
theorem get_any (B g : Nat) (s : St) (hr : Bool) (v : Vw) (ea : Option Addr) (ec : Nat) (fa : Option Addr) (fc : Nat) (ca : Option Addr) (cc : Nat) (x : Int) (hx : valP s.r v s.ss s.sa = x) (hl : s.len ≤ 1000) (w : World) (hs : HAt w B g s hr v ea ec fa fc ca cc) :
    Calls Tryz.prog 152 #[.pointer (some ⟨g, 0, none⟩)] w fun e w' => e = .returned (.int .u16 x) ∧ HAt w' B g (s.rd s.ss s.sa) true v ea ec fa fc ca cc ∧ Below B w w' := by
  have HS := Lib.hid hs
  obtain ⟨vC, vO, vR, h0⟩ := hs
  have c17 := h0.b.cell 17 _ rfl
  have c18 := h0.b.cell 18 _ rfl
  have Hsp := Lib.hid h0.sp
  have HX := Lib.hid hx
  clear h0 hx
  go_enter Tryz.func152, Tryz.ntmps152
  go_wp2_with (go_at_call 149; refine (read_any B g s hr v ea ec fa fc ca cc s.ss s.sa x Hsp.out HX.out hl _ HS.out).mono ?_; rintro e w1 ⟨rfl, h1, hb⟩)
  go_ret
  exact ⟨rfl, h1, hb⟩
set_option maxRecDepth 100000 in
theorem getAfter_any (B g : Nat) (s : St) (hr : Bool) (v : Vw) (ea : Option Addr) (ec : Nat) (fa : Option Addr) (fc : Nat) (ca : Option Addr) (cc : Nat) (x : Int) (hx : valP s.r v s.ss (nxtP s.ss s.sa) = x) (hl : s.len ≤ 1000) (w : World) (hs : HAt w B g s hr v ea ec fa fc ca cc) :
    Calls Tryz.prog 155 #[.pointer (some ⟨g, 0, none⟩)] w fun e w' => e = .returned (.int .u16 x) ∧ HAt w' B g (s.rd s.ss (nxtP s.ss s.sa)) true v ea ec fa fc ca cc ∧ Below B w w' := by
  have HS := Lib.hid hs
  obtain ⟨vC, vO, vR, h0⟩ := hs
  have c17 := h0.b.cell 17 _ rfl
  have c18 := h0.b.cell 18 _ rfl
  have Hsp := Lib.hid h0.sp
  have hBw := Nat.le_trans h0.lo (Nat.le_of_lt h0.hi)
  have HX := Lib.hid hx
  clear h0 hx
  go_enter Tryz.func155, Tryz.ntmps155
  go_wp2_with (first
    | (go_at_call 184; refine (after_P s.ss s.sa Hsp.out _).mono ?_; rintro e w1 ⟨rfl, hb⟩; (have H1 := Lib.hid (HS.out.below hb (Nat.le_refl _))); (have X1 := Lib.hid (hb.mono hBw)); clear hb)
    | (go_at_call 149; refine (read_any B g s hr v ea ec fa fc ca cc s.ss (nxtP s.ss s.sa) x Hsp.out.next HX.out hl _ H1.out).mono ?_; rintro e w2 ⟨rfl, h2, hb⟩))
  go_ret
  exact ⟨rfl, h2, X1.out.trans hb⟩
theorem word_any (B g : Nat) (s : St) (hr : Bool) (v : Vw) (ea : Option Addr) (ec : Nat) (fa : Option Addr) (fc : Nat) (ca : Option Addr) (cc : Nat) (w : World) (hs : HAt w B g s hr v ea ec fa fc ca cc) :
    Calls Tryz.prog 154 #[.pointer (some ⟨g, 0, none⟩)] w fun e w' => e = .returned (.int .u16 (oCorr s.r.A)) ∧ w = w' := by
  obtain ⟨vC, vO, vR, h0⟩ := hs
  have c0 := h0.b.cell 0 _ rfl
  have hA := h0.ok.2.A
  clear h0
  go_enter Tryz.func154, Tryz.ntmps154
  go_wp2_with (go_at_call 28; refine (Correct_any _ (by omega) (by omega) _).mono ?_; rintro e w1 ⟨rfl, rfl⟩)
  go_ret
  exact ⟨rfl, rfl⟩
theorem ok_Z {r : Rg} (h : r.ok) {z : Int} (h0 : 0 ≤ z) (h1 : z ≤ 4095) : Rg.ok { r with Z := z } :=
  ⟨⟨h.1.1, h.1.2.1, h.1.2.2.1, h.1.2.2.2.1, h0, h1, h.1.2.2.2.2.2.2⟩, ⟨h.2.A, h.2.L, h.2.Q, ⟨by simp only; omega, by simp only; omega⟩, h.2.EB, h.2.FB, h.2.Su, h.2.Ix, h.2.B⟩⟩
theorem ok_A {r : Rg} (h : r.ok) {a : Int} (h0 : 0 ≤ a) (h1 : a ≤ 65535) : Rg.ok { r with A := a } :=
  ⟨h.1, ⟨⟨h0, h1⟩, h.2.L, h.2.Q, h.2.Z, h.2.EB, h.2.FB, h.2.Su, h.2.Ix, h.2.B⟩⟩
theorem ok_L {r : Rg} (h : r.ok) {a : Int} (h0 : 0 ≤ a) (h1 : a ≤ 32767) : Rg.ok { r with L := a } :=
  ⟨⟨h1, h.1.2⟩, ⟨h.2.A, ⟨h0, by simp only; omega⟩, h.2.Q, h.2.Z, h.2.EB, h.2.FB, h.2.Su, h.2.Ix, h.2.B⟩⟩
theorem ok_Q {r : Rg} (h : r.ok) {a : Int} (h0 : 0 ≤ a) (h1 : a ≤ 32767) : Rg.ok { r with Q := a } :=
  ⟨⟨h.1.1, h1, h.1.2.2⟩, ⟨h.2.A, h.2.L, ⟨h0, by simp only; omega⟩, h.2.Z, h.2.EB, h.2.FB, h.2.Su, h.2.Ix, h.2.B⟩⟩
theorem ok_EB {r : Rg} (h : r.ok) {a : Int} (h0 : 0 ≤ a) (h1 : a ≤ 7) : Rg.ok { r with EB := a } :=
  ⟨⟨h.1.1, h.1.2.1, h.1.2.2.1, h.1.2.2.2.1, h.1.2.2.2.2.1, h.1.2.2.2.2.2.1, h0, h1, h.1.2.2.2.2.2.2.2.2⟩, ⟨h.2.A, h.2.L, h.2.Q, h.2.Z, ⟨by simp only; omega, by simp only; omega⟩, h.2.FB, h.2.Su, h.2.Ix, h.2.B⟩⟩
theorem ok_FB {r : Rg} (h : r.ok) {a : Int} (h0 : 0 ≤ a) (h1 : a ≤ 31) : Rg.ok { r with FB := a } :=
  ⟨⟨h.1.1, h.1.2.1, h.1.2.2.1, h.1.2.2.2.1, h.1.2.2.2.2.1, h.1.2.2.2.2.2.1, h.1.2.2.2.2.2.2.1, h.1.2.2.2.2.2.2.2.1, h0, h1, h.1.2.2.2.2.2.2.2.2.2.2⟩, ⟨h.2.A, h.2.L, h.2.Q, h.2.Z, h.2.EB, ⟨by simp only; omega, by simp only; omega⟩, h.2.Su, h.2.Ix, h.2.B⟩⟩
theorem ok_Su {r : Rg} (h : r.ok) {a : Int} (h0 : 0 ≤ a) (h1 : a ≤ 7) : Rg.ok { r with Su := a } :=
  ⟨⟨h.1.1, h.1.2.1, h.1.2.2.1, h.1.2.2.2.1, h.1.2.2.2.2.1, h.1.2.2.2.2.2.1, h.1.2.2.2.2.2.2.1, h.1.2.2.2.2.2.2.2.1, h.1.2.2.2.2.2.2.2.2.1, h.1.2.2.2.2.2.2.2.2.2.1, h0, h1⟩, ⟨h.2.A, h.2.L, h.2.Q, h.2.Z, h.2.EB, h.2.FB, ⟨by simp only; omega, by simp only; omega⟩, h.2.Ix, h.2.B⟩⟩
theorem ok_Ix {r : Rg} (h : r.ok) {a : Int} (h0 : 0 ≤ a) (h1 : a ≤ 32767) : Rg.ok { r with Ix := a } :=
  ⟨⟨h.1.1, h.1.2.1, h1, h.1.2.2.2⟩, ⟨h.2.A, h.2.L, h.2.Q, h.2.Z, h.2.EB, h.2.FB, h.2.Su, ⟨h0, by simp only; omega⟩, h.2.B⟩⟩
theorem ok_B {r : Rg} (h : r.ok) {a : Int} (h0 : 0 ≤ a) (h1 : a ≤ 32767) : Rg.ok { r with B := a } :=
  ⟨⟨h.1.1, h.1.2.1, h.1.2.2.1, h1, h.1.2.2.2.2⟩, ⟨h.2.A, h.2.L, h.2.Q, h.2.Z, h.2.EB, h.2.FB, h.2.Su, h.2.Ix, ⟨h0, by simp only; omega⟩⟩⟩
theorem ok_f {r : Rg} (h : r.ok) (a b c d : Bool) : Rg.ok { r with Ex := a, Hd := b, Ih := c, Sv := d } :=
  ⟨h.1, ⟨h.2.A, h.2.L, h.2.Q, h.2.Z, h.2.EB, h.2.FB, h.2.Su, h.2.Ix, h.2.B⟩⟩
/-- Leaving n instructions out. -/
def Rg.skip (r : Rg) (n : Int) : Rg := { r with Z := (r.Z + n) % 4096 }
theorem ok_skip {r : Rg} (h : r.ok) (n : Int) : (r.skip n).ok := ok_Z h (by omega) (by omega)
set_option maxHeartbeats 1000000 in
theorem mskip_any (B g : Nat) (s : St) (hr : Bool) (v : Vw) (ea : Option Addr) (ec : Nat) (fa : Option Addr) (fc : Nat) (ca : Option Addr) (cc : Nat) (n : Int) (n0 : 0 ≤ n) (n1 : n ≤ 3) (w : World) (hs : HAt w B g s hr v ea ec fa fc ca cc) :
    Calls Tryz.prog 186 #[.pointer (some ⟨g, 0, none⟩), .int .i64 n] w fun e w' => e = .returned (.tuple #[]) ∧ HAt w' B g { s with r := s.r.skip n } hr v ea ec fa fc ca cc ∧ Below B w w' := by
  obtain ⟨vC, vO, vR, h0⟩ := hs
  have c3 := h0.b.cell 3 _ rfl
  have f3 := h0.b.free 3 _ rfl
  have HS := Lib.hid h0
  have zb := h0.ok.1
  have z0 : 0 ≤ s.r.Z := zb.2.2.2.2.1
  have z1 : s.r.Z ≤ 4095 := zb.2.2.2.2.2.1
  have e1 : (s.r.Z + n).tmod 4096 = (s.r.Z + n) % 4096 := Int.tmod_eq_emod_of_nonneg (by omega)
  clear h0 zb
  go_enter Tryz.func186, Tryz.ntmps186
  go_wp2
  go_end0
  exact ⟨rfl, ⟨vC, vO, vR, HS.out.set 3 (by omega) _ (s.r.skip n) s.cyc hr rfl (ok_skip HS.out.ok n)⟩, (Below.refl B w).setCell (p := ⟨g, 3, none⟩) HS.out.lo _⟩
theorem part_any (x f n y : Int) (hy : x / f % n = y) (x0 : 0 ≤ x) (x1 : x ≤ 65535) (f0 : 0 < f) (n0 : 0 < n) (n1 : n ≤ 4096) (w : World) :
    Calls Tryz.prog 150 #[.int .u16 x, .int .i64 f, .int .i64 n] w fun e w' => e = .returned (.int .i64 y) ∧ w = w' := by
  have q0 : 0 ≤ x / f := Int.ediv_nonneg x0 (by omega)
  have q1 : x / f ≤ x := Int.ediv_le_self _ x0
  have e1 : x.tdiv f = x / f := Int.tdiv_eq_ediv_of_nonneg x0
  have e2 : wrap64 (x / f) = x / f := by unfold wrap64; omega
  have e3 : (x / f).tmod n = x / f % n := Int.tmod_eq_emod_of_nonneg q0
  have f1 : (f == 0) = false := by rw [beq_eq_false_iff_ne]; omega
  have n2 : (n == 0) = false := by rw [beq_eq_false_iff_ne]; omega
  have f3 : f ≠ 0 := by omega
  have n3 : n ≠ 0 := by omega
  have HY := Lib.hid hy
  clear hy
  go_enter Tryz.func150, Tryz.ntmps150
  go_wp2
  go_ret
  exact ⟨ret_int HY.out, rfl⟩
theorem overUnit_any (x : Int) (x0 : 0 ≤ x) (x1 : x < 65536) (w : World) : Calls Tryz.prog 188 #[.int .u16 x] w fun e w' => e = .returned (.int .u16 (sg (oOver x))) ∧ w = w' := by
  have ho : oOver x = 1 ∨ oOver x = -1 ∨ oOver x = 0 := by unfold oOver; repeat (first | omega | split)
  unfold sg
  rcases ho with h | h | h
  all_goals
    have H := Lib.hid h
    rw [h]
    clear h
    go_enter Tryz.func188, Tryz.ntmps188
    go_wp2_with (go_at_call 180; refine (Overflow_any _ x0 x1 _).mono ?_; rintro e w1 ⟨rfl, rfl⟩; rw [H.out])
    go_ret
    exact ⟨rfl, rfl⟩
end Go.Proofs.YtjjkikghfmnikaaGreatDoor
