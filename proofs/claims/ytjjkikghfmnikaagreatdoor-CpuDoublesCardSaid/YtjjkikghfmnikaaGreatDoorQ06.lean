/- Contracts of layer 5: the program's Load. -/
import Derived.Test.YtjjkikghfmnikaaGreatDoorQ05
import Derived.Test.YtjjkikghfmnikaaGreatDoorQ04
import Derived.Deep.RegionHeld3
import Derived.Test.YtjjkikghfmnikaaGreatDoorQ00
import Derived.Test.YtjjkikghfmnikaaGreatDoorQ02
set_option linter.unusedSimpArgs false
set_option linter.unusedVariables false
namespace Go.Proofs.YtjjkikghfmnikaaGreatDoor
open Go.ChangeShapes Go.WideShapes Go.ChangeAt Go.RowKit
theorem isW_iff {s a : Int} (hs : s = 1 ∨ s = 2) (a0 : 0 ≤ a) : isW s a ↔ ¬ (s = 1 ∧ a < 8) := by unfold isW; omega
set_option maxHeartbeats 1000000 in
theorem listed_any (s a : Int) (hs : s = 1 ∨ s = 2) (a0 : 0 ≤ a) (B : Nat) (w : World) (hB : B ≤ w.heap.size) :
    Calls Tryz.prog 41 #[.agg #[.int .u8 s, .int .i64 a]] w fun e w' => ∃ vl, e = .returned vl ∧ OwnP .u8 .i64 59 w' B vl (rds s a) ∧ Below w.heap.size w w' := by
  have X0 := Lib.hid ((Below.refl w.heap.size w).alloc (Nat.le_refl _) (.cells #[.int .u8 s, .int .i64 a] 59))
  by_cases c : s = 1 ∧ a < 8
  · rw [rds_no (fun h => (isW_iff hs a0).1 h c)]
    have HD := Lib.hid (decide_eq_true c)
    clear c
    go_enter Tryz.func41, Tryz.ntmps41
    go_wp2_with (go_at_call 74; refine (isRegister_any s a true HD.out _).mono ?_; rintro e w1 ⟨rfl, hb⟩; (have X1 := Lib.hid (X0.out.trans (hb.mono X0.out.size))); clear hb)
    go_ret
    exact ⟨_, rfl, OwnP.nil _ _ _ _ _, X1.out⟩
  · rw [rds_yes ((isW_iff hs a0).2 c)]
    have HD := Lib.hid (decide_eq_false c)
    clear c
    go_enter Tryz.func41, Tryz.ntmps41
    go_wp2_with (go_at_call 74; refine (isRegister_any s a false HD.out _).mono ?_; rintro e w1 ⟨rfl, hb⟩; (obtain ⟨hk1, hl1⟩ := bcell hb); (have hz1 : w.heap.size < w1.heap.size := by have := hb.size; simp at this; omega); (have X1 := Lib.hid (X0.out.trans (hb.mono X0.out.size))); clear hb)
    go_ret
    exact ⟨_, rfl, OwnP.one .u8 .i64 _ w1 B _ s a (Nat.le_trans hB X1.out.size) rfl, X1.out.alloc X1.out.size _⟩
theorem mLoad_arg (r : Rg) (hf : r.Fit) (h : ¬ r.may) (v : Vw) (ea : Option Addr) (ec : Nat) (fa : Option Addr) (fc : Nat) (ca : Option Addr) (cc : Nat) (k : Int) (w : World) :
    Calls Tryz.prog 13 #[.agg #[.int .u16 r.A, .int .u16 r.L, .int .u16 r.Q, .int .i64 r.Z, .int .i64 r.EB, .int .i64 r.FB, .int .i64 r.Su, .bool r.Ex, .int .u16 r.Ix, .bool r.Hd, .int .u16 r.B, .bool r.Ih, .bool r.Sv], .agg #[.slice ea v.ne ec, .slice fa v.nf fc, .slice ca v.nc cc], .int .i64 k] w (LoadRet 0 [] 2 w) := by
  have HF := Lib.hid (decide_eq_false h)
  clear h
  go_enter Tryz.func13, Tryz.ntmps13
  go_wp2_with (go_at_call 11; refine (May_any r false HF.out _).mono ?_; rintro e w1 ⟨rfl, hb⟩; (have X1 := Lib.hid ((below2 w _ _).trans (hb.mono (by simp; omega)))); clear hb)
  go_ret3
  exact ⟨_, rfl, OwnP.nil _ _ _ _ _, X1.out⟩
set_option maxHeartbeats 1000000 in
theorem mLoad_no (r : Rg) (hf : r.Fit) (h : r.may) (v : Vw) (ea : Option Addr) (ec : Nat) (fa : Option Addr) (fc : Nat) (ca : Option Addr) (cc : Nat) (k : Int) (k0 : -9223372036854775808 ≤ k) (k1 : k ≤ 9223372036854775807) (hh : ¬ (0 ≤ k ∧ k ≤ 4095 ∧ has r k)) (w : World) :
    Calls Tryz.prog 13 #[.agg #[.int .u16 r.A, .int .u16 r.L, .int .u16 r.Q, .int .i64 r.Z, .int .i64 r.EB, .int .i64 r.FB, .int .i64 r.Su, .bool r.Ex, .int .u16 r.Ix, .bool r.Hd, .int .u16 r.B, .bool r.Ih, .bool r.Sv], .agg #[.slice ea v.ne ec, .slice fa v.nf fc, .slice ca v.nc cc], .int .i64 k] w (LoadRet 0 [] 3 w) := by
  have HF := Lib.hid (decide_eq_true h)
  have HM := Lib.hid h
  have S : Hid (spS r k = 0 ∧ spA r k = 0 ∧ spE r k = 3) := by unfold spS spA spE; rw [if_neg hh, if_neg hh, if_neg hh]; exact ⟨rfl, rfl, rfl⟩
  clear h hh
  go_enter Tryz.func13, Tryz.ntmps13
  go_wp2_with (first
    | (go_at_call 11; refine (May_any r true HF.out _).mono ?_; rintro e w1 ⟨rfl, hb⟩; (obtain ⟨hk1, hl1⟩ := bcell hb); (have hz1 : w.heap.size + 1 < w1.heap.size := by have := hb.size; simp at this; omega); (have hy1 : w.heap.size < w1.heap.size := by omega); (have X1 := Lib.hid ((below2 w _ _).trans (hb.mono (by simp; omega)))); clear hb)
    | (go_at_call 39; refine (spotOf_any r HM.out k 0 0 3 k0 k1 S.out.1 S.out.2.1 S.out.2.2 _).mono ?_; rintro e w2 ⟨rfl, hb⟩; (have X2 := Lib.hid (X1.out.trans (hb.mono X1.out.size))); clear hb))
  go_ret3
  exact ⟨_, rfl, OwnP.nil _ _ _ _ _, X2.out.alloc X2.out.size _⟩
set_option maxHeartbeats 2000000 in
theorem mLoad_has (r : Rg) (hf : r.Fit) (h : r.may) (v : Vw) (ea : Option Addr) (ec : Nat) (fa : Option Addr) (fc : Nat) (ca : Option Addr) (cc : Nat) (k : Int) (k0 : 0 ≤ k) (k1 : k ≤ 4095) (hh : has r k) (w : World) (hv : VwAt w v ea fa ca) :
    Calls Tryz.prog 13 #[.agg #[.int .u16 r.A, .int .u16 r.L, .int .u16 r.Q, .int .i64 r.Z, .int .i64 r.EB, .int .i64 r.FB, .int .i64 r.Su, .bool r.Ex, .int .u16 r.Ix, .bool r.Hd, .int .u16 r.B, .bool r.Ih, .bool r.Sv], .agg #[.slice ea v.ne ec, .slice fa v.nf fc, .slice ca v.nc cc], .int .i64 k] w (LoadRet (val r v (spc k) (adr r k)) (rds (spc k) (adr r k)) 0 w) := by
  have HF := Lib.hid (decide_eq_true h)
  have HM := Lib.hid h
  have ab := adr_bd h k0 k1
  have S := Lib.hid (spc_or k)
  have HV0 := Lib.hid hv
  obtain ⟨s, hs⟩ : ∃ s, spc k = s := ⟨_, rfl⟩
  obtain ⟨a, ha⟩ : ∃ a, adr r k = a := ⟨_, rfl⟩
  obtain ⟨x, hx⟩ : ∃ x, val r v s a = x := ⟨_, rfl⟩
  have P : Hid (spS r k = s ∧ spA r k = a ∧ spE r k = 0) := by unfold spS spA spE; rw [if_pos ⟨k0, k1, hh⟩, if_pos ⟨k0, k1, hh⟩, if_pos ⟨k0, k1, hh⟩]; exact ⟨hs, ha, rfl⟩
  rw [ha] at ab
  rw [hs] at S
  rw [hs, ha, hx]
  have H3 := Lib.hid hx
  have ab0 := ab.1
  have HFt := Lib.hid hf
  clear hs ha hx ab h hh hv hf
  have K1 := Lib.hid ((Blk.new w 26 (rgList r) _ rfl).alloc (by simp) (.cells #[.slice ea v.ne ec, .slice fa v.nf fc, .slice ca v.nc cc] 29))
  have K2 := Lib.hid (Blk.new (w.alloc (.cells (rgList r).toArray 26)) 29 [.slice ea v.ne ec, .slice fa v.nf fc, .slice ca v.nc cc] (w.heap.size + 1) (by simp))
  go_enter Tryz.func13, Tryz.ntmps13
  go_wp2_with (first
    | (go_at_call 11; refine (May_any r true HF.out _).mono ?_; rintro e w1 ⟨rfl, hb⟩; (have P1 := Lib.hid (K1.out.below hb (by simp; omega))); (have P2 := Lib.hid (K2.out.below hb (by simp))); (obtain ⟨hk1, hl1⟩ := bcell hb); (have hz1 : w.heap.size + 1 < w1.heap.size := by have := hb.size; simp at this; omega); (have hy1 : w.heap.size < w1.heap.size := by omega); (have X1 := Lib.hid ((below2 w _ _).trans (hb.mono (by simp; omega)))); clear hb)
    | (go_at_call 39; refine (spotOf_any r HM.out k s a 0 (by omega) (by omega) P.out.1 P.out.2.1 P.out.2.2 _).mono ?_; rintro e w2 ⟨rfl, hb⟩; (have Q1 := Lib.hid (P1.out.below hb hy1)); (have Q2 := Lib.hid (P2.out.below hb hz1)); (obtain ⟨hk2, hl2⟩ := bcell hb); (have hz2 : w.heap.size + 1 < w2.heap.size := by have := hb.size; omega); (have hy2 : w.heap.size < w2.heap.size := by omega); (have X2 := Lib.hid (X1.out.trans (hb.mono X1.out.size))); clear hb))
  have R1 := Lib.hid ((Q1.out.alloc hy2 (.cells #[.int .u8 s, .int .i64 a] 59)))
  have R2 := Lib.hid ((Q2.out.alloc hz2 (.cells #[.int .u8 s, .int .i64 a] 59)))
  have R3 := Lib.hid (Blk.new w2 59 [.int .u8 s, .int .i64 a] _ rfl)
  have XW := Lib.hid (X2.out.alloc X2.out.size (.cells #[.int .u8 s, .int .i64 a] 59))
  have hW : w2.heap.size < (w2.alloc (.cells #[.int .u8 s, .int .i64 a] 59)).heap.size := by simp
  have VW := Lib.hid ((HV0.out.below X2.out (Nat.le_refl _)).alloc (.cells #[.int .u8 s, .int .i64 a] 59))
  generalize (w2.alloc (.cells #[.int .u8 s, .int .i64 a] 59)) = W at R1 R2 R3 XW hW VW ⊢
  clear hk1 hl1 hk2 hl2
  go_region_held3 (fun w' => w'.cell? ⟨w.heap.size, 0, none⟩ = some (.int .u16 r.A) ∧ w'.cell? ⟨w.heap.size, 1, none⟩ = some (.int .u16 r.L) ∧ w'.cell? ⟨w.heap.size, 2, none⟩ = some (.int .u16 r.Q) ∧ w'.cell? ⟨w.heap.size, 3, none⟩ = some (.int .i64 r.Z) ∧ w'.cell? ⟨w.heap.size, 4, none⟩ = some (.int .i64 r.EB) ∧ w'.cell? ⟨w.heap.size, 5, none⟩ = some (.int .i64 r.FB) ∧ w'.cell? ⟨w.heap.size, 6, none⟩ = some (.int .i64 r.Su) ∧ w'.cell? ⟨w.heap.size, 7, none⟩ = some (.bool r.Ex) ∧ w'.cell? ⟨w.heap.size, 8, none⟩ = some (.int .u16 r.Ix) ∧ w'.cell? ⟨w.heap.size, 9, none⟩ = some (.bool r.Hd) ∧ w'.cell? ⟨w.heap.size, 10, none⟩ = some (.int .u16 r.B) ∧ w'.cell? ⟨w.heap.size, 11, none⟩ = some (.bool r.Ih) ∧ w'.cell? ⟨w.heap.size, 12, none⟩ = some (.bool r.Sv) ∧ w'.cell? ⟨(w.heap.size + 1), 0, none⟩ = some (.slice ea v.ne ec) ∧ w'.cell? ⟨(w.heap.size + 1), 1, none⟩ = some (.slice fa v.nf fc) ∧ w'.cell? ⟨(w.heap.size + 1), 2, none⟩ = some (.slice ca v.nc cc) ∧ w'.cell? ⟨w2.heap.size, 0, none⟩ = some (.int .u8 s) ∧ w'.cell? ⟨w2.heap.size, 1, none⟩ = some (.int .i64 a))
    (first
      | exact ⟨R1.out.cell 0 _ rfl, R1.out.cell 1 _ rfl, R1.out.cell 2 _ rfl, R1.out.cell 3 _ rfl, R1.out.cell 4 _ rfl, R1.out.cell 5 _ rfl, R1.out.cell 6 _ rfl, R1.out.cell 7 _ rfl, R1.out.cell 8 _ rfl, R1.out.cell 9 _ rfl, R1.out.cell 10 _ rfl, R1.out.cell 11 _ rfl, R1.out.cell 12 _ rfl, R2.out.cell 0 _ rfl, R2.out.cell 1 _ rfl, R2.out.cell 2 _ rfl, R3.out.cell 0 _ rfl, R3.out.cell 1 _ rfl⟩
      | exact ⟨T1.out.cell 0 _ rfl, T1.out.cell 1 _ rfl, T1.out.cell 2 _ rfl, T1.out.cell 3 _ rfl, T1.out.cell 4 _ rfl, T1.out.cell 5 _ rfl, T1.out.cell 6 _ rfl, T1.out.cell 7 _ rfl, T1.out.cell 8 _ rfl, T1.out.cell 9 _ rfl, T1.out.cell 10 _ rfl, T1.out.cell 11 _ rfl, T1.out.cell 12 _ rfl, T2.out.cell 0 _ rfl, T2.out.cell 1 _ rfl, T2.out.cell 2 _ rfl, T3.out.cell 0 _ rfl, T3.out.cell 1 _ rfl⟩
      | exact ⟨U1.out.cell 0 _ rfl, U1.out.cell 1 _ rfl, U1.out.cell 2 _ rfl, U1.out.cell 3 _ rfl, U1.out.cell 4 _ rfl, U1.out.cell 5 _ rfl, U1.out.cell 6 _ rfl, U1.out.cell 7 _ rfl, U1.out.cell 8 _ rfl, U1.out.cell 9 _ rfl, U1.out.cell 10 _ rfl, U1.out.cell 11 _ rfl, U1.out.cell 12 _ rfl, U2.out.cell 0 _ rfl, U2.out.cell 1 _ rfl, U2.out.cell 2 _ rfl, U3.out.cell 0 _ rfl, U3.out.cell 1 _ rfl⟩)
    (first
      | (go_at_call 40; refine (valueAt_any r HM.out HFt.out v ea ec fa fc ca cc s a x H3.out S.out ab0 _ (VW.out.below (Below.refl _ _).drew (Nat.le_refl _))).mono ?_; rintro e w3 ⟨rfl, hb⟩; (replace hb := from_drew hb); (have T1 := Lib.hid (R1.out.below hb (by omega))); (have T2 := Lib.hid (R2.out.below hb (by omega))); (have T3 := Lib.hid (R3.out.below hb hW)); (have hz3 : w2.heap.size < w3.heap.size := by have := hb.size; omega); (have X3 := Lib.hid (XW.out.trans (hb.mono XW.out.size))); clear hb)
      | (go_at_call 41; refine (listed_any s a S.out ab0 w.heap.size _ X3.out.size).mono ?_; rintro e w4 ⟨vl, rfl, ho, hb⟩; (have U1 := Lib.hid (T1.out.below hb (by omega))); (have U2 := Lib.hid (T2.out.below hb (by omega))); (have U3 := Lib.hid (T3.out.below hb hz3)); (have HO := Lib.hid ho); (have X4 := Lib.hid (X3.out.trans (hb.mono X3.out.size))); clear hb ho))
  go_wp2
  go_ret3
  exact ⟨_, rfl, HO.out, X4.out⟩
end Go.Proofs.YtjjkikghfmnikaaGreatDoor

/- Layer 4: the tables of the program, as its package-level variables hold them. -/
set_option linter.unusedSimpArgs false
set_option linter.unusedVariables false
namespace Go.Proofs.YtjjkikghfmnikaaGreatDoor
open Go.ChangeShapes Go.WideShapes Go.ChangeAt Go.RowKit
/-- The tables read as the program's text lays them. -/
structure Lay (w : World) : Prop where
  sf : 0 < w.heap.size
  sk : 1 < w.heap.size
  f : ∀ i, i < 39 → w.cell? ⟨0, i * 5, none⟩ = some (.string (nm i)) ∧ w.cell? ⟨0, i * 5 + 1, none⟩ = some (.bool (decide (19 ≤ i))) ∧ w.cell? ⟨0, i * 5 + 2, none⟩ = some (.int .u8 (kd i)) ∧ w.cell? ⟨0, i * 5 + 3, none⟩ = some (.int .i64 (bs i)) ∧ w.cell? ⟨0, i * 5 + 4, none⟩ = some (.int .i64 (cy i))
  k : ∀ q : Int, 0 ≤ q → q < 5 → w.cell? ⟨1, q.toNat * 3, none⟩ = some (.int .i64 (lo q)) ∧ w.cell? ⟨1, q.toNat * 3 + 1, none⟩ = some (.int .i64 (hi q)) ∧ w.cell? ⟨1, q.toNat * 3 + 2, none⟩ = some (.int .i64 (bt q))
theorem Lay.below {w w' : World} (h : Lay w) (hb : Below w.heap.size w w') : Lay w' :=
  ⟨Nat.lt_of_lt_of_le h.sf hb.size, Nat.lt_of_lt_of_le h.sk hb.size,
   fun i hi => by
    obtain ⟨a, b, c, d, e⟩ := h.f i hi
    exact ⟨(hb.cell (p := ⟨_, _, none⟩) h.sf).trans a, (hb.cell (p := ⟨_, _, none⟩) h.sf).trans b, (hb.cell (p := ⟨_, _, none⟩) h.sf).trans c, (hb.cell (p := ⟨_, _, none⟩) h.sf).trans d, (hb.cell (p := ⟨_, _, none⟩) h.sf).trans e⟩,
   fun q h0 h1 => by
    obtain ⟨a, b, c⟩ := h.k q h0 h1
    exact ⟨(hb.cell (p := ⟨_, _, none⟩) h.sk).trans a, (hb.cell (p := ⟨_, _, none⟩) h.sk).trans b, (hb.cell (p := ⟨_, _, none⟩) h.sk).trans c⟩⟩
theorem Lay.alloc {w : World} (h : Lay w) (o : Obj) : Lay (w.alloc o) := h.below ((Below.refl _ _).alloc (Nat.le_refl _) o)
theorem Lay.drew {w : World} (h : Lay w) : Lay w.drew := ⟨h.sf, h.sk, h.f, h.k⟩
theorem Lay.keep {w w' : World} (h : Hid (Lay w)) (hb : Hid (Below w.heap.size w w')) : Lay w' := h.out.below hb.out
end Go.Proofs.YtjjkikghfmnikaaGreatDoor

/- Layer 4: which instruction a word is. -/
set_option linter.unusedSimpArgs false
set_option linter.unusedVariables false
namespace Go.Proofs.YtjjkikghfmnikaaGreatDoor
open Go.RowKit
/-- The instruction of the word w. -/
def decI (w : Int) (e : Bool) : Nat :=
  if e = false then
    if w = 3 then 3 else if w = 4 then 2 else if w = 6 then 1 else if w < 4096 then 0 else if w < 5120 then 4 else if w < 8192 then 5 else if w < 9216 then 6 else if w < 10240 then 7 else if w < 11264 then 8 else if w < 12288 then 9 else if w < 16384 then 10 else if w < 20480 then 11 else if w = 20495 then 13 else if w < 21504 then 12 else if w < 22528 then 14 else if w < 23552 then 15 else if w < 24576 then 16 else if w < 28672 then 17 else 18
  else
    if w < 512 then 19 else if w < 1024 then 20 else if w < 1536 then 21 else if w < 2048 then 22 else if w < 2560 then 23 else if w < 3072 then 24 else if w < 3584 then 25 else if w < 4096 then 26 else if w < 5120 then 27 else if w < 8192 then 28 else if w < 9216 then 29 else if w < 10240 then 30 else if w < 11264 then 31 else if w < 12288 then 32 else if w < 16384 then 33 else if w < 20480 then 34 else if w < 24576 then 35 else if w < 25600 then 36 else if w < 28672 then 37 else 38
theorem ite_both {c : Prop} [Decidable c] {α : Type} {P : α → Prop} {a b : α} (h1 : c → P a) (h2 : ¬ c → P b) : P (if c then a else b) := by
  by_cases h : c
  · rw [if_pos h]; exact h1 h
  · rw [if_neg h]; exact h2 h
theorem decI_low (w : Int) : decI w false < 19 := by
  unfold decI; rw [if_pos rfl]
  repeat (first | (show _ < _; decide) | refine ite_both (P := fun x => x < 19) (fun _ => ?_) (fun _ => ?_))
theorem decI_high (w : Int) : 19 ≤ decI w true ∧ decI w true < 39 := by
  unfold decI; rw [if_neg (by decide)]
  repeat (first | (show _ ∧ _; decide) | refine ite_both (P := fun x => 19 ≤ x ∧ x < 39) (fun _ => ?_) (fun _ => ?_))
theorem decI_lt (w : Int) (e : Bool) : decI w e < 39 := by
  cases e
  · have := decI_low w; omega
  · exact (decI_high w).2
theorem decI_ext (w : Int) (e : Bool) : decide (19 ≤ decI w e) = e := by
  cases e
  · have h := decI_low w
    simp; omega
  · have h := decI_high w
    simp; omega
theorem encOk_mk {i : Nat} {k : Int} (b l h : Int) (hl : lo (kd i) = l) (hh : hi (kd i) = h) (h1 : l ≤ k) (h2 : k ≤ h) (hr : ¬ rsv i k) : encOk i k := by
  unfold encOk; rw [hl, hh]; exact ⟨h1, h2, hr⟩
/-- The words of each instruction. -/
def Span (i : Nat) (w : Int) : Prop := match i with
  | 0 => 0 ≤ w ∧ w ≤ 4095 ∧ w ≠ 3 ∧ w ≠ 4 ∧ w ≠ 6
  | 1 => 6 ≤ w ∧ w ≤ 6
  | 2 => 4 ≤ w ∧ w ≤ 4
  | 3 => 3 ≤ w ∧ w ≤ 3
  | 4 => 4096 ≤ w ∧ w ≤ 5119
  | 5 => 5120 ≤ w ∧ w ≤ 8191
  | 6 => 8192 ≤ w ∧ w ≤ 9215
  | 7 => 9216 ≤ w ∧ w ≤ 10239
  | 8 => 10240 ≤ w ∧ w ≤ 11263
  | 9 => 11264 ≤ w ∧ w ≤ 12287
  | 10 => 12288 ≤ w ∧ w ≤ 16383
  | 11 => 16384 ≤ w ∧ w ≤ 20479
  | 12 => 20480 ≤ w ∧ w ≤ 21503 ∧ w ≠ 20495
  | 13 => 20495 ≤ w ∧ w ≤ 20495
  | 14 => 21504 ≤ w ∧ w ≤ 22527
  | 15 => 22528 ≤ w ∧ w ≤ 23551
  | 16 => 23552 ≤ w ∧ w ≤ 24575
  | 17 => 24576 ≤ w ∧ w ≤ 28671
  | 18 => 28672 ≤ w ∧ w ≤ 32767
  | 19 => 0 ≤ w ∧ w ≤ 511
  | 20 => 512 ≤ w ∧ w ≤ 1023
  | 21 => 1024 ≤ w ∧ w ≤ 1535
  | 22 => 1536 ≤ w ∧ w ≤ 2047
  | 23 => 2048 ≤ w ∧ w ≤ 2559
  | 24 => 2560 ≤ w ∧ w ≤ 3071
  | 25 => 3072 ≤ w ∧ w ≤ 3583
  | 26 => 3584 ≤ w ∧ w ≤ 4095
  | 27 => 4096 ≤ w ∧ w ≤ 5119
  | 28 => 5120 ≤ w ∧ w ≤ 8191
  | 29 => 8192 ≤ w ∧ w ≤ 9215
  | 30 => 9216 ≤ w ∧ w ≤ 10239
  | 31 => 10240 ≤ w ∧ w ≤ 11263
  | 32 => 11264 ≤ w ∧ w ≤ 12287
  | 33 => 12288 ≤ w ∧ w ≤ 16383
  | 34 => 16384 ≤ w ∧ w ≤ 20479
  | 35 => 20480 ≤ w ∧ w ≤ 24575
  | 36 => 24576 ≤ w ∧ w ≤ 25599
  | 37 => 25600 ≤ w ∧ w ≤ 28671
  | 38 => 28672 ≤ w ∧ w ≤ 32767
  | _ => False
theorem span_iff (i : Nat) (hi39 : i < 39) (w : Int) : encOk i (w - bs i) ↔ Span i w := by
  have h : i = 0 ∨ i = 1 ∨ i = 2 ∨ i = 3 ∨ i = 4 ∨ i = 5 ∨ i = 6 ∨ i = 7 ∨ i = 8 ∨ i = 9 ∨ i = 10 ∨ i = 11 ∨ i = 12 ∨ i = 13 ∨ i = 14 ∨ i = 15 ∨ i = 16 ∨ i = 17 ∨ i = 18 ∨ i = 19 ∨ i = 20 ∨ i = 21 ∨ i = 22 ∨ i = 23 ∨ i = 24 ∨ i = 25 ∨ i = 26 ∨ i = 27 ∨ i = 28 ∨ i = 29 ∨ i = 30 ∨ i = 31 ∨ i = 32 ∨ i = 33 ∨ i = 34 ∨ i = 35 ∨ i = 36 ∨ i = 37 ∨ i = 38 := by omega
  rcases h with rfl | rfl | rfl | rfl | rfl | rfl | rfl | rfl | rfl | rfl | rfl | rfl | rfl | rfl | rfl | rfl | rfl | rfl | rfl | rfl | rfl | rfl | rfl | rfl | rfl | rfl | rfl | rfl | rfl | rfl | rfl | rfl | rfl | rfl | rfl | rfl | rfl | rfl | rfl
  · show (0 ≤ w - 0 ∧ w - 0 ≤ 4095 ∧ ¬ rsv 0 (w - 0)) ↔ (0 ≤ w ∧ w ≤ 4095 ∧ w ≠ 3 ∧ w ≠ 4 ∧ w ≠ 6)
    unfold rsv; omega
  · show (0 ≤ w - 6 ∧ w - 6 ≤ 0 ∧ ¬ rsv 1 (w - 6)) ↔ (6 ≤ w ∧ w ≤ 6)
    unfold rsv; omega
  · show (0 ≤ w - 4 ∧ w - 4 ≤ 0 ∧ ¬ rsv 2 (w - 4)) ↔ (4 ≤ w ∧ w ≤ 4)
    unfold rsv; omega
  · show (0 ≤ w - 3 ∧ w - 3 ≤ 0 ∧ ¬ rsv 3 (w - 3)) ↔ (3 ≤ w ∧ w ≤ 3)
    unfold rsv; omega
  · show (0 ≤ w - 4096 ∧ w - 4096 ≤ 1023 ∧ ¬ rsv 4 (w - 4096)) ↔ (4096 ≤ w ∧ w ≤ 5119)
    unfold rsv; omega
  · show (1024 ≤ w - 4096 ∧ w - 4096 ≤ 4095 ∧ ¬ rsv 5 (w - 4096)) ↔ (5120 ≤ w ∧ w ≤ 8191)
    unfold rsv; omega
  · show (0 ≤ w - 8192 ∧ w - 8192 ≤ 1023 ∧ ¬ rsv 6 (w - 8192)) ↔ (8192 ≤ w ∧ w ≤ 9215)
    unfold rsv; omega
  · show (0 ≤ w - 9216 ∧ w - 9216 ≤ 1023 ∧ ¬ rsv 7 (w - 9216)) ↔ (9216 ≤ w ∧ w ≤ 10239)
    unfold rsv; omega
  · show (0 ≤ w - 10240 ∧ w - 10240 ≤ 1023 ∧ ¬ rsv 8 (w - 10240)) ↔ (10240 ≤ w ∧ w ≤ 11263)
    unfold rsv; omega
  · show (0 ≤ w - 11264 ∧ w - 11264 ≤ 1023 ∧ ¬ rsv 9 (w - 11264)) ↔ (11264 ≤ w ∧ w ≤ 12287)
    unfold rsv; omega
  · show (0 ≤ w - 12288 ∧ w - 12288 ≤ 4095 ∧ ¬ rsv 10 (w - 12288)) ↔ (12288 ≤ w ∧ w ≤ 16383)
    unfold rsv; omega
  · show (0 ≤ w - 16384 ∧ w - 16384 ≤ 4095 ∧ ¬ rsv 11 (w - 16384)) ↔ (16384 ≤ w ∧ w ≤ 20479)
    unfold rsv; omega
  · show (0 ≤ w - 20480 ∧ w - 20480 ≤ 1023 ∧ ¬ rsv 12 (w - 20480)) ↔ (20480 ≤ w ∧ w ≤ 21503 ∧ w ≠ 20495)
    unfold rsv; omega
  · show (0 ≤ w - 20495 ∧ w - 20495 ≤ 0 ∧ ¬ rsv 13 (w - 20495)) ↔ (20495 ≤ w ∧ w ≤ 20495)
    unfold rsv; omega
  · show (0 ≤ w - 21504 ∧ w - 21504 ≤ 1023 ∧ ¬ rsv 14 (w - 21504)) ↔ (21504 ≤ w ∧ w ≤ 22527)
    unfold rsv; omega
  · show (0 ≤ w - 22528 ∧ w - 22528 ≤ 1023 ∧ ¬ rsv 15 (w - 22528)) ↔ (22528 ≤ w ∧ w ≤ 23551)
    unfold rsv; omega
  · show (0 ≤ w - 23552 ∧ w - 23552 ≤ 1023 ∧ ¬ rsv 16 (w - 23552)) ↔ (23552 ≤ w ∧ w ≤ 24575)
    unfold rsv; omega
  · show (0 ≤ w - 24576 ∧ w - 24576 ≤ 4095 ∧ ¬ rsv 17 (w - 24576)) ↔ (24576 ≤ w ∧ w ≤ 28671)
    unfold rsv; omega
  · show (0 ≤ w - 28672 ∧ w - 28672 ≤ 4095 ∧ ¬ rsv 18 (w - 28672)) ↔ (28672 ≤ w ∧ w ≤ 32767)
    unfold rsv; omega
  · show (0 ≤ w - 0 ∧ w - 0 ≤ 511 ∧ ¬ rsv 19 (w - 0)) ↔ (0 ≤ w ∧ w ≤ 511)
    unfold rsv; omega
  · show (0 ≤ w - 512 ∧ w - 512 ≤ 511 ∧ ¬ rsv 20 (w - 512)) ↔ (512 ≤ w ∧ w ≤ 1023)
    unfold rsv; omega
  · show (0 ≤ w - 1024 ∧ w - 1024 ≤ 511 ∧ ¬ rsv 21 (w - 1024)) ↔ (1024 ≤ w ∧ w ≤ 1535)
    unfold rsv; omega
  · show (0 ≤ w - 1536 ∧ w - 1536 ≤ 511 ∧ ¬ rsv 22 (w - 1536)) ↔ (1536 ≤ w ∧ w ≤ 2047)
    unfold rsv; omega
  · show (0 ≤ w - 2048 ∧ w - 2048 ≤ 511 ∧ ¬ rsv 23 (w - 2048)) ↔ (2048 ≤ w ∧ w ≤ 2559)
    unfold rsv; omega
  · show (0 ≤ w - 2560 ∧ w - 2560 ≤ 511 ∧ ¬ rsv 24 (w - 2560)) ↔ (2560 ≤ w ∧ w ≤ 3071)
    unfold rsv; omega
  · show (0 ≤ w - 3072 ∧ w - 3072 ≤ 511 ∧ ¬ rsv 25 (w - 3072)) ↔ (3072 ≤ w ∧ w ≤ 3583)
    unfold rsv; omega
  · show (0 ≤ w - 3584 ∧ w - 3584 ≤ 511 ∧ ¬ rsv 26 (w - 3584)) ↔ (3584 ≤ w ∧ w ≤ 4095)
    unfold rsv; omega
  · show (0 ≤ w - 4096 ∧ w - 4096 ≤ 1023 ∧ ¬ rsv 27 (w - 4096)) ↔ (4096 ≤ w ∧ w ≤ 5119)
    unfold rsv; omega
  · show (1024 ≤ w - 4096 ∧ w - 4096 ≤ 4095 ∧ ¬ rsv 28 (w - 4096)) ↔ (5120 ≤ w ∧ w ≤ 8191)
    unfold rsv; omega
  · show (0 ≤ w - 8192 ∧ w - 8192 ≤ 1023 ∧ ¬ rsv 29 (w - 8192)) ↔ (8192 ≤ w ∧ w ≤ 9215)
    unfold rsv; omega
  · show (0 ≤ w - 9216 ∧ w - 9216 ≤ 1023 ∧ ¬ rsv 30 (w - 9216)) ↔ (9216 ≤ w ∧ w ≤ 10239)
    unfold rsv; omega
  · show (0 ≤ w - 10240 ∧ w - 10240 ≤ 1023 ∧ ¬ rsv 31 (w - 10240)) ↔ (10240 ≤ w ∧ w ≤ 11263)
    unfold rsv; omega
  · show (0 ≤ w - 11264 ∧ w - 11264 ≤ 1023 ∧ ¬ rsv 32 (w - 11264)) ↔ (11264 ≤ w ∧ w ≤ 12287)
    unfold rsv; omega
  · show (0 ≤ w - 12288 ∧ w - 12288 ≤ 4095 ∧ ¬ rsv 33 (w - 12288)) ↔ (12288 ≤ w ∧ w ≤ 16383)
    unfold rsv; omega
  · show (0 ≤ w - 16384 ∧ w - 16384 ≤ 4095 ∧ ¬ rsv 34 (w - 16384)) ↔ (16384 ≤ w ∧ w ≤ 20479)
    unfold rsv; omega
  · show (0 ≤ w - 20480 ∧ w - 20480 ≤ 4095 ∧ ¬ rsv 35 (w - 20480)) ↔ (20480 ≤ w ∧ w ≤ 24575)
    unfold rsv; omega
  · show (0 ≤ w - 24576 ∧ w - 24576 ≤ 1023 ∧ ¬ rsv 36 (w - 24576)) ↔ (24576 ≤ w ∧ w ≤ 25599)
    unfold rsv; omega
  · show (1024 ≤ w - 24576 ∧ w - 24576 ≤ 4095 ∧ ¬ rsv 37 (w - 24576)) ↔ (25600 ≤ w ∧ w ≤ 28671)
    unfold rsv; omega
  · show (0 ≤ w - 28672 ∧ w - 28672 ≤ 4095 ∧ ¬ rsv 38 (w - 28672)) ↔ (28672 ≤ w ∧ w ≤ 32767)
    unfold rsv; omega
theorem span_dec (i : Nat) (hi39 : i < 39) (w : Int) (h : Span i w) : decI w (decide (19 ≤ i)) = i := by
  have e : i = 0 ∨ i = 1 ∨ i = 2 ∨ i = 3 ∨ i = 4 ∨ i = 5 ∨ i = 6 ∨ i = 7 ∨ i = 8 ∨ i = 9 ∨ i = 10 ∨ i = 11 ∨ i = 12 ∨ i = 13 ∨ i = 14 ∨ i = 15 ∨ i = 16 ∨ i = 17 ∨ i = 18 ∨ i = 19 ∨ i = 20 ∨ i = 21 ∨ i = 22 ∨ i = 23 ∨ i = 24 ∨ i = 25 ∨ i = 26 ∨ i = 27 ∨ i = 28 ∨ i = 29 ∨ i = 30 ∨ i = 31 ∨ i = 32 ∨ i = 33 ∨ i = 34 ∨ i = 35 ∨ i = 36 ∨ i = 37 ∨ i = 38 := by omega
  rcases e with rfl | rfl | rfl | rfl | rfl | rfl | rfl | rfl | rfl | rfl | rfl | rfl | rfl | rfl | rfl | rfl | rfl | rfl | rfl | rfl | rfl | rfl | rfl | rfl | rfl | rfl | rfl | rfl | rfl | rfl | rfl | rfl | rfl | rfl | rfl | rfl | rfl | rfl | rfl
  · change 0 ≤ w ∧ w ≤ 4095 ∧ w ≠ 3 ∧ w ≠ 4 ∧ w ≠ 6 at h
    show decI w false = 0
    unfold decI
    rw [if_pos rfl]
    repeat (first | rfl | (exfalso; omega) | rw [if_neg (by omega)] | rw [if_pos (by omega)])
  · change 6 ≤ w ∧ w ≤ 6 at h
    show decI w false = 1
    unfold decI
    rw [if_pos rfl]
    repeat (first | rfl | (exfalso; omega) | rw [if_neg (by omega)] | rw [if_pos (by omega)])
  · change 4 ≤ w ∧ w ≤ 4 at h
    show decI w false = 2
    unfold decI
    rw [if_pos rfl]
    repeat (first | rfl | (exfalso; omega) | rw [if_neg (by omega)] | rw [if_pos (by omega)])
  · change 3 ≤ w ∧ w ≤ 3 at h
    show decI w false = 3
    unfold decI
    rw [if_pos rfl]
    repeat (first | rfl | (exfalso; omega) | rw [if_neg (by omega)] | rw [if_pos (by omega)])
  · change 4096 ≤ w ∧ w ≤ 5119 at h
    show decI w false = 4
    unfold decI
    rw [if_pos rfl]
    repeat (first | rfl | (exfalso; omega) | rw [if_neg (by omega)] | rw [if_pos (by omega)])
  · change 5120 ≤ w ∧ w ≤ 8191 at h
    show decI w false = 5
    unfold decI
    rw [if_pos rfl]
    repeat (first | rfl | (exfalso; omega) | rw [if_neg (by omega)] | rw [if_pos (by omega)])
  · change 8192 ≤ w ∧ w ≤ 9215 at h
    show decI w false = 6
    unfold decI
    rw [if_pos rfl]
    repeat (first | rfl | (exfalso; omega) | rw [if_neg (by omega)] | rw [if_pos (by omega)])
  · change 9216 ≤ w ∧ w ≤ 10239 at h
    show decI w false = 7
    unfold decI
    rw [if_pos rfl]
    repeat (first | rfl | (exfalso; omega) | rw [if_neg (by omega)] | rw [if_pos (by omega)])
  · change 10240 ≤ w ∧ w ≤ 11263 at h
    show decI w false = 8
    unfold decI
    rw [if_pos rfl]
    repeat (first | rfl | (exfalso; omega) | rw [if_neg (by omega)] | rw [if_pos (by omega)])
  · change 11264 ≤ w ∧ w ≤ 12287 at h
    show decI w false = 9
    unfold decI
    rw [if_pos rfl]
    repeat (first | rfl | (exfalso; omega) | rw [if_neg (by omega)] | rw [if_pos (by omega)])
  · change 12288 ≤ w ∧ w ≤ 16383 at h
    show decI w false = 10
    unfold decI
    rw [if_pos rfl]
    repeat (first | rfl | (exfalso; omega) | rw [if_neg (by omega)] | rw [if_pos (by omega)])
  · change 16384 ≤ w ∧ w ≤ 20479 at h
    show decI w false = 11
    unfold decI
    rw [if_pos rfl]
    repeat (first | rfl | (exfalso; omega) | rw [if_neg (by omega)] | rw [if_pos (by omega)])
  · change 20480 ≤ w ∧ w ≤ 21503 ∧ w ≠ 20495 at h
    show decI w false = 12
    unfold decI
    rw [if_pos rfl]
    repeat (first | rfl | (exfalso; omega) | rw [if_neg (by omega)] | rw [if_pos (by omega)])
  · change 20495 ≤ w ∧ w ≤ 20495 at h
    show decI w false = 13
    unfold decI
    rw [if_pos rfl]
    repeat (first | rfl | (exfalso; omega) | rw [if_neg (by omega)] | rw [if_pos (by omega)])
  · change 21504 ≤ w ∧ w ≤ 22527 at h
    show decI w false = 14
    unfold decI
    rw [if_pos rfl]
    repeat (first | rfl | (exfalso; omega) | rw [if_neg (by omega)] | rw [if_pos (by omega)])
  · change 22528 ≤ w ∧ w ≤ 23551 at h
    show decI w false = 15
    unfold decI
    rw [if_pos rfl]
    repeat (first | rfl | (exfalso; omega) | rw [if_neg (by omega)] | rw [if_pos (by omega)])
  · change 23552 ≤ w ∧ w ≤ 24575 at h
    show decI w false = 16
    unfold decI
    rw [if_pos rfl]
    repeat (first | rfl | (exfalso; omega) | rw [if_neg (by omega)] | rw [if_pos (by omega)])
  · change 24576 ≤ w ∧ w ≤ 28671 at h
    show decI w false = 17
    unfold decI
    rw [if_pos rfl]
    repeat (first | rfl | (exfalso; omega) | rw [if_neg (by omega)] | rw [if_pos (by omega)])
  · change 28672 ≤ w ∧ w ≤ 32767 at h
    show decI w false = 18
    unfold decI
    rw [if_pos rfl]
    repeat (first | rfl | (exfalso; omega) | rw [if_neg (by omega)] | rw [if_pos (by omega)])
  · change 0 ≤ w ∧ w ≤ 511 at h
    show decI w true = 19
    unfold decI
    rw [if_neg (by decide)]
    repeat (first | rfl | (exfalso; omega) | rw [if_neg (by omega)] | rw [if_pos (by omega)])
  · change 512 ≤ w ∧ w ≤ 1023 at h
    show decI w true = 20
    unfold decI
    rw [if_neg (by decide)]
    repeat (first | rfl | (exfalso; omega) | rw [if_neg (by omega)] | rw [if_pos (by omega)])
  · change 1024 ≤ w ∧ w ≤ 1535 at h
    show decI w true = 21
    unfold decI
    rw [if_neg (by decide)]
    repeat (first | rfl | (exfalso; omega) | rw [if_neg (by omega)] | rw [if_pos (by omega)])
  · change 1536 ≤ w ∧ w ≤ 2047 at h
    show decI w true = 22
    unfold decI
    rw [if_neg (by decide)]
    repeat (first | rfl | (exfalso; omega) | rw [if_neg (by omega)] | rw [if_pos (by omega)])
  · change 2048 ≤ w ∧ w ≤ 2559 at h
    show decI w true = 23
    unfold decI
    rw [if_neg (by decide)]
    repeat (first | rfl | (exfalso; omega) | rw [if_neg (by omega)] | rw [if_pos (by omega)])
  · change 2560 ≤ w ∧ w ≤ 3071 at h
    show decI w true = 24
    unfold decI
    rw [if_neg (by decide)]
    repeat (first | rfl | (exfalso; omega) | rw [if_neg (by omega)] | rw [if_pos (by omega)])
  · change 3072 ≤ w ∧ w ≤ 3583 at h
    show decI w true = 25
    unfold decI
    rw [if_neg (by decide)]
    repeat (first | rfl | (exfalso; omega) | rw [if_neg (by omega)] | rw [if_pos (by omega)])
  · change 3584 ≤ w ∧ w ≤ 4095 at h
    show decI w true = 26
    unfold decI
    rw [if_neg (by decide)]
    repeat (first | rfl | (exfalso; omega) | rw [if_neg (by omega)] | rw [if_pos (by omega)])
  · change 4096 ≤ w ∧ w ≤ 5119 at h
    show decI w true = 27
    unfold decI
    rw [if_neg (by decide)]
    repeat (first | rfl | (exfalso; omega) | rw [if_neg (by omega)] | rw [if_pos (by omega)])
  · change 5120 ≤ w ∧ w ≤ 8191 at h
    show decI w true = 28
    unfold decI
    rw [if_neg (by decide)]
    repeat (first | rfl | (exfalso; omega) | rw [if_neg (by omega)] | rw [if_pos (by omega)])
  · change 8192 ≤ w ∧ w ≤ 9215 at h
    show decI w true = 29
    unfold decI
    rw [if_neg (by decide)]
    repeat (first | rfl | (exfalso; omega) | rw [if_neg (by omega)] | rw [if_pos (by omega)])
  · change 9216 ≤ w ∧ w ≤ 10239 at h
    show decI w true = 30
    unfold decI
    rw [if_neg (by decide)]
    repeat (first | rfl | (exfalso; omega) | rw [if_neg (by omega)] | rw [if_pos (by omega)])
  · change 10240 ≤ w ∧ w ≤ 11263 at h
    show decI w true = 31
    unfold decI
    rw [if_neg (by decide)]
    repeat (first | rfl | (exfalso; omega) | rw [if_neg (by omega)] | rw [if_pos (by omega)])
  · change 11264 ≤ w ∧ w ≤ 12287 at h
    show decI w true = 32
    unfold decI
    rw [if_neg (by decide)]
    repeat (first | rfl | (exfalso; omega) | rw [if_neg (by omega)] | rw [if_pos (by omega)])
  · change 12288 ≤ w ∧ w ≤ 16383 at h
    show decI w true = 33
    unfold decI
    rw [if_neg (by decide)]
    repeat (first | rfl | (exfalso; omega) | rw [if_neg (by omega)] | rw [if_pos (by omega)])
  · change 16384 ≤ w ∧ w ≤ 20479 at h
    show decI w true = 34
    unfold decI
    rw [if_neg (by decide)]
    repeat (first | rfl | (exfalso; omega) | rw [if_neg (by omega)] | rw [if_pos (by omega)])
  · change 20480 ≤ w ∧ w ≤ 24575 at h
    show decI w true = 35
    unfold decI
    rw [if_neg (by decide)]
    repeat (first | rfl | (exfalso; omega) | rw [if_neg (by omega)] | rw [if_pos (by omega)])
  · change 24576 ≤ w ∧ w ≤ 25599 at h
    show decI w true = 36
    unfold decI
    rw [if_neg (by decide)]
    repeat (first | rfl | (exfalso; omega) | rw [if_neg (by omega)] | rw [if_pos (by omega)])
  · change 25600 ≤ w ∧ w ≤ 28671 at h
    show decI w true = 37
    unfold decI
    rw [if_neg (by decide)]
    repeat (first | rfl | (exfalso; omega) | rw [if_neg (by omega)] | rw [if_pos (by omega)])
  · change 28672 ≤ w ∧ w ≤ 32767 at h
    show decI w true = 38
    unfold decI
    rw [if_neg (by decide)]
    repeat (first | rfl | (exfalso; omega) | rw [if_neg (by omega)] | rw [if_pos (by omega)])
theorem dec_span (w : Int) (w0 : 0 ≤ w) (w1 : w ≤ 32767) (e : Bool) : Span (decI w e) w := by
  cases e
  · unfold decI
    rw [if_pos rfl]
    repeat (first | (show _ ∧ _; omega) | refine ite_both (P := fun x => Span x w) (fun _ => ?_) (fun _ => ?_))
  · unfold decI
    rw [if_neg (by decide)]
    repeat (first | (show _ ∧ _; omega) | refine ite_both (P := fun x => Span x w) (fun _ => ?_) (fun _ => ?_))
theorem dec_ok (w : Int) (w0 : 0 ≤ w) (w1 : w ≤ 32767) (e : Bool) : encOk (decI w e) (w - bs (decI w e)) := (span_iff _ (decI_lt w e) w).2 (dec_span w w0 w1 e)
theorem dec_one {w : Int} {e : Bool} {i : Nat} (hi39 : i < 39) (he : decide (19 ≤ i) = e) (h : encOk i (w - bs i)) : decI w e = i := by
  rw [← he]; exact span_dec i hi39 w ((span_iff i hi39 w).1 h)
end Go.Proofs.YtjjkikghfmnikaaGreatDoor

/- Tables: slices of the call's own that hold known values, made of one or two literals. -/
set_option linter.unusedSimpArgs false
set_option linter.unusedVariables false
namespace Go.Proofs.YtjjkikghfmnikaaGreatDoor
open Go.ChangeShapes Go.WideShapes Go.ChangeAt Go.RowKit
/-- The call returns a slice of its own with the values f 0, .., f (n - 1), and writes nothing that was there. -/
def RetTab (n : Nat) (f : Nat → Value) (w : World) (e : Ending) (w' : World) : Prop := ∃ g c, e = .returned (.slice (some ⟨g, 0, none⟩) n c) ∧ w.heap.size ≤ g ∧ g < w'.heap.size ∧ (∀ i, i < n → w'.cell? ⟨g, i, none⟩ = some (f i)) ∧ Below w.heap.size w w'
theorem ret_tab {T : TypeId} {n : Nat} {f : Nat → Value} {w w' : World} {v : Value} (hn : 0 < n) (ho : OwnV T w' w.heap.size v (vlst n f)) (hb : Below w.heap.size w w') : RetTab n f w (.returned v) w' := by
  unfold OwnV at ho
  rw [vlst_len] at ho
  have ho0 := ho
  obtain ⟨hlen, hcase⟩ := ho
  rcases hcase with ⟨hv, h0⟩ | ⟨g, cap, cur, hv, hBg, hheap, h1, h2, h3, h4⟩
  · omega
  subst hv
  refine ⟨g, cap, rfl, hBg, (Array.getElem?_eq_some_iff.1 hheap).1, fun i hi => ?_, hb⟩
  rw [World.ownsRow.cellAt (g := g) (cap := cap) ho0 i (by omega), vlst_get _ _ _ hi]
/-- append(x, y...) for slices of one-cell values. -/
theorem app_vals {P : Program} {ops : Array Oper} {rest : List Oper} {o : Oper} {a : Act} {Q : Exit → Act → World → Prop} (hgd : o.guard = none) (s x : Operand) (t : TypeId)
    (ho : o.op = .call { callee := .builtin .append, args := #[s, x], argTypes := #[t, t] })
    (z : Value) (e : TypeId) (bytes : Nat) (ht : P.underlying t = some (.slice e)) (hinfo : (P.info? e).map (fun i => (i.zero, i.size, i.bytes)) = some (some z, 1, bytes)) (hz1 : z.cells.size = 1)
    (w0 wr : World) (B : Nat) (v : Value) (l : List Value) (ad : Addr) (m c : Nat) (news : List Value) (hown : OwnV e wr B v l) (hs : a.eval s = v) (hx : a.eval x = .slice (some ad) m c)
    (hl : news.length = m) (hnews : ∀ j u, news[j]? = some u → wr.cell? (ad.add j) = some u) (h1 : ∀ u ∈ news, u.oneCell' = true)
    (hlen : (l.length + m) * bytes ≤ 140737488355328 ∧ l.length + m ≤ 140737488355328) (hb : Below B w0 wr) (hB : B ≤ wr.heap.size)
    (h : ∀ v' w', OwnV e w' B v' (l ++ news) → Below B w0 w' → B ≤ w'.heap.size → wpList P ops Q rest (a.put o.dst v') w') :
    wpList P ops Q (o :: rest) a wr := by
  obtain ⟨i, hi, hz, hsz, hby⟩ := info_parts hinfo
  refine wpList_append_own _ hgd s x t ho B e i z 1 bytes ht hi hz hsz hby hz1 (by decide) v l.length l hs hown ad m c news hx (by omega) hnews h1 (by unfold maxLen; omega) hlen.1 hB ?_
  intro v' w' h2 h3 h4
  refine h v' w' ?_ ?_ ?_
  · unfold OwnV; rw [List.length_append, hl]; exact h2
  · exact Below.grown hb h3 hB (fun g hg => (World.ownsRow.lt hown g hg).1)
  · have := h3.size; omega
/-- The same of two literals, X and Y, that were just written out. -/
theorem app_lits {P : Program} {ops : Array Oper} {rest : List Oper} {o : Oper} {a : Act} {Q : Exit → Act → World → Prop} (hgd : o.guard = none) (s x : Operand) (t : TypeId)
    (ho : o.op = .call { callee := .builtin .append, args := #[s, x], argTypes := #[t, t] })
    (z : Value) (e : TypeId) (bytes : Nat) (ht : P.underlying t = some (.slice e)) (hinfo : (P.info? e).map (fun i => (i.zero, i.size, i.bytes)) = some (some z, 1, bytes)) (hz1 : z.cells.size = 1)
    (w : World) (X Y : Array Value) (n m : Nat) (hX : X.size = n) (hY : Y.size = m) (f : Nat → Value) (hf : X.toList ++ Y.toList = vlst (n + m) f)
    (hs : a.eval s = .slice (some ⟨w.heap.size, 0, none⟩) n n) (hx : a.eval x = .slice (some ⟨w.heap.size + 1, 0, none⟩) m m)
    (h1 : ∀ u ∈ Y.toList, u.oneCell' = true) (hlen : (n + m) * bytes ≤ 140737488355328 ∧ n + m ≤ 140737488355328)
    (h : ∀ v' w', OwnV e w' w.heap.size v' (vlst (n + m) f) → Below w.heap.size w w' → wpList P ops Q rest (a.put o.dst v') w') :
    wpList P ops Q (o :: rest) a ((w.alloc (.cells X e)).alloc (.cells Y e)) := by
  subst hX
  subst hY
  have hown : OwnV e ((w.alloc (.cells X e)).alloc (.cells Y e)) w.heap.size (.slice (some ⟨w.heap.size, 0, none⟩) X.size X.size) X.toList := by
    unfold OwnV
    rw [Array.length_toList]
    exact World.ownsRow.alloc (World.ownsRow_lit w X X.size (Nat.le_refl _) (by unfold maxLen; omega) (by simp)) _
  refine app_vals hgd s x t ho z e bytes ht hinfo hz1 w _ w.heap.size _ X.toList ⟨w.heap.size + 1, 0, none⟩ Y.size Y.size Y.toList hown hs hx (by simp) ?_ h1 (by rw [Array.length_toList]; exact hlen) (((Below.refl _ _).alloc (Nat.le_refl _) _).alloc (by simp) _) (by simp; omega) ?_
  · intro j u hu
    have e1 : (⟨w.heap.size + 1, 0, none⟩ : Addr).add j = ⟨w.heap.size + 1, j, none⟩ := by unfold Addr.add; by_cases c : j = 0 <;> simp [c]
    rw [e1, World.cell?_alloc_at _ _ _ _ (by simp)]
    rw [Array.getElem?_toList] at hu
    exact hu
  · intro v' w' h2 h3 _
    rw [hf] at h2
    exact h v' w' h2 h3
end Go.Proofs.YtjjkikghfmnikaaGreatDoor
