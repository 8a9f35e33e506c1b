/- The walk of InterruptOrder. -/
import Derived.Test.YtmmpifcfhjdfnaaW07a
import Derived.Test.YtmmpifcfhjdfnaaP07d
import Derived.Test.YtmmpifcfhjdfnaaFB
import Derived.Deep.RegionHeld3
set_option linter.unusedSimpArgs false
set_option linter.unusedVariables false
set_option maxRecDepth 100000
namespace Go.Proofs.Ytmmpifcfhjdfnaa
open Go.ChangeShapes Go.WideShapes Go.ChangeAt Go.RowKit Go.Shelf
theorem info_word7 : (Try.prog.info? 24).map (fun i => (i.zero, i.size, i.bytes)) = some (some (.int .u16 0), 1, 2) := by kernel_rfl
theorem blk_own {k : IntKind} {T : TypeId} {w : World} {B g c : Nat} {l : List Int} (h : Own k T w B (.slice (some ⟨g, 0, none⟩) l.length c) l) : Blk w g (l.map (Value.int k)) := fun j v e => by
  rw [List.getElem?_map] at e
  rcases hj : l[j]? with _ | x
  · rw [hj] at e; simp at e
  · rw [hj] at e
    simp at e
    subst e
    have hl : j < l.length := (List.getElem?_eq_some_iff.1 hj).1
    refine ⟨?_, h.free j⟩
    rw [h.cell hl, List.getD_eq_getElem?_getD, hj]
    rfl
theorem ord_bd (y : Int) (y0 : 0 ≤ y) (y1 : y ≤ 65535) : ∀ i, i < 16 → 0 ≤ [0, 0, 0, 0, 0, 0, 0, 0, 0, 0, 0, 0, 0, y, 0, 5].getD i 0 ∧ [0, 0, 0, 0, 0, 0, 0, 0, 0, 0, 0, 0, 0, y, 0, 5].getD i 0 ≤ 65535 := fun i hi => by
  match i, hi with
  | 13, _ => exact ⟨y0, y1⟩
  | 0, _ | 1, _ | 2, _ | 3, _ | 4, _ | 5, _ | 6, _ | 7, _ | 8, _ | 9, _ | 10, _ | 11, _ | 12, _ | 14, _ | 15, _ => simp
  | i + 16, hi => exact absurd hi (by omega)
theorem ord_lv (y : Int) (y0 : 0 ≤ y) (y1 : y < 4096) {Zr : Int} : lvR { rg0 with Z := Zr, Sv := true } 16 (fun i => [0, 0, 0, 0, 0, 0, 0, 0, 0, 0, 0, 0, 0, y, 0, 5].getD i 0) = { rg0 with Z := y, B := 5, Hd := true } := by
  unfold lvR
  have e1 : wd 16 (fun i => [0, 0, 0, 0, 0, 0, 0, 0, 0, 0, 0, 0, 0, y, 0, 5].getD i 0) 13 = y := by
    unfold wd
    rw [if_neg (by decide)]
    show y % 32768 = y
    omega
  have e2 : wd 16 (fun i => [0, 0, 0, 0, 0, 0, 0, 0, 0, 0, 0, 0, 0, y, 0, 5].getD i 0) 15 = 5 := by
    unfold wd
    rw [if_neg (by decide)]
    rfl
  rw [e1, e2]
  have e3 : y % 4096 = y := by omega
  rw [e3]
  rfl
set_option maxHeartbeats 6000000 in
theorem order_any (A : Option Addr) (len cap n : Nat) (f : Nat → Int) (zz : Int) (z0 : 0 ≤ zz) (z1 : zz < 65536) (hf : ∀ i, i < n → 0 ≤ f i ∧ f i < 256) (hlen : len ≤ cap) (hcap : cap ≤ 9223372036854775807) (hnA : cap = 0 ∨ ∃ x, A = some x)
    (hm : (len = n ∧ (len : Int) ≤ 30) ∨ (n = 30 ∧ ¬ (len : Int) ≤ 30)) (w : World) (hr : Row .u8 w A n f) :
    Calls Try.prog 4 #[.slice A len cap, .int .u16 zz] w fun e w' => e = .returned (.bool true) ∧ Below w.heap.size w w' := by
  have HR := Lib.hid hr
  have HF := Lib.hid hf
  have hn30 : n ≤ 30 := by omega
  clear hr hf
  go_enter Try.func4, Try.ntmps4
  go_upto_region 1 with (fail)
  go_cut [0] (fun s0 wx => s0 = .slice A n cap ∧ w = wx)
  case first =>
    rcases hm with ⟨en, hcn⟩ | ⟨en, hcn⟩
    all_goals
      have EN := Lib.hid en
      clear en
      go_wp2
      go_meet
      exact ⟨by rw [EN.out], rfl⟩
  case rest =>
    obtain ⟨rfl, rfl⟩ := hcut
    clear hm hlen hcap hnA
    go_wp2_with (fail)
    go_loopw [7] (fun i wr => ∃ (k : Nat) (u : Int), k ≤ n ∧ i = .int .i64 k ∧ 0 ≤ u ∧ u < 65536 ∧ Hid (Blk wr w.heap.size [.int .u16 u]) ∧ Hid (Blk wr (w.heap.size + 1) (wl u)) ∧ w.heap.size + 2 ≤ wr.heap.size ∧ Hid (Below w.heap.size w wr)) (fun i _ => n - (intOf i).toNat)
    case atStart => exact ⟨0, 0, Nat.zero_le _, rfl, by decide, by decide, Lib.hid ((Blk.new w 28 [.int .u16 0] _ rfl).alloc (by simp) _), Lib.hid (Blk.new _ _ (wl 0) _ (by simp)), by simp, Lib.hid (below2 _ _ _)⟩
    case round =>
      obtain ⟨k, u, hk, rfl, u0, u1, HS, HW, hz, HB⟩ := hrel
      by_cases hlt : k < n
      · have HLT := Lib.hid hlt
        obtain ⟨a, rfl, hx⟩ := HR.out k hlt
        have hxr := (HB.out.cell (lt_of_cell hx)).trans hx
        have hfk := HF.out k hlt
        generalize f k = x at *
        have ht : x.tmod 10 = x % 10 := Int.tmod_eq_emod_of_nonneg hfk.1
        obtain ⟨N, hN⟩ : ∃ N : Nat, 1 + x % 10 = (N : Int) := ⟨(1 + x % 10).toNat, by omega⟩
        have hN0 : 1 ≤ N := by omega
        have hN1 : N ≤ 10 := by omega
        have HQ := Lib.hid (Request_yes u u0 u1 N hN0 hN1)
        have HWt := Lib.hid (Waits_yes ((rq u N : Nat) : Int) (by omega) (by have := rq_bd u N; omega) N hN0 hN1 true (by rw [rq_pb u N N hN0 hN1]; simp))
        have HG := Lib.hid (wl_get u N hN0 hN1)
        have HST := Lib.hid (wl_set u N hN0 hN1)
        have HBD := Lib.hid (rq_bd u N)
        generalize rq u N = v at *
        have c0 := HS.out.cell 0 _ rfl
        clear hx
        go_wp2_with (fail)
        refine (HQ.out _).mono ?_
        rintro e w3 ⟨rfl, hb⟩
        have S3 := HS.out.below hb (by omega)
        have W3 := HW.out.below hb (by omega)
        have B3 := HB.out.trans (hb.mono HB.out.size)
        have hz3 : w.heap.size + 2 ≤ w3.heap.size := Nat.le_trans hz hb.size
        clear hb c0 hxr HQ
        go_wp2_with (fail)
        refine (HWt.out _).mono ?_
        rintro e w4 ⟨rfl, hb⟩
        have hzA : (w3.alloc (.cells #[.int .u16 (v : Nat)] 28)).heap.size = w3.heap.size + 1 := by simp
        have S4 := Lib.hid ((S3.alloc (show w.heap.size < w3.heap.size by omega) (.cells #[.int .u16 (v : Nat)] 28)).below hb (by omega))
        have W4 := Lib.hid ((W3.alloc (show w.heap.size + 1 < w3.heap.size by omega) (.cells #[.int .u16 (v : Nat)] 28)).below hb (by omega))
        have X4 := Lib.hid ((Blk.new w3 28 [.int .u16 (v : Nat)] _ rfl).below hb (by omega))
        have B4 := Lib.hid ((B3.alloc B3.size (.cells #[.int .u16 (v : Nat)] 28)).trans (hb.mono (by omega)))
        have hz4 : w.heap.size + 2 ≤ w4.heap.size := by have := hb.size; omega
        clear hb hzA S3 W3 B3 HS HW HB HWt
        have d9 := X4.out.cell 0 _ rfl
        have d5 := S4.out.cell 0 _ rfl
        have f5 := S4.out.free 0 _ rfl
        have d6 := W4.out.cell N _ HG.out
        have f6 := W4.out.free N _ HG.out
        go_wp2
        go_roundw
        case rel => exact ⟨k + 1, ((v : Nat) : Int), by have := HLT.out; omega, by go_num, by omega, by have := HBD.out; omega, Lib.hid ((S4.out.set 0 (by simp) (.int .u16 (v : Nat))).other (by omega) N (.bool true)), Lib.hid (by rw [← HST.out]; exact (W4.out.other (by omega) 0 (.int .u16 (v : Nat))).set N (by rw [wl_len]; omega) (.bool true)), by simp; omega, Lib.hid ((B4.out.setCell (p := ⟨w.heap.size, 0, none⟩) (Nat.le_refl _) _).setCell (p := ⟨w.heap.size + 1, N, none⟩) (by show _ ≤ w.heap.size + 1; omega) _)⟩
        case measure => have := HLT.out; simp [intOf]; omega
      · have e : k = n := by omega
        subst e
        clear HR HF hn30
        have hzt : zz.tmod 4096 = zz % 4096 := Int.tmod_eq_emod_of_nonneg z0
        have hzb : 0 ≤ zz % 4096 ∧ zz % 4096 < 4096 := by omega
        have hzw : IntKind.u16.wrap (zz % 4096) = zz % 4096 := IntWalk.u16_in _ (by omega)
        generalize zz % 4096 = y at *
        have KS := Lib.hid (HS.out.alloc (show w.heap.size < wr.heap.size by omega) (.cells #[.int .u16 0, .int .u16 0, .int .u16 0, .int .i64 y, .int .i64 0, .int .i64 0, .int .i64 0, .bool false, .int .u16 0, .bool false, .int .u16 0, .bool false, .bool false] 26))
        have KW := Lib.hid (HW.out.alloc (show w.heap.size + 1 < wr.heap.size by omega) (.cells #[.int .u16 0, .int .u16 0, .int .u16 0, .int .i64 y, .int .i64 0, .int .i64 0, .int .i64 0, .bool false, .int .u16 0, .bool false, .int .u16 0, .bool false, .bool false] 26))
        have KR := Lib.hid (Blk.new wr 26 [.int .u16 0, .int .u16 0, .int .u16 0, .int .i64 y, .int .i64 0, .int .i64 0, .int .i64 0, .bool false, .int .u16 0, .bool false, .int .u16 0, .bool false, .bool false] _ rfl)
        have KB := Lib.hid (HB.out.alloc HB.out.size (.cells #[.int .u16 0, .int .u16 0, .int .u16 0, .int .i64 y, .int .i64 0, .int .i64 0, .int .i64 0, .bool false, .int .u16 0, .bool false, .int .u16 0, .bool false, .bool false] 26))
        have kz : wr.heap.size + 1 ≤ (wr.alloc (.cells #[.int .u16 0, .int .u16 0, .int .u16 0, .int .i64 y, .int .i64 0, .int .i64 0, .int .i64 0, .bool false, .int .u16 0, .bool false, .int .u16 0, .bool false, .bool false] 26)).heap.size := by simp
        obtain ⟨g, hg⟩ : ∃ g, wr.heap.size = g := ⟨_, rfl⟩
        rw [hg] at KR
        have HGG := Lib.hid hg
        have hgz : w.heap.size + 2 ≤ g := by omega
        have kz2 : g + 1 ≤ (wr.alloc (.cells #[.int .u16 0, .int .u16 0, .int .u16 0, .int .i64 y, .int .i64 0, .int .i64 0, .int .i64 0, .bool false, .int .u16 0, .bool false, .int .u16 0, .bool false, .bool false] 26)).heap.size := by omega
        clear kz
        go_wp2_with (fail)
        go_loopw [12] (fun i vr => ∃ (N : Nat) (v : Int), 1 ≤ N ∧ N ≤ 11 ∧ i = .int .i64 N ∧ 0 ≤ v ∧ v < 65536 ∧ Hid (∀ q, 1 ≤ q → q ≤ 10 → pb v q = (pb u q && decide (N ≤ q))) ∧ Hid (Blk vr w.heap.size [.int .u16 v]) ∧ Hid (Blk vr (w.heap.size + 1) (wl u)) ∧ Hid (Blk vr g [.int .u16 0, .int .u16 0, .int .u16 0, .int .i64 y, .int .i64 0, .int .i64 0, .int .i64 0, .bool false, .int .u16 0, .bool false, .int .u16 0, .bool false, .bool false]) ∧ g + 1 ≤ vr.heap.size ∧ Hid (Below w.heap.size w vr)) (fun i _ => 11 - (intOf i).toNat)
        case atStart => exact ⟨1, u, Nat.le_refl _, by decide, rfl, u0, u1, Lib.hid (fun q q1 q2 => by simp; intro _; omega), KS, KW, KR, kz2, KB⟩
        case round =>
          obtain ⟨N, v, hN0, hN11, rfl, v0, v1, HV, LS, LW, LR, hzv, LB⟩ := hrel
          clear KS KW KR KB kz2 HS HW HB
          by_cases hjt : N ≤ 10
          · have HJT := Lib.hid hjt
            have hN1 : N ≤ 10 := hjt
            have hNi : (N : Int) < 11 := by omega
            have hNj : 0 ≤ (N : Int) := by omega
            have hvN : pb v N = pb u N := by rw [HV.out N hN0 hN1]; simp
            have HWt := Lib.hid (fun w => Waits_yes v v0 v1 N hN0 hN1 (pb u N) hvN w)
            have HGN := Lib.hid (wl_get u N hN0 hN1)
            have c0 := LS.out.cell 0 _ rfl
            have cN := LW.out.cell N _ HGN.out
            rcases hpu : pb u N with _ | _
            · have HPU := Lib.hid hpu
              rw [hpu] at cN HWt
              clear hpu
              have g0 : wr.drew.cell? ⟨w.heap.size, 0, none⟩ = some (.int .u16 v) := c0
              have gN : wr.drew.cell? ⟨w.heap.size + 1, N, none⟩ = some (.bool false) := cN
              go_upto_region 16 with (fail)
              go_region_held3 (fun w' => w'.cell? ⟨w.heap.size, 0, none⟩ = some (.int .u16 v) ∧ w'.cell? ⟨w.heap.size + 1, N, none⟩ = some (.bool false))
                (first
                  | with_reducible exact ⟨g0, gN⟩
                  | with_reducible exact ⟨e0, eN⟩)
                (first
                  | (go_at_call 14; refine (HWt.out _).mono ?_; rintro e v3 ⟨rfl, hb⟩; (have ES := Lib.hid (LS.out.drew.below hb (by show _ < wr.heap.size; omega))); (have EW := Lib.hid (LW.out.drew.below hb (by show _ < wr.heap.size; omega))); (have ER := Lib.hid (LR.out.drew.below hb (by show _ < wr.heap.size; omega))); (have EB := Lib.hid (LB.out.trans ((from_drew hb).mono LB.out.size))); (have hz3 : g + 1 ≤ v3.heap.size := Nat.le_trans hzv hb.size); clear hb; (have e0 := ES.out.cell 0 _ rfl); (have eN := EW.out.cell N _ (by rw [HGN.out, HPU.out])))
                  | fail)
              all_goals
                go_wp2
                go_roundw
                case rel => exact ⟨N + 1, v, by omega, by have := HJT.out; omega, by go_num, v0, v1, Lib.hid (fun q q1 q2 => by
                  rw [HV.out q q1 q2]
                  by_cases h : q = N
                  · subst h; rw [HPU.out]; rfl
                  · congr 1; apply decide_eq_decide.2; omega), ES, EW, ER, hz3, EB⟩
                case measure => have := HJT.out; simp [intOf]; omega
            · have HPU := Lib.hid hpu
              rw [hpu] at cN HWt
              have hfs : fs v 10 = N := fs_first v N hN0 hN1 (by rw [hvN]; exact hpu) (fun q q1 q2 => by rw [HV.out q q1 (by omega)]; simp; intro _; omega)
              have hch : chz v { rg0 with Z := y } = N := by unfold chz; rw [if_pos (by unfold alw oOver rg0; simp)]; exact hfs
              have hfit : ({ rg0 with Z := y } : Rg).Fit := by constructor <;> simp only [rg0] <;> omega
              have hmay : ({ rg0 with Z := y } : Rg).may := by unfold Rg.may rg0; simp only; omega
              have HEN := Lib.hid (fun w => Enter_ok { rg0 with Z := y } hfit hmay v 5 v0 v1 (by decide) (by decide) N hch (by omega) hN1 w)
              have HKP := Lib.hid (fun q q1 q2 => kq_pb v N q q1 q2)
              have HKB := Lib.hid (sB10 (kq v N))
              clear hpu hfs hch hfit hmay hvN
              have g0 : wr.drew.cell? ⟨w.heap.size, 0, none⟩ = some (.int .u16 v) := c0
              have gN : wr.drew.cell? ⟨w.heap.size + 1, N, none⟩ = some (.bool true) := cN
              go_upto_region 16 with (fail)
              go_cut [73] (fun s wx => s = .bool false ∧ Hid (FB w [(g, [.int .u16 0, .int .u16 0, .int .u16 0, .int .i64 y, .int .i64 0, .int .i64 0, .int .i64 0, .bool false, .int .u16 0, .bool false, .int .u16 0, .bool false, .bool false]), (w.heap.size + 1, wl u), (w.heap.size, [.int .u16 v])] wx))
              case first =>
                go_region_held3 (fun w' => w'.cell? ⟨w.heap.size, 0, none⟩ = some (.int .u16 v) ∧ w'.cell? ⟨w.heap.size + 1, N, none⟩ = some (.bool true))
                  (first
                    | with_reducible exact ⟨g0, gN⟩
                    | with_reducible exact ⟨e0, eN⟩)
                  (first
                    | (go_at_call 14; refine (HWt.out _).mono ?_; rintro e v3 ⟨rfl, hb⟩; (have ES := Lib.hid (LS.out.drew.below hb (by show _ < wr.heap.size; omega))); (have EW := Lib.hid (LW.out.drew.below hb (by show _ < wr.heap.size; omega))); (have ER := Lib.hid (LR.out.drew.below hb (by show _ < wr.heap.size; omega))); (have EB := Lib.hid (LB.out.trans ((from_drew hb).mono LB.out.size))); (have hz3 : g + 1 ≤ v3.heap.size := Nat.le_trans hzv hb.size); clear hb; (have e0 := ES.out.cell 0 _ rfl); (have eN := EW.out.cell N _ (by rw [HGN.out, HPU.out])))
                    | fail)
                all_goals
                  go_wp2
                  go_meet
                  exact ⟨rfl, Lib.hid (FB.cons (FB.cons (FB.cons (w := w) (X := v3) (L := []) ⟨fun i g l h => by simp at h, EB.out⟩ ES.out (by omega)) EW.out (by omega)) ER.out (by omega))⟩
              case rest =>
                obtain ⟨rfl, F0⟩ := hcut
                clear HWt c0 cN g0 gN LS LW LR LB
                have KZ := F0.out.blk 0 rfl
                have d0 := (F0.out.blk 2 rfl).cell 0 _ rfl
                have dN := (F0.out.blk 1 rfl).cell N _ (by rw [HGN.out, HPU.out])
                have c0 := KZ.cell 0 _ rfl; have c1 := KZ.cell 1 _ rfl; have c2 := KZ.cell 2 _ rfl; have c3 := KZ.cell 3 _ rfl; have c4 := KZ.cell 4 _ rfl; have c5 := KZ.cell 5 _ rfl; have c6 := KZ.cell 6 _ rfl; have c7 := KZ.cell 7 _ rfl; have c8 := KZ.cell 8 _ rfl; have c9 := KZ.cell 9 _ rfl; have c10 := KZ.cell 10 _ rfl; have c11 := KZ.cell 11 _ rfl; have c12 := KZ.cell 12 _ rfl
                go_wp2_with (fail)
                refine (HEN.out _).mono ?_
                rintro e w5 ⟨gc, rfl, hC, hgc0, hgc1, hb⟩
                rw [show (.agg #[.int .u16 (enR { rg0 with Z := y } N).A, .int .u16 (enR { rg0 with Z := y } N).L, .int .u16 (enR { rg0 with Z := y } N).Q, .int .i64 (enR { rg0 with Z := y } N).Z, .int .i64 (enR { rg0 with Z := y } N).EB, .int .i64 (enR { rg0 with Z := y } N).FB, .int .i64 (enR { rg0 with Z := y } N).Su, .bool (enR { rg0 with Z := y } N).Ex, .int .u16 (enR { rg0 with Z := y } N).Ix, .bool (enR { rg0 with Z := y } N).Hd, .int .u16 (enR { rg0 with Z := y } N).B, .bool (enR { rg0 with Z := y } N).Ih, .bool (enR { rg0 with Z := y } N).Sv] : Value) = .agg #[.int .u16 0, .int .u16 0, .int .u16 0, .int .i64 (2048 + 4 * (N : Int)), .int .i64 0, .int .i64 0, .int .i64 0, .bool false, .int .u16 0, .bool false, .int .u16 0, .bool false, .bool true] from rfl]
                have hC' : Blk w5 gc [.int .i64 13, .int .u16 y, .int .i64 15, .int .u16 5] := hC
                have F5 := (F0.out.call hb).cons hC' hgc1
                obtain ⟨t, ht⟩ : ∃ t, sB (kq v N) 10 = t := ⟨_, rfl⟩
                rw [ht] at HKP HKB ⊢
                clear hb hC hC' F0 KZ d0 dN c0 c1 c2 c3 c4 c5 c6 c7 c8 c9 c10 c11 c12 ht HEN hgc0
                go_upto_region 20 with (fail)
                have F6 := (F5.alloc [.int .u16 0, .int .u16 0, .int .u16 0, .int .i64 (2048 + 4 * (N : Int)), .int .i64 0, .int .i64 0, .int .i64 0, .bool false, .int .u16 0, .bool false, .int .u16 0, .bool false, .bool true] 26).alloc [.int .u16 (t : Nat)] 28
                simp only [World.size_alloc] at F6
                clear F5
                generalize (w5.alloc (.cells #[.int .u16 0, .int .u16 0, .int .u16 0, .int .i64 (2048 + 4 * (N : Int)), .int .i64 0, .int .i64 0, .int .i64 0, .bool false, .int .u16 0, .bool false, .int .u16 0, .bool false, .bool true] 26)).alloc (.cells #[.int .u16 (t : Nat)] 28) = P at F6 ⊢
                have hzP : w5.heap.size + 1 < P.heap.size := F6.lt 0 rfl
                have HF6 := Lib.hid F6
                clear F6
                go_cut [18, 19] (fun s q wx => s = .int .i64 0 ∧ q = .bool false ∧ Hid (FB w ((w5.heap.size + 1, [.int .u16 (t : Nat)]) :: (w5.heap.size, [.int .u16 0, .int .u16 0, .int .u16 0, .int .i64 (2048 + 4 * (N : Int)), .int .i64 0, .int .i64 0, .int .i64 0, .bool false, .int .u16 0, .bool false, .int .u16 0, .bool false, .bool true]) :: (gc, [.int .i64 13, .int .u16 y, .int .i64 15, .int .u16 5]) :: [(g, [.int .u16 0, .int .u16 0, .int .u16 0, .int .i64 y, .int .i64 0, .int .i64 0, .int .i64 0, .bool false, .int .u16 0, .bool false, .int .u16 0, .bool false, .bool false]), (w.heap.size + 1, wl u), (w.heap.size, [.int .u16 v])]) wx))
                case first =>
                  have Dk := (HF6.out.blk 1 rfl).drew
                  have FE := Lib.hid ((HF6.out.alloc [.int .i64 1, .int .i64 2, .int .i64 3, .int .i64 4, .int .i64 5, .int .i64 6, .int .i64 7, .int .i64 8, .int .i64 9, .int .i64 10] 3).drew)
                  have Ek := FE.out.blk 2 rfl
                  have KD : P.drew.cell? ⟨w5.heap.size, 0, none⟩ = some (.int .u16 0) ∧ P.drew.cell? ⟨w5.heap.size, 1, none⟩ = some (.int .u16 0) ∧ P.drew.cell? ⟨w5.heap.size, 2, none⟩ = some (.int .u16 0) ∧ P.drew.cell? ⟨w5.heap.size, 3, none⟩ = some (.int .i64 (2048 + 4 * (N : Int))) ∧ P.drew.cell? ⟨w5.heap.size, 4, none⟩ = some (.int .i64 0) ∧ P.drew.cell? ⟨w5.heap.size, 5, none⟩ = some (.int .i64 0) ∧ P.drew.cell? ⟨w5.heap.size, 6, none⟩ = some (.int .i64 0) ∧ P.drew.cell? ⟨w5.heap.size, 7, none⟩ = some (.bool false) ∧ P.drew.cell? ⟨w5.heap.size, 8, none⟩ = some (.int .u16 0) ∧ P.drew.cell? ⟨w5.heap.size, 9, none⟩ = some (.bool false) ∧ P.drew.cell? ⟨w5.heap.size, 10, none⟩ = some (.int .u16 0) ∧ P.drew.cell? ⟨w5.heap.size, 11, none⟩ = some (.bool false) ∧ P.drew.cell? ⟨w5.heap.size, 12, none⟩ = some (.bool true) := ⟨Dk.cell 0 _ rfl, Dk.cell 1 _ rfl, Dk.cell 2 _ rfl, Dk.cell 3 _ rfl, Dk.cell 4 _ rfl, Dk.cell 5 _ rfl, Dk.cell 6 _ rfl, Dk.cell 7 _ rfl, Dk.cell 8 _ rfl, Dk.cell 9 _ rfl, Dk.cell 10 _ rfl, Dk.cell 11 _ rfl, Dk.cell 12 _ rfl⟩
                  have KE : (P.alloc (.cells #[.int .i64 1, .int .i64 2, .int .i64 3, .int .i64 4, .int .i64 5, .int .i64 6, .int .i64 7, .int .i64 8, .int .i64 9, .int .i64 10] 3)).drew.cell? ⟨w5.heap.size, 0, none⟩ = some (.int .u16 0) ∧ (P.alloc (.cells #[.int .i64 1, .int .i64 2, .int .i64 3, .int .i64 4, .int .i64 5, .int .i64 6, .int .i64 7, .int .i64 8, .int .i64 9, .int .i64 10] 3)).drew.cell? ⟨w5.heap.size, 1, none⟩ = some (.int .u16 0) ∧ (P.alloc (.cells #[.int .i64 1, .int .i64 2, .int .i64 3, .int .i64 4, .int .i64 5, .int .i64 6, .int .i64 7, .int .i64 8, .int .i64 9, .int .i64 10] 3)).drew.cell? ⟨w5.heap.size, 2, none⟩ = some (.int .u16 0) ∧ (P.alloc (.cells #[.int .i64 1, .int .i64 2, .int .i64 3, .int .i64 4, .int .i64 5, .int .i64 6, .int .i64 7, .int .i64 8, .int .i64 9, .int .i64 10] 3)).drew.cell? ⟨w5.heap.size, 3, none⟩ = some (.int .i64 (2048 + 4 * (N : Int))) ∧ (P.alloc (.cells #[.int .i64 1, .int .i64 2, .int .i64 3, .int .i64 4, .int .i64 5, .int .i64 6, .int .i64 7, .int .i64 8, .int .i64 9, .int .i64 10] 3)).drew.cell? ⟨w5.heap.size, 4, none⟩ = some (.int .i64 0) ∧ (P.alloc (.cells #[.int .i64 1, .int .i64 2, .int .i64 3, .int .i64 4, .int .i64 5, .int .i64 6, .int .i64 7, .int .i64 8, .int .i64 9, .int .i64 10] 3)).drew.cell? ⟨w5.heap.size, 5, none⟩ = some (.int .i64 0) ∧ (P.alloc (.cells #[.int .i64 1, .int .i64 2, .int .i64 3, .int .i64 4, .int .i64 5, .int .i64 6, .int .i64 7, .int .i64 8, .int .i64 9, .int .i64 10] 3)).drew.cell? ⟨w5.heap.size, 6, none⟩ = some (.int .i64 0) ∧ (P.alloc (.cells #[.int .i64 1, .int .i64 2, .int .i64 3, .int .i64 4, .int .i64 5, .int .i64 6, .int .i64 7, .int .i64 8, .int .i64 9, .int .i64 10] 3)).drew.cell? ⟨w5.heap.size, 7, none⟩ = some (.bool false) ∧ (P.alloc (.cells #[.int .i64 1, .int .i64 2, .int .i64 3, .int .i64 4, .int .i64 5, .int .i64 6, .int .i64 7, .int .i64 8, .int .i64 9, .int .i64 10] 3)).drew.cell? ⟨w5.heap.size, 8, none⟩ = some (.int .u16 0) ∧ (P.alloc (.cells #[.int .i64 1, .int .i64 2, .int .i64 3, .int .i64 4, .int .i64 5, .int .i64 6, .int .i64 7, .int .i64 8, .int .i64 9, .int .i64 10] 3)).drew.cell? ⟨w5.heap.size, 9, none⟩ = some (.bool false) ∧ (P.alloc (.cells #[.int .i64 1, .int .i64 2, .int .i64 3, .int .i64 4, .int .i64 5, .int .i64 6, .int .i64 7, .int .i64 8, .int .i64 9, .int .i64 10] 3)).drew.cell? ⟨w5.heap.size, 10, none⟩ = some (.int .u16 0) ∧ (P.alloc (.cells #[.int .i64 1, .int .i64 2, .int .i64 3, .int .i64 4, .int .i64 5, .int .i64 6, .int .i64 7, .int .i64 8, .int .i64 9, .int .i64 10] 3)).drew.cell? ⟨w5.heap.size, 11, none⟩ = some (.bool false) ∧ (P.alloc (.cells #[.int .i64 1, .int .i64 2, .int .i64 3, .int .i64 4, .int .i64 5, .int .i64 6, .int .i64 7, .int .i64 8, .int .i64 9, .int .i64 10] 3)).drew.cell? ⟨w5.heap.size, 12, none⟩ = some (.bool true) := ⟨Ek.cell 0 _ rfl, Ek.cell 1 _ rfl, Ek.cell 2 _ rfl, Ek.cell 3 _ rfl, Ek.cell 4 _ rfl, Ek.cell 5 _ rfl, Ek.cell 6 _ rfl, Ek.cell 7 _ rfl, Ek.cell 8 _ rfl, Ek.cell 9 _ rfl, Ek.cell 10 _ rfl, Ek.cell 11 _ rfl, Ek.cell 12 _ rfl⟩
                  have HP := Lib.hid (pendLit [1, 2, 3, 4, 5, 6, 7, 8, 9, 10] (by decide) (by rfl) 2046 (by rfl) (P.alloc (.cells #[.int .i64 1, .int .i64 2, .int .i64 3, .int .i64 4, .int .i64 5, .int .i64 6, .int .i64 7, .int .i64 8, .int .i64 9, .int .i64 10] 3)).drew P.heap.size 10 (FE.out.blk 0 rfl))
                  have HCN := Lib.hid (fun w => Choose_no 2046 { rg0 with Z := 2048 + 4 * (N : Int), Sv := true } (by constructor <;> simp only [rg0] <;> omega) (by unfold alw rg0; simp) w)
                  clear Dk Ek
                  go_region_held3 (fun w' => w'.cell? ⟨w5.heap.size, 0, none⟩ = some (.int .u16 0) ∧ w'.cell? ⟨w5.heap.size, 1, none⟩ = some (.int .u16 0) ∧ w'.cell? ⟨w5.heap.size, 2, none⟩ = some (.int .u16 0) ∧ w'.cell? ⟨w5.heap.size, 3, none⟩ = some (.int .i64 (2048 + 4 * (N : Int))) ∧ w'.cell? ⟨w5.heap.size, 4, none⟩ = some (.int .i64 0) ∧ w'.cell? ⟨w5.heap.size, 5, none⟩ = some (.int .i64 0) ∧ w'.cell? ⟨w5.heap.size, 6, none⟩ = some (.int .i64 0) ∧ w'.cell? ⟨w5.heap.size, 7, none⟩ = some (.bool false) ∧ w'.cell? ⟨w5.heap.size, 8, none⟩ = some (.int .u16 0) ∧ w'.cell? ⟨w5.heap.size, 9, none⟩ = some (.bool false) ∧ w'.cell? ⟨w5.heap.size, 10, none⟩ = some (.int .u16 0) ∧ w'.cell? ⟨w5.heap.size, 11, none⟩ = some (.bool false) ∧ w'.cell? ⟨w5.heap.size, 12, none⟩ = some (.bool true))
                    (first
                      | with_reducible exact KD
                      | with_reducible exact KE
                      | with_reducible exact KF
                      | with_reducible exact KG)
                    (first
                      | (go_at_call 16; refine HP.out.mono ?_; rintro e p6 ⟨rfl, hb⟩; (have FF := Lib.hid (FE.out.call hb)); clear hb; (have Fk := FF.out.blk 2 rfl); (have KF : p6.cell? ⟨w5.heap.size, 0, none⟩ = some (.int .u16 0) ∧ p6.cell? ⟨w5.heap.size, 1, none⟩ = some (.int .u16 0) ∧ p6.cell? ⟨w5.heap.size, 2, none⟩ = some (.int .u16 0) ∧ p6.cell? ⟨w5.heap.size, 3, none⟩ = some (.int .i64 (2048 + 4 * (N : Int))) ∧ p6.cell? ⟨w5.heap.size, 4, none⟩ = some (.int .i64 0) ∧ p6.cell? ⟨w5.heap.size, 5, none⟩ = some (.int .i64 0) ∧ p6.cell? ⟨w5.heap.size, 6, none⟩ = some (.int .i64 0) ∧ p6.cell? ⟨w5.heap.size, 7, none⟩ = some (.bool false) ∧ p6.cell? ⟨w5.heap.size, 8, none⟩ = some (.int .u16 0) ∧ p6.cell? ⟨w5.heap.size, 9, none⟩ = some (.bool false) ∧ p6.cell? ⟨w5.heap.size, 10, none⟩ = some (.int .u16 0) ∧ p6.cell? ⟨w5.heap.size, 11, none⟩ = some (.bool false) ∧ p6.cell? ⟨w5.heap.size, 12, none⟩ = some (.bool true) := ⟨Fk.cell 0 _ rfl, Fk.cell 1 _ rfl, Fk.cell 2 _ rfl, Fk.cell 3 _ rfl, Fk.cell 4 _ rfl, Fk.cell 5 _ rfl, Fk.cell 6 _ rfl, Fk.cell 7 _ rfl, Fk.cell 8 _ rfl, Fk.cell 9 _ rfl, Fk.cell 10 _ rfl, Fk.cell 11 _ rfl, Fk.cell 12 _ rfl⟩); clear Fk)
                      | (go_at_call 15; refine (HCN.out _).mono ?_; rintro e p7 ⟨rfl, hb⟩; (have FG := Lib.hid (FF.out.call hb)); clear hb; (have Gk := FG.out.blk 2 rfl); (have KG : p7.cell? ⟨w5.heap.size, 0, none⟩ = some (.int .u16 0) ∧ p7.cell? ⟨w5.heap.size, 1, none⟩ = some (.int .u16 0) ∧ p7.cell? ⟨w5.heap.size, 2, none⟩ = some (.int .u16 0) ∧ p7.cell? ⟨w5.heap.size, 3, none⟩ = some (.int .i64 (2048 + 4 * (N : Int))) ∧ p7.cell? ⟨w5.heap.size, 4, none⟩ = some (.int .i64 0) ∧ p7.cell? ⟨w5.heap.size, 5, none⟩ = some (.int .i64 0) ∧ p7.cell? ⟨w5.heap.size, 6, none⟩ = some (.int .i64 0) ∧ p7.cell? ⟨w5.heap.size, 7, none⟩ = some (.bool false) ∧ p7.cell? ⟨w5.heap.size, 8, none⟩ = some (.int .u16 0) ∧ p7.cell? ⟨w5.heap.size, 9, none⟩ = some (.bool false) ∧ p7.cell? ⟨w5.heap.size, 10, none⟩ = some (.int .u16 0) ∧ p7.cell? ⟨w5.heap.size, 11, none⟩ = some (.bool false) ∧ p7.cell? ⟨w5.heap.size, 12, none⟩ = some (.bool true) := ⟨Gk.cell 0 _ rfl, Gk.cell 1 _ rfl, Gk.cell 2 _ rfl, Gk.cell 3 _ rfl, Gk.cell 4 _ rfl, Gk.cell 5 _ rfl, Gk.cell 6 _ rfl, Gk.cell 7 _ rfl, Gk.cell 8 _ rfl, Gk.cell 9 _ rfl, Gk.cell 10 _ rfl, Gk.cell 11 _ rfl, Gk.cell 12 _ rfl⟩); clear Gk)
                      | fail)
                  all_goals
                    go_wp2
                    go_meet
                    exact ⟨rfl, rfl, Lib.hid ⟨fun i g l h => FG.out.1 (i + 1) g l h, FG.out.2⟩⟩
                case rest =>
                  obtain ⟨rfl, rfl, F7⟩ := hcut
                  clear HF6
                  have KZ := F7.out.blk 1 rfl
                  have d3 := KZ.cell 3 _ rfl
                  have dt := (F7.out.blk 0 rfl).cell 0 _ rfl
                  have HWt := Lib.hid (fun w => Waits_yes (t : Int) (by omega) (by have := HKB.out; omega) N hN0 hN1 false (by rw [HKP.out N hN0 hN1]; simp) w)
                  clear KZ
                  go_wp2_with (fail)
                  refine (HWt.out _).mono ?_
                  rintro e w8 ⟨rfl, hb⟩
                  have F8 := Lib.hid (F7.out.call hb)
                  clear hb F7 d3 dt HWt
                  go_wp2_with (fail)
                  have F9 := Lib.hid (F8.out.alloc [.int .i64 13, .int .u16 y, .int .i64 15, .int .u16 5] 47)
                  refine (lcells_same _ _ _ _ 2 [(13, y), (15, 5)] rfl _ (prs_blk2 (F9.out.blk 3 rfl)) (prs_blk2 (F9.out.blk 0 rfl)) (by omega)).mono ?_
                  rintro e w9 ⟨rfl, mm, rfl⟩
                  have FA := Lib.hid (F9.out.drewN mm)
                  clear F8 F9
                  go_upto_region 23 with (fail)
                  generalize (w8.alloc (.cells #[.int .i64 13, .int .u16 y, .int .i64 15, .int .u16 5] 47)).drewN mm = Q at FA ⊢
                  go_upto_region 24 with (at_make; refine make_full Q Q rfl _ _ 29 rfl .u16 24 2 Try.underlying29 info_word7 Q.heap.size 16 rfl rfl (by decide) (by decide) (Below.refl _ _) (Nat.le_refl _) ?_; intro wm hown hbm hsm; (have FM := Lib.hid (FB.cons (FA.out.call hbm) (blk_own (c := 16) (l := List.replicate 16 0) hown) hsm)); clear hown hbm)
                  have HLT := Lib.hid (fun (i : Nat) (g' : Nat) (m : List Value) (e : ((w8.heap.size, [.int .i64 13, .int .u16 y, .int .i64 15, .int .u16 5]) :: (w5.heap.size + 1, [.int .u16 (t : Nat)]) :: (w5.heap.size, [.int .u16 0, .int .u16 0, .int .u16 0, .int .i64 (2048 + 4 * (N : Int)), .int .i64 0, .int .i64 0, .int .i64 0, .bool false, .int .u16 0, .bool false, .int .u16 0, .bool false, .bool true]) :: (gc, [.int .i64 13, .int .u16 y, .int .i64 15, .int .u16 5]) :: [(g, [.int .u16 0, .int .u16 0, .int .u16 0, .int .i64 y, .int .i64 0, .int .i64 0, .int .i64 0, .bool false, .int .u16 0, .bool false, .int .u16 0, .bool false, .bool false]), (w.heap.size + 1, wl u), (w.heap.size, [.int .u16 v])])[i]? = some (g', m)) => Nat.ne_of_lt (FA.out.1 i g' m e).2)
                  have HWQ := Lib.hid FA.out.2.size
                  clear FA
                  obtain ⟨gq, hgq⟩ : ∃ gq, Q.heap.size = gq := ⟨_, rfl⟩
                  rw [hgq] at FM HLT HWQ
                  go_cut [] (fun wx => Hid (FB w ((gq, [.int .u16 0, .int .u16 0, .int .u16 0, .int .u16 0, .int .u16 0, .int .u16 0, .int .u16 0, .int .u16 0, .int .u16 0, .int .u16 0, .int .u16 0, .int .u16 0, .int .u16 0, .int .u16 y, .int .u16 0, .int .u16 5]) :: (w8.heap.size, [.int .i64 13, .int .u16 y, .int .i64 15, .int .u16 5]) :: (w5.heap.size + 1, [.int .u16 (t : Nat)]) :: (w5.heap.size, [.int .u16 0, .int .u16 0, .int .u16 0, .int .i64 (2048 + 4 * (N : Int)), .int .i64 0, .int .i64 0, .int .i64 0, .bool false, .int .u16 0, .bool false, .int .u16 0, .bool false, .bool true]) :: (gc, [.int .i64 13, .int .u16 y, .int .i64 15, .int .u16 5]) :: [(g, [.int .u16 0, .int .u16 0, .int .u16 0, .int .i64 y, .int .i64 0, .int .i64 0, .int .i64 0, .bool false, .int .u16 0, .bool false, .int .u16 0, .bool false, .bool false]), (w.heap.size + 1, wl u), (w.heap.size, [.int .u16 v])]) wx))
                  case first =>
                    have KM := FM.out.blk 0 rfl
                    have KC := FM.out.blk 4 rfl
                    have m13 := KM.cell 13 _ rfl
                    have m15 := KM.cell 15 _ rfl
                    have n13 := KM.free 13 _ rfl
                    have n15 := KM.free 15 _ rfl
                    have k1 := KC.cell 1 _ rfl
                    have k3 := KC.cell 3 _ rfl
                    clear KM KC
                    go_region
                    all_goals
                      go_wp2
                      go_meet
                      first
                        | exact Lib.hid (((FM.out.drew.set HLT.out HWQ.out 13 (by simp) (.int .u16 y)).set HLT.out HWQ.out 15 (by simp) (.int .u16 5)))
                        | exact Lib.hid (((FM.out.drew.set HLT.out HWQ.out 15 (by simp) (.int .u16 5)).set HLT.out HWQ.out 13 (by simp) (.int .u16 y)))
                  case rest =>
                    have FN := hcut
                    clear hcut FM HLT hsm
                    have KX := FN.out.blk 3 rfl
                    have c0 := KX.cell 0 _ rfl; have c1 := KX.cell 1 _ rfl; have c2 := KX.cell 2 _ rfl; have c3 := KX.cell 3 _ rfl; have c4 := KX.cell 4 _ rfl; have c5 := KX.cell 5 _ rfl; have c6 := KX.cell 6 _ rfl; have c7 := KX.cell 7 _ rfl; have c8 := KX.cell 8 _ rfl; have c9 := KX.cell 9 _ rfl; have c10 := KX.cell 10 _ rfl; have c11 := KX.cell 11 _ rfl; have c12 := KX.cell 12 _ rfl
                    have HLV := Lib.hid (Leave_any { rg0 with Z := 2048 + 4 * (N : Int), Sv := true } (some ⟨gq, 0, none⟩) 16 16 (fun i => [0, 0, 0, 0, 0, 0, 0, 0, 0, 0, 0, 0, 0, y, 0, 5].getD i 0) (by decide) wc (fun i hi => ⟨_, rfl, blk_nums .u16 [0, 0, 0, 0, 0, 0, 0, 0, 0, 0, 0, 0, 0, y, 0, 5] (FN.out.blk 0 rfl) i hi⟩) (ord_bd y hzb.1 (by omega)))
                    rw [ord_lv y hzb.1 hzb.2] at HLV
                    go_wp2_with (fail)
                    have HLV2 := (show Hid (Calls Try.prog 10 _ _ (fun e w' => e = .returned (.agg #[.int .u16 0, .int .u16 0, .int .u16 0, .int .i64 y, .int .i64 0, .int .i64 0, .int .i64 0, .bool false, .int .u16 0, .bool true, .int .u16 5, .bool false, .bool false]) ∧ Below wc.heap.size wc w')) from HLV)
                    refine HLV2.out.mono ?_
                    rintro e wv ⟨rfl, hb⟩
                    have FV := Lib.hid ((FN.out.call hb).alloc [.int .u16 0, .int .u16 0, .int .u16 0, .int .i64 y, .int .i64 0, .int .i64 0, .int .i64 0, .bool false, .int .u16 0, .bool true, .int .u16 5, .bool false, .bool false] 26)
                    clear hb FN KX c0 c1 c2 c3 c4 c5 c6 c7 c8 c9 c10 c11 c12 HLV HLV2
                    go_upto_region 26 with (fail)
                    have q3 := (FV.out.blk 0 rfl).cell 3 _ rfl
                    have q9 := (FV.out.blk 0 rfl).cell 9 _ rfl
                    have q10 := (FV.out.blk 0 rfl).cell 10 _ rfl
                    have q12 := (FV.out.blk 0 rfl).cell 12 _ rfl
                    have qz := (FV.out.blk 6 rfl).cell 3 _ rfl
                    have qt := (FV.out.blk 3 rfl).cell 0 _ rfl
                    have qs := (FV.out.blk 8 rfl).cell 0 _ rfl
                    have qf := (FV.out.blk 8 rfl).free 0 _ rfl
                    have YS := Lib.hid (FV.out.blk 8 rfl)
                    have YW := Lib.hid (FV.out.blk 7 rfl)
                    have YR := Lib.hid (FV.out.blk 6 rfl)
                    have YB := Lib.hid FV.out.2
                    have yz : g + 1 ≤ (wv.alloc (.cells #[.int .u16 0, .int .u16 0, .int .u16 0, .int .i64 y, .int .i64 0, .int .i64 0, .int .i64 0, .bool false, .int .u16 0, .bool true, .int .u16 5, .bool false, .bool false] 26)).heap.size := FV.out.lt 6 rfl
                    clear FV
                    generalize wv.alloc (.cells #[.int .u16 0, .int .u16 0, .int .u16 0, .int .i64 y, .int .i64 0, .int .i64 0, .int .i64 0, .bool false, .int .u16 0, .bool true, .int .u16 5, .bool false, .bool false] 26) = Y at q3 q9 q10 q12 qz qt qs qf YS YW YR YB yz ⊢
                    go_wp2
                    go_roundw
                    case rel => exact ⟨N + 1, (t : Int), by omega, by have := HJT.out; omega, by go_num, by omega, by have := HKB.out; omega, Lib.hid (fun q q1 q2 => by
                      rw [HKP.out q q1 q2, HV.out q q1 q2]
                      by_cases h : q = N
                      · subst h; simp
                      · have e1 : decide (q = N) = false := decide_eq_false h
                        rw [e1]
                        simp only [Bool.not_false, Bool.and_true]
                        congr 1; apply decide_eq_decide.2; omega), Lib.hid (YS.out.set 0 (by simp) (.int .u16 (t : Nat))), Lib.hid (YW.out.other (by omega) 0 _), Lib.hid (YR.out.other (by omega) 0 _), by simp; omega, Lib.hid (YB.out.setCell (p := ⟨w.heap.size, 0, none⟩) (Nat.le_refl _) _)⟩
                    case measure => have := HJT.out; simp [intOf]; omega
          · have e : N = 11 := by omega
            subst e
            have hz0 : fs v 10 = 0 := fs_none v (fun q q1 q2 => by rw [HV.out q q1 q2]; simp; intro _; omega)
            have hch : chz v { rg0 with Z := y } = 0 := by unfold chz; rw [if_pos (by unfold alw oOver rg0; simp)]; exact hz0
            have hfit : ({ rg0 with Z := y } : Rg).Fit := by constructor <;> simp only [rg0] <;> omega
            have HC := Lib.hid (fun w => Choose_any v v0 v1 { rg0 with Z := y } hfit 0 hch false rfl w)
            have c0 := LS.out.cell 0 _ rfl
            have d0 := LR.out.cell 0 _ rfl; have d1 := LR.out.cell 1 _ rfl; have d2 := LR.out.cell 2 _ rfl; have d3 := LR.out.cell 3 _ rfl; have d4 := LR.out.cell 4 _ rfl; have d5 := LR.out.cell 5 _ rfl; have d6 := LR.out.cell 6 _ rfl; have d7 := LR.out.cell 7 _ rfl; have d8 := LR.out.cell 8 _ rfl; have d9 := LR.out.cell 9 _ rfl; have d10 := LR.out.cell 10 _ rfl; have d11 := LR.out.cell 11 _ rfl; have d12 := LR.out.cell 12 _ rfl
            clear hz0 hch hfit
            go_wp2_with (first | (go_at_call 15; refine (HC.out _).mono ?_; rintro e w5 ⟨rfl, hb⟩; (have Y1 := Lib.hid (LB.out.trans (hb.mono LB.out.size))); clear hb) | (go_at_call 12; refine (works7_any _).mono ?_; rintro e w6 ⟨rfl, hb⟩; (have Y2 := Lib.hid (Y1.out.trans (hb.mono Y1.out.size))); clear hb))
            go_ret
            exact ⟨rfl, Y2.out⟩
theorem interruptOrder_walk (a0 : Option Addr) (len0 cap0 : Nat) (z0 : List Int) (a1 : Int) (w : World)
    (w0 : (a0 = none ∧ len0 = 0 ∧ cap0 = 0 ∧ z0 = []) ∨ ∃ x, a0 = some x ∧ len0 ≤ cap0 ∧ cap0 ≤ maxLen ∧ z0.length = cap0 ∧ (∀ i, i < z0.length → w.cell? (x.add i) = some (.int .u8 (z0.getD i 0))) ∧ ∀ n ∈ z0, (Lit.int .u8 n).wf = true) (w1 : (Lit.int .u16 a1).wf = true) :
    Calls Try.prog 4 #[.slice a0 len0 cap0, .int .u16 a1] w fun e w' => e = .returned (.bool true) ∧ Below w.heap.size w w' := by
  obtain ⟨hr, h1, h2, h3, h4⟩ := row_of w0
  have hb := bounds_u16 w1
  have hg := getD_u8 h4
  by_cases c : len0 ≤ 30
  · exact order_any a0 len0 cap0 len0 _ a1 hb.1 (by omega) (fun i _ => hg i) h1 h2 h3 (.inl ⟨rfl, by omega⟩) w hr
  · exact order_any a0 len0 cap0 30 _ a1 hb.1 (by omega) (fun i _ => hg i) h1 h2 h3 (.inr ⟨rfl, by omega⟩) w (hr.take (by omega))
end Go.Proofs.Ytmmpifcfhjdfnaa
