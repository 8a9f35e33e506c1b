/- The walk of CounterOrder. -/
import Derived.Test.YtkobomcpohccdaaW06a
import Derived.Test.YtkobomcpohccdaaP06b
import Derived.Test.YtkobomcpohccdaaFB
import Derived.Deep.RegionLaw
import Derived.OwnWalk
import Derived.Deep.DeepCutAuto
import Derived.Deep.RegionHeld3
import Derived.BigQuiet
set_option linter.unusedSimpArgs false
set_option linter.unusedVariables false
set_option maxRecDepth 100000
namespace Go.Proofs.Ytkobomcpohccdaa
open Go.ChangeShapes Go.WideShapes Go.ChangeAt Go.RowKit
/-- The queue of the first k numbers. -/
def ql (f : Nat → Int) : Nat → List (Int × Int)
  | 0 => []
  | k + 1 => ql f k ++ [(20 + f k / 7 % 28, 1 + f k % 7)]
theorem ql_len (f : Nat → Int) : ∀ k, (ql f k).length = k
  | 0 => rfl
  | k + 1 => by unfold ql; rw [List.length_append, ql_len f k]; rfl
theorem ql_mem (f : Nat → Int) : ∀ k, ∀ p ∈ ql f k, 20 ≤ p.1 ∧ p.1 ≤ 47 ∧ 1 ≤ p.2 ∧ p.2 ≤ 7
  | 0, p, h => by simp [ql] at h
  | k + 1, p, h => by
    unfold ql at h
    rcases List.mem_append.1 h with h | h
    · exact ql_mem f k p h
    · simp at h; subst h; simp only; omega
theorem info_pulse8 : (Try.prog.info? 26).map (fun i => (i.zero, i.size, i.bytes)) = some (some (.agg #[.int .i64 0, .int .u8 0]), 2, 16) := by kernel_rfl
theorem take_next (M : List (Int × Int)) (q : Nat) (h : q < M.length) : M.take (q + 1) = M.take q ++ [M.getD q (0, 0)] := by
  rw [List.take_add_one, List.getElem?_eq_getElem h, List.getD_eq_getElem?_getD, List.getElem?_eq_getElem h]
  rfl
theorem PlsL.other {w : World} {A : Option Addr} {L : List (Int × Int)} (h : PlsL w A L) (p : Addr) (hp : 0 < L.length → ∀ a, A = some a → a.block ≠ p.block) (v : Value) : PlsL (w.setCell p v) A L := fun i hi => by
  obtain ⟨a, e, h1, h2⟩ := h i hi
  have hb := hp (by omega) a e
  have hb2 : (a.add (i * 2)).block ≠ p.block := by rw [add_block]; exact hb
  refine ⟨a, e, ?_, ?_⟩
  · rw [World.cell?_setCell_other _ _ _ _ (fun x => hb2 (by rw [x]))]; exact h1
  · rw [World.cell?_setCell_other _ _ _ _ (fun x => hb2 (by rw [x]))]; exact h2
theorem OwnP.more {T : TypeId} {w : World} {B : Nat} {v : Value} {L : List (Int × Int)} (h : OwnP .i64 .u8 T w B v L) : ∃ A c, v = .slice A L.length c ∧ PlsL w A L ∧ L.length ≤ c ∧ (0 < L.length → ∀ a, A = some a → B ≤ a.block) := by
  obtain ⟨A, c, rfl, hp⟩ := h.prs
  refine ⟨A, c, rfl, hp.pls, ?_, ?_⟩
  · rcases h.2 with ⟨_, e⟩ | ⟨g, cap, cur, e, hb, hh, h1, _⟩
    · omega
    · injection e with _ _ e3; omega
  · intro h0 a e
    rcases h.2 with ⟨_, e2⟩ | ⟨g, cap, cur, e2, hb, _⟩
    · omega
    · injection e2 with e3
      rw [e] at e3
      injection e3 with e3
      subst e3
      exact hb
def lenOf : Value → Nat
  | .slice _ n _ => n
  | _ => 0
theorem info_word6o : (Try.prog.info? 23).map (fun i => (i.zero, i.size, i.bytes)) = some (some (.int .u16 0), 1, 2) := by kernel_rfl
set_option maxHeartbeats 4000000 in
theorem corder_any (A : Option Addr) (len cap n : Nat) (f : Nat → Int) (zz : Int) (z0 : 0 ≤ zz) (z1 : zz < 65536) (hf : ∀ i, i < len → 0 ≤ f i ∧ f i < 256) (hlen : len ≤ 9223372036854775807) (hn : n = min len 64) (w : World) (hr : Row .u8 w A len f) :
    Calls Try.prog 6 #[.slice A len cap, .int .u16 zz] w fun e w' => e = .returned (.bool true) ∧ Below w.heap.size w w' := by
  have HR := Lib.hid hr
  have HF := Lib.hid hf
  have HN := Lib.hid hn
  have hn64 : n ≤ 64 := by omega
  have hnl : n ≤ len := by omega
  clear hr hf hn
  go_enter Try.func6, Try.ntmps6
  go_wp2_with (fail)
  go_loopw [5, 6] (fun l i wr => ∃ k : Nat, k ≤ n ∧ i = .int .i64 k ∧ Hid (OwnP .i64 .u8 26 wr w.heap.size l (ql f k)) ∧ Hid (Below w.heap.size w wr)) (fun _ i _ => n - (intOf i).toNat)
  case atStart => exact ⟨0, Nat.zero_le _, rfl, Lib.hid (OwnP.nil _ _ _ _ _), Lib.hid (Below.refl _ _)⟩
  case round =>
    obtain ⟨k, hk, rfl, HO, HB⟩ := hrel
    by_cases hlt : k < n
    · have HLT := Lib.hid hlt
      have hkl : (k : Int) < (len : Int) := by omega
      have hk64 : (k : Int) < 64 := by omega
      obtain ⟨a, rfl, hx⟩ := HR.out k (by omega)
      have hxr := (HB.out.cell (lt_of_cell hx)).trans hx
      have hfk := HF.out k (by omega)
      have HQ := Lib.hid (show ql f (k + 1) = ql f k ++ [(20 + f k / 7 % 28, 1 + f k % 7)] from rfl)
      have HQL := Lib.hid (ql_len f k)
      obtain ⟨A1, n1, c1, rfl⟩ := HO.out.shape
      have HOX := Lib.hid HO.out
      generalize f k = x at *
      have ht : x.tmod 7 = x % 7 := Int.tmod_eq_emod_of_nonneg hfk.1
      have hd : x.tdiv 7 = x / 7 := Int.tdiv_eq_ediv_of_nonneg hfk.1
      have hd1 : (x / 7).tmod 28 = x / 7 % 28 := Int.tmod_eq_emod_of_nonneg (by omega)
      have hw1 : IntKind.u8.wrap (x / 7) = x / 7 := IntWalk.u8_in _ (by omega)
      have hw2 : IntKind.i64.wrap (x / 7) = x / 7 := IntWalk.i64_in _ (by omega)
      have hw3 : IntKind.i64.wrap (20 + x / 7 % 28) = 20 + x / 7 % 28 := IntWalk.i64_in _ (by omega)
      have hw4 : IntKind.u8.wrap (1 + x % 7) = 1 + x % 7 := IntWalk.u8_in _ (by omega)
      clear hx
      go_wp2_with (fail)
      go_region_law (first
        | (refine step_appP .i64 .u8 rfl _ _ 31 rfl 26 _ 16 Try.underlying31 info_pulse8 rfl w w.heap.size 0 _ _ (ql f k) [(20 + x / 7 % 28, 1 + x % 7)] (HO.out.below ((Below.refl _ _).alloc (Nat.le_refl _) _) (Nat.le_refl _)).drew (OwnP.one' .i64 .u8 26 wr wr.heap.size _ _ rfl).drew rfl rfl (by have := HQL.out; simp; omega) (HB.out.alloc HB.out.size _).drew (by have := HB.out.size; simp; omega) ?_; intro v' w4 ho hb hgr hown; (have HO4 := Lib.hid ho); (have HB4 := Lib.hid hb); (obtain ⟨A4, n4, q4, rfl⟩ := ho.shape); clear ho hb hgr hown)
        | (fail))
      all_goals
        clear HOX hxr HO HB
        go_wp2
        go_roundw
        case rel => exact ⟨k + 1, by have := HLT.out; omega, by go_num, Lib.hid (by rw [HQ.out]; exact HO4.out), HB4⟩
        case measure => have := HLT.out; simp [intOf]; omega
    · have e : k = n := by omega
      subst e
      have hcase : (¬ (k : Int) < (len : Int)) ∨ ((k : Int) < (len : Int) ∧ ¬ (k : Int) < 64) := by have := HN.out; omega
      obtain ⟨A1, c1, rfl, hp, hA, _⟩ := HO.out.more
      have HP := Lib.hid hp
      have HML := ql_len f k
      have HMM := Lib.hid (ql_mem f k)
      have HQL := Lib.hid HML
      rw [HML] at hA ⊢
      generalize ql f k = M at *
      have ht : zz.tmod 32768 = zz % 32768 := Int.tmod_eq_emod_of_nonneg z0
      have hy : 0 ≤ zz % 32768 ∧ zz % 32768 < 32768 := by omega
      have hyw : IntKind.u16.wrap (zz % 32768) = zz % 32768 := IntWalk.u16_in _ (by omega)
      generalize zz % 32768 = y at *
      clear HO HR HF HN hp HML hlen hnl
      rcases hcase with hc | ⟨hc, hc2⟩
      all_goals
        go_upto_region 6 with (fail)
        try clear hc2
        clear hc
        go_upto_region 8 with (at_make; first
          | (have _t := A1m; clear _t; refine make_full wm wm rfl _ _ 37 rfl .u16 23 2 Try.underlying37 info_word6o wm.heap.size 48 rfl rfl (by decide) (by decide) (Below.refl _ _) (Nat.le_refl _) ?_; intro wn hown hbn hsn; (have A2n := Lib.hid (Arr.of_own hown (lst_replicate 48 0))); (have A1n := Lib.hid (A1m.out.below hbn (Nat.le_refl _))); (have BN := Lib.hid (BM.out.trans (hbn.mono (Nat.le_of_lt hsm)))); clear hown hbn A1m BM)
          | (refine make_full wr wr rfl _ _ 37 rfl .u16 23 2 Try.underlying37 info_word6o wr.heap.size 48 rfl rfl (by decide) (by decide) (Below.refl _ _) (Nat.le_refl _) ?_; intro wm hown hbm hsm; (have A1m := Lib.hid (Arr.of_own hown (lst_replicate 48 0))); (have BM := Lib.hid hbm); clear hown hbm))
        obtain ⟨gE, hgE⟩ : ∃ g, wr.heap.size = g := ⟨_, rfl⟩
        obtain ⟨gT, hgT⟩ : ∃ g, wm.heap.size = g := ⟨_, rfl⟩
        have HGE := Lib.hid hgE
        rw [hgE] at A1n hsm BN
        rw [hgT] at A2n hsm
        have hET : gE < gT := hsm
        have hTn : gT < wn.heap.size := A2n.out.lt.2
        obtain ⟨W0, hW0⟩ : ∃ W, W = wr := ⟨_, rfl⟩
        rw [← hW0] at HP HB BN HGE
        rw [hgE, hgT]
        clear hgE hgT hW0
        go_wp2_with (fail)
        go_loopw [9] (fun i vr => ∃ j : Nat, 20 ≤ j ∧ j ≤ 48 ∧ i = .int .i64 j ∧ Hid (Arr .u16 23 vr gE gE 48 48 (fun q => if 20 ≤ q ∧ q < j then y else 0)) ∧ Hid (Arr .u16 23 vr gT gT 48 48 (fun q => if 20 ≤ q ∧ q < j then fin M q y else 0)) ∧ Hid (Below gE W0 vr)) (fun i _ => 48 - (intOf i).toNat)
        case atStart => exact ⟨20, by omega, by omega, rfl, Lib.hid (A1n.out.congr (fun q _ => by show _ = Value.int .u16 (if _ then _ else _); rw [if_neg (by omega)])), Lib.hid (A2n.out.congr (fun q _ => by show _ = Value.int .u16 (if _ then _ else _); rw [if_neg (by omega)])), BN⟩
        case round =>
          obtain ⟨j, hj0, hj1, rfl, HE, HT, HQ⟩ := hrel
          clear A1n A2n BN
          by_cases hjt : j < 48
          · have HJT := Lib.hid hjt
            have hj2 : (j : Int) < 48 := by omega
            have cE := HE.out.cell hjt
            have fE := HE.out.free j
            have cT := HT.out.cell hjt
            have fT := HT.out.free j
            go_wp2_with (fail)
            have IE := Lib.hid ((HE.out.set j y).other (p := ⟨gT, j, none⟩) (by show gE ≠ gT; omega) (.int .u16 y))
            have IT := Lib.hid ((HT.out.other (p := ⟨gE, j, none⟩) (by show gT ≠ gE; omega) (.int .u16 y)).set j y)
            have IQ := Lib.hid ((HQ.out.setCell (p := ⟨gE, j, none⟩) (Nat.le_refl _) (.int .u16 y)).setCell (p := ⟨gT, j, none⟩) (by show gE ≤ gT; omega) (.int .u16 y))
            clear cE fE cT fT HE HT HQ
            go_loopw [10] (fun i vr => ∃ q : Nat, q ≤ k ∧ i = .int .i64 q ∧ Hid (Arr .u16 23 vr gE gE 48 48 (fun p => if 20 ≤ p ∧ p < j + 1 then y else 0)) ∧ Hid (Arr .u16 23 vr gT gT 48 48 (fun p => if p = j then fin (M.take q) j y else if 20 ≤ p ∧ p < j then fin M p y else 0)) ∧ Hid (Below gE W0 vr)) (fun i _ => k - (intOf i).toNat)
            case atStart => exact ⟨0, Nat.zero_le _, rfl, Lib.hid (IE.out.congr (fun p _ => by
              show Value.int .u16 (if p = j then y else if 20 ≤ p ∧ p < j then y else 0) = Value.int .u16 (if 20 ≤ p ∧ p < j + 1 then y else 0)
              congr 1
              by_cases e : p = j
              · rw [if_pos e, if_pos (by omega)]
              · rw [if_neg e]; by_cases e2 : 20 ≤ p ∧ p < j
                · rw [if_pos e2, if_pos (by omega)]
                · rw [if_neg e2, if_neg (by omega)])), Lib.hid (IT.out.congr (fun p _ => by
              show Value.int .u16 (if p = j then y else if 20 ≤ p ∧ p < j then fin M p y else 0) = Value.int .u16 (if p = j then fin (M.take 0) j y else if 20 ≤ p ∧ p < j then fin M p y else 0)
              rfl)), IQ⟩
            case round =>
              obtain ⟨q, hq, rfl, JE, JT, JQ⟩ := hrel
              clear IE IT IQ
              by_cases hqt : q < k
              · have HQT := Lib.hid hqt
                have hq64 : q < 64 := by omega
                obtain ⟨a, rfl, hm1, hm2⟩ := HP.out q (by rw [HQL.out]; exact hqt)
                change _ = some (Value.int .i64 (M.getD q (0, 0)).1) at hm1
                change _ = some (Value.int .u8 (M.getD q (0, 0)).2) at hm2
                have hm3 := (JQ.out.cell (by rw [← HGE.out]; exact lt_of_cell hm1)).trans hm1
                have hm4 := (JQ.out.cell (by rw [← HGE.out]; exact lt_of_cell hm2)).trans hm2
                have HTS := Lib.hid (take_next M q (by rw [HQL.out]; exact hqt))
                have hmem := HMM.out _ (getD_mem (M := M) (q := q) (by rw [HQL.out]; exact hqt))
                obtain ⟨p, hp⟩ : ∃ p, M.getD q (0, 0) = p := ⟨_, rfl⟩
                rw [hp] at hm3 hm4 HTS hmem
                have cT := JT.out.cell hjt
                have fT := JT.out.free j
                rw [if_pos rfl] at cT
                have hxb := fin_bd (M.take q) j y hy.1 hy.2
                have HFS := Lib.hid (fin_snoc (M.take q) p j y)
                rw [← HTS.out] at HFS
                generalize fin (M.take q) j y = x at *
                clear hm1 hm2 hp
                by_cases hpj : p.1 = (j : Int)
                · have hpb : (p.1 == (j : Int)) = true := by rw [beq_iff_eq]; exact hpj
                  rw [if_pos hpj] at HFS
                  have HAp := Lib.hid (fun w => Apply_any x p.2 hxb.1 (by omega) w)
                  rw [show x % 32768 = x by omega, show pE p.2 = 0 by unfold pE; rw [if_pos ⟨hmem.2.2.1, hmem.2.2.2⟩]] at HAp
                  generalize pW x p.2 = X at *
                  generalize pS x p.2 = S at *
                  clear hpj
                  have g1 : wr.drew.cell? ⟨gT, j, none⟩ = some (.int .u16 x) := cT
                  have g2 : wr.drew.cell? ⟨(a.add (q * 2)).block, (a.add (q * 2)).off + 1, none⟩ = some (.int .u8 p.2) := hm4
                  have hTw : gT < wr.heap.size := JT.out.lt.2
                  have hAw : (a.add (q * 2)).block < wr.heap.size := lt_of_cell hm3
                  go_upto_region 16 with (fail)
                  go_region_held3 (fun w' => w'.cell? ⟨gT, j, none⟩ = some (.int .u16 x) ∧ w'.cell? ⟨(a.add (q * 2)).block, (a.add (q * 2)).off + 1, none⟩ = some (.int .u8 p.2))
                    (first
                      | with_reducible exact ⟨g1, g2⟩
                      | with_reducible exact ⟨d1, d2⟩)
                    (first
                      | (go_at_call 11; refine (HAp.out _).mono ?_; rintro e w3 ⟨rfl, hb⟩; (have KE := Lib.hid (JE.out.below (from_drew hb) (Nat.le_refl _))); (have KT := Lib.hid (JT.out.below (from_drew hb) (Nat.le_refl _))); (have KQ := Lib.hid (JQ.out.trans ((from_drew hb).mono (by omega)))); (have d1 : w3.cell? ⟨gT, j, none⟩ = some (.int .u16 x) := ((from_drew hb).cell (p := ⟨gT, j, none⟩) hTw).trans cT); (have d2 : w3.cell? ⟨(a.add (q * 2)).block, (a.add (q * 2)).off + 1, none⟩ = some (.int .u8 p.2) := ((from_drew hb).cell (p := ⟨(a.add (q * 2)).block, (a.add (q * 2)).off + 1, none⟩) hAw).trans hm4); clear hb)
                      | fail)
                  all_goals
                    have f2 := KT.out.free j
                    clear cT fT g1 g2 hm3 hm4 JE JT JQ
                    go_wp2
                    go_roundw
                    case rel => exact ⟨q + 1, by have := HQT.out; omega, by go_num, Lib.hid (KE.out.other (p := ⟨gT, j, none⟩) (by show gE ≠ gT; omega) _), Lib.hid ((KT.out.set j X).congr (fun r _ => by
                      show Value.int .u16 (if r = j then X else if r = j then _ else _) = Value.int .u16 (if r = j then fin (M.take (q + 1)) j y else _)
                      rw [HFS.out]
                      by_cases e : r = j
                      · rw [if_pos e, if_pos e]
                      · rw [if_neg e, if_neg e, if_neg e])), Lib.hid (KQ.out.setCell (p := ⟨gT, j, none⟩) (by show gE ≤ gT; omega) _)⟩
                    case measure => have := HQT.out; simp [intOf]; omega
                · have hpb : (p.1 == (j : Int)) = false := by rw [beq_eq_false_iff_ne]; exact hpj
                  rw [if_neg hpj] at HFS
                  clear hpj
                  go_wp2_with (fail)
                  go_roundw
                  case rel => exact ⟨q + 1, by have := HQT.out; omega, by go_num, JE, Lib.hid (JT.out.congr (fun r _ => by
                    show Value.int .u16 (if r = j then _ else _) = Value.int .u16 (if r = j then fin (M.take (q + 1)) j y else _)
                    rw [HFS.out])), JQ⟩
                  case measure => have := HQT.out; simp [intOf]; omega
              · have e : q = k := by omega
                subst e
                have HTA := Lib.hid (show M.take q = M by rw [← HQL.out]; exact List.take_length)
                go_wp2_with (fail)
                go_roundw
                case rel => exact ⟨j + 1, by omega, by have := HJT.out; omega, by go_num, JE, Lib.hid (JT.out.congr (fun r _ => by
                  show Value.int .u16 (if r = j then fin (M.take q) j y else if 20 ≤ r ∧ r < j then fin M r y else 0) = Value.int .u16 (if 20 ≤ r ∧ r < j + 1 then fin M r y else 0)
                  congr 1
                  by_cases e : r = j
                  · subst e; rw [if_pos rfl, if_pos (by omega), HTA.out]
                  · rw [if_neg e]; by_cases e2 : 20 ≤ r ∧ r < j
                    · rw [if_pos e2, if_pos (by omega)]
                    · rw [if_neg e2, if_neg (by omega)])), JQ⟩
                case measure => have := HJT.out; simp [intOf]; omega
          · have e : j = 48 := by omega
            subst e
            clear hj0 hj1 hjt
            have HW0 := Lib.hid (show w.heap.size ≤ gE by have := HB.out.size; have := HGE.out; omega)
            have HW := Lib.hid (HB.out.trans (HQ.out.mono (by have := HB.out.size; have := HGE.out; omega)))
            have hAW : 0 < k → ∀ a, A1 = some a → a.block < gE := fun h0 a e => by
              obtain ⟨b, e', h1, _⟩ := HP.out 0 (by rw [HQL.out]; exact h0)
              rw [e] at e'
              injection e' with e'
              subst e'
              rw [← HGE.out]
              have := lt_of_cell h1
              simpa [add_block] using this
            have HP0 := Lib.hid (HP.out.below HQ.out (by rw [HGE.out]; exact Nat.le_refl _))
            rw [show ((48 : Nat) : Int) = 48 from rfl]
            go_wp2_with (fail)
            go_loopw [14, 15] (fun s l vr => ∃ (m : Nat) (L : List (Int × Int)) (e : Nat → Int) (A' : Option Addr) (c' : Nat) (lv : Int), s = .int .i64 lv ∧ l = .slice A' m c' ∧ m ≤ 64 ∧ m ≤ c' ∧ 0 ≤ lv ∧ lv ≤ 47 ∧ Hid (L.length = m) ∧ Hid (PlsL vr A' L) ∧ Hid (0 < m → ∀ a, A' = some a → a.block ≠ gE) ∧ Hid (Arr .u16 23 vr gE gE 48 48 e) ∧ Hid (Arr .u16 23 vr gT gT 48 48 (fun q => if 20 ≤ q ∧ q < 48 then fin M q y else 0)) ∧ Hid (∀ r : Nat, 20 ≤ r → r < 48 → 0 ≤ e r ∧ e r < 32768 ∧ fin L r (e r) = fin M r y) ∧ Hid (∀ p ∈ L, (20 ≤ p.1 ∧ p.1 ≤ 47 ∧ 1 ≤ p.2 ∧ p.2 ≤ 7) ∧ lv ≤ p.1) ∧ Hid (Below w.heap.size w vr)) (fun _ l _ => lenOf l)
            case atStart => exact ⟨k, M, (fun q => if 20 ≤ q ∧ q < 48 then y else 0), A1, c1, 0, rfl, rfl, hn64, hA, by decide, by decide, HQL, HP0, Lib.hid (fun h0 a e => Nat.ne_of_lt (hAW h0 a e)), HE, HT, Lib.hid (fun r h0 h1 => by
              show 0 ≤ (if 20 ≤ r ∧ r < 48 then y else 0) ∧ (if 20 ≤ r ∧ r < 48 then y else 0) < 32768 ∧ fin M r (if 20 ≤ r ∧ r < 48 then y else 0) = fin M r y
              rw [if_pos ⟨h0, h1⟩]; exact ⟨hy.1, hy.2, rfl⟩), Lib.hid (fun p hp => ⟨HMM.out p hp, by have := (HMM.out p hp).1; omega⟩), HW⟩
            case round =>
              obtain ⟨m, L, e, A', c', lv, rfl, rfl, hm64, hmc, lv0, lv1, HL, HPL, HAB, HE2, HT2, HFN, HRG, HB2⟩ := hrel
              clear HE HT HW hAW HP0 hA
              by_cases hm0 : 0 < m
              · obtain ⟨m', rfl⟩ : ∃ m', m = m' + 1 := ⟨m - 1, by omega⟩
                obtain ⟨q, hq⟩ : ∃ q, nx (fun i => (L.getD i (0, 0)).1) (m' + 1) = q := ⟨_, rfl⟩
                have hqlt : q < L.length := by rw [HL.out, ← hq]; exact nx_lt _ _ (by omega)
                have hrg := HRG.out _ (getD_mem hqlt)
                have hmin := (nx_min (fun i => (L.getD i (0, 0)).1) (m' + 1)).1
                rw [hq] at hmin
                obtain ⟨kk, hkk⟩ : ∃ kk : Nat, (L.getD q (0, 0)).1 = (kk : Int) := ⟨(L.getD q (0, 0)).1.toNat, by omega⟩
                have hkl : kk < 48 := by omega
                have hkl2 : 20 ≤ kk := by omega
                have hfe := HFN.out kk hkl2 hkl
                have HFW := Lib.hid (fin_without L (m' + 1) q HL.out (by omega) hq)
                obtain ⟨X, hX⟩ : ∃ X, pW (e kk) (L.getD q (0, 0)).2 = X := ⟨_, rfl⟩
                have hXb := pW_bd (e kk) (L.getD q (0, 0)).2 hfe.1 hfe.2.1
                rw [hX] at hXb
                have HXX := Lib.hid hX
                have HSV := Lib.hid (Serve_yes A' (m' + 1) c' L HL.out (by omega) (by omega) hmc (some ⟨gE, 0, none⟩) 48 48 e wr HPL.out HE2.out.row q hq kk hkl hkk (e kk) rfl ⟨hfe.1, by omega⟩ _ rfl hrg.1.2.2 X _ (by rw [show e kk % 32768 = e kk by omega]; exact hX) rfl)
                have HKK := Lib.hid hkk
                have HMIN := Lib.hid hmin
                have hlk : lv ≤ (kk : Int) := by have := hrg.2; omega
                generalize pS (e kk % 32768) (L.getD q (0, 0)).2 = S at HSV
                clear hq hrg hmin hkk hfe hX
                go_wp2_with (fail)
                refine HSV.out.mono ?_
                rintro er w3 ⟨v, rfl, ho, hb⟩
                obtain ⟨A2, c2, rfl, hp2, hc2, hB2⟩ := ho.more
                have hwl := without_len hqlt
                rw [HL.out, Nat.add_sub_cancel] at hwl
                have hB2' : 0 < m' → ∀ a, A2 = some a → wr.heap.size ≤ a.block := by rw [← hwl]; exact hB2
                rw [hwl] at hc2 ⊢
                have KL := Lib.hid hwl
                have KP := Lib.hid (hp2.below ((Below.refl _ _).alloc (Nat.le_refl _) (.cells #[.int .i64 kk, .int .u16 X] 44)) (Nat.le_refl _))
                have KAB := Lib.hid (fun (h0 : 0 < m') (a : Addr) (e' : A2 = some a) => show a.block ≠ gE from fun x => by have := hB2' h0 a e'; have := HE2.out.lt.2; omega)
                have KE := Lib.hid ((HE2.out.below hb (Nat.le_refl _)).below ((Below.refl _ _).alloc (Nat.le_refl _) (.cells #[.int .i64 kk, .int .u16 X] 44)) (Nat.le_refl _))
                have KT := Lib.hid ((HT2.out.below hb (Nat.le_refl _)).below ((Below.refl _ _).alloc (Nat.le_refl _) (.cells #[.int .i64 kk, .int .u16 X] 44)) (Nat.le_refl _))
                have KB := Lib.hid ((HB2.out.trans (hb.mono HB2.out.size)).alloc (Nat.le_trans HB2.out.size hb.size) (.cells #[.int .i64 kk, .int .u16 X] 44))
                have KC := Blk.new w3 44 [.int .i64 kk, .int .u16 X] _ rfl
                clear ho hb hp2 hB2' HPL HAB HE2 HT2 HB2 HSV
                go_upto_region 22 with (fail)
                generalize w3.alloc (.cells #[.int .i64 kk, .int .u16 X] 44) = U at KP KE KT KB KC ⊢
                have u0 := KC.cell 0 _ rfl
                have u1 := KC.cell 1 _ rfl
                have cE := KE.out.cell hkl
                have fE := KE.out.free kk
                have hkk2 : (kk : Int) < 48 := by omega
                clear KC
                go_upto_region 24 with (fail)
                go_region
                all_goals
                  clear u0 u1 cE fE
                  go_wp2
                  go_roundw
                  case rel => exact ⟨m', without L q, (fun i => if i = kk then X else e i), A2, c2, (kk : Int), rfl, rfl, by omega, hc2, by omega, by omega, KL, Lib.hid (PlsL.other KP.out ⟨gE, kk, none⟩ (fun h0 a e' => KAB.out (by rw [← KL.out]; exact h0) a e') _), KAB, Lib.hid (KE.out.set kk X), Lib.hid (KT.out.other (p := ⟨gE, kk, none⟩) (by show gT ≠ gE; omega) _), Lib.hid (fun r h0 h1 => by
                    have hb := HFN.out r h0 h1
                    by_cases e1 : r = kk
                    · rw [e1]
                      have hb2 := HFN.out kk hkl2 hkl
                      show 0 ≤ (if kk = kk then X else e kk) ∧ (if kk = kk then X else e kk) < 32768 ∧ fin (without L q) kk (if kk = kk then X else e kk) = fin M kk y
                      rw [if_pos rfl]
                      have hf := HFW.out (kk : Int) (e kk)
                      rw [if_pos HKK.out, HXX.out] at hf
                      exact ⟨hXb.1, hXb.2, by rw [hf]; exact hb2.2.2⟩
                    · show 0 ≤ (if r = kk then X else e r) ∧ (if r = kk then X else e r) < 32768 ∧ fin (without L q) r (if r = kk then X else e r) = fin M r y
                      rw [if_neg e1]
                      have hf := HFW.out (r : Int) (e r)
                      have hn : ¬ (L.getD q (0, 0)).1 = (r : Int) := fun x => e1 (by have := HKK.out; omega)
                      rw [if_neg hn] at hf
                      exact ⟨hb.1, hb.2.1, by rw [hf]; exact hb.2.2⟩), Lib.hid (fun p hp => by
                    have hpL := mem_without hp
                    refine ⟨(HRG.out p hpL).1, ?_⟩
                    obtain ⟨j, hj, e1⟩ := List.getElem_of_mem hpL
                    have := HMIN.out j (by rw [← HL.out]; exact hj)
                    have e2 : L.getD j (0, 0) = p := by rw [List.getD_eq_getElem?_getD, List.getElem?_eq_getElem hj]; exact e1
                    simp only [e2, HKK.out] at this
                    exact this), Lib.hid (KB.out.drew.setCell (p := ⟨gE, kk, none⟩) (by have := HW0.out; show _ ≤ gE; omega) _)⟩
                  case measure => simp [lenOf]
              · have e0 : m = 0 := by omega
                subst e0
                have hL0 : L = [] := List.length_eq_zero_iff.1 HL.out
                subst hL0
                clear HL HPL HAB HRG hm0
                go_wp2_with (fail)
                go_loopw [20] (fun i vr => ∃ r : Nat, 20 ≤ r ∧ r ≤ 48 ∧ i = .int .i64 r ∧ ∃ mm, vr = wr.drewN mm) (fun i _ => 48 - (intOf i).toNat)
                case atStart => exact ⟨20, by omega, by omega, rfl, 0, rfl⟩
                case round =>
                  obtain ⟨r, hr0, hr1, rfl, mm, rfl⟩ := hrel
                  by_cases hrt : r < 48
                  · have HRT := Lib.hid hrt
                    have hr2 : (r : Int) < 48 := by omega
                    have d1 := HE2.out.cell hrt
                    have d2 := HT2.out.cell hrt
                    have hfr : e r = fin M r y := (HFN.out r hr0 hrt).2.2
                    rw [if_pos ⟨hr0, hrt⟩, ← hfr] at d2
                    clear hfr
                    generalize e r = x at d1 d2
                    have hne : (x != x) = false := by simp
                    go_wp2_with (fail)
                    go_quiet (fail)
                    go_wp2
                    go_roundw
                    case rel => exact ⟨r + 1, by omega, by have := HRT.out; omega, by go_num, _, rfl⟩
                    case measure => have := HRT.out; simp [intOf]; omega
                  · have e1 : r = 48 := by omega
                    subst e1
                    have HB3 := Lib.hid (below_drewN HB2.out mm)
                    clear HE2 HT2
                    go_wp2_with (fail)
                    refine (Serve_empty none 0 (some ⟨gE, 0, none⟩) 48 48 _).mono ?_
                    rintro er w5 ⟨rfl, hb⟩
                    have HB5 := Lib.hid (HB3.out.trans (hb.mono HB3.out.size))
                    clear hb
                    go_wp2_with (go_at_call 16; refine (works_any _).mono ?_; rintro er w6 ⟨rfl, hb⟩; (have HB6 := Lib.hid ((HB5.out.alloc HB5.out.size _).trans (hb.mono (by have := HB5.out.size; simp; omega)))); clear hb)
                    go_ret
                    exact ⟨rfl, HB6.out⟩
theorem counterOrder_walk (a0 : Option Addr) (len0 cap0 : Nat) (z0 : List Int) (a1 : Int) (w : World)
    (w0 : (a0 = none ∧ len0 = 0 ∧ cap0 = 0 ∧ z0 = []) ∨ ∃ x, a0 = some x ∧ len0 ≤ cap0 ∧ cap0 ≤ maxLen ∧ z0.length = cap0 ∧ (∀ i, i < z0.length → w.cell? (x.add i) = some (.int .u8 (z0.getD i 0))) ∧ ∀ n ∈ z0, (Lit.int .u8 n).wf = true) (w1 : (Lit.int .u16 a1).wf = true) :
    Calls Try.prog 6 #[.slice a0 len0 cap0, .int .u16 a1] w fun e w' => e = .returned (.bool true) ∧ Below w.heap.size w w' := by
  obtain ⟨hr, h1, h2, h3, h4⟩ := row_of w0
  have hb := bounds_u16 w1
  have hg := getD_u8 h4
  exact corder_any a0 len0 cap0 (min len0 64) _ a1 hb.1 (by omega) (fun i _ => hg i) (by omega) rfl w hr
end Go.Proofs.Ytkobomcpohccdaa
