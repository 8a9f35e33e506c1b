/- The walk of CounterQueues. -/
import Derived.Test.YteongalbljdjlaaM06n
import Derived.Test.YteongalbljdjlaaOpenP
import Derived.Test.YteongalbljdjlaaFB
import Derived.Deep.RegionWith
import Derived.Deep.RegionLaw
import Derived.Deep.RegionHeld3
import Derived.Deep.DeepCutAuto
set_option linter.unusedSimpArgs false
set_option linter.unusedVariables false
set_option maxRecDepth 100000
namespace Go.Proofs.Yteongalbljdjlaa
open Go.ChangeShapes Go.WideShapes Go.ChangeAt Go.RowKit
theorem OwnP.qm {T : TypeId} {w : World} {B : Nat} {v : Value} {L : List (Int × Int)} (h : OwnP .i64 .u8 T w B v L) : ∃ A c, v = .slice A L.length c ∧ PlsL w A L ∧ (A = none → c = 0) ∧ L.length ≤ c := by
  obtain ⟨A, c, rfl, hp, hA⟩ := h.q
  refine ⟨A, c, rfl, hp, hA, ?_⟩
  rcases h.2 with ⟨_, e⟩ | ⟨g, cap, cur, e, hb, hh, h1, _⟩
  · omega
  · injection e with _ _ e3; omega
set_option maxHeartbeats 8000000 in
theorem cqueues_core (A D : Option Addr) (la ca ld cd n m : Nat) (a k : Int) (f g h : Nat → Int) (w : World) (hr : Pls w A n f g) (hc : Row .u16 w D m h) (hh : ∀ i, 0 ≤ h i ∧ h i < 65536)
    (hla : la ≤ ca) (hca : ca ≤ 9223372036854775807) (hld : ld ≤ cd) (hcd : cd ≤ 9223372036854775807) (hna : A = none → ca = 0)
    (hn : (la = n ∧ (la : Int) ≤ 200) ∨ (200 = n ∧ ¬ (la : Int) ≤ 200)) (hm : (ld = m ∧ (ld : Int) ≤ 100) ∨ (100 = m ∧ ¬ (ld : Int) ≤ 100)) :
    Calls Try.prog 3 #[.slice A la ca, .agg #[.int .i64 a, .int .u8 k], .slice D ld cd] w fun e w' => e = .returned (.bool true) ∧ Below w.heap.size w w' := by
  obtain ⟨M, hMM⟩ : ∃ M, prl n f g = M := ⟨_, rfl⟩
  have hML := prl_len n f g
  have hp := hr.toL
  rw [hMM] at hML hp
  have HP := Lib.hid hp
  have HR := Lib.hid hc
  have HM := Lib.hid hML
  have NA := Lib.hid hna
  have hn1 : n ≤ 200 := by omega
  have hm1 : m ≤ 100 := by omega
  have HC := Lib.hid (show n ≤ ca by omega)
  obtain ⟨LS, sa, sx, ss, se, hLS, hS1, hS2⟩ := Serve_all n M hML (by omega) m h hh
  have HS1 := Lib.hid hS1
  have HS2 := Lib.hid hS2
  clear hr hp hc hh hML hMM hna hS1 hS2
  go_enter Try.func3, Try.ntmps3
  go_upto_region 1 with (fail)
  go_cut [0, 2] (fun s0 s2 wx => s0 = .slice A n ca ∧ s2 = .slice D m cd ∧ Hid (FB w [(w.heap.size, [.int .i64 a, .int .u8 k])] wx))
  case first =>
    rcases hn with ⟨en, hcn⟩ | ⟨en, hcn⟩ <;> rcases hm with ⟨em, hcm⟩ | ⟨em, hcm⟩
    all_goals
      have EN := Lib.hid en
      have EM := Lib.hid em
      clear en em
      go_region
      all_goals
        go_wp2
        go_meet
        exact ⟨by rw [EN.out], by rw [EM.out], Lib.hid (FB.drew ((FB.start w).alloc [.int .i64 a, .int .u8 k] _))⟩
  case rest =>
    obtain ⟨rfl, rfl, HF0⟩ := hcut
    clear hla hld hcd hn hm
    have hw0 := HF0.out.2.size
    go_wp2_with (at_builtin; refine wp_appQ rfl _ _ _ rfl 25 _ 16 Try.underlying22 info_pulse rfl w w.heap.size _ A n ca [] M HM.out (OwnP.nil _ _ _ _ _) (HP.out.below HF0.out.2 (Nat.le_refl _)) NA.out rfl rfl (by simp; omega) HF0.out.2 HF0.out.2.size ?_; intro v1 w1 o1 b1 g1 _; (have HF1 := Lib.hid (HF0.out.call (below_of_grown g1))); (obtain ⟨X, cx, rfl, hx1, hx2, hx3⟩ := (show OwnP .i64 .u8 25 w1 w.heap.size v1 M from o1).qm); (have HX := Lib.hid hx1); (have NX := Lib.hid hx2); rw [HM.out] at hx3 ⊢; (have CX := Lib.hid hx3); (have HP1 := Lib.hid (HP.out.below HF1.out.2 (Nat.le_refl _))); (have HR1 := Lib.hid (HR.out.below HF1.out.2 (Nat.le_refl _))); clear o1 b1 g1 hx1 hx2 hx3; (have c0 := (HF1.out.blk 0 rfl).cell 0 _ rfl); (have c1 := (HF1.out.blk 0 rfl).cell 1 _ rfl))
    clear c0 c1
    obtain ⟨E, hE⟩ : ∃ E, addE a k n = E := ⟨_, rfl⟩
    have HA1 := Lib.hid (fun w => Add_pulse A n ca M HM.out NA.out a k w)
    have HA2 := Lib.hid (fun w => rAdd_pulse X n cx M HM.out NX.out a k w)
    rw [hE] at HA1 HA2
    have eE : (E != E) = false := by simp
    obtain ⟨LQ, hLQ⟩ : ∃ L, (if E = 0 then M ++ [(a, k)] else []) = L := ⟨_, rfl⟩
    have hLN : LQ.length ≤ 201 := by
      rw [← hLQ]; split
      · rw [List.length_append, HM.out]; simp; omega
      · simp
    have HLQ := Lib.hid hLQ
    obtain ⟨nq, hnq⟩ : ∃ nq, LQ.length = nq := ⟨_, rfl⟩
    have HNQ := Lib.hid hnq
    rw [hnq] at hLN
    clear hE hLQ hnq
    refine (HA1.out _ HP1.out).mono ?_
    rintro er w2 ⟨va, rfl, ho, hb⟩
    rw [HLQ.out] at ho
    obtain ⟨Aa, ca2, rfl, hpa⟩ := ho.prs
    rw [HNQ.out]
    have HF2 := Lib.hid (HF1.out.call hb)
    have HPA := Lib.hid hpa
    have HX2 := Lib.hid (HX.out.below hb (Nat.le_refl _))
    clear ho hb hpa HX
    have c0 := (HF2.out.blk 0 rfl).cell 0 _ rfl
    have c1 := (HF2.out.blk 0 rfl).cell 1 _ rfl
    go_wp2_with (fail)
    clear c0 c1
    refine (HA2.out _ HX2.out).mono ?_
    rintro er w3 ⟨vb, rfl, ho, hb⟩
    rw [HLQ.out] at ho
    obtain ⟨Ab, cb2, rfl, hpb⟩ := ho.prs
    rw [HNQ.out]
    have HF3 := Lib.hid (HF2.out.call hb)
    have HPB := Lib.hid hpb
    have HPA3 := Lib.hid (HPA.out.below hb (Nat.le_refl _))
    have HX3 := Lib.hid (HX2.out.below hb (Nat.le_refl _))
    clear ho hb hpb HPA HX2
    go_wp2_with (fail)
    refine (Same_same Aa Ab ca2 cb2 nq LQ HNQ.out w3 HPA3.out HPB.out (by omega)).mono ?_
    rintro er w4 ⟨rfl, mm, rfl⟩
    have HF4 := Lib.hid (HF3.out.drewN mm)
    have HX4 := Lib.hid (show PlsL (w3.drewN mm) X M from HX3.out)
    have HP4 := Lib.hid (HP.out.below HF4.out.2 (Nat.le_refl _))
    clear HPA3 HPB HX3
    go_wp2_with (fail)
    have HN1 := Lib.hid (fun w h => NextL_any A n ca M HM.out (by omega) w h)
    have HN2 := Lib.hid (fun w h => rNextL_any X n cx M HM.out (by omega) w h)
    generalize nx (fun i => (M.getD i (0, 0)).1) n = qn at HN1 HN2
    generalize decide (0 < n) = bn at HN1 HN2
    refine (HN1.out _ HP4.out).mono ?_
    rintro er w5 ⟨rfl, hb⟩
    have HF5 := Lib.hid (HF4.out.call hb)
    have HX5 := Lib.hid (HX4.out.below hb (Nat.le_refl _))
    clear hb HX4 HP4
    go_wp2_with (fail)
    refine (HN2.out _ HX5.out).mono ?_
    rintro er w6 ⟨rfl, hb⟩
    have HF6 := Lib.hid (HF5.out.call hb)
    have HX6 := Lib.hid (HX5.out.below hb (Nat.le_refl _))
    have HP6 := Lib.hid (HP.out.below HF6.out.2 (Nat.le_refl _))
    clear hb HX5
    have eQ : ((qn : Int) != (qn : Int)) = false := by simp
    have eB : (bn != bn) = false := by simp
    have HT1 := Lib.hid (fun w h => Total_any A n ca M a HM.out (by omega) w h)
    have HT2 := Lib.hid (fun w h => rTotal_any X n cx M a HM.out (by omega) w h)
    generalize tot a M = ta at HT1 HT2
    have eT : (ta != ta) = false := by simp
    have c0 := (HF6.out.blk 0 rfl).cell 0 _ rfl
    have c1 := (HF6.out.blk 0 rfl).cell 1 _ rfl
    go_wp2_with (fail)
    clear c1
    go_region_held3 (fun w' => w'.cell? ⟨w.heap.size, 0, none⟩ = some (.int .i64 a))
      (first
        | with_reducible assumption
        | assumption)
      (first
      | (go_at_call 10; refine (HT1.out _ ?_).mono ?_; exact HP6.out; rintro er w7 ⟨rfl, hb⟩; (have hb7 : Below w6.heap.size w6 w7 := by first | exact hb | exact from_drew hb | exact from_drewN hb); (have HF7 := Lib.hid (HF6.out.call hb7)); (have HX7 := Lib.hid (HX6.out.below hb7 (Nat.le_refl _))); (have d0 := (HF7.out.blk 0 rfl).cell 0 _ rfl); clear hb hb7)
      | (go_at_call 11; refine (HT2.out _ ?_).mono ?_; exact HX7.out; rintro er w8 ⟨rfl, hb⟩; (have hb8 : Below w7.heap.size w7 w8 := by first | exact hb | exact from_drew hb | exact from_drewN hb); (have HF8 := Lib.hid (HF7.out.call hb8)); (have HX8 := Lib.hid (HX7.out.below hb8 (Nat.le_refl _))); (have e0 := (HF8.out.blk 0 rfl).cell 0 _ rfl); clear hb hb8)
      | fail)
    have HP8 := Lib.hid (HP.out.below HF8.out.2 (Nat.le_refl _))
    have HR8 := Lib.hid (HR.out.below HF8.out.2 (Nat.le_refl _))
    obtain ⟨ns, hns⟩ : ∃ ns, LS.length = ns := ⟨_, rfl⟩
    rw [hns] at hLS
    have HNS := Lib.hid hns
    clear hns c0 d0 e0 HF6 HX6 HP6 HF7 HX7 HF5 HP1 HR1 HF3 HF4 HA1 HA2 HN1 HN2 HT1 HT2 HF2 HF1 HF0
    go_wp2_with (fail)
    refine (HS1.out A ca D cd _ HC.out HP8.out HR8.out).mono ?_
    rintro er w9 ⟨vx, rfl, ho, hb⟩
    obtain ⟨Ax, cx2, rfl, hpx⟩ := ho.prs
    rw [HNS.out]
    have HF9 := Lib.hid (HF8.out.call hb)
    have HX9 := Lib.hid (HX8.out.below hb (Nat.le_refl _))
    have HR9 := Lib.hid (HR8.out.below hb (Nat.le_refl _))
    have HPx := Lib.hid hpx
    clear ho hb hpx HX8 HP8 HR8 HF8
    go_wp2_with (fail)
    have HFA := Lib.hid (HF9.out.alloc [.int .i64 sa, .int .u16 sx] 37)
    have bA := (Below.refl w9.heap.size w9).alloc (Nat.le_refl _) (.cells #[.int .i64 sa, .int .u16 sx] 37)
    have HXA := Lib.hid (HX9.out.below bA (Nat.le_refl _))
    have HRA := Lib.hid (HR9.out.below bA (Nat.le_refl _))
    have HPA := Lib.hid (HPx.out.below bA (Nat.le_refl _))
    clear bA HX9 HR9 HPx HF9
    refine (HS2.out X cx D cd _ CX.out HXA.out HRA.out).mono ?_
    rintro er w10 ⟨vy, rfl, ho, hb⟩
    obtain ⟨Ay, cy2, rfl, hpy⟩ := ho.prs
    rw [HNS.out]
    have HFB := Lib.hid ((HFA.out.call hb).alloc [.int .i64 sa, .int .u16 sx] 37)
    have bB := (Below.refl w10.heap.size w10).alloc (Nat.le_refl _) (.cells #[.int .i64 sa, .int .u16 sx] 37)
    have HXB := Lib.hid ((HXA.out.below hb (Nat.le_refl _)).below bB (Nat.le_refl _))
    have HPXB := Lib.hid ((HPA.out.below hb (Nat.le_refl _)).below bB (Nat.le_refl _))
    have HPYB := Lib.hid (hpy.below bB (Nat.le_refl _))
    clear ho hb hpy bB HXA HRA HPA HFA
    go_wp2_with (fail)
    refine (Same_pls Ax Ay cx2 cy2 ns LS HNS.out _ HPXB.out.pls HPYB.out.pls (by omega)).mono ?_
    rintro er w11 ⟨rfl, hb⟩
    have HFC := Lib.hid (HFB.out.call hb)
    have HXC := Lib.hid (HXB.out.below hb (Nat.le_refl _))
    have HPC := Lib.hid (HP.out.below HFC.out.2 (Nat.le_refl _))
    clear hb HXB HPXB HPYB HFB
    have c0 := (HFC.out.blk 0 rfl).cell 0 _ rfl
    have c1 := (HFC.out.blk 0 rfl).cell 1 _ rfl
    have d0 := (HFC.out.blk 1 rfl).cell 0 _ rfl
    have d1 := (HFC.out.blk 1 rfl).cell 1 _ rfl
    go_wp2_with (fail)
    clear c0 c1 d0 d1
    refine (Same_pls A X ca cx n M HM.out _ HPC.out HXC.out (by omega)).mono ?_
    rintro er w12 ⟨rfl, hb⟩
    have HFD := Lib.hid (HFC.out.call hb)
    have c0 := (HFD.out.blk 0 rfl).cell 0 _ rfl
    have c1 := (HFD.out.blk 0 rfl).cell 1 _ rfl
    have d0 := (HFD.out.blk 1 rfl).cell 0 _ rfl
    have d1 := (HFD.out.blk 1 rfl).cell 1 _ rfl
    clear hb HXC HPC HFC
    go_wp2_with (fail)
    clear c0 c1 d0 d1
    refine (works_any _).mono ?_
    rintro er w13 ⟨rfl, hb⟩
    have HFE := Lib.hid (HFD.out.call hb)
    clear hb HFD
    go_wp2_with (fail)
    go_ret
    exact ⟨rfl, HFE.out.2⟩
theorem counterQueues_walk (A : Option Addr) (la ca : Nat) (f g : Nat → Int) (a k : Int) (D : Option Addr) (ld cd : Nat) (h : Nat → Int) (w : World) (ha : IsPulses w A la ca f g) (wa : (Lit.int .i64 a).wf = true) (wk : (Lit.int .u8 k).wf = true) (hd : IsWords w D ld cd h) :
    Calls Try.prog 3 #[.slice A la ca, .agg #[.int .i64 a, .int .u8 k], .slice D ld cd] w fun e w' => e = .returned (.bool true) ∧ Below w.heap.size w w' := by
  obtain ⟨hr, h1, h2, hna⟩ := ha
  obtain ⟨hc, h3, h4, _, hh⟩ := hd
  by_cases d : (la : Int) ≤ 200 <;> by_cases e : (ld : Int) ≤ 100
  · exact cqueues_core A D la ca ld cd la ld a k f g h w hr hc hh h1 h2 h3 h4 hna (.inl ⟨rfl, d⟩) (.inl ⟨rfl, e⟩)
  · exact cqueues_core A D la ca ld cd la 100 a k f g h w hr (hc.take (by omega)) hh h1 h2 h3 h4 hna (.inl ⟨rfl, d⟩) (.inr ⟨rfl, e⟩)
  · exact cqueues_core A D la ca ld cd 200 ld a k f g h w (hr.take (by omega)) hc hh h1 h2 h3 h4 hna (.inr ⟨rfl, d⟩) (.inl ⟨rfl, e⟩)
  · exact cqueues_core A D la ca ld cd 200 100 a k f g h w (hr.take (by omega)) (hc.take (by omega)) hh h1 h2 h3 h4 hna (.inr ⟨rfl, d⟩) (.inr ⟨rfl, e⟩)
end Go.Proofs.Yteongalbljdjlaa
