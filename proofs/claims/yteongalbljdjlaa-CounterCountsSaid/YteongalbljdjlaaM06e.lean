/- Contracts of layer 6: slices.Grow and slices.Concat of queues. -/
import Derived.Test.YteongalbljdjlaaM06d
import Derived.Lib.AppendZerosOnto
set_option linter.unusedSimpArgs false
set_option linter.unusedVariables false
set_option maxRecDepth 100000
namespace Go.Proofs.Yteongalbljdjlaa
open Go.ChangeShapes Go.WideShapes Go.ChangeAt Go.RowKit
theorem info_pulse : (Try.prog.info? 25).map (fun i => (i.zero, i.size, i.bytes)) = some (some (.agg #[.int .i64 0, .int .u8 0]), 2, 16) := by kernel_rfl
set_option maxHeartbeats 1000000 in
theorem Grow_zero (w : World) : Calls Try.prog 25 #[.slice none 0 0, .int .i64 0] w fun e w' => e = .returned (.slice none 0 0) ∧ w = w' := by
  go_enter Try.func25, Try.ntmps25
  go_wp2
  go_ret
  exact ⟨rfl, rfl⟩
def RetGrow (w : World) (e : Ending) (w' : World) : Prop := ∃ v, e = .returned v ∧ OwnP .i64 .u8 25 w' w.heap.size v [] ∧ Below w.heap.size w w'
set_option maxHeartbeats 2000000 in
theorem Grow_some (n : Nat) (h0 : 0 < n) (h1 : n ≤ 1000000) (w : World) : Calls Try.prog 25 #[.slice none 0 0, .int .i64 n] w (RetGrow w) := by
  obtain ⟨i, hi, hz, hsz, hby⟩ := info_parts info_pulse
  have hold : (Builtin.firstCells i.size 0 (.slice none 0 0)).run Try.prog w.drew = .ok ([] : List Value).toArray w.drew := run_firstCells_none w.drew i.size 0 0 0
  have hrz : ∀ ty, (Builtin.append_ #[22, 3] ty #[.slice none 0 0, .int .i64 (n : Int)]).run Try.prog w =
      .ok (.slice (some ⟨w.heap.size, 0, none⟩) n (grownCap w n 0 25)) (w.drew.alloc (.cells (([] : List Value).toArray ++ Builtin.zeroCells (Value.agg #[.int .i64 0, .int .u8 0]).cells n ++ Builtin.zeroCells (Value.agg #[.int .i64 0, .int .u8 0]).cells (grownCap w n 0 25 - n)) 25)) := fun ty => by
    have h := Lib.run_append_grow_zeros w 22 3 ty 25 i _ .i64 .i64 Try.underlying22 Try.underlying3 hi hz none 0 0 [] hold n h0 (by omega) (by omega) (by omega)
      (by rw [hby]; omega) (growslice_fits (by omega) (by rw [hby]; omega))
    simp only [Nat.zero_add] at h
    exact h
  have hGn : n ≤ grownCap w n 0 25 := grownCap_ge w _ _ _
  have hGm : grownCap w n 0 25 ≤ maxLen := grownCap_le_maxLen w n 0 25 (by unfold maxLen; omega)
  obtain ⟨G, hG⟩ : ∃ G, G = grownCap w n 0 25 := ⟨_, rfl⟩
  rw [← hG] at hrz hGn hGm
  have hG63 : G ≤ 9223372036854775807 := by unfold maxLen at hGm; omega
  have HM := Lib.hid hGm
  clear hold hG hi hz hsz hby hGm
  go_enter Try.func25, Try.ntmps25
  go_wp2_with (at_builtin; refine Lib.wpList_append_run _ rfl _ _ _ _ rfl _ _ rfl rfl _ _ (hrz _) ?_)
  all_goals
    go_ret
    refine ⟨_, rfl, ?_, ?_⟩
    · refine ⟨rfl, .inr ⟨w.heap.size, G, _, rfl, Nat.le_refl _, heap_alloc_new w _, Nat.zero_le _, HM.out, ?_, rfl⟩⟩
      simp [size_zeroCells]
      omega
    · exact ((Below.refl w.heap.size w).alloc (Nat.le_refl _) _).drew
/-- A slice that is read: the pulses M. -/
def PlsL (w : World) (A : Option Addr) (M : List (Int × Int)) : Prop := Pls w A M.length (fun i => (M.getD i (0, 0)).1) (fun i => (M.getD i (0, 0)).2)
theorem run_appQ {P : Program} {w : World} (t ty e : TypeId) (bytes : Nat) (ht : P.underlying t = some (.slice e)) (z : Value) (hinfo : (P.info? e).map (fun i => (i.zero, i.size, i.bytes)) = some (some z, 2, bytes)) (hz2 : z.cells.size = 2)
    (B : Nat) (v : Value) (A : Option Addr) (c : Nat) (L M : List (Int × Int)) (hown : OwnP .i64 .u8 e w B v L) (hu : PlsL w A M) (hA : A = none → c = 0) (hlen : (L.length + M.length) * bytes ≤ 140737488355328 ∧ L.length + M.length ≤ 140737488355328) (hB : B ≤ w.heap.size) :
    ∃ v' w', (Builtin.append_ #[t, t] ty #[v, .slice A M.length c]).run P w = .ok v' w' ∧ OwnP .i64 .u8 e w' B v' (L ++ M) ∧ w.grownBy w' v.ownBlock ∧ (v'.ownBlock = v.ownBlock ∨ v'.ownBlock = some w.heap.size) := by
  obtain ⟨i, hi, hz, hsz, hby⟩ := info_parts hinfo
  cases A with
  | none =>
    have hM : M = [] := by
      cases M with
      | nil => rfl
      | cons x M => obtain ⟨a, h, _⟩ := hu 0 (by simp); cases h
    subst hM
    have hc := hA rfl
    subst hc
    exact ⟨v, w, run_append_owned_none (P := P) (w := w) B t ty e i 2 ht hi v L.length _ hown, by simpa using hown, World.grownBy.refl _ _, .inl rfl⟩
  | some a =>
    have hcell : ∀ j u, (pcells .i64 .u8 M)[j]? = some u → w.cell? (a.add j) = some u := by
      intro j u hj
      have hl := pcells_len .i64 .u8 M
      have hjl : j < M.length * 2 := by
        rcases Nat.lt_or_ge j (pcells .i64 .u8 M).length with h | h
        · omega
        · rw [List.getElem?_eq_none h] at hj; cases hj
      obtain ⟨b, hb, h1, h2⟩ := hu (j / 2) (by omega)
      cases hb
      obtain ⟨f1, f2⟩ := flat2_get (fun i => Value.int .i64 (M.getD i (0, 0)).1) (fun i => Value.int .u8 (M.getD i (0, 0)).2) M.length (j / 2) (by omega)
      by_cases c0 : j % 2 = 0
      · have e0 : j / 2 * 2 = j := by omega
        rw [e0] at h1 f1
        have : (pcells .i64 .u8 M)[j]? = some (.int .i64 (M.getD (j / 2) (0, 0)).1) := f1
        rw [this] at hj
        cases hj
        exact h1
      · have e0 : j / 2 * 2 + 1 = j := by omega
        have : (pcells .i64 .u8 M)[j / 2 * 2 + 1]? = some (.int .u8 (M.getD (j / 2) (0, 0)).2) := f2
        rw [e0] at this
        rw [this] at hj
        cases hj
        have e1 : a.add j = ⟨(a.add (j / 2 * 2)).block, (a.add (j / 2 * 2)).off + 1, none⟩ := by
          unfold Addr.add
          by_cases h0 : j / 2 * 2 = 0
          · have : j = 1 := by omega
            subst this
            simp
          · rw [if_neg h0, if_neg (by omega)]
            simp
            omega
        rw [e1]
        exact h2
    obtain ⟨v', w', h1, h2, h3, h4, h5⟩ := run_append_own_at (P := P) (w := w) B t ty e i z 2 bytes ht hi hz hsz hby hz2 (by decide) v L.length (pcells .i64 .u8 L) hown a M.length c (pcells .i64 .u8 M) (pcells_len _ _ _) hcell (pcells_one _ _ _) (by unfold maxLen; omega) hlen.1 hB
    refine ⟨v', w', h1, ?_, h3, h5⟩
    rw [OwnP.raw, List.length_append, pcells_append]
    exact h2
theorem wp_appQ {P : Program} {ops : Array Oper} {rest : List Oper} {o : Oper} {a : Act} {w : World} {Q : Exit → Act → World → Prop}
    (hg : o.guard = none) (s x : Operand) (t : TypeId) (hop : o.op = Op.call { callee := Callee.builtin Builtin.append, args := #[s, x], argTypes := #[t, t] })
    (e : TypeId) (z : Value) (bytes : Nat) (ht : P.underlying t = some (.slice e)) (hinfo : (P.info? e).map (fun i => (i.zero, i.size, i.bytes)) = some (some z, 2, bytes)) (hz2 : z.cells.size = 2)
    (w0 : World) (B : Nat) (v : Value) (A : Option Addr) (n c : Nat) (L M : List (Int × Int)) (hn : M.length = n) (hown : OwnP .i64 .u8 e w B v L) (hu : PlsL w A M) (hA : A = none → c = 0) (hs : a.eval s = v) (hx : a.eval x = .slice A n c)
    (hlen : (L.length + n) * bytes ≤ 140737488355328 ∧ L.length + n ≤ 140737488355328) (hb : Below B w0 w) (hB : B ≤ w.heap.size)
    (hK : ∀ v' w', OwnP .i64 .u8 e w' B v' (L ++ M) → Below B w0 w' → w.grownBy w' v.ownBlock → (v'.ownBlock = v.ownBlock ∨ v'.ownBlock = some w.heap.size) → wpList P ops Q rest (a.put o.dst v') w') :
    wpList P ops Q (o :: rest) a w := by
  subst hn
  refine wpList_plain hg fun K hKK => ?_
  obtain ⟨v', w', hrun, h2, h3, h4⟩ := run_appQ (w := w) t o.type e bytes ht z hinfo hz2 B v A c L M hown hu hA hlen hB
  unfold Oper.wp
  simp [execOp, hop, resolve, invoke, builtin, hs, hx, hrun, Result.andThen]
  exact hKK _ _ (hK v' w' h2 (Below.grown hb h3 hB (fun g hg => (World.ownsRow.lt hown g hg).1)) h3 h4)
theorem Grow_any (n : Nat) (h1 : n ≤ 1000000) (w : World) : Calls Try.prog 25 #[.slice none 0 0, .int .i64 n] w (RetGrow w) := by
  by_cases h : n = 0
  · subst h
    refine (Grow_zero w).mono ?_
    rintro e w' ⟨rfl, rfl⟩
    exact ⟨_, rfl, OwnP.nil _ _ _ _ _, Below.refl _ _⟩
  · exact Grow_some n (by omega) h1 w
end Go.Proofs.Yteongalbljdjlaa
