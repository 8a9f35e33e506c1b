/- Slices of pairs of numbers, the call's own or not. -/
import Derived.Test.YtjjkikghfmnikaaGreatDoorQ02
import Derived.Test.YtjjkikghfmnikaaGreatDoorQ04
import Derived.Lib.Hide
import Derived.Maps.AppendAt
import Derived.Laws.AppendOwnNone
import Derived.Test.YtjjkikghfmnikaaGreatDoorQ03
import Derived.Test.YtjjkikghfmnikaaGreatDoorQ01
set_option linter.unusedSimpArgs false
set_option linter.unusedVariables false
namespace Go.Proofs.YtjjkikghfmnikaaGreatDoor
open Go.ChangeShapes Go.WideShapes Go.ChangeAt Go.RowKit
/-- A slice of the call's own whose elements are pairs of numbers. -/
def OwnP (k1 k2 : IntKind) (T : TypeId) (w : World) (B : Nat) (v : Value) (L : List (Int × Int)) : Prop := Own2 T w B v L.length (fun i => .int k1 (L.getD i (0, 0)).1) (fun i => .int k2 (L.getD i (0, 0)).2)
theorem OwnP.nil (k1 k2 : IntKind) (T : TypeId) (w : World) (B : Nat) : OwnP k1 k2 T w B (.slice none 0 0) [] := Own2.nil _ _ _ _ _
theorem OwnP.below {k1 k2 : IntKind} {T : TypeId} {w w' : World} {B B' : Nat} {v : Value} {L : List (Int × Int)} (h : OwnP k1 k2 T w B v L) (hb : Below B' w w') (hB : w.heap.size ≤ B') : OwnP k1 k2 T w' B v L := Own2.below h hb hB
theorem OwnP.one (k1 k2 : IntKind) (T : TypeId) (w : World) (B g : Nat) (x y : Int) (hB : B ≤ w.heap.size) (hg : w.heap.size = g) : OwnP k1 k2 T (w.alloc (.cells #[.int k1 x, .int k2 y] T)) B (.slice (some ⟨g, 0, none⟩) 1 1) [(x, y)] := by
  subst hg
  have := World.ownsRow_lit w (e := T) (size := 2) (base := B) #[.int k1 x, .int k2 y] 1 hB (by unfold maxLen; omega) rfl
  exact this
theorem OwnP.low {k1 k2 : IntKind} {T : TypeId} {w : World} {B B' : Nat} {v : Value} {L : List (Int × Int)} (h : OwnP k1 k2 T w B v L) (hB : B' ≤ B) : OwnP k1 k2 T w B' v L := by
  refine ⟨h.1, ?_⟩
  rcases h.2 with hn | ⟨g, cap, cur, hv, hb, rest⟩
  · exact .inl hn
  · exact .inr ⟨g, cap, cur, hv, by omega, rest⟩
/-- How a list of pairs is read. -/
def Prs (k1 k2 : IntKind) (w : World) (A : Option Addr) (L : List (Int × Int)) : Prop := ∀ i, i < L.length → ∃ g, A = some ⟨g, 0, none⟩ ∧ w.cell? ⟨g, i * 2, none⟩ = some (.int k1 (L.getD i (0, 0)).1) ∧ w.cell? ⟨g, i * 2 + 1, none⟩ = some (.int k2 (L.getD i (0, 0)).2)
theorem OwnP.prs {k1 k2 : IntKind} {T : TypeId} {w : World} {B : Nat} {v : Value} {L : List (Int × Int)} (h : OwnP k1 k2 T w B v L) : ∃ A c, v = .slice A L.length c ∧ Prs k1 k2 w A L := by
  have h0 : w.ownsRow B T 2 v L.length _ := h
  rcases h.2 with ⟨rfl, e⟩ | ⟨g, cap, cur, rfl, hb, hh, h1, h2, h3, h4⟩
  · exact ⟨none, 0, by rw [e], fun i hi => by omega⟩
  · refine ⟨_, cap, rfl, fun i hi => ⟨g, rfl, ?_, ?_⟩⟩
    · rw [World.ownsRow.cellAt (g := g) (cap := cap) h0 (i * 2) (by omega)]
      exact (flat2_get _ _ _ i hi).1
    · rw [World.ownsRow.cellAt (g := g) (cap := cap) h0 (i * 2 + 1) (by omega)]
      exact (flat2_get _ _ _ i hi).2
theorem Prs.drewN {k1 k2 : IntKind} {w : World} {A : Option Addr} {L : List (Int × Int)} (h : Prs k1 k2 w A L) (m : Nat) : Prs k1 k2 (w.drewN m) A L := h
theorem Prs.below {k1 k2 : IntKind} {w w' : World} {A : Option Addr} {L : List (Int × Int)} {B : Nat} (h : Prs k1 k2 w A L) (hb : Below B w w') (hB : w.heap.size ≤ B) : Prs k1 k2 w' A L := fun i hi => by
  obtain ⟨g, e, h1, h2⟩ := h i hi
  exact ⟨g, e, (hb.cell (Nat.lt_of_lt_of_le (lt_of_cell h1) hB)).trans h1, (hb.cell (Nat.lt_of_lt_of_le (lt_of_cell h2) hB)).trans h2⟩
theorem flat2_congr {p q p' q' : Nat → Value} : ∀ (n : Nat), (∀ i, i < n → p i = p' i ∧ q i = q' i) → flat2 p q n = flat2 p' q' n
  | 0, _ => rfl
  | n + 1, h => by
    unfold flat2
    rw [flat2_congr n (fun i hi => h i (by omega)), (h n (by omega)).1, (h n (by omega)).2]
theorem flat2_add (p q : Nat → Value) (n : Nat) : ∀ m, flat2 p q (n + m) = flat2 p q n ++ flat2 (fun i => p (n + i)) (fun i => q (n + i)) m
  | 0 => by simp [flat2]
  | m + 1 => by
    rw [← Nat.add_assoc]
    show flat2 p q (n + m) ++ [p (n + m), q (n + m)] = flat2 p q n ++ (flat2 (fun i => p (n + i)) (fun i => q (n + i)) m ++ [p (n + m), q (n + m)])
    rw [flat2_add p q n m, List.append_assoc]
/-- The cells of a list of pairs. -/
def pcells (k1 k2 : IntKind) (L : List (Int × Int)) : List Value := flat2 (fun i => .int k1 (L.getD i (0, 0)).1) (fun i => .int k2 (L.getD i (0, 0)).2) L.length
theorem pcells_append (k1 k2 : IntKind) (L M : List (Int × Int)) : pcells k1 k2 (L ++ M) = pcells k1 k2 L ++ pcells k1 k2 M := by
  unfold pcells
  rw [List.length_append, flat2_add]
  congr 1
  · refine flat2_congr _ (fun i hi => ?_)
    simp [List.getD_eq_getElem?_getD, List.getElem?_append_left hi]
  · refine flat2_congr _ (fun i hi => ?_)
    have e : (L ++ M)[L.length + i]? = M[i]? := by rw [List.getElem?_append_right (by omega)]; congr 1; omega
    simp [List.getD_eq_getElem?_getD, e]
theorem pcells_one (k1 k2 : IntKind) (L : List (Int × Int)) : ∀ u ∈ pcells k1 k2 L, u.oneCell' = true := by
  unfold pcells
  have : ∀ (p q : Nat → Value) n, (∀ i, (p i).oneCell' = true ∧ (q i).oneCell' = true) → ∀ u ∈ flat2 p q n, u.oneCell' = true := by
    intro p q n h
    induction n with
    | zero => intro u hu; cases hu
    | succ n ih =>
      intro u hu
      rcases List.mem_append.1 hu with hu | hu
      · exact ih u hu
      · simp at hu
        rcases hu with rfl | rfl
        · exact (h n).1
        · exact (h n).2
  exact this _ _ _ (fun i => ⟨rfl, rfl⟩)
theorem pcells_len (k1 k2 : IntKind) (L : List (Int × Int)) : (pcells k1 k2 L).length = L.length * 2 := flat2_len _ _ _
theorem OwnP.raw {k1 k2 : IntKind} {T : TypeId} {w : World} {B : Nat} {v : Value} {L : List (Int × Int)} : OwnP k1 k2 T w B v L ↔ w.ownsRow B T 2 v L.length (pcells k1 k2 L) := Iff.rfl
/-- Where the source lies. -/
theorem OwnP.src {k1 k2 : IntKind} {T : TypeId} {w : World} {B : Nat} {v : Value} {L : List (Int × Int)} (h : OwnP k1 k2 T w B v L) :
    (v = .slice none 0 0 ∧ L = []) ∨ ∃ g cap, v = .slice (some ⟨g, 0, none⟩) L.length cap ∧ B ≤ g ∧ g < w.heap.size ∧ ∀ j u, (pcells k1 k2 L)[j]? = some u → w.cell? ((⟨g, 0, none⟩ : Addr).add j) = some u := by
  rcases h with ⟨hl, ⟨rfl, h0⟩ | ⟨g, cap, cur, rfl, hg, hh, h1, h2, h3, h4⟩⟩
  · exact .inl ⟨rfl, List.length_eq_zero_iff.1 h0⟩
  · refine .inr ⟨g, cap, rfl, hg, (Array.getElem?_eq_some_iff.1 hh).1, fun j u hu => ?_⟩
    have e1 : (⟨g, 0, none⟩ : Addr).add j = ⟨g, j, none⟩ := by unfold Addr.add; by_cases c : j = 0 <;> simp [c]
    rw [e1]
    have hj : j < (pcells k1 k2 L).length := by
      rcases Nat.lt_or_ge j (pcells k1 k2 L).length with h | h
      · exact h
      · rw [List.getElem?_eq_none h] at hu; cases hu
    have h5 : cur.toList.take (L.length * 2) = pcells k1 k2 L := h4
    rw [← h5, List.getElem?_take] at hu
    rw [pcells_len] at hj
    rw [if_pos hj] at hu
    unfold World.cell?
    rw [hh]
    simpa using hu
theorem run_appP {P : Program} {w : World} (k1 k2 : IntKind) (t ty e : TypeId) (bytes : Nat) (ht : P.underlying t = some (.slice e)) (z : Value) (hinfo : (P.info? e).map (fun i => (i.zero, i.size, i.bytes)) = some (some z, 2, bytes)) (hz2 : z.cells.size = 2)
    (B Bs : Nat) (v u : Value) (L M : List (Int × Int)) (hown : OwnP k1 k2 e w B v L) (hu : OwnP k1 k2 e w Bs u M) (hlen : (L.length + M.length) * bytes ≤ 140737488355328 ∧ L.length + M.length ≤ 140737488355328) (hB : B ≤ w.heap.size) :
    ∃ v' w', (Builtin.append_ #[t, t] ty #[v, u]).run P w = .ok v' w' ∧ OwnP k1 k2 e w' B v' (L ++ M) ∧ w.grownBy w' v.ownBlock ∧ (v'.ownBlock = v.ownBlock ∨ v'.ownBlock = some w.heap.size) := by
  obtain ⟨i, hi, hz, hsz, hby⟩ := info_parts hinfo
  rcases hu.src with ⟨rfl, rfl⟩ | ⟨g, cap, rfl, hg, hlt, hc⟩
  · refine ⟨v, w, run_append_owned_none (P := P) (w := w) B t ty e i 2 ht hi v L.length _ hown, by simpa using hown, World.grownBy.refl _ _, .inl rfl⟩
  · obtain ⟨v', w', h1, h2, h3, h4, h5⟩ := run_append_own_at (P := P) (w := w) B t ty e i z 2 bytes ht hi hz hsz hby hz2 (by decide) v L.length (pcells k1 k2 L) hown ⟨g, 0, none⟩ M.length cap (pcells k1 k2 M) (pcells_len _ _ _) hc (pcells_one _ _ _) (by unfold maxLen; omega) hlen.1 hB
    refine ⟨v', w', h1, ?_, h3, h5⟩
    rw [OwnP.raw, List.length_append, pcells_append]
    exact h2
/-- append(s, x...) where both are lists of pairs of the call's own. -/
theorem step_appP {P : Program} {ops : Array Oper} {o : Oper} {a : Act} {w : World} {K : Act → World → Prop} {Q : Exit → Act → World → Prop} {E : Prop} (k1 k2 : IntKind)
    (hg : o.guard = none) (s x : Operand) (t : TypeId) (hop : o.op = Op.call { callee := Callee.builtin Builtin.append, args := #[s, x], argTypes := #[t, t] })
    (e : TypeId) (z : Value) (bytes : Nat) (ht : P.underlying t = some (.slice e)) (hinfo : (P.info? e).map (fun i => (i.zero, i.size, i.bytes)) = some (some z, 2, bytes)) (hz2 : z.cells.size = 2)
    (w0 : World) (B Bs : Nat) (v u : Value) (L M : List (Int × Int)) (hown : OwnP k1 k2 e w B v L) (hu : OwnP k1 k2 e w Bs u M) (hs : a.eval s = v) (hx : a.eval x = u)
    (hlen : (L.length + M.length) * bytes ≤ 140737488355328 ∧ L.length + M.length ≤ 140737488355328) (hb : Below B w0 w) (hB : B ≤ w.heap.size)
    (hK : ∀ v' w', OwnP k1 k2 e w' B v' (L ++ M) → Below B w0 w' → w.grownBy w' v.ownBlock → (v'.ownBlock = v.ownBlock ∨ v'.ownBlock = some w.heap.size) → K (a.put o.dst v') w') :
    if Region.wanted o (yielded ops a.tmps) = true then Oper.wp P o a w K Q else E := by
  have hw : Region.wanted o (yielded ops a.tmps) = true := by simp [Region.wanted, hg]
  rw [if_pos hw]
  obtain ⟨v', w', hrun, h2, h3, h4⟩ := run_appP (w := w) k1 k2 t o.type e bytes ht z hinfo hz2 B Bs v u L M hown hu hlen hB
  unfold Oper.wp
  simp [execOp, hop, resolve, invoke, builtin, hs, hx, hrun, Result.andThen]
  exact hK v' w' h2 (Below.grown hb h3 hB (fun g hg => (World.ownsRow.lt hown g hg).1)) h3 h4
theorem wp_appP {P : Program} {ops : Array Oper} {rest : List Oper} {o : Oper} {a : Act} {w : World} {Q : Exit → Act → World → Prop} (k1 k2 : IntKind)
    (hg : o.guard = none) (s x : Operand) (t : TypeId) (hop : o.op = Op.call { callee := Callee.builtin Builtin.append, args := #[s, x], argTypes := #[t, t] })
    (e : TypeId) (z : Value) (bytes : Nat) (ht : P.underlying t = some (.slice e)) (hinfo : (P.info? e).map (fun i => (i.zero, i.size, i.bytes)) = some (some z, 2, bytes)) (hz2 : z.cells.size = 2)
    (w0 : World) (B Bs : Nat) (v u : Value) (L M : List (Int × Int)) (hown : OwnP k1 k2 e w B v L) (hu : OwnP k1 k2 e w Bs u M) (hs : a.eval s = v) (hx : a.eval x = u)
    (hlen : (L.length + M.length) * bytes ≤ 140737488355328 ∧ L.length + M.length ≤ 140737488355328) (hb : Below B w0 w) (hB : B ≤ w.heap.size)
    (hK : ∀ v' w', OwnP k1 k2 e w' B v' (L ++ M) → Below B w0 w' → w.grownBy w' v.ownBlock → (v'.ownBlock = v.ownBlock ∨ v'.ownBlock = some w.heap.size) → wpList P ops Q rest (a.put o.dst v') w') :
    wpList P ops Q (o :: rest) a w := by
  refine wpList_plain hg fun K hKK => ?_
  obtain ⟨v', w', hrun, h2, h3, h4⟩ := run_appP (w := w) k1 k2 t o.type e bytes ht z hinfo hz2 B Bs v u L M hown hu hlen hB
  unfold Oper.wp
  simp [execOp, hop, resolve, invoke, builtin, hs, hx, hrun, Result.andThen]
  exact hKK _ _ (hK v' w' h2 (Below.grown hb h3 hB (fun g hg => (World.ownsRow.lt hown g hg).1)) h3 h4)
theorem OwnP.one' (k1 k2 : IntKind) (T : TypeId) (w : World) (g : Nat) (x y : Int) (hg : w.heap.size = g) : OwnP k1 k2 T (w.alloc (.cells #[.int k1 x, .int k2 y] T)) 0 (.slice (some ⟨g, 0, none⟩) 1 1) [(x, y)] := OwnP.one k1 k2 T w 0 g x y (Nat.zero_le _) hg
theorem OwnP.lt {k1 k2 : IntKind} {T : TypeId} {w : World} {B : Nat} {v : Value} {L : List (Int × Int)} (h : OwnP k1 k2 T w B v L) : ∀ j, v.ownBlock = some j → B ≤ j ∧ j < w.heap.size := World.ownsRow.lt h
theorem OwnP.shape {k1 k2 : IntKind} {T : TypeId} {w : World} {B : Nat} {v : Value} {L : List (Int × Int)} (h : OwnP k1 k2 T w B v L) : ∃ A n c, v = .slice A n c := by
  rcases h.src with ⟨rfl, _⟩ | ⟨g, cap, rfl, _⟩ <;> exact ⟨_, _, _, rfl⟩
theorem OwnP.drew {k1 k2 : IntKind} {T : TypeId} {w : World} {B : Nat} {v : Value} {L : List (Int × Int)} (h : OwnP k1 k2 T w B v L) : OwnP k1 k2 T w.drew B v L := h
theorem OwnP.grown {k1 k2 : IntKind} {T : TypeId} {w w' : World} {B : Nat} {v : Value} {L : List (Int × Int)} {u : Option Nat} (h : OwnP k1 k2 T w B v L) (hg : w.grownBy w' u) (hne : ∀ j, v.ownBlock = some j → u ≠ some j) : OwnP k1 k2 T w' B v L := by
  refine ⟨h.1, ?_⟩
  rcases h.2 with hn | ⟨g, cap, cur, rfl, hb, hh, rest⟩
  · exact .inl hn
  · refine .inr ⟨g, cap, cur, rfl, hb, ?_, rest⟩
    rw [hg.block g (Array.getElem?_eq_some_iff.1 hh).1 (fun c => hne g rfl c.symm)]; exact hh
end Go.Proofs.YtjjkikghfmnikaaGreatDoor

/- Contracts of layer 5: the reference's Load. -/
set_option linter.unusedSimpArgs false
set_option linter.unusedVariables false
namespace Go.Proofs.YtjjkikghfmnikaaGreatDoor
open Go.ChangeShapes Go.WideShapes Go.ChangeAt Go.RowKit
/-- The call returns a value, a list of spots and an error. -/
def LoadRet (x : Int) (L : List (Int × Int)) (er : Int) (w : World) (e : Ending) (w' : World) : Prop := ∃ vl, e = .returned (.tuple #[.int .u16 x, vl, .int .i64 er]) ∧ OwnP .u8 .i64 59 w' w.heap.size vl L ∧ Below w.heap.size w w'
theorem rds_yes {s a : Int} (h : isW s a) : rds s a = [(s, a)] := by unfold rds; rw [if_pos h]
theorem rds_no {s a : Int} (h : ¬ isW s a) : rds s a = [] := by unfold rds; rw [if_neg h]
theorem Load_arg (r : Rg) (hf : r.Fit) (h : ¬ r.may) (v : Vw) (ea : Option Addr) (ec : Nat) (fa : Option Addr) (fc : Nat) (ca : Option Addr) (cc : Nat) (k : Int) (w : World) :
    Calls Tryz.prog 14 #[.agg #[.int .u16 r.A, .int .u16 r.L, .int .u16 r.Q, .int .i64 r.Z, .int .i64 r.EB, .int .i64 r.FB, .int .i64 r.Su, .bool r.Ex, .int .u16 r.Ix, .bool r.Hd, .int .u16 r.B, .bool r.Ih, .bool r.Sv], .agg #[.slice ea v.ne ec, .slice fa v.nf fc, .slice ca v.nc cc], .int .i64 k] w (LoadRet 0 [] 2 w) := by
  have HF := Lib.hid (decide_eq_false h)
  clear h
  go_enter Tryz.func14, Tryz.ntmps14
  go_wp2_with (go_at_call 12; refine (rMay_any r false HF.out _).mono ?_; rintro e w1 ⟨rfl, hb⟩; (have X1 := Lib.hid ((below2 w _ _).trans (hb.mono (by simp; omega)))); clear hb)
  go_ret3
  exact ⟨_, rfl, OwnP.nil _ _ _ _ _, X1.out⟩
theorem Load_range (r : Rg) (hf : r.Fit) (h : r.may) (v : Vw) (ea : Option Addr) (ec : Nat) (fa : Option Addr) (fc : Nat) (ca : Option Addr) (cc : Nat) (k : Int) (hk : ¬ (0 ≤ k ∧ k ≤ 4095)) (w : World) :
    Calls Tryz.prog 14 #[.agg #[.int .u16 r.A, .int .u16 r.L, .int .u16 r.Q, .int .i64 r.Z, .int .i64 r.EB, .int .i64 r.FB, .int .i64 r.Su, .bool r.Ex, .int .u16 r.Ix, .bool r.Hd, .int .u16 r.B, .bool r.Ih, .bool r.Sv], .agg #[.slice ea v.ne ec, .slice fa v.nf fc, .slice ca v.nc cc], .int .i64 k] w (LoadRet 0 [] 3 w) := by
  have HF := Lib.hid (decide_eq_true h)
  have hk2 : k < 0 ∨ 4095 < k := by omega
  clear h hk
  rcases hk2 with hk | hk
  all_goals
    go_enter Tryz.func14, Tryz.ntmps14
    go_wp2_with (go_at_call 12; refine (rMay_any r true HF.out _).mono ?_; rintro e w1 ⟨rfl, hb⟩; (have X1 := Lib.hid ((below2 w _ _).trans (hb.mono (by simp; omega)))); clear hb)
    go_ret3
    exact ⟨_, rfl, OwnP.nil _ _ _ _ _, X1.out⟩
set_option maxHeartbeats 2000000 in
theorem Load_has (r : Rg) (hf : r.Fit) (h : r.may) (v : Vw) (ea : Option Addr) (ec : Nat) (fa : Option Addr) (fc : Nat) (ca : Option Addr) (cc : Nat) (k : Int) (k0 : 0 ≤ k) (k1 : k ≤ 4095) (hh : has r k) (w : World) (hv : VwAt w v ea fa ca) :
    Calls Tryz.prog 14 #[.agg #[.int .u16 r.A, .int .u16 r.L, .int .u16 r.Q, .int .i64 r.Z, .int .i64 r.EB, .int .i64 r.FB, .int .i64 r.Su, .bool r.Ex, .int .u16 r.Ix, .bool r.Hd, .int .u16 r.B, .bool r.Ih, .bool r.Sv], .agg #[.slice ea v.ne ec, .slice fa v.nf fc, .slice ca v.nc cc], .int .i64 k] w (LoadRet (val r v (spc k) (adr r k)) (rds (spc k) (adr r k)) 0 w) := by
  have HF := Lib.hid (decide_eq_true h)
  have HM := Lib.hid h
  have HH := Lib.hid hh
  have ab := adr_bd h k0 k1
  have ab2 : adr r k ≤ 36863 := by have := ab.2; split at this <;> omega
  have S := Lib.hid (spc_or k)
  have HV0 := Lib.hid hv
  clear h hh hv
  obtain ⟨s, hs⟩ : ∃ s, spc k = s := ⟨_, rfl⟩
  obtain ⟨a, ha⟩ : ∃ a, adr r k = a := ⟨_, rfl⟩
  obtain ⟨x, hx⟩ : ∃ x, val r v s a = x := ⟨_, rfl⟩
  rw [ha] at ab ab2
  rw [hs] at S
  rw [hs, ha, hx]
  have H1 := Lib.hid hs
  have H2 := Lib.hid ha
  have H3 := Lib.hid hx
  have ab0 := ab.1
  clear hs ha hx ab
  have big : 0 ≤ r.A ∧ r.A ≤ 65535 := hf.A
  have HFt := Lib.hid hf
  clear hf
  by_cases c : isW s a
  · have HC := Lib.hid (decide_eq_true c)
    rw [rds_yes c]
    clear c
    go_enter Tryz.func14, Tryz.ntmps14
    go_wp2_with (first
      | (go_at_call 12; refine (rMay_any r true HF.out _).mono ?_; rintro e w1 ⟨rfl, hb⟩; (obtain ⟨hk1, hl1⟩ := bcell hb); (have hz1 : w.heap.size + 1 < w1.heap.size := by have := hb.size; simp at this; omega); (have hy1 : w.heap.size < w1.heap.size := by omega); (have X1 := Lib.hid ((below2 w _ _).trans (hb.mono (by simp; omega)))); clear hb)
      | (go_at_call 42; refine (rfind_yes r HM.out k s a k0 k1 HH.out H1.out H2.out _).mono ?_; rintro e w2 ⟨rfl, hb⟩; (obtain ⟨hk2, hl2⟩ := bcell hb); (have hz2 : w.heap.size + 1 < w2.heap.size := by have := hb.size; omega); (have hy2 : w.heap.size < w2.heap.size := by omega); (have X2 := Lib.hid (X1.out.trans (hb.mono X1.out.size))); clear hb)
      | (go_at_call 43; refine (rvalue_any r HM.out big HFt.out v ea ec fa fc ca cc s a x true H3.out HC.out S.out ab0 _ ((HV0.out.below X2.out (Nat.le_refl _)).alloc _)).mono ?_; rintro e w3 ⟨rfl, hb⟩; (obtain ⟨hk3, hl3⟩ := bcell hb); (have hz3 : w2.heap.size < w3.heap.size := by have := hb.size; simp at this; omega); (have X3 := Lib.hid ((X2.out.alloc X2.out.size _).trans (hb.mono (by have := X2.out.size; simp; omega)))); clear hb))
    go_region
    go_wp2
    go_ret3
    exact ⟨_, rfl, OwnP.one .u8 .i64 _ w3 w.heap.size _ s a X3.out.size rfl, (X3.out.alloc X3.out.size _).drew⟩
  · have HC := Lib.hid (decide_eq_false c)
    rw [rds_no c]
    clear c
    go_enter Tryz.func14, Tryz.ntmps14
    go_wp2_with (first
      | (go_at_call 12; refine (rMay_any r true HF.out _).mono ?_; rintro e w1 ⟨rfl, hb⟩; (obtain ⟨hk1, hl1⟩ := bcell hb); (have hz1 : w.heap.size + 1 < w1.heap.size := by have := hb.size; simp at this; omega); (have hy1 : w.heap.size < w1.heap.size := by omega); (have X1 := Lib.hid ((below2 w _ _).trans (hb.mono (by simp; omega)))); clear hb)
      | (go_at_call 42; refine (rfind_yes r HM.out k s a k0 k1 HH.out H1.out H2.out _).mono ?_; rintro e w2 ⟨rfl, hb⟩; (obtain ⟨hk2, hl2⟩ := bcell hb); (have hz2 : w.heap.size + 1 < w2.heap.size := by have := hb.size; omega); (have hy2 : w.heap.size < w2.heap.size := by omega); (have X2 := Lib.hid (X1.out.trans (hb.mono X1.out.size))); clear hb)
      | (go_at_call 43; refine (rvalue_any r HM.out big HFt.out v ea ec fa fc ca cc s a x false H3.out HC.out S.out ab0 _ ((HV0.out.below X2.out (Nat.le_refl _)).alloc _)).mono ?_; rintro e w3 ⟨rfl, hb⟩; (have X3 := Lib.hid ((X2.out.alloc X2.out.size _).trans (hb.mono (by have := X2.out.size; simp; omega)))); clear hb))
    go_ret3
    exact ⟨_, rfl, OwnP.nil _ _ _ _ _, X3.out⟩
theorem Load_no (r : Rg) (hf : r.Fit) (h : r.may) (v : Vw) (ea : Option Addr) (ec : Nat) (fa : Option Addr) (fc : Nat) (ca : Option Addr) (cc : Nat) (k : Int) (k0 : 0 ≤ k) (k1 : k ≤ 4095) (hh : ¬ has r k) (w : World) :
    Calls Tryz.prog 14 #[.agg #[.int .u16 r.A, .int .u16 r.L, .int .u16 r.Q, .int .i64 r.Z, .int .i64 r.EB, .int .i64 r.FB, .int .i64 r.Su, .bool r.Ex, .int .u16 r.Ix, .bool r.Hd, .int .u16 r.B, .bool r.Ih, .bool r.Sv], .agg #[.slice ea v.ne ec, .slice fa v.nf fc, .slice ca v.nc cc], .int .i64 k] w (LoadRet 0 [] 3 w) := by
  have HF := Lib.hid (decide_eq_true h)
  have HM := Lib.hid h
  have HH := Lib.hid hh
  clear h hh
  go_enter Tryz.func14, Tryz.ntmps14
  go_wp2_with (first
    | (go_at_call 12; refine (rMay_any r true HF.out _).mono ?_; rintro e w1 ⟨rfl, hb⟩; (obtain ⟨hk1, hl1⟩ := bcell hb); (have hz1 : w.heap.size + 1 < w1.heap.size := by have := hb.size; simp at this; omega); (have hy1 : w.heap.size < w1.heap.size := by omega); (have X1 := Lib.hid ((below2 w _ _).trans (hb.mono (by simp; omega)))); clear hb)
    | (go_at_call 42; refine (rfind_no r HM.out k k0 k1 HH.out _).mono ?_; rintro e w2 ⟨rfl, hb⟩; (have X2 := Lib.hid (X1.out.trans (hb.mono X1.out.size))); clear hb))
  go_ret3
  exact ⟨_, rfl, OwnP.nil _ _ _ _ _, X2.out.alloc X2.out.size _⟩
end Go.Proofs.YtjjkikghfmnikaaGreatDoor

/- Contracts of layer 5: the program's spotOf and Load. -/
set_option linter.unusedSimpArgs false
set_option linter.unusedVariables false
namespace Go.Proofs.YtjjkikghfmnikaaGreatDoor
open Go.ChangeShapes Go.WideShapes Go.ChangeAt Go.RowKit
/-- The word that an operand addresses: its memory, its address, the error. -/
def spS (r : Rg) (k : Int) : Int := if 0 ≤ k ∧ k ≤ 4095 ∧ has r k then spc k else 0
def spA (r : Rg) (k : Int) : Int := if 0 ≤ k ∧ k ≤ 4095 ∧ has r k then adr r k else 0
def spE (r : Rg) (k : Int) : Int := if 0 ≤ k ∧ k ≤ 4095 ∧ has r k then 0 else 3
theorem abs_out {r : Rg} {k n : Int} (h : ¬ (0 ≤ k ∧ k ≤ 4095)) : mAbsS k r.EB n = 0 ∧ mAbsA k r.EB n = 0 ∧ mAbsE k r.EB n = 3 := by
  have ok : ¬ mAbsOk k r.EB n := fun h' => h ⟨h'.1, h'.2.1⟩
  unfold mAbsS mAbsA mAbsE
  rw [if_neg ok, if_neg ok, if_neg ok]
  exact ⟨rfl, rfl, rfl⟩
set_option maxHeartbeats 2000000 in
theorem spotOf_any (r : Rg) (hm : r.may) (k s a x : Int) (k0 : -9223372036854775808 ≤ k) (k1 : k ≤ 9223372036854775807) (hs : spS r k = s) (ha : spA r k = a) (hx : spE r k = x) (w : World) :
    Calls Tryz.prog 39 #[.agg #[.int .u16 r.A, .int .u16 r.L, .int .u16 r.Q, .int .i64 r.Z, .int .i64 r.EB, .int .i64 r.FB, .int .i64 r.Su, .bool r.Ex, .int .u16 r.Ix, .bool r.Hd, .int .u16 r.B, .bool r.Ih, .bool r.Sv], .int .i64 k] w fun e w' => e = .returned (.tuple #[.agg #[.int .u8 s, .int .i64 a], .int .i64 x]) ∧ Below w.heap.size w w' := by
  have hb := bank_bd hm
  have HM := Lib.hid hm
  obtain ⟨_, _, _, _, _, _, e0, e1, f0, f1, s0, s1⟩ := hm
  obtain ⟨n, hn⟩ : ∃ n, mBankV r.FB r.Su = n := ⟨_, rfl⟩
  have q : (has r k ∧ mAbsS k r.EB n = s ∧ mAbsA k r.EB n = a ∧ mAbsE k r.EB n = x) ∨ (¬ has r k ∧ s = 0 ∧ a = 0 ∧ x = 3) := by
    rw [← hs, ← ha, ← hx, ← hn]
    unfold spS spA spE
    by_cases d : has r k
    · by_cases c : 0 ≤ k ∧ k ≤ 4095
      · rw [if_pos ⟨c.1, c.2, d⟩, if_pos ⟨c.1, c.2, d⟩, if_pos ⟨c.1, c.2, d⟩]
        exact .inl ⟨d, abs_eq HM.out c.1 c.2⟩
      · rw [if_neg (fun h => c ⟨h.1, h.2.1⟩), if_neg (fun h => c ⟨h.1, h.2.1⟩), if_neg (fun h => c ⟨h.1, h.2.1⟩)]
        exact .inl ⟨d, abs_out c⟩
    · rw [if_neg (fun h => d h.2.2), if_neg (fun h => d h.2.2), if_neg (fun h => d h.2.2)]
      exact .inr ⟨d, rfl, rfl, rfl⟩
  have HN := Lib.hid hn
  rw [hn] at hb
  clear hs ha hx
  rcases q with ⟨c, Q⟩ | ⟨c, rfl, rfl, rfl⟩
  · have Q := Lib.hid Q
    rcases bankE_or r.FB r.Su with hE | ⟨hE, hV⟩
    · have HB := Lib.hid hE
      clear hE hn c
      go_enter Tryz.func39, Tryz.ntmps39
      go_wp2_with (first
        | (go_at_call 72; refine (Bank_any r.FB r.Su (by omega) (by omega) (by omega) (by omega) _).mono ?_; rintro e w1 ⟨rfl, rfl⟩; rw [HN.out, HB.out])
        | (go_at_call 73; refine (Absolute_any k r.EB n (by omega) (by omega) (by omega) (by omega) (by omega) (by omega) _).mono ?_; rintro e w1 ⟨rfl, rfl⟩; rw [Q.out.1, Q.out.2.1, Q.out.2.2]))
      exact ret_struct2 Tryz.results39 Tryz.underlying59 [.int .u8 s, .int .i64 a] (by kernel_rfl) (w.heap.size + 1) rfl (at_allocN (by simp) [.int .u8 s, .int .i64 a]) (.int .i64 x) rfl rfl ⟨rfl, below2 _ _ _⟩
    · have HB := Lib.hid hE
      have e : n = 0 := by rw [← hn]; exact hV
      subst e
      have hk : k < 1024 ∨ 2047 < k := by unfold has at c; omega
      clear hE hn hV c
      rcases hk with hk | hk
      all_goals
        go_enter Tryz.func39, Tryz.ntmps39
        go_wp2_with (first
          | (go_at_call 72; refine (Bank_any r.FB r.Su (by omega) (by omega) (by omega) (by omega) _).mono ?_; rintro e w1 ⟨rfl, rfl⟩; rw [HN.out, HB.out])
          | (go_at_call 73; refine (Absolute_any k r.EB 0 (by omega) (by omega) (by omega) (by omega) (by omega) (by omega) _).mono ?_; rintro e w1 ⟨rfl, rfl⟩; rw [Q.out.1, Q.out.2.1, Q.out.2.2]))
        exact ret_struct2 Tryz.results39 Tryz.underlying59 [.int .u8 s, .int .i64 a] (by kernel_rfl) (w.heap.size + 1) rfl (at_allocN (by simp) [.int .u8 s, .int .i64 a]) (.int .i64 x) rfl rfl ⟨rfl, below2 _ _ _⟩
  · unfold has at c
    obtain ⟨hE, hk0, hk1⟩ := Decidable.not_not.1 c
    have HB : Hid (mBankE r.FB r.Su = 3) := by rcases bankE_or r.FB r.Su with c | ⟨c, _⟩; exact absurd c hE; exact c
    clear hE c hn
    go_enter Tryz.func39, Tryz.ntmps39
    go_wp2_with (go_at_call 72; refine (Bank_any r.FB r.Su (by omega) (by omega) (by omega) (by omega) _).mono ?_; rintro e w1 ⟨rfl, rfl⟩; rw [HB.out])
    exact ret_struct2 Tryz.results39 Tryz.underlying59 [.int .u8 0, .int .i64 0] (by kernel_rfl) (w.heap.size + 1) rfl (at_allocN (by simp) [.int .u8 0, .int .i64 0]) (.int .i64 3) rfl rfl ⟨rfl, below2 _ _ _⟩
end Go.Proofs.YtjjkikghfmnikaaGreatDoor

/- The registers as a list of values. -/
set_option linter.unusedVariables false
namespace Go.Proofs.YtjjkikghfmnikaaGreatDoor
open Go.RowKit
/-- The cells of registers. -/
def rgList (r : Rg) : List Value := [.int .u16 r.A, .int .u16 r.L, .int .u16 r.Q, .int .i64 r.Z, .int .i64 r.EB, .int .i64 r.FB, .int .i64 r.Su, .bool r.Ex, .int .u16 r.Ix, .bool r.Hd, .int .u16 r.B, .bool r.Ih, .bool r.Sv]
end Go.Proofs.YtjjkikghfmnikaaGreatDoor
