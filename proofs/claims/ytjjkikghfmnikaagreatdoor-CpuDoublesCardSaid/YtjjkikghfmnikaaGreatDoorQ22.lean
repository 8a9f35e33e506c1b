/- Layer 5: what each instruction does. -/
import Derived.Test.YtjjkikghfmnikaaGreatDoorQ21
import Derived.Test.YtjjkikghfmnikaaGreatDoorQ00
import Derived.Deep.RegionLaw
import Derived.WideMake
set_option linter.unusedSimpArgs false
set_option linter.unusedVariables false
namespace Go.Proofs.YtjjkikghfmnikaaGreatDoor
open Go.ChangeShapes Go.WideShapes Go.ChangeAt Go.RowKit
def St.g (s : St) (v : Vw) : Int := valP s.r v s.ss s.sa
def St.gA (s : St) (v : Vw) : Int := valP s.r v s.ss (nxtP s.ss s.sa)
def St.rdO (s : St) : St := s.rd s.ss s.sa
def St.rdA (s : St) : St := s.rd s.ss (nxtP s.ss s.sa)
def St.wr (s : St) (r : Rg) : St := { s with r := r }
def St.setA (s : St) (x : Int) : St := { s with r := { s.r with A := x } }
def St.setL (s : St) (x : Int) : St := { s with r := { s.r with L := x } }
def St.setAL (s : St) (x y : Int) : St := { s with r := { s.r with A := x, L := y } }
def oNegA (a : Int) : Int := 65535 - a
/-- x + 1 for a positive x, x - 1 for a negative one: its magnitude less 1. -/
def dimV (x : Int) : Int := if oClass x = 0 then x - 1 else if oClass x = 2 then x + 1 else x
def augV (x : Int) : Int := if 32767 < x then oAddA x 65534 else oAddA x 1
def bitsW (f : BinOp) (a b : Int) : Int := bits f .u16 a b
def effTC (s : St) : St := { s with r := { s.r with B := if s.k = 2 then s.r.Q else s.r.B, Hd := if s.k = 2 then true else s.r.Hd, Q := s.r.Z, Z := s.k } }
def effCCS (s : St) (v : Vw) : St := let x := s.g v; let t := (s.rdO).setA (oDim x); { t with r := t.r.skip (oClass x) }
def dasT (s : St) (v : Vw) : Int := oAddA (s.gA v) (oExt s.r.L)
def dasU (s : St) (v : Vw) : Int := oAddA (oAddA (s.g v) s.r.A) (sg (oOver (dasT s v)))
def effDAS (s : St) (v : Vw) : St :=
  let s2 := (s.rdA).rdO
  if s.sa = 0 then s2.setAL (dasU s v) (oCorr (dasT s v)) else ((s2.put (nxtP s.ss s.sa) (dasT s v)).put s.sa (dasU s v)).setAL (sg (oOver (dasU s v))) 0
def effXCH (s : St) (v : Vw) : St := ((s.rdO).put s.sa s.r.A).setA (s.g v)
def effLXCH (s : St) (v : Vw) : St := ((s.rdO).put s.sa (oExt s.r.L)).setL (oCorr (s.g v))
def effQXCH (s : St) (v : Vw) : St := let t := (s.rdO).put s.sa (oExt s.r.Q); { t with r := { t.r with Q := oCorr (s.g v) } }
def effDXCH (s : St) (v : Vw) : St := effXCH (((s.rdA).put (nxtP s.ss s.sa) (oExt s.r.L)).setL (oCorr (s.gA v))) v
def effINCR (s : St) (v : Vw) : St := (s.rdO).put s.sa (oAddA (s.g v) 1)
def effADS (s : St) (v : Vw) : St := ((s.rdO).put s.sa (oAddA s.r.A (s.g v))).setA (oAddA s.r.A (s.g v))
def effINDEX (s : St) (v : Vw) : St := let t := s.rdO; { t with r := { t.r with Ix := oCorr (s.g v) } }
def effXINDEX (s : St) (v : Vw) : St := let t := s.rdO; { t with r := { t.r with Ix := oCorr (s.g v), Ex := true } }
def effRESUME (s : St) (v : Vw) : St :=
  let t := (s.rd 1 13).rd 1 15
  { t with r := { t.r with Z := oCorr (valP s.r v 1 13) % 4096, B := oCorr (valP s.r v 1 15), Hd := true, Sv := false } }
def effTS (s : St) : St :=
  let s1 := if s.sa = 0 then s else s.put s.sa s.r.A
  if sg (oOver s.r.A) = 0 then s1 else
    let s2 : St := { s1 with r := s1.r.skip 1 }
    if s.sa = 0 then s2 else s2.setA (sg (oOver s.r.A))
def effMASK (s : St) (v : Vw) : St := (s.rdO).setA (oExt (bitsW .and (oCorr s.r.A) (oCorr (s.g v))))
def effDV (s : St) (v : Vw) : St := (s.rdO).setAL (oExt (dvQ (oCorr s.r.A) s.r.L (oCorr (s.g v)))) (dvR (oCorr s.r.A) s.r.L (oCorr (s.g v)))
def effMP (s : St) (v : Vw) : St := (s.rdO).setAL (oExt (mulHi (oCorr s.r.A) (oCorr (s.g v)))) (mulLo (oCorr s.r.A) (oCorr (s.g v)))
def effMSU (s : St) (v : Vw) : St := (s.rdO).setA (oExt (oTwos (oCorr s.r.A) (oCorr (s.g v))))
def effDCA (s : St) (v : Vw) : St := ((s.rdA).rdO).setAL (s.g v) (oCorr (s.gA v))
def effDCS (s : St) (v : Vw) : St := ((s.rdA).rdO).setAL (oNegA (s.g v)) (oNg (oCorr (s.gA v)))
def chB (f : BinOp) (s : St) (v : Vw) : Int := bitsW f (oCorr s.r.A) (chn s v)
def effIn (f : BinOp) (s : St) (v : Vw) : St := s.setA (oExt (chB f s v))
def effOut (f : BinOp) (s : St) (v : Vw) : St := (s.out (chB f s v)).setA (oExt (chB f s v))
def isBZF (a : Int) : Bool := a == 0 || a == 65535
def isBZMF (a : Int) : Bool := a == 0 || decide (32767 < a)
/-- The effect of instruction i (its Code less 1). -/
def eff (i : Nat) (s : St) (v : Vw) : St :=
  match i with
  | 0 => effTC s
  | 1 => { s with r := { s.r with Ex := true } }
  | 2 => { s with r := { s.r with Ih := true } }
  | 3 => { s with r := { s.r with Ih := false } }
  | 4 => effCCS s v
  | 5 => { s with r := { s.r with Z := s.k } }
  | 6 => effDAS s v
  | 7 => effLXCH s v
  | 8 => effINCR s v
  | 9 => effADS s v
  | 10 => (s.rdO).setA (s.g v)
  | 11 => (s.rdO).setA (oNegA (s.g v))
  | 12 => effINDEX s v
  | 13 => effRESUME s v
  | 14 => effDXCH s v
  | 15 => effTS s
  | 16 => effXCH s v
  | 17 => (s.rdO).setA (oAddA s.r.A (s.g v))
  | 18 => effMASK s v
  | 19 => s.setA (oExt (chn s v))
  | 20 => s.out (oCorr s.r.A)
  | 21 => effIn .and s v
  | 22 => effOut .and s v
  | 23 => effIn .or s v
  | 24 => effOut .or s v
  | 25 => effIn .xor s v
  | 26 => s
  | 27 => effDV s v
  | 28 => s.branch (isBZF s.r.A)
  | 29 => effMSU s v
  | 30 => effQXCH s v
  | 31 => (s.rdO).put s.sa (augV (s.g v))
  | 32 => (s.rdO).put s.sa (dimV (s.g v))
  | 33 => effDCA s v
  | 34 => effDCS s v
  | 35 => effXINDEX s v
  | 36 => (s.rdO).setA (oAddA s.r.A (oNegA (s.g v)))
  | 37 => s.branch (isBZMF s.r.A)
  | _ => effMP s v
/-- Whether instruction i reads a word of memory beside its own. -/
def rdI (i : Nat) : Bool := !([0, 1, 2, 3, 5, 15, 19, 20, 21, 22, 23, 24, 25, 26, 28, 37].contains i)
end Go.Proofs.YtjjkikghfmnikaaGreatDoor

/- A map that the call makes, keyed by strings, whatever its elements are: kept as the list of its entries. -/
set_option linter.unusedSimpArgs false
set_option linter.unusedVariables false
namespace Go.Proofs.YtjjkikghfmnikaaGreatDoor
open Go.ChangeShapes Go.WideShapes Go.ChangeAt Go.RowKit
def entF : Nat → List (ByteArray × Value) → List MapEntry
  | _, [] => []
  | i, p :: es => { key := .string p.1, val := p.2, born := i } :: entF (i + 1) es
def look (s : ByteArray) : List (ByteArray × Value) → Nat → Option (Nat × Value)
  | [], _ => none
  | p :: es, j => if s == p.1 then some (j, p.2) else look s es (j + 1)
/-- The block g is a map with these entries, in the order in which they came. -/
def MapF (w : World) (g : Nat) (es : List (ByteArray × Value)) : Prop := w.heap[g]? = some (.map (entF 0 es).toArray es.length)
theorem find_look (s : ByteArray) : ∀ (es : List (ByteArray × Value)) (i j : Nat), Instr.findNow .string (.string s) (entF i es) j = some (look s es j)
  | [], _, _ => rfl
  | p :: es, i, j => by
    simp only [entF, Instr.findNow, Instr.sameNow, look]
    by_cases c : (s == p.1) = true
    · rw [c]; rfl
    · simp only [Bool.not_eq_true] at c
      rw [c]
      simp only [Bool.false_eq_true, if_false]
      exact find_look s es (i + 1) (j + 1)
theorem entF_push (s : ByteArray) (v : Value) : ∀ (es : List (ByteArray × Value)) (i : Nat), entF i (es ++ [(s, v)]) = entF i es ++ [{ key := .string s, val := v, born := i + es.length }]
  | [], i => rfl
  | p :: es, i => by
    simp only [List.cons_append, entF, List.length_cons]
    rw [entF_push s v es (i + 1)]
    rw [show i + 1 + es.length = i + (es.length + 1) by omega]
theorem run_insertF {P : Program} {w : World} (mty kt et : TypeId) (g : Nat) (es : List (ByteArray × Value)) (s : ByteArray) (val : Value) (hm : P.underlying mty = some (.map kt et)) (hk : P.underlying kt = some .string) (hM : MapF w g es) (hl : look s es 0 = none) :
    ∃ w', (Instr.mapUpdate mty (.map (some g)) (.string s) val).run P w = .ok () w' ∧ MapF w' g (es ++ [(s, val)]) ∧ (∀ B, B ≤ g → Below B w w') := by
  have hf : Instr.findNow .string (.string s) (entF 0 es) 0 = some none := by rw [find_look, hl]
  have hc : (Instr.checkKey false 10000 kt (.string s)).run P w = .ok () w := MapKept.run_checkKey (k := .string s) hk (by simp [MapKept.IsKey]) false 9999
  have hb : w.heap[g]? = some (.map (entF 0 es).toArray es.length) := hM
  have hlt : g < w.heap.size := (Array.getElem?_eq_some_iff.1 hb).1
  refine ⟨{ w with heap := w.heap.setIfInBounds g (.map ((entF 0 es).toArray.push { key := .string s, val := val, born := es.length }) (es.length + 1)) }, ?_, ?_, ?_⟩
  · simp [Instr.mapUpdate, run_underlying hm, MapKept.run_getObj_map hb, hc, MapKept.run_findKey hk hf, MapKept.run_setObj_map _ hb, Result.andThen]
  · unfold MapF
    rw [entF_push]
    simp [hlt]
  · intro B hB
    refine ⟨rfl, rfl, rfl, by simp, fun k hk => ?_⟩
    simp only [Array.getElem?_setIfInBounds]
    rw [if_neg (by omega)]
theorem wp_insertF {P : Program} {ops : Array Oper} {rest : List Oper} {o : Oper} {a : Act} {w : World} {Q : Exit → Act → World → Prop} (hgd : o.guard = none) (m k x : Operand) (mty : TypeId) (hop : o.op = Op.insert mty m k x)
    (kt et : TypeId) (hmt : P.underlying mty = some (.map kt et)) (hkt : P.underlying kt = some .string) (g : Nat) (es : List (ByteArray × Value)) (s : ByteArray) (val : Value) (hM : MapF w g es) (hm : a.eval m = .map (some g)) (hk : a.eval k = .string s) (hx : a.eval x = val) (hl : look s es 0 = none)
    (h : ∀ w', MapF w' g (es ++ [(s, val)]) → (∀ B, B ≤ g → Below B w w') → wpList P ops Q rest (a.put o.dst undef) w') : wpList P ops Q (o :: rest) a w := by
  refine wpList_plain hgd fun K hK => ?_
  obtain ⟨w', hrun, h1, h2⟩ := run_insertF (P := P) (w := w) mty kt et g es s val hmt hkt hM hl
  unfold Oper.wp
  simp [execOp, hop, hm, hk, hx, hrun, Result.andThen]
  exact hK _ _ (h w' h1 h2)
theorem run_lookF {P : Program} {w : World} (mty kt et : TypeId) (g : Nat) (es : List (ByteArray × Value)) (s : ByteArray) (n : Nat) (val : Value) (hm : P.underlying mty = some (.map kt et)) (hk : P.underlying kt = some .string) (hM : MapF w g es) (hl : look s es 0 = some (n, val)) :
    (Instr.lookup mty (.map (some g)) (.string s) false).run P w = .ok val w := by
  have hf : Instr.findNow .string (.string s) (entF 0 es) 0 = some (some (n, val)) := by rw [find_look, hl]
  have hb : w.heap[g]? = some (.map (entF 0 es).toArray es.length) := hM
  have hc : ∀ b, (Instr.checkKey b 10000 kt (.string s)).run P w = .ok () w := fun b => MapKept.run_checkKey (k := .string s) hk (by simp [MapKept.IsKey]) b 9999
  simp [Instr.lookup, run_underlying hm, MapKept.run_getObj_map hb, hc, MapKept.run_findKey hk hf, Result.andThen]
theorem step_lookF {P : Program} {ops : Array Oper} {o : Oper} {a : Act} {w : World} {K : Act → World → Prop} {Q : Exit → Act → World → Prop} {E : Prop} (hg : o.guard = none) (m x : Operand) (mty : TypeId) (hop : o.op = Op.lookup mty m x false)
    (kt et : TypeId) (hmt : P.underlying mty = some (.map kt et)) (hkt : P.underlying kt = some .string) (g : Nat) (es : List (ByteArray × Value)) (s : ByteArray) (n : Nat) (val : Value) (hM : MapF w g es) (hm : a.eval m = .map (some g)) (hx : a.eval x = .string s) (hl : look s es 0 = some (n, val))
    (hK : K (a.put o.dst val) w) : if Region.wanted o (yielded ops a.tmps) = true then Oper.wp P o a w K Q else E := by
  have hw : Region.wanted o (yielded ops a.tmps) = true := by simp [Region.wanted, hg]
  rw [if_pos hw]
  have hrun := run_lookF (P := P) (w := w) mty kt et g es s n val hmt hkt hM hl
  unfold Oper.wp
  simp [execOp, hop, hm, hx, hrun, Result.andThen]
  exact hK
theorem MapF.below {w w' : World} {g B : Nat} {es : List (ByteArray × Value)} (h : MapF w g es) (hb : Below B w w') (hg : g < B) : MapF w' g es := by
  unfold MapF at *
  rw [hb.block g hg]; exact h
theorem MapF.new (w : World) : MapF (w.alloc (.map #[] 0)) w.heap.size [] := by
  unfold MapF entF World.alloc
  simp
end Go.Proofs.YtjjkikghfmnikaaGreatDoor
