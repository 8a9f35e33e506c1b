/- Layer 5: the statements' own small functions. -/
import Derived.Test.YtjjkikghfmnikaaGreatDoorQ37
import Derived.Test.YtjjkikghfmnikaaGreatDoorQ14
import Derived.Test.YtjjkikghfmnikaaGreatDoorQ13
set_option linter.unusedSimpArgs false
set_option linter.unusedVariables false
set_option maxRecDepth 100000
namespace Go.Proofs.YtjjkikghfmnikaaGreatDoor
open Go.ChangeShapes Go.WideShapes Go.ChangeAt Go.RowKit
set_option maxHeartbeats 1000000 in
theorem code_any (s : ByteArray) (i : Nat) (h39 : i < 39) (hs : nm i = s) (k : Int) (k0 : -9223372036854775808 ≤ k) (k1 : k ≤ 9223372036854775807) (x : Int) (hx : encW i k = x) (w : World) (hL : Lay w) :
    Calls Tryz.prog 24 #[.string s, .int .i64 k] w fun e w' => e = .returned (.int .u16 x) ∧ Below w.heap.size w w' := by
  have HL := Lib.hid hL
  have HX := Lib.hid hx
  have HSS := Lib.hid hs
  clear hL hx hs
  go_enter Tryz.func24, Tryz.ntmps24
  go_wp2_with (first
    | (go_at_call 61; refine (Find_hit s i h39 HSS.out _ HL.out).mono ?_; rintro e w1 ⟨rfl, hb⟩; (have X1 := Lib.hid hb); (have L1 := Lib.hid ((HL.out.below hb).alloc (.cells #[.int .u8 ((i : Int) + 1), .string (nm i), .bool (decide (19 ≤ i)), .int .u8 (kd i), .int .i64 (bt (kd i)), .int .i64 (cy i)] 41))); (have L0 := Lib.hid (HL.out.below hb)); clear hb)
    | (go_at_call 62; refine (Encode_yes _ _ _ _ _ _ i h39 (by omega) k k0 k1 _ (by first | exact L0.out | exact L1.out)).mono ?_; rintro e w2 ⟨rfl, hb⟩; rw [HX.out]; (have X2 := Lib.hid hb)))
  go_ret
  exact ⟨rfl, (X1.out.alloc X1.out.size _).trans (X2.out.mono (X1.out.alloc X1.out.size _).size)⟩
end Go.Proofs.YtjjkikghfmnikaaGreatDoor
