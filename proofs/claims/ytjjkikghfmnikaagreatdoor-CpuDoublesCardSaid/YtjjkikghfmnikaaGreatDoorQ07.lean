/- Contracts of layer 4: the reference's tables, Of, Range. -/
import Derived.Test.YtjjkikghfmnikaaGreatDoorChecked
import Derived.Test.YtjjkikghfmnikaaGreatDoorQ06
set_option linter.unusedSimpArgs false
set_option linter.unusedVariables false
namespace Go.Proofs.YtjjkikghfmnikaaGreatDoor
open Go.ChangeShapes Go.WideShapes Go.ChangeAt Go.RowKit
theorem info_string : (Tryz.prog.info? 9).map (fun i => (i.zero, i.size, i.bytes)) = some (some (.string ⟨#[]⟩), 1, 16) := by kernel_rfl
theorem info_kind : (Tryz.prog.info? 39).map (fun i => (i.zero, i.size, i.bytes)) = some (some (.int .u8 0), 1, 1) := by kernel_rfl
theorem info_int4 : (Tryz.prog.info? 3).map (fun i => (i.zero, i.size, i.bytes)) = some (some (.int .i64 0), 1, 8) := by kernel_rfl
set_option maxHeartbeats 2000000 in
theorem rNames_any (w : World) : Calls Tryz.prog 144 #[] w (RetTab 39 (fun i => .string (nm i)) w) := by
  go_enter Tryz.func144, Tryz.ntmps144
  go_wp2_with (at_builtin; refine app_lits rfl _ _ 158 rfl (.string ⟨#[]⟩) 9 16 Tryz.underlying158 info_string rfl w _ _ 19 20 rfl rfl (fun i => .string (nm i)) (by kernel_rfl) rfl rfl (by simp [Value.oneCell']) (by omega) ?_; intro v1 w1 o1 b1; (have O1 := Lib.hid o1; have B1 := Lib.hid b1; clear o1 b1))
  go_ret
  exact ret_tab (by omega) O1.out B1.out
set_option maxHeartbeats 2000000 in
theorem rkinds_any (w : World) : Calls Tryz.prog 143 #[] w (RetTab 39 (fun i => .int .u8 (kd i)) w) := by
  go_enter Tryz.func143, Tryz.ntmps143
  go_wp2_with (at_builtin; refine app_lits rfl _ _ 156 rfl (.int .u8 0) 39 1 Tryz.underlying156 info_kind rfl w _ _ 19 20 rfl rfl (fun i => .int .u8 (kd i)) (by kernel_rfl) rfl rfl (by simp [Value.oneCell']) (by omega) ?_; intro v1 w1 o1 b1; (have O1 := Lib.hid o1; have B1 := Lib.hid b1; clear o1 b1))
  go_ret
  exact ret_tab (by omega) O1.out B1.out
set_option maxHeartbeats 2000000 in
theorem rbases_any (w : World) : Calls Tryz.prog 84 #[] w (RetTab 39 (fun i => .int .i64 (bs i)) w) := by
  go_enter Tryz.func84, Tryz.ntmps84
  go_wp2_with (at_builtin; refine app_lits rfl _ _ 128 rfl (.int .i64 0) 3 8 Tryz.underlying128 info_int4 rfl w _ _ 19 20 rfl rfl (fun i => .int .i64 (bs i)) (by kernel_rfl) rfl rfl (by simp [Value.oneCell']) (by omega) ?_; intro v1 w1 o1 b1; (have O1 := Lib.hid o1; have B1 := Lib.hid b1; clear o1 b1))
  go_ret
  exact ret_tab (by omega) O1.out B1.out
set_option maxHeartbeats 2000000 in
theorem rcycles_any (w : World) : Calls Tryz.prog 146 #[] w (RetTab 39 (fun i => .int .i64 (cy i)) w) := by
  go_enter Tryz.func146, Tryz.ntmps146
  go_wp2_with (at_builtin; refine app_lits rfl _ _ 128 rfl (.int .i64 0) 3 8 Tryz.underlying128 info_int4 rfl w _ _ 19 20 rfl rfl (fun i => .int .i64 (cy i)) (by kernel_rfl) rfl rfl (by simp [Value.oneCell']) (by omega) ?_; intro v1 w1 o1 b1; (have O1 := Lib.hid o1; have B1 := Lib.hid b1; clear o1 b1))
  go_ret
  exact ret_tab (by omega) O1.out B1.out
end Go.Proofs.YtjjkikghfmnikaaGreatDoor
