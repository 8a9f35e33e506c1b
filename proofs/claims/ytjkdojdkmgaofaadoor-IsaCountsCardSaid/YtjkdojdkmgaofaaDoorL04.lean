/- Contracts of layer 4: the reference's tables, Of, Range. -/
import Derived.Test.YtjkdojdkmgaofaaDoorChecked
import Derived.Test.YtjkdojdkmgaofaaDoorP04b
import Derived.Test.YtjkdojdkmgaofaaDoorTab
set_option linter.unusedSimpArgs false
set_option linter.unusedVariables false
namespace Go.Proofs.YtjkdojdkmgaofaaDoor
open Go.ChangeShapes Go.WideShapes Go.ChangeAt Go.RowKit
theorem info_string : (Tryd.prog.info? 9).map (fun i => (i.zero, i.size, i.bytes)) = some (some (.string ⟨#[]⟩), 1, 16) := by kernel_rfl
theorem info_kind : (Tryd.prog.info? 23).map (fun i => (i.zero, i.size, i.bytes)) = some (some (.int .u8 0), 1, 1) := by kernel_rfl
theorem info_int4 : (Tryd.prog.info? 3).map (fun i => (i.zero, i.size, i.bytes)) = some (some (.int .i64 0), 1, 8) := by kernel_rfl
set_option maxHeartbeats 2000000 in
theorem rNames_any (w : World) : Calls Tryd.prog 13 #[] w (RetTab 39 (fun i => .string (nm i)) w) := by
  go_enter Tryd.func13, Tryd.ntmps13
  go_wp2_with (at_builtin; refine app_lits rfl _ _ 25 rfl (.string ⟨#[]⟩) 9 16 Tryd.underlying25 info_string rfl w _ _ 19 20 rfl rfl (fun i => .string (nm i)) (by kernel_rfl) rfl rfl (by simp [Value.oneCell']) (by omega) ?_; intro v1 w1 o1 b1; (have O1 := Lib.hid o1; have B1 := Lib.hid b1; clear o1 b1))
  go_ret
  exact ret_tab (by omega) O1.out B1.out
set_option maxHeartbeats 2000000 in
theorem rkinds_any (w : World) : Calls Tryd.prog 30 #[] w (RetTab 39 (fun i => .int .u8 (kd i)) w) := by
  go_enter Tryd.func30, Tryd.ntmps30
  go_wp2_with (at_builtin; refine app_lits rfl _ _ 62 rfl (.int .u8 0) 23 1 Tryd.underlying62 info_kind rfl w _ _ 19 20 rfl rfl (fun i => .int .u8 (kd i)) (by kernel_rfl) rfl rfl (by simp [Value.oneCell']) (by omega) ?_; intro v1 w1 o1 b1; (have O1 := Lib.hid o1; have B1 := Lib.hid b1; clear o1 b1))
  go_ret
  exact ret_tab (by omega) O1.out B1.out
set_option maxHeartbeats 2000000 in
theorem rbases_any (w : World) : Calls Tryd.prog 36 #[] w (RetTab 39 (fun i => .int .i64 (bs i)) w) := by
  go_enter Tryd.func36, Tryd.ntmps36
  go_wp2_with (at_builtin; refine app_lits rfl _ _ 65 rfl (.int .i64 0) 3 8 Tryd.underlying65 info_int4 rfl w _ _ 19 20 rfl rfl (fun i => .int .i64 (bs i)) (by kernel_rfl) rfl rfl (by simp [Value.oneCell']) (by omega) ?_; intro v1 w1 o1 b1; (have O1 := Lib.hid o1; have B1 := Lib.hid b1; clear o1 b1))
  go_ret
  exact ret_tab (by omega) O1.out B1.out
set_option maxHeartbeats 2000000 in
theorem rcycles_any (w : World) : Calls Tryd.prog 32 #[] w (RetTab 39 (fun i => .int .i64 (cy i)) w) := by
  go_enter Tryd.func32, Tryd.ntmps32
  go_wp2_with (at_builtin; refine app_lits rfl _ _ 65 rfl (.int .i64 0) 3 8 Tryd.underlying65 info_int4 rfl w _ _ 19 20 rfl rfl (fun i => .int .i64 (cy i)) (by kernel_rfl) rfl rfl (by simp [Value.oneCell']) (by omega) ?_; intro v1 w1 o1 b1; (have O1 := Lib.hid o1; have B1 := Lib.hid b1; clear o1 b1))
  go_ret
  exact ret_tab (by omega) O1.out B1.out
end Go.Proofs.YtjkdojdkmgaofaaDoor
