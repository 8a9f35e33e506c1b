/- Contracts of layer 5: the reference's Load. -/
import Derived.Test.YtmmpifcfhjdfnaaL05b
import Derived.Test.YtmmpifcfhjdfnaaPrs
set_option linter.unusedSimpArgs false
set_option linter.unusedVariables false
namespace Go.Proofs.Ytmmpifcfhjdfnaa
open Go.ChangeShapes Go.WideShapes Go.ChangeAt Go.RowKit
theorem rds_yes {s a : Int} (h : isW s a) : rds s a = [(s, a)] := by unfold rds; rw [if_pos h]
theorem rds_no {s a : Int} (h : ¬ isW s a) : rds s a = [] := by unfold rds; rw [if_neg h]
end Go.Proofs.Ytmmpifcfhjdfnaa
