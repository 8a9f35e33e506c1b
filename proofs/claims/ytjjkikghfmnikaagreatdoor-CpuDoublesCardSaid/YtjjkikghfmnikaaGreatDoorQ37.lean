/- Layer 5: every instruction's method does what the model says. -/
import Derived.Test.YtjjkikghfmnikaaGreatDoorQ36
import Derived.Test.YtjjkikghfmnikaaGreatDoorQ23
set_option linter.unusedSimpArgs false
set_option linter.unusedVariables false
set_option maxRecDepth 100000
namespace Go.Proofs.YtjjkikghfmnikaaGreatDoor
open Go.ChangeShapes Go.WideShapes Go.ChangeAt Go.RowKit
theorem eff_all : ∀ i, i < 39 → EffC (efn i) (eff i) (rdI i)
  | 0, _ => eff_tc
  | 1, _ => eff_extend
  | 2, _ => eff_inhint
  | 3, _ => eff_relint
  | 4, _ => eff_ccs
  | 5, _ => eff_tcf
  | 6, _ => eff_das
  | 7, _ => eff_lxch
  | 8, _ => eff_incr
  | 9, _ => eff_ads
  | 10, _ => eff_ca
  | 11, _ => eff_cs
  | 12, _ => eff_index
  | 13, _ => eff_resume
  | 14, _ => eff_dxch
  | 15, _ => eff_ts
  | 16, _ => eff_xch
  | 17, _ => eff_ad
  | 18, _ => eff_mask
  | 19, _ => eff_read
  | 20, _ => eff_write
  | 21, _ => eff_rand
  | 22, _ => eff_wand
  | 23, _ => eff_ror
  | 24, _ => eff_wor
  | 25, _ => eff_rxor
  | 26, _ => eff_edrupt
  | 27, _ => eff_dv
  | 28, _ => eff_bzf
  | 29, _ => eff_msu
  | 30, _ => eff_qxch
  | 31, _ => eff_aug
  | 32, _ => eff_dim
  | 33, _ => eff_dca
  | 34, _ => eff_dcs
  | 35, _ => eff_xindex
  | 36, _ => eff_su
  | 37, _ => eff_bzmf
  | 38, _ => eff_mp
  | i + 39, h => absurd h (by omega)
end Go.Proofs.YtjjkikghfmnikaaGreatDoor
