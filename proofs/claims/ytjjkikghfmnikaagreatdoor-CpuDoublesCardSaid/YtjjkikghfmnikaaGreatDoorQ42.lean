/- Contracts of layer 5: Step, whatever the word. -/
import Derived.Test.YtjjkikghfmnikaaGreatDoorQ41
import Derived.Test.YtjjkikghfmnikaaGreatDoorQ37
import Derived.Test.YtjjkikghfmnikaaGreatDoorQ06
set_option linter.unusedSimpArgs false
set_option linter.unusedVariables false
set_option maxRecDepth 100000
namespace Go.Proofs.YtjjkikghfmnikaaGreatDoor
open Go.ChangeShapes Go.WideShapes Go.ChangeAt Go.RowKit
/-- The instruction that is fetched, its operand; what Step answers where the word is found. -/
def sI (r : Rg) (v : Vw) : Nat := decI (fI r v) r.Ex
def sK (r : Rg) (v : Vw) : Int := fI r v - bs (sI r v)
def sMs (r : Rg) (v : Vw) : Int := spE (fRg r) (sK r v)
def sSt (r : Rg) (v : Vw) : St := eff (sI r v) (stp0 r (sI r v) (sK r v)) v
theorem sK_bd (r : Rg) (hf : r.Fit) (h : r.may) (v : Vw) : 0 ≤ sK r v ∧ sK r v ≤ 4095 := by
  have b := fI_bd hf h v
  have ok := dec_ok (fI r v) b.1 b.2 r.Ex
  have hh := bs_hi _ (decI_lt (fI r v) r.Ex)
  unfold sK sI
  have := ok.1
  have := ok.2.1
  omega
theorem mStep_ok (r : Rg) (hf : r.Fit) (h : r.may) (okf : fOk r) (v : Vw) (ea : Option Addr) (ec : Nat) (fa : Option Addr) (fc : Nat) (ca : Option Addr) (cc : Nat) (w : World) (hv : VwAt w v ea fa ca) (hL : Lay w) :
    Calls Tryz.prog 19 #[.agg #[.int .u16 r.A, .int .u16 r.L, .int .u16 r.Q, .int .i64 r.Z, .int .i64 r.EB, .int .i64 r.FB, .int .i64 r.Su, .bool r.Ex, .int .u16 r.Ix, .bool r.Hd, .int .u16 r.B, .bool r.Ih, .bool r.Sv], .agg #[.slice ea v.ne ec, .slice fa v.nf fc, .slice ca v.nc cc]] w (StepPost (rdI (sI r v)) (sMs r v) (sSt r v) w) := by
  have hk := sK_bd r hf h v
  exact mStep_core r hf h okf v (sI r v) (decI_lt _ _) (fI r v) (sK r v) (sMs r v) rfl rfl rfl hk.1 hk.2 rfl (eff (sI r v)) (rdI (sI r v)) (eff_all _ (decI_lt _ _)) ea ec fa fc ca cc w hv hL
/-- Step answers (no word is missing). -/
theorem mStep_go (r : Rg) (hf : r.Fit) (h : r.may) (okf : fOk r) (v : Vw) (hm : sMs r v = 0) (ea : Option Addr) (ec : Nat) (fa : Option Addr) (fc : Nat) (ca : Option Addr) (cc : Nat) (w : World) (hv : VwAt w v ea fa ca) (hL : Lay w) :
    Calls Tryz.prog 19 #[.agg #[.int .u16 r.A, .int .u16 r.L, .int .u16 r.Q, .int .i64 r.Z, .int .i64 r.EB, .int .i64 r.FB, .int .i64 r.Su, .bool r.Ex, .int .u16 r.Ix, .bool r.Hd, .int .u16 r.B, .bool r.Ih, .bool r.Sv], .agg #[.slice ea v.ne ec, .slice fa v.nf fc, .slice ca v.nc cc]] w (StepRet (sSt r v) w) := by
  refine (mStep_ok r hf h okf v ea ec fa fc ca cc w hv hL).mono ?_
  intro e w' hp
  unfold StepPost at hp
  rw [if_neg (fun c => c.2 hm)] at hp
  exact hp
end Go.Proofs.YtjjkikghfmnikaaGreatDoor
