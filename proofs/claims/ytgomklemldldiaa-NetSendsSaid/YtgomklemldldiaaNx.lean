/- parcels that can be gone through, as memory that stays -/
import Derived.Test.YtgomklemldldiaaNg
namespace Go.Proofs.Ytgomklemldldiaa
set_option linter.unusedVariables false
set_option linter.unusedSimpArgs false
open Go.RowKit

theorem frz_arr {P : Program} {f : FuncId} {args : List D} {T : TypeId} {sz n : Nat} {l : List D} (h : DFun P f args [] (.arr 0) [.arx T sz n l]) (hl : D.nlL l = true) : DFun P f args [] (.slm sz n l) [] := freeze h (by
  have e := vwArr_nl (σ := []) (M := [Blk.arx T sz n l]) (i := 0) rfl hl
  simpa [vw, pos] using e)
theorem few_f (l : List Par) : DFun Try.prog 9 [.slm 3 l.length (l.flatMap pD)] [] (.slm 3 (fewP l).length ((fewP l).flatMap pD)) [] := frz_arr (few_o l) (fl_nl _)

end Go.Proofs.Ytgomklemldldiaa
