/- Law 14's begun, by a closed run. -/
import Derived.Test.YtaondjmimobnbaaWli
namespace Go.Proofs.Ytaondjmimobnbaa.wbg
open Go Go.RowKit eng SX Fact fil wli
set_option linter.unusedVariables false
set_option maxRecDepth 1000000
theorem ranB:Zhw (runTo Try.prog orcE 100000 7 (ETrue 8) [] [] hStop)=true:=by kernel_rfl
theorem begunLit (k:Nat):ToldF 7 (ETrue 8) (spec RTrue):=told_lit fil.mixed_ok fil.names_ok orcE_ok (fun ps qs h=>Zbv h) ranB
end Go.Proofs.Ytaondjmimobnbaa.wbg
