/- What is recovered in package lease, by hand; Holds where there is no such lease. -/
import Derived.Test.YtaondjmimobnbaaLho
import Derived.Laws.IdiomStrings
import Derived.Recover
import Derived.Shelf.RegionOpenPlain
namespace Go.Proofs.Ytaondjmimobnbaa.lhp
open Go Go.RowKit eng SX Fact fil lem lea lho
set_option maxRecDepth 100000
set_option linter.unusedVariables false
set_option linter.unusedSimpArgs false

end Go.Proofs.Ytaondjmimobnbaa.lhp
