/- The engine: a row of the call's own that is not written any more becomes a thing (which may live on). -/
import Derived.Test.YtcaclmdkhffegaaMrg4
namespace Go.Proofs.Ytcaclmdkhffegaa.eng
open Go Go.RowKit
variable {W0 : Base}
set_option linter.unusedVariables false
set_option linter.unusedSimpArgs false

end Go.Proofs.Ytcaclmdkhffegaa.eng
