/- The engine: a row of the call's own that is not written any more becomes a thing (which may live on). -/
import Derived.Test.YtpnegheknjeljaaMrg3
namespace Go.Proofs.Ytpnegheknjeljaa.eng
open Go Go.RowKit
variable {W0 : Base}
set_option linter.unusedVariables false
set_option linter.unusedSimpArgs false

end Go.Proofs.Ytpnegheknjeljaa.eng
