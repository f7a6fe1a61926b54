/- The law's begun, run by the engine. -/
import Derived.Test.YtonebjgdhachcaaSymB
namespace Go.Proofs.Ytonebjgdhachcaa.sta
open Go eng fil
end Go.Proofs.Ytonebjgdhachcaa.sta
