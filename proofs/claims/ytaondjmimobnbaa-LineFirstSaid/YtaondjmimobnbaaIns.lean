/- slices.Insert at []api.Lease: a row of the call's own, with so many things put in at a place; the cells of such a copy. -/
import Derived.Test.YtaondjmimobnbaaChecked
import Derived.Test.YtaondjmimobnbaaWfi
import Derived.OpenShut
import Derived.OwnWalk
import Derived.WalkLawsBesides
import Derived.KernelRfl
import Derived.Lib.AppendZeros
import Derived.Lib.AppendZerosOnto
import Derived.Lib.Overlaps
import Derived.Laws.Externs
import Derived.Laws.CopyOwn
import Derived.Shelf.RegionOpenPlain
import Derived.Outline
namespace Go.Proofs.Ytaondjmimobnbaa.ins
set_option maxRecDepth 100000
set_option linter.unusedVariables false
set_option linter.unusedSimpArgs false
open Go.RowKit





theorem grown_row (w:World) (b:Nat) (c:Array Value):w.grownBy (w.setRow b c) (some b):=⟨rfl,rfl,rfl,by simp [World.setRow],fun k _ hk=>setRow_other w b k c (fun h=>hk (by rw [h]))⟩

variable {α : Type}
end Go.Proofs.Ytaondjmimobnbaa.ins
