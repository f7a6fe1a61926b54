/- lease.Drop and lease.Prune, by hand. -/
import Derived.Test.YtaondjmimobnbaaDlf
import Derived.Test.YtaondjmimobnbaaCatL
namespace Go.Proofs.Ytaondjmimobnbaa.lhd
set_option maxRecDepth 100000
set_option linter.unusedVariables false
set_option linter.unusedSimpArgs false
open Go.RowKit ins lem dlf

theorem Zh0 {w w1 W:World} {o:Obj} {b:Nat} (g1:Ex (w.alloc o) w1) (hb:(w.alloc o).heap.size<=b) (hW:w1.grownBy W (some b)):Ex w W:=by
 have h:=Ex.trans (Ex.mk_alloc w o) g1
 have h2:=g1.size
 simp only [World.size_alloc] at hb h2
 exact Below.grown h hW h.size (fun k hk=>by cases hk;omega)
end Go.Proofs.Ytaondjmimobnbaa.lhd
