/- What the laws of images share: what they begin with. -/
import Derived.Test.YtefkakjegdjojaaGreatItd
import Derived.Test.YtefkakjegdjojaaGreatIpd
import Derived.Test.YtefkakjegdjojaaGreatSlc
import Derived.Test.YtefkakjegdjojaaGreatSmc
namespace Go.Proofs.YtefkakjegdjojaaGreat.ilw
open Go Go.RowKit eng SX Fact fil ima symD sta ise idf ieq irs iti ipd
open dirs (encF cellF FileM)
open fileFronts (Zae)
open pck hiding F F20 F21
set_option linter.unusedVariables false
set_option linter.unusedSimpArgs false
set_option maxRecDepth 1000000

def ESmT (k:Nat):FnE:={ k:=k,ins:=[some 3,some 3],leaks:=[false,false,false,false,false,false],outs:=[none],kinds:=[.truth] }
def tabB (f:FuncId):Option FnE:=cond (Nat.beq f 22) (some (EPuI 1)) (cond (Nat.beq f 23) (some (ETi 2)) (cond (Nat.beq f 26) (some (EDfI 3)) (cond (Nat.beq f 45) (some (ENew 4)) (cond (Nat.beq f 20) (some (ESmT 5)) none))))
def hB (_:FuncId) (_:Oper):Option Hint:=some .parts
def bitsN:Nat->Nat->List Nat
 | 0,_=>[]
 | n+1,k=>k % 2 :: bitsN n (k / 2)

@[simp] theorem kDfB (k:Nat):(EDfI k).k=k:=rfl
@[simp] theorem kPuB2 (k:Nat):(EPuI k).k=k:=rfl
@[simp] theorem kTiB (k:Nat):(ETi k).k=k:=rfl
@[simp] theorem kSmTB (k:Nat):(ESmT k).k=k:=rfl
noncomputable def FB:Fns:=fun k=>match k with | 1=>spec RPuI | 2=>spec RTi | 3=>spec RDfI | 4=>spec sta.RNew | 5=>spec RSmS | _=>fun _=>none
theorem _root_.Go.Proofs.YtefkakjegdjojaaGreat.sta.MayS.small {s:StM} (h:MayS s):s.files.length<=1000000/\s.marks.length<=1000000:=by rw [h.fl,h.ml];omega

end Go.Proofs.YtefkakjegdjojaaGreat.ilw
