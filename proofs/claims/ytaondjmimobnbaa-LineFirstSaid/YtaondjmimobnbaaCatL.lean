/- slices.Grow at nil and slices.Concat at []api.Lease. -/
import Derived.Test.YtaondjmimobnbaaChecked
import Derived.Test.YtaondjmimobnbaaLem
import Derived.OpenShut
import Derived.OwnWalk
import Derived.WalkLawsBesides
import Derived.KernelRfl
import Derived.Lib.AppendZeros
import Derived.Lib.AppendZerosOnto
import Derived.Outline
namespace Go.Proofs.Ytaondjmimobnbaa.catL
open Go.RowKit

def Rows (w:World) (vs:List Value) (xss:List (List lem.LeM)):Prop :=
 vs.length=xss.length/\∀ i v,vs[i]?=some v->RowE lem.encL w v (xss.getD i [])
theorem Rows.ex {w w':World} {vs:List Value} {xss:List (List lem.LeM)} (h:Rows w vs xss) (g:Ex w w'):Rows w' vs xss :=
 ⟨h.1,fun i v hv=>(h.2 i v hv).ex g⟩
theorem Rows.one {w:World} {v:Value} {xs:List lem.LeM} (h:RowE lem.encL w v xs):Rows w [v] [xs] :=
 ⟨rfl,fun i u hu=>by
  cases i with
  | zero=>simp at hu;subst hu;exact h
  | succ i=>simp at hu⟩
theorem Zdv {xss:List (List lem.LeM)} {k:Nat} (h:k < xss.length):(xss.take (k+1)).flatten=(xss.take k).flatten++xss.getD k []:=by
 rw [List.take_add_one,show xss[k]?.toList=[xss.getD k []] by simp [List.getD,h],List.flatten_append]
 simp
theorem Zhz (xss:List (List lem.LeM)) (k:Nat):(xss.take k).flatten.length<=xss.flatten.length:=by
 conv=>rhs;rw [<- List.take_append_drop k xss,List.flatten_append,List.length_append]
 omega

def RCat (w:World) (xss:List (List lem.LeM)) (s i:Value) (wr:World):Prop :=
 ∃ k:Nat,k<=xss.length/\i=.int .i64 k/\s=.int .i64 ((xss.take k).flatten.length:Nat)/\w=wr
end Go.Proofs.Ytaondjmimobnbaa.catL
