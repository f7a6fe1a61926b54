/- Texts joined. -/
import Derived.Test.YtaondjmimobnbaaLea
import Derived.Shelf.RegionOpenPlain
import Derived.Laws.IdiomStrings
import Derived.Recover
import Derived.Test.YtaondjmimobnbaaWwi
section
/- Texts joined. -/
section
/- lease.Holds where there is no such lease, by hand. -/
namespace Go.Proofs.Ytaondjmimobnbaa.lho
open Go Go.RowKit eng SX Fact fil lem lea
set_option maxRecDepth 100000
set_option linter.unusedVariables false
set_option linter.unusedSimpArgs false
end Go.Proofs.Ytaondjmimobnbaa.lho
end
section
/- What is recovered in package lease, by hand; Holds where there is no such lease. -/
namespace Go.Proofs.Ytaondjmimobnbaa.lhp
open Go Go.RowKit eng SX Fact fil lem lea lho
set_option maxRecDepth 100000
set_option linter.unusedVariables false
set_option linter.unusedSimpArgs false

end Go.Proofs.Ytaondjmimobnbaa.lhp
end
end
section
/- Leases: package lease's Holds, Drop and Prune, told. -/
namespace Go.Proofs.Ytaondjmimobnbaa.leb
open Go Go.RowKit eng SX Fact fil lem lea lho lhp lhd
set_option linter.unusedVariables false
set_option linter.unusedSimpArgs false
set_option maxRecDepth 1000000
@[simp] theorem holds_fxL (B:Base) (f:FuncId) (E:FnE) (pans:List Value) (es:List SX):(Fact.fx f E pans es).holds B ↔ ToldX f E pans (B.F E.k)/\∃ ps qs,evs B.s B.F es=some ps/\B.F E.k ps=some qs:=Iff.rfl
theorem Zes {w:World} {l:Value} {xs:List LeM} (h:Reads w (pRow encL xs) l):RowE encL w l xs:=by
 simp only [pRow,Reads] at h
 obtain ⟨a,cap,rfl,h1,h2,h3⟩:=h
 refine ⟨a,cap,rfl,h1,h2,fun h0=>?_⟩
 rcases h3 with h3 | ⟨b,off,rfl,h3⟩
 ·have:=congrArg List.length h3
  rw [List.length_map,encL.all_length] at this
  have hs:encL.sz=4:=rfl
  simp [hs] at this
  omega
 ·have hc:∀ (i:Nat) (u:Value),(encL.all xs)[i]?=some u->w.cell? ⟨b,off+i,none⟩=some u:=fun i u hu=>by
   obtain ⟨v,hv,hr⟩:=Zat.at h3 (i:=i) (p:=.v u) (by simp [hu])
   simp only [Reads] at hr
   rw [hv,hr.1]
  obtain ⟨u,hu⟩:∃ u,(encL.all xs)[0]?=some u:=⟨_,List.getElem?_eq_getElem (by rw [encL.all_length];show 0 < xs.length * 4;omega)⟩
  exact ⟨b,off,rfl,World.block_lt_of_cell? _ _ (hc 0 u hu),hc⟩
theorem Zch {w:World} {z:Int} {u:Value} (h:Reads w (pI z) u):u=.int .i64 z:=by
 simp only [Reads] at h;exact h.1
end Go.Proofs.Ytaondjmimobnbaa.leb
end
