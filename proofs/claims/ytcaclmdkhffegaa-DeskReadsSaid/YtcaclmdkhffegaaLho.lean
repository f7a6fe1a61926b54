/- lease.Holds where there is no such lease, by hand. -/
import Derived.Test.YtcaclmdkhffegaaLea
import Derived.Shelf.RegionOpenPlain
namespace Go.Proofs.Ytcaclmdkhffegaa.lho
open Go Go.RowKit eng SX Fact fil lem lea
set_option maxRecDepth 100000
set_option linter.unusedVariables false
set_option linter.unusedSimpArgs false
theorem Zfu {w:World} {l:Value} {xs:List LeM} (h:RowE encL w l xs):Reads w (pRow encL xs) l:=by
 obtain ⟨a,cap,rfl,h1,h2,h3⟩:=h
 simp only [pRow,Reads]
 refine ⟨a,cap,rfl,h1,h2,?_⟩
 rcases Nat.eq_zero_or_pos xs.length with h0 | h0
 ·left
  rw [List.eq_nil_of_length_eq_zero h0];rfl
 ·obtain ⟨b,off,rfl,_,hc⟩:=h3 h0
  refine .inr ⟨b,off,rfl,Zav.of fun j p hj=>?_⟩
  rw [List.getElem?_map,Option.map_eq_some_iff] at hj
  obtain ⟨v,hv,rfl⟩:=hj
  exact ⟨v,hc j v hv,rfl,encL.all_one' xs v (List.mem_of_getElem? hv)⟩
end Go.Proofs.Ytcaclmdkhffegaa.lho
