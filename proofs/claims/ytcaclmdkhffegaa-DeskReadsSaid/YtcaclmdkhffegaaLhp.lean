/- What is recovered in package lease, by hand; Holds where there is no such lease. -/
import Derived.Test.YtcaclmdkhffegaaLho
import Derived.Laws.IdiomStrings
import Derived.Recover
import Derived.Shelf.RegionOpenPlain
namespace Go.Proofs.Ytcaclmdkhffegaa.lhp
open Go Go.RowKit eng SX Fact fil lem lea lho
set_option maxRecDepth 100000
set_option linter.unusedVariables false
set_option linter.unusedSimpArgs false

theorem rec_idle (w:World) :
  CallsD Try.prog 88 #[] .returning w fun e u' w'=>e=.returned (.tuple #[])/\u'=.returning/\w'=w:=by
 refine callsD_of_wpS Try.func88 rfl fun c₀ cs hu=>?_
 apply wpS_region
 simp [wpOpsS,go_sem,recoverD,hu,Try.ntmps88,bodyPostS,results,Try.results88]
 cases c₀
 simp_all
theorem ends_yes (fid:FuncId) (cap:Array Value) (w:World) (R:World->Prop) (hc:∀ w,(callFunc fid cap).run Try.prog w=.ok (.enter fid cap) w)
  (h:Calls Try.prog fid cap w fun e w'=>e=.returned (.tuple #[])/\R w') :
  Calls Try.prog 72 #[.func (.func fid) #[] cap] w fun e w'=>e=.returned (.bool true)/\R w':=by
 have H:=Lib.hid h
 clear h
 go_enter_defers Try.func72,Try.ntmps72
 go_wp2_with fail
 refine H.out.mono ?_
 rintro e w' ⟨rfl,he⟩
 go_wp2_with fail
 refine leaves_cons (f:=88) (args:=#[]) (by simp) (by simp [go_sem]) ?_
 refine (rec_idle _).mono ?_
 rintro e u' w'' ⟨rfl,rfl,rfl⟩
 simp [Leaves,settle,results,Try.results72,go_sem]
 exact he
end Go.Proofs.Ytcaclmdkhffegaa.lhp
