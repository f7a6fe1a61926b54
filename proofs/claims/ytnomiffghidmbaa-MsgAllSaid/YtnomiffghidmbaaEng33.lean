/- The engine: into the branch of a condition that lies in a slot (branches with loops in them). -/
import Derived.Test.YtnomiffghidmbaaMrg3
namespace Go.Proofs.Ytnomiffghidmbaa.eng
open Go Go.RowKit
set_option linter.unusedVariables false
set_option linter.unusedSimpArgs false

def Zuj (sh:Shape) (c:Operand):Option Nat:=(canon sh []).bind fun (x,_)=>(ev x c).bind fun q=>match q.sx with | some (.var j)=>some j | _=>none
def condC:Code->Operand | .cond c _ _=>c | _=>.const undef
def thenC:Code->Code | .cond _ x _=>x | _=>.skip
def elseC:Code->Code | .cond _ _ y=>y | _=>.skip
theorem cond_in {C:Base} {sh:Shape} {ps:List PV} {a:Act} {w:World} {c:Operand} {x y:Code} {k:List Code} {Q:Exit->Act->World->Prop} {b:Bool} {j:Nat}
  (hs:Zuj sh c=some j) (hp:ps[j]?=some (.v (.bool b))) (h:Zah C sh ps a w) (hb:wpL Try.prog (flat (if b then x else y)++k) Q a w):wpL Try.prog (.cond c x y :: k) Q a w:=by
 obtain ⟨x',st,m,hcan,_,hat⟩:=h
 simp only [Zuj,hcan,Option.bind_some,Option.bind_eq_some_iff] at hs
 obtain ⟨q,hq,hs⟩:=hs
 split at hs
 rotate_left
 ·cases hs
 rename_i i hqs
 cases hs
 have h1:=sx_ok hat.rel.sv q hqs (ev_ok hat.tm hq)
 have h2:ps[j]?=some (.v (a.eval c)):=h1
 rw [hp] at h2
 simp only [Option.some.injEq,PV.v.injEq] at h2
 exact wp_cond h2.symm (Zpm _ k hb)
end Go.Proofs.Ytnomiffghidmbaa.eng
