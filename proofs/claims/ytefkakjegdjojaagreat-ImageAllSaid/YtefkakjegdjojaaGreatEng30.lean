/- The engine: a row of the call's own that is not Zeb any more becomes a thing (which may live on). -/
import Derived.Test.YtefkakjegdjojaaGreatMrg3
namespace Go.Proofs.YtefkakjegdjojaaGreat.eng
open Go Go.RowKit
variable {W0 : Base}
set_option linter.unusedVariables false
set_option linter.unusedSimpArgs false

def freezeAt (t:Nat) (x:AAct) (st:St):Option (AAct × St × List Fact):=match x.tm.get t with
 | some (.sliceS r v lo len sz)=>(lookS st r v).bind fun (e,el,esz)=>cond (isC0 lo && Nat.beq sz esz && Nat.blt (st.next+1) 16777215 && Nat.blt (t+1) 16777216 && Nat.blt (r+1) 16777216)
   (some ({ x with tm:=T.set 24 x.tm t (some (.dat st.next)) },{ st with heap:=T.set 24 (T.set 24 st.heap r none) st.next (some (Zgr (e,true))),next:=st.next+1 },(wantW e len).V)) none
 | _=>none
def freezes:List Nat->AAct->St->Option (AAct × St × List Fact)
 | [],x,st=>some (x,st,[])
 | t :: ts,x,st=>(freezeAt t x st).bind fun (x1,st1,f1)=>(freezes ts x1 st1).map fun (x2,st2,f2)=>(x2,st2,f1++f2)
def segZ (P:Program) (O:Orc) (n:Nat) (cs:List Code) (sh:Shape) (path:List Nat) (ts:List Nat) (sh':Shape) (rho:List (Nat × Nat)) (H:FuncId->Oper->Option Hint:=fun _ _=>none):Option (List Fact × List SX) :=
 (canon sh path).bind fun (x,st)=>(Ztq (Zvc P O n H) cs x st).bind fun (e,x',st',lg)=>(freezes ts x' st').bind fun (x2,st2,f2)=>(Zti sh' rho x2 st2).bind fun (es,fs)=>match e with | .normal=>cond (canon sh' []).isSome (some (lg.V++f2++fs,es)) none | _=>none
end Go.Proofs.YtefkakjegdjojaaGreat.eng
