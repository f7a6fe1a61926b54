/- The document's SameDesk, told. -/
import Derived.Test.YtcaclmdkhffegaaLsl
import Derived.Test.YtcaclmdkhffegaaWsw
import Derived.Test.YtcaclmdkhffegaaLdk
namespace Go.Proofs.Ytcaclmdkhffegaa.lsd
open Go Go.RowKit eng SX Fact fil lem lea
open lsl (ESl toldSl RSl fSl)
open wsw (ESw Zsb RSw fSw)
set_option linter.unusedVariables false
set_option linter.unusedSimpArgs false
set_option maxRecDepth 1000000
def ESd (k:Nat):FnE:={ k:=k,ins:=[some 2,some 2],leaks:=[false,false,false,false],outs:=[none],kinds:=[.truth] }
def tabS (f:FuncId):Option FnE:=cond (Nat.beq f 45) (some (ESl 1)) (cond (Nat.beq f 16) (some (ESw 2)) none)
@[simp] def zLsd1:List SX:=[.var 0,.var 2]
theorem s0:runTo Try.prog (orcFn tabS) 10000 20 (ESd 1) [.row,.row,.row,.row] [0]=some ([.fn 45 (ESl 1) zLsd1,.is (.fn 1 zLsd1 0) (.bool false)],[.con (.bool false)]):=by kernel_rfl
theorem s10:runTo Try.prog (orcFn tabS) 10000 20 (ESd 1) [.row,.row,.row,.row] [1,0]=some ([.fn 45 (ESl 1) zLsd1,.is (.fn 1 zLsd1 0) (.bool true),.fn 16 (ESw 2) [.var 1,.var 3],.is (.fn 2 [.var 1,.var 3] 0) (.bool false)],[.con (.bool false)]):=by kernel_rfl
theorem s11:runTo Try.prog (orcFn tabS) 10000 20 (ESd 1) [.row,.row,.row,.row] [1,1]=some ([.fn 45 (ESl 1) zLsd1,.is (.fn 1 zLsd1 0) (.bool true),.fn 16 (ESw 2) [.var 1,.var 3],.is (.fn 2 [.var 1,.var 3] 0) (.bool true)],[.con (.bool true)]):=by kernel_rfl
@[simp] theorem kSd (k:Nat):(ESd k).k=k:=rfl
noncomputable def F:Fns:=fun k=>match k with | 1=>spec RSl | 2=>spec RSw | _=>fun _=>none
theorem x1:ToldF 45 (ESl 1) (F 1):=toldSl 1
theorem x2:ToldF 16 (ESw 2) (F 2):=Zsb 2
theorem F1 {a b:List LeM} (h1:a.length<=1000000) (h2:b.length<=1000000):F 1 [pRow encL a,pRow encL b]=some [pB (decide (a=b))]:=Zaj fSl ⟨a,b,h1,h2,rfl,rfl⟩
theorem F2 {a b:List LeM} (h1:a.length<=1000000) (h2:b.length<=1000000):F 2 [pRow encL a,pRow encL b]=some [pB (decide (a=b))]:=Zaj fSw ⟨a,b,h1,h2,rfl,rfl⟩
def RSd (ps qs:List PV):Prop:=∃ a b c d:List LeM,a.length<=1000000/\b.length<=1000000/\c.length<=1000000/\d.length<=1000000/\ps=[pRow encL a,pRow encL b,pRow encL c,pRow encL d]/\qs=[pB (decide (a=c/\b=d))]
theorem fSd:∀ ps q1 q2,RSd ps q1->RSd ps q2->q1=q2:=by
 rintro ps q1 q2 ⟨a,b,c,d,_,_,_,_,rfl,rfl⟩ ⟨a',b',c',d',_,_,_,_,h,rfl⟩
 simp only [List.cons.injEq,and_true] at h
 obtain ⟨h1,h2,h3,h4⟩:=h
 obtain rfl:=fil.pRow_inj Zaq h1
 obtain rfl:=fil.pRow_inj Zaq h2
 obtain rfl:=fil.pRow_inj Zaq h3
 obtain rfl:=fil.pRow_inj Zaq h4
 rfl
theorem toldSd (k:Nat):ToldF 20 (ESd k) (spec RSd):=by
 refine Zbl mixed_ok names_ok F [.row,.row,.row,.row] ?_
 intro ps qs h _
 obtain ⟨a,b,c,d,h1,h2,h3,h4,rfl,rfl⟩:=Zak h
 have g1:=F1 h1 h3
 have g2:=F2 h2 h4
 by_cases e1:a=c
 ·by_cases e2:b=d
  ·rw [show decide (a=c/\b=d)=true by simp [e1,e2]]
   rw [decide_eq_true e1] at g1
   rw [decide_eq_true e2] at g2
   refine ⟨_,_,_,_,_,_,Zae tabS,s11,fun w FP=>?_,?_⟩
   ·simp [Base.ev,SX.ev,evs,Value.oneCell',g1,g2,lsd.x1,lsd.x2]
   ·simp [evs,SX.ev]
  ·rw [show decide (a=c/\b=d)=false by simp [e2]]
   rw [decide_eq_true e1] at g1
   rw [decide_eq_false e2] at g2
   refine ⟨_,_,_,_,_,_,Zae tabS,s10,fun w FP=>?_,?_⟩
   ·simp [Base.ev,SX.ev,evs,Value.oneCell',g1,g2,lsd.x1,lsd.x2]
   ·simp [evs,SX.ev]
 ·rw [show decide (a=c/\b=d)=false by simp [e1]]
  rw [decide_eq_false e1] at g1
  refine ⟨_,_,_,_,_,_,Zae tabS,s0,fun w FP=>?_,?_⟩
  ·simp [Base.ev,SX.ev,evs,Value.oneCell',g1,g2,lsd.x1,lsd.x2]
  ·simp [evs,SX.ev]
end Go.Proofs.Ytcaclmdkhffegaa.lsd
