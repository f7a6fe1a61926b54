/- Package line, told: Ahead. -/
import Derived.Test.YtcaclmdkhffegaaWpu
namespace Go.Proofs.Ytcaclmdkhffegaa.wah
open Go Go.RowKit eng SX Fact fil lem lea leb wdr wwi wto wpu wlm
set_option linter.unusedVariables false
set_option linter.unusedSimpArgs false
set_option maxRecDepth 1000000
def tabA (f:FuncId):Option (FnE × List Value):=cond (Nat.beq f 86) (some (EFi 6,[pvFi])) none
@[simp] def zWah1:List SX:=[.var 0,.var 2]
@[simp] def zWah2:SX:=.bin .neq (.fn 6 zWah1 1) (.var 1)
@[simp] def zWah3:Fact:=Fact.fx 86 (EFi 6) ([pvFi]) zWah1
theorem a11:runTo Try.prog (orcX tabA) 10000 67 (EAh 1) [.row,.num,.num] [0,1]=some ([.ok (.var 1),.ok (.var 2),zWah3,.is (.fn 6 zWah1 0) (.int .i64 0),.ok (.fn 6 zWah1 1),.ok (.fn 6 zWah1 2),.ok (.fn 6 zWah1 3),.ok (.fn 6 zWah1 4),.ok zWah2,.is zWah2 (.bool true)],[.con (.bool true)]):=by kernel_rfl
theorem a10:runTo Try.prog (orcX tabA) 10000 67 (EAh 1) [.row,.num,.num] [0,0]=some ([.ok (.var 1),.ok (.var 2),zWah3,.is (.fn 6 zWah1 0) (.int .i64 0),.ok (.fn 6 zWah1 1),.ok (.fn 6 zWah1 2),.ok (.fn 6 zWah1 3),.ok (.fn 6 zWah1 4),.ok zWah2,.is zWah2 (.bool false)],[.con (.bool false)]):=by kernel_rfl
theorem a0:runTo Try.prog (orcX tabA) 10000 67 (EAh 1) [.row,.num,.num] [1]=some ([.ok (.var 1),.ok (.var 2),zWah3,.is (.fn 6 zWah1 0) (.int .i64 1)],[.con (.bool false)]):=by kernel_rfl
noncomputable def FA:Fns:=fun k=>match k with | 6=>spec RFi | _=>fun _=>none
theorem FA6 {l:List LeM} {f:Int} (h:l.length<=1000000):FA 6 [pRow encL l,pI f]=some (Zfb l f):=Zal fFi ⟨l,f,h,rfl,rfl⟩
theorem x6:ToldX 86 (EFi 6) [pvFi] (FA 6):=toldFi 6
def RAh (ps qs:List PV):Prop:=∃ (l:List LeM) (c f:Int),l.length<=1000000/\ps=[pRow encL l,pI c,pI f]/\qs=[pB (Zdy l c f)]
theorem fAh:∀ ps q1 q2,RAh ps q1->RAh ps q2->q1=q2:=by
 rintro ps q1 q2 ⟨l,c,f,_,rfl,rfl⟩ ⟨l',c',f',_,h,rfl⟩
 simp only [List.cons.injEq,PV.v.injEq,Value.int.injEq,true_and,and_true] at h
 obtain ⟨h,rfl,rfl⟩:=h
 rw [fil.pRow_inj Zay h]
theorem Zle (k:Nat):ToldF 67 (EAh k) (spec RAh):=by
 refine Zco mixed_ok names_ok FA [.row,.num,.num] ?_
 intro ps qs h _
 obtain ⟨l,c,f,hl,rfl,rfl⟩:=Zap h
 have g:=FA6 (f:=f) hl
 cases hf:l.find? (isFl f) with
 | some x =>
  rw [show Zfb l f=pI 0 :: p4 x by simp only [Zfb,hf]] at g
  have e1:Zdy l c f=!(x.1 == c):=by simp only [Zdy,hf]
  rw [e1]
  obtain ⟨x0,x1,x2,x3⟩:=x
  simp only [p4] at *
  by_cases d:x0=c
  ·refine ⟨_,_,_,_,_,_,Zi2 tabA,a10,fun w FP=>?_,?_⟩
   ·simp only [fmC,fmN]
    simp [Base.ev,SX.ev,evs,Value.oneCell',g,x6,binPV,d]
   ·simp [evs,SX.ev,d]
  ·refine ⟨_,_,_,_,_,_,Zi2 tabA,a11,fun w FP=>?_,?_⟩
   ·simp only [fmC,fmN]
    simp [Base.ev,SX.ev,evs,Value.oneCell',g,x6,binPV,d]
   ·simp [evs,SX.ev,d]
 | none =>
  rw [show Zfb l f=[pI (0+1:Nat)] by simp only [Zfb,hf]] at g
  have e1:Zdy l c f=false:=by simp only [Zdy,hf]
  rw [e1]
  refine ⟨_,_,_,_,_,_,Zi2 tabA,a0,fun w FP=>?_,?_⟩
  ·simp only [fmC,fmN]
   simp [Base.ev,SX.ev,evs,Value.oneCell',g,x6]
  ·simp [evs,SX.ev]
end Go.Proofs.Ytcaclmdkhffegaa.wah
