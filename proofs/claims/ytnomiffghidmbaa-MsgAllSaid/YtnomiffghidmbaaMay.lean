/- Which writes may be: file.May, tenancyref7.MayWrite. -/
import Derived.Test.YtnomiffghidmbaaFroA
namespace Go.Proofs.Ytnomiffghidmbaa.may
open Go Go.RowKit eng SX Fact fil fileFronts
set_option linter.unusedVariables false
set_option linter.unusedSimpArgs false
set_option maxRecDepth 1000000

def EMay (k:Nat):FnE:={ k:=k,ins:=[some 2],leaks:=[false,false],outs:=[none],kinds:=[.truth] }
@[simp] def zMay1:SX:=.slen (.var 1)
@[simp] def zMay2:SX:=.bin .geq (.var 0) (.con (.int .i64 0))
@[simp] def zMay3:SX:=.con (.int .i64 24)
@[simp] def zMay4:SX:=.bin .lss zMay1 (.con (.int .i64 1))
@[simp] def zMay5:SX:=.bin .lss (.var 0) (.con (.int .i64 0))
@[simp] def zMay6:SX:=.bin .geq zMay1 (.con (.int .i64 1))
@[simp] def zMay7:SX:=.bin .lss (.var 0) zMay3
@[simp] def zMay8:SX:=.bin .gtr (.var 0) (.bin .sub zMay3 zMay1)
@[simp] def zMay9:SX:=.bin .leq zMay1 (.bin .sub zMay3 (.var 0))
@[simp] def Znh:SX:=.con (.bool false)
@[simp] def Zkq:Fact:=.ok (.var 0)
@[simp] def Zkp:Fact:=.ok (.var 1)
@[simp] def Ztt:Fact:=.is zMay2 (.bool true)
theorem m1:runTo Try.prog fil.noOrc 10000 75 (EMay 1) [.num,.num] [1]=some ([Zkq,Zkp,.ok zMay1,.ok zMay4,.is zMay4 (.bool true)],[Znh]):=by kernel_rfl
theorem m2:runTo Try.prog fil.noOrc 10000 75 (EMay 1) [.num,.num] [0,1]=some ([Zkq,Zkp,.ok zMay1,.ok zMay4,.is zMay4 (.bool false),.ok zMay5,.is zMay5 (.bool true)],[Znh]):=by kernel_rfl
theorem m3:runTo Try.prog fil.noOrc 10000 75 (EMay 1) [.num,.num] [0,0,1]=some ([Zkq,Zkp,.ok zMay1,.ok zMay4,.is zMay4 (.bool false),.ok zMay5,.is zMay5 (.bool false),.ok zMay1,.ok (.bin .sub zMay3 zMay1),.ok zMay8,.is zMay8 (.bool true)],[Znh]):=by kernel_rfl
theorem m4:runTo Try.prog fil.noOrc 10000 75 (EMay 1) [.num,.num] [0,0,0]=some ([Zkq,Zkp,.ok zMay1,.ok zMay4,.is zMay4 (.bool false),.ok zMay5,.is zMay5 (.bool false),.ok zMay1,.ok (.bin .sub zMay3 zMay1),.ok zMay8,.is zMay8 (.bool false)],[.con (.bool true)]):=by kernel_rfl
theorem r1:runTo Try.prog fil.noOrc 10000 35 (EMay 1) [.num,.num] [0]=some ([Zkq,Zkp,.ok zMay2,.is zMay2 (.bool false)],[Znh]):=by kernel_rfl
theorem r2:runTo Try.prog fil.noOrc 10000 35 (EMay 1) [.num,.num] [1,0]=some ([Zkq,Zkp,.ok zMay2,Ztt,.ok zMay7,.is zMay7 (.bool false)],[Znh]):=by kernel_rfl
theorem r3:runTo Try.prog fil.noOrc 10000 35 (EMay 1) [.num,.num] [1,1,0]=some ([Zkq,Zkp,.ok zMay2,Ztt,.ok zMay7,.is zMay7 (.bool true),.ok zMay1,.ok zMay6,.is zMay6 (.bool false)],[Znh]):=by kernel_rfl
theorem r4:runTo Try.prog fil.noOrc 10000 35 (EMay 1) [.num,.num] [1,1,1,0]=some ([Zkq,Zkp,.ok zMay2,Ztt,.ok zMay7,.is zMay7 (.bool true),.ok zMay1,.ok zMay6,.is zMay6 (.bool true),.ok zMay1,.ok (.bin .sub zMay3 (.var 0)),.ok zMay9,.is zMay9 (.bool false)],[Znh]):=by kernel_rfl
theorem r5:runTo Try.prog fil.noOrc 10000 35 (EMay 1) [.num,.num] [1,1,1,1]=some ([Zkq,Zkp,.ok zMay2,Ztt,.ok zMay7,.is zMay7 (.bool true),.ok zMay1,.ok zMay6,.is zMay6 (.bool true),.ok zMay1,.ok (.bin .sub zMay3 (.var 0)),.ok zMay9,.is zMay9 (.bool true)],[.con (.bool true)]):=by kernel_rfl

def RMay (ps qs:List PV):Prop:=∃ (o:Int) (s:ByteArray),-9223372036854775808<=o/\o<=9223372036854775807/\s.size<=9223372036854775807/\ps=[pI o,pS s]/\qs=[pB (mayW (o,s))]
theorem fMay:∀ ps q1 q2,RMay ps q1->RMay ps q2->q1=q2:=by
 rintro ps q1 q2 ⟨o,s,_,_,_,rfl,rfl⟩ ⟨o',s',_,_,_,h,rfl⟩
 simp only [List.cons.injEq,PV.v.injEq,Value.string.injEq,Value.int.injEq,true_and,and_true] at h
 obtain ⟨rfl,rfl⟩:=h
 rfl
@[simp] theorem kMay (k:Nat):(EMay k).k=k:=rfl
theorem toldMay (k:Nat):ToldF 75 (EMay k) (spec RMay):=by
 refine Zbw mixed_ok names_ok (fun _ _=>none) [.num,.num] ?_
 intro ps qs h _
 obtain ⟨o,s,h1,h2,h3,rfl,rfl⟩:=Zag h
 have w1:IntKind.i64.wrap (24 - (s.size:Int))=24 - (s.size:Int):=wrapI _ (by omega) (by omega)
 by_cases c1:(s.size:Int) < 1
 ·refine ⟨_,_,_,_,_,_,fil.noOrc_ok,m1,fun w FP=>?_,?_⟩
  ·simp [Base.ev,SX.ev,evs,Value.oneCell',Zal,binPV]
   all_goals omega
  ·simp [evs,SX.ev,mayW]
   omega
 by_cases c2:o < 0
 ·refine ⟨_,_,_,_,_,_,fil.noOrc_ok,m2,fun w FP=>?_,?_⟩
  ·simp [Base.ev,SX.ev,evs,Value.oneCell',Zal,binPV]
   all_goals omega
  ·simp [evs,SX.ev,mayW]
   omega
 by_cases c3:o > 24 - (s.size:Int)
 ·refine ⟨_,_,_,_,_,_,fil.noOrc_ok,m3,fun w FP=>?_,?_⟩
  ·simp [Base.ev,SX.ev,evs,Value.oneCell',Zal,binPV,w1]
   all_goals omega
  ·simp [evs,SX.ev,mayW]
   omega
 ·refine ⟨_,_,_,_,_,_,fil.noOrc_ok,m4,fun w FP=>?_,?_⟩
  ·simp [Base.ev,SX.ev,evs,Value.oneCell',Zal,binPV,w1]
   all_goals omega
  ·simp [evs,SX.ev,mayW]
   omega
theorem toldRef (k:Nat):ToldF 35 (EMay k) (spec RMay):=by
 refine Zbw mixed_ok names_ok (fun _ _=>none) [.num,.num] ?_
 intro ps qs h _
 obtain ⟨o,s,h1,h2,h3,rfl,rfl⟩:=Zag h
 by_cases c1:0<=o
 ·by_cases c2:o < 24
  ·have w1:IntKind.i64.wrap (24 - o)=24 - o:=wrapI _ (by omega) (by omega)
   by_cases c3:1<=(s.size:Int)
   ·by_cases c4:(s.size:Int)<=24 - o
    ·refine ⟨_,_,_,_,_,_,fil.noOrc_ok,r5,fun w FP=>?_,?_⟩
     ·simp [Base.ev,SX.ev,evs,Value.oneCell',Zal,binPV,w1]
      all_goals omega
     ·simp [evs,SX.ev,mayW]
      omega
    ·refine ⟨_,_,_,_,_,_,fil.noOrc_ok,r4,fun w FP=>?_,?_⟩
     ·simp [Base.ev,SX.ev,evs,Value.oneCell',Zal,binPV,w1]
      all_goals omega
     ·simp [evs,SX.ev,mayW]
      omega
   ·refine ⟨_,_,_,_,_,_,fil.noOrc_ok,r3,fun w FP=>?_,?_⟩
    ·simp [Base.ev,SX.ev,evs,Value.oneCell',Zal,binPV]
     all_goals omega
    ·simp [evs,SX.ev,mayW]
     omega
  ·refine ⟨_,_,_,_,_,_,fil.noOrc_ok,r2,fun w FP=>?_,?_⟩
   ·simp [Base.ev,SX.ev,evs,Value.oneCell',Zal,binPV]
    all_goals omega
   ·simp [evs,SX.ev,mayW]
    omega
 ·refine ⟨_,_,_,_,_,_,fil.noOrc_ok,r1,fun w FP=>?_,?_⟩
  ·simp [Base.ev,SX.ev,evs,Value.oneCell',Zal,binPV]
   all_goals omega
  ·simp [evs,SX.ev,mayW]
   omega
end Go.Proofs.Ytnomiffghidmbaa.may
