/- Which Zgr may be: file.May, tenancyref7.MayWrite. -/
import Derived.Test.YtefkakjegdjojaaGreatRal
namespace Go.Proofs.YtefkakjegdjojaaGreat.may
open Go Go.RowKit eng SX Fact fil fileFronts
set_option linter.unusedVariables false
set_option linter.unusedSimpArgs false
set_option maxRecDepth 1000000

def EMay (k:Nat):FnE:={ k:=k,ins:=[some 2],leaks:=[false,false],outs:=[none],kinds:=[.truth] }
@[simp] def Zec:SX:=.bin .geq (.var 0) (.con (.int .i64 0))
@[simp] def Zgb:SX:=.bin .lss (.var 0) (.con (.int .i64 24))
@[simp] def Zi5:SX:=.bin .geq (.slen (.var 1)) (.con (.int .i64 1))
@[simp] def Zo9:SX:=.bin .leq (.slen (.var 1)) (.bin .sub (.con (.int .i64 24)) (.var 0))
theorem r1:runTo Tryz.prog fil.noOrc 10000 96 (EMay 1) [.num,.num] [0]=some ([.ok (.var 0),.ok (.var 1),.ok Zec,.is Zec (.bool false)],[.con (.bool false)]):=by kernel_rfl
theorem r2:runTo Tryz.prog fil.noOrc 10000 96 (EMay 1) [.num,.num] [1,0]=some ([.ok (.var 0),.ok (.var 1),.ok Zec,.is Zec (.bool true),.ok Zgb,.is Zgb (.bool false)],[.con (.bool false)]):=by kernel_rfl
theorem r3:runTo Tryz.prog fil.noOrc 10000 96 (EMay 1) [.num,.num] [1,1,0]=some ([.ok (.var 0),.ok (.var 1),.ok Zec,.is Zec (.bool true),.ok Zgb,.is Zgb (.bool true),.ok (.slen (.var 1)),.ok Zi5,.is Zi5 (.bool false)],[.con (.bool false)]):=by kernel_rfl
theorem r4:runTo Tryz.prog fil.noOrc 10000 96 (EMay 1) [.num,.num] [1,1,1,0]=some ([.ok (.var 0),.ok (.var 1),.ok Zec,.is Zec (.bool true),.ok Zgb,.is Zgb (.bool true),.ok (.slen (.var 1)),.ok Zi5,.is Zi5 (.bool true),.ok (.slen (.var 1)),.ok (.bin .sub (.con (.int .i64 24)) (.var 0)),.ok Zo9,.is Zo9 (.bool false)],[.con (.bool false)]):=by kernel_rfl
theorem r5:runTo Tryz.prog fil.noOrc 10000 96 (EMay 1) [.num,.num] [1,1,1,1]=some ([.ok (.var 0),.ok (.var 1),.ok Zec,.is Zec (.bool true),.ok Zgb,.is Zgb (.bool true),.ok (.slen (.var 1)),.ok Zi5,.is Zi5 (.bool true),.ok (.slen (.var 1)),.ok (.bin .sub (.con (.int .i64 24)) (.var 0)),.ok Zo9,.is Zo9 (.bool true)],[.con (.bool true)]):=by kernel_rfl

def RMay (ps qs:List PV):Prop:=∃ (o:Int) (s:ByteArray),-9223372036854775808<=o/\o<=9223372036854775807/\s.size<=9223372036854775807/\ps=[pI o,pS s]/\qs=[pB (mayW (o,s))]
theorem fMay:∀ ps q1 q2,RMay ps q1->RMay ps q2->q1=q2:=by
 rintro ps q1 q2 ⟨o,s,_,_,_,rfl,rfl⟩ ⟨o',s',_,_,_,h,rfl⟩
 simp only [List.cons.injEq,PV.v.injEq,Value.string.injEq,Value.int.injEq,true_and,and_true] at h
 obtain ⟨rfl,rfl⟩:=h
 rfl
@[simp] theorem kMay (k:Nat):(EMay k).k=k:=rfl
theorem toldRef (k:Nat):ToldF 96 (EMay k) (spec RMay):=by
 refine Ze5 Zac Zad (fun _ _=>none) [.num,.num] ?_
 intro ps qs h _
 obtain ⟨o,s,h1,h2,h3,rfl,rfl⟩:=Zaj h
 by_cases c1:0<=o
 ·by_cases c2:o < 24
  ·have w1:IntKind.i64.wrap (24 - o)=24 - o:=wrapI _ (by omega) (by omega)
   by_cases c3:1<=(s.size:Int)
   ·by_cases c4:(s.size:Int)<=24 - o
    ·refine ⟨_,_,_,_,_,_,fil.noOrc_ok,r5,fun w FP=>?_,?_⟩
     ·simp [Base.ev,SX.ev,evs,Value.oneCell',Za6,binPV,w1]
      all_goals omega
     ·simp [evs,SX.ev,mayW]
      omega
    ·refine ⟨_,_,_,_,_,_,fil.noOrc_ok,r4,fun w FP=>?_,?_⟩
     ·simp [Base.ev,SX.ev,evs,Value.oneCell',Za6,binPV,w1]
      all_goals omega
     ·simp [evs,SX.ev,mayW]
      omega
   ·refine ⟨_,_,_,_,_,_,fil.noOrc_ok,r3,fun w FP=>?_,?_⟩
    ·simp [Base.ev,SX.ev,evs,Value.oneCell',Za6,binPV]
     all_goals omega
    ·simp [evs,SX.ev,mayW]
     omega
  ·refine ⟨_,_,_,_,_,_,fil.noOrc_ok,r2,fun w FP=>?_,?_⟩
   ·simp [Base.ev,SX.ev,evs,Value.oneCell',Za6,binPV]
    all_goals omega
   ·simp [evs,SX.ev,mayW]
    omega
 ·refine ⟨_,_,_,_,_,_,fil.noOrc_ok,r1,fun w FP=>?_,?_⟩
  ·simp [Base.ev,SX.ev,evs,Value.oneCell',Za6,binPV]
   all_goals omega
  ·simp [evs,SX.ev,mayW]
   omega
end Go.Proofs.YtefkakjegdjojaaGreat.may
