/- Which Zm8 may be: file.May, tenancyref7.MayWrite. -/
import Derived.Test.YtpnegheknjeljaaGreatRal
namespace Go.Proofs.YtpnegheknjeljaaGreat.may
open Go Go.RowKit eng SX Fact fil fileFronts
set_option linter.unusedVariables false
set_option linter.unusedSimpArgs false
set_option maxRecDepth 1000000

def EMay (k:Nat):FnE:={ k:=k,ins:=[some 2],leaks:=[false,false],outs:=[none],kinds:=[.truth] }
@[simp] def Zcg:SX:=.bin .geq (.var 0) (.con (.int .i64 0))
@[simp] def Zdh:SX:=.bin .lss (.var 0) (.con (.int .i64 24))
@[simp] def Ze1:SX:=.bin .geq (.slen (.var 1)) (.con (.int .i64 1))
@[simp] def Zi8:SX:=.bin .leq (.slen (.var 1)) (.bin .sub (.con (.int .i64 24)) (.var 0))
theorem r1:runTo Tryz.prog fil.noOrc 10000 58 (EMay 1) [.num,.num] [0]=some ([.ok (.var 0),.ok (.var 1),.ok Zcg,.is Zcg (.bool false)],[.con (.bool false)]):=by kernel_rfl
theorem r2:runTo Tryz.prog fil.noOrc 10000 58 (EMay 1) [.num,.num] [1,0]=some ([.ok (.var 0),.ok (.var 1),.ok Zcg,.is Zcg (.bool true),.ok Zdh,.is Zdh (.bool false)],[.con (.bool false)]):=by kernel_rfl
theorem r3:runTo Tryz.prog fil.noOrc 10000 58 (EMay 1) [.num,.num] [1,1,0]=some ([.ok (.var 0),.ok (.var 1),.ok Zcg,.is Zcg (.bool true),.ok Zdh,.is Zdh (.bool true),.ok (.slen (.var 1)),.ok Ze1,.is Ze1 (.bool false)],[.con (.bool false)]):=by kernel_rfl
theorem r4:runTo Tryz.prog fil.noOrc 10000 58 (EMay 1) [.num,.num] [1,1,1,0]=some ([.ok (.var 0),.ok (.var 1),.ok Zcg,.is Zcg (.bool true),.ok Zdh,.is Zdh (.bool true),.ok (.slen (.var 1)),.ok Ze1,.is Ze1 (.bool true),.ok (.slen (.var 1)),.ok (.bin .sub (.con (.int .i64 24)) (.var 0)),.ok Zi8,.is Zi8 (.bool false)],[.con (.bool false)]):=by kernel_rfl
theorem r5:runTo Tryz.prog fil.noOrc 10000 58 (EMay 1) [.num,.num] [1,1,1,1]=some ([.ok (.var 0),.ok (.var 1),.ok Zcg,.is Zcg (.bool true),.ok Zdh,.is Zdh (.bool true),.ok (.slen (.var 1)),.ok Ze1,.is Ze1 (.bool true),.ok (.slen (.var 1)),.ok (.bin .sub (.con (.int .i64 24)) (.var 0)),.ok Zi8,.is Zi8 (.bool true)],[.con (.bool true)]):=by kernel_rfl

def RMay (ps qs:List PV):Prop:=∃ (o:Int) (s:ByteArray),-9223372036854775808<=o/\o<=9223372036854775807/\s.size<=9223372036854775807/\ps=[pI o,pS s]/\qs=[pB (mayW (o,s))]
@[simp] theorem kMay (k:Nat):(EMay k).k=k:=rfl
theorem toldRef (k:Nat):ToldF 58 (EMay k) (spec RMay):=by
 refine Zgh mixed_ok names_ok (fun _ _=>none) [.num,.num] ?_
 intro ps qs h _
 obtain ⟨o,s,h1,h2,h3,rfl,rfl⟩:=Zah h
 by_cases c1:0<=o
 ·by_cases c2:o < 24
  ·have w1:IntKind.i64.wrap (24 - o)=24 - o:=wrapI _ (by omega) (by omega)
   by_cases c3:1<=(s.size:Int)
   ·by_cases c4:(s.size:Int)<=24 - o
    ·refine ⟨_,_,_,_,_,_,fil.noOrc_ok,r5,fun w FP=>?_,?_⟩
     ·simp [Base.ev,SX.ev,evs,Value.oneCell',Zbc,binPV,w1]
      all_goals omega
     ·simp [evs,SX.ev,mayW]
      omega
    ·refine ⟨_,_,_,_,_,_,fil.noOrc_ok,r4,fun w FP=>?_,?_⟩
     ·simp [Base.ev,SX.ev,evs,Value.oneCell',Zbc,binPV,w1]
      all_goals omega
     ·simp [evs,SX.ev,mayW]
      omega
   ·refine ⟨_,_,_,_,_,_,fil.noOrc_ok,r3,fun w FP=>?_,?_⟩
    ·simp [Base.ev,SX.ev,evs,Value.oneCell',Zbc,binPV]
     all_goals omega
    ·simp [evs,SX.ev,mayW]
     omega
  ·refine ⟨_,_,_,_,_,_,fil.noOrc_ok,r2,fun w FP=>?_,?_⟩
   ·simp [Base.ev,SX.ev,evs,Value.oneCell',Zbc,binPV]
    all_goals omega
   ·simp [evs,SX.ev,mayW]
    omega
 ·refine ⟨_,_,_,_,_,_,fil.noOrc_ok,r1,fun w FP=>?_,?_⟩
  ·simp [Base.ev,SX.ev,evs,Value.oneCell',Zbc,binPV]
   all_goals omega
  ·simp [evs,SX.ev,mayW]
   omega
end Go.Proofs.YtpnegheknjeljaaGreat.may
