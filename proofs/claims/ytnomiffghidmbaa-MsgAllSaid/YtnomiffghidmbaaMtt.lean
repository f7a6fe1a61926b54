/- Texts joined. -/
import Derived.Test.YtnomiffghidmbaaMws
section
/- The document's MayTell, told. -/
namespace Go.Proofs.Ytnomiffghidmbaa.myt
open Go Go.RowKit eng SX Fact fil fileFronts ima msm
open mws (ENu RNu fNu Zue tl_injW)
set_option linter.unusedVariables false
set_option linter.unusedSimpArgs false
set_option maxRecDepth 1000000
def hPy (_:FuncId) (o:Oper):Option Hint:=match o.op with | .binOp .eql 27 _ _ _=>some .parts | _=>none
def EMt (k:Nat):FnE:={ k:=k,ins:=[some 9],leaks:=[false,false,false,false,false,false,false,false,false],outs:=[none],kinds:=[.truth] }
def tabY (f:FuncId):Option FnE:=cond (Nat.beq f 33) (some (ENu 1)) none
@[simp] def zMyt1:SX:=.con (.int .i64 1)
@[simp] def zMyt2:SX:=.con (.int .i64 0)
@[simp] def zMyt3:SX:=.bin .gtr (.var 0) (.con (.int .i64 3))
@[simp] def zMyt4:SX:=.bin .gtr (.var 1) (.con (.int .i64 3))
@[simp] def zMyt5:SX:=rop ROp.allB [rop ROp.eqI [.var 0,.var 0],rop ROp.eqI [.var 1,.var 1],rop ROp.eqI [.var 2,.var 2],rop ROp.eqI [.var 3,zMyt2],rop ROp.eqI [.var 4,zMyt2],rop ROp.eqI [.var 5,.var 5],rop ROp.eqI [.var 6,zMyt2],rop ROp.eqI [.var 7,zMyt2],rop ROp.eqS [.var 8,.con (.string { data:={ toList:=[] } })]]
@[simp] def zMyt6:SX:=rop ROp.allB [rop ROp.eqI [.var 0,.var 0],rop ROp.eqI [.var 1,.var 1],rop ROp.eqI [.var 2,.var 2],rop ROp.eqI [.var 3,zMyt2],rop ROp.eqI [.var 4,zMyt2],rop ROp.eqI [.var 5,zMyt2],rop ROp.eqI [.var 6,zMyt2],rop ROp.eqI [.var 7,zMyt2],rop ROp.eqS [.var 8,.con (.string { data:={ toList:=[] } })]]
@[simp] def zMyt7:SX:=.bin .lss (.var 0) zMyt1
@[simp] def zMyt8:SX:=.bin .lss (.var 1) zMyt1
@[simp] def zMyt9:SX:=.bin .eql (.var 0) zMyt1
@[simp] def Zhg:SX:=.bin .leq (.var 5) (.con (.int .i64 6))
@[simp] def Zfg:Fact:=.is (.fn 1 [.var 2,zMyt2] 0) (.bool true)
@[simp] def Zi6:SX:=.bin .leq (.var 4) (.con (.int .i64 7))
@[simp] def Ze2:Fact:=.fn 33 (ENu 1) [.var 2,zMyt2]
@[simp] def Zjx:SX:=.bin .eql (.var 0) (.con (.int .i64 2))
@[simp] def Zdr:Fact:=.is zMyt7 (.bool false)
@[simp] def Zd0:Fact:=.is zMyt3 (.bool false)
@[simp] def Zhw:SX:=.bin .geq (.var 4) zMyt2
@[simp] def Zed:Fact:=.is zMyt8 (.bool false)
@[simp] def Zjw:Fact:=.is (.fn 1 [.var 3,zMyt1] 0) (.bool true)
@[simp] def Ze1:Fact:=.is zMyt4 (.bool false)
@[simp] def Zjv:SX:=.bin .geq (.var 5) zMyt2
@[simp] def Zl0:SX:=.bin .leq (.var 6) (.con (.int .i64 2))
@[simp] def Zi5:Fact:=.fn 33 (ENu 1) [.var 3,zMyt1]
@[simp] def Zec:SX:=.con (.bool false)
@[simp] def Zm4:SX:=.bin .geq (.var 6) zMyt2
@[simp] def Zi4:Fact:=.is zMyt9 (.bool true)
@[simp] def Zss:SX:=.bin .leq (.slen (.var 8)) (.con (.int .i64 24))
@[simp] def Zlz:SX:=.bin .geq (.var 5) zMyt1
@[simp] def Zdb:Fact:=.ok (.var 0)
@[simp] def Zda:Fact:=.ok (.var 1)
@[simp] def Zc9:Fact:=.ok (.var 2)
@[simp] def Zc8:Fact:=.ok (.var 3)
@[simp] def Zc7:Fact:=.ok (.var 4)
@[simp] def Zc6:Fact:=.ok (.var 5)
@[simp] def Zc5:Fact:=.ok (.var 6)
@[simp] def Zc4:Fact:=.ok (.var 7)
@[simp] def Zc3:Fact:=.ok (.var 8)
@[simp] def Zly:Fact:=.is Zhw (.bool true)
@[simp] def Zm3:Fact:=.is Zi6 (.bool true)
@[simp] def Zm2:Fact:=.is Zhg (.bool true)
@[simp] def Zoc:Fact:=.is Zjv (.bool true)
@[simp] def Zob:Fact:=.is zMyt9 (.bool false)
@[simp] def Zc2:Fact:=.ok zMyt7
@[simp] def Zdq:Fact:=.ok zMyt3
@[simp] def Zdz:Fact:=.ok zMyt8
@[simp] def Zeb:Fact:=.ok zMyt4
@[simp] def Zsr:Fact:=.is Zm4 (.bool true)
@[simp] def Zsq:Fact:=.is Zjx (.bool true)
@[simp] def Zuz:Fact:=.fn 33 (ENu 1) [.var 7,zMyt2]
theorem mg0:runTo Try.prog (orcFn tabY) 10000 20 (EMt 9) [.num,.num,.num,.num,.num,.num,.num,.num,.num] [1] hPy=some ([Zdb,Zda,Zc9,Zc8,Zc7,Zc6,Zc5,Zc4,Zc3,Zc2,.is zMyt7 (.bool true)],[Zec]):=by kernel_rfl
theorem mg1:runTo Try.prog (orcFn tabY) 10000 20 (EMt 9) [.num,.num,.num,.num,.num,.num,.num,.num,.num] [0,1] hPy=some ([Zdb,Zda,Zc9,Zc8,Zc7,Zc6,Zc5,Zc4,Zc3,Zc2,Zdr,Zdq,.is zMyt3 (.bool true)],[Zec]):=by kernel_rfl
theorem mg2:runTo Try.prog (orcFn tabY) 10000 20 (EMt 9) [.num,.num,.num,.num,.num,.num,.num,.num,.num] [0,0,1] hPy=some ([Zdb,Zda,Zc9,Zc8,Zc7,Zc6,Zc5,Zc4,Zc3,Zc2,Zdr,Zdq,Zd0,Zdz,.is zMyt8 (.bool true)],[Zec]):=by kernel_rfl
theorem mg3:runTo Try.prog (orcFn tabY) 10000 20 (EMt 9) [.num,.num,.num,.num,.num,.num,.num,.num,.num] [0,0,0,1] hPy=some ([Zdb,Zda,Zc9,Zc8,Zc7,Zc6,Zc5,Zc4,Zc3,Zc2,Zdr,Zdq,Zd0,Zdz,Zed,Zeb,.is zMyt4 (.bool true)],[Zec]):=by kernel_rfl
theorem mg4:runTo Try.prog (orcFn tabY) 10000 20 (EMt 9) [.num,.num,.num,.num,.num,.num,.num,.num,.num] [0,0,0,0,0] hPy=some ([Zdb,Zda,Zc9,Zc8,Zc7,Zc6,Zc5,Zc4,Zc3,Zc2,Zdr,Zdq,Zd0,Zdz,Zed,Zeb,Ze1,Ze2,.is (.fn 1 [.var 2,zMyt2] 0) (.bool false)],[Zec]):=by kernel_rfl
theorem md0:runTo Try.prog (orcFn tabY) 10000 20 (EMt 9) [.num,.num,.num,.num,.num,.num,.num,.num,.num] [0,0,0,0,1,1,0] hPy=some ([Zdb,Zda,Zc9,Zc8,Zc7,Zc6,Zc5,Zc4,Zc3,Zc2,Zdr,Zdq,Zd0,Zdz,Zed,Zeb,Ze1,Ze2,Zfg,.ok zMyt9,Zi4,Zi5,.is (.fn 1 [.var 3,zMyt1] 0) (.bool false)],[Zec]):=by kernel_rfl
theorem md1:runTo Try.prog (orcFn tabY) 10000 20 (EMt 9) [.num,.num,.num,.num,.num,.num,.num,.num,.num] [0,0,0,0,1,1,1,0] hPy=some ([Zdb,Zda,Zc9,Zc8,Zc7,Zc6,Zc5,Zc4,Zc3,Zc2,Zdr,Zdq,Zd0,Zdz,Zed,Zeb,Ze1,Ze2,Zfg,.ok zMyt9,Zi4,Zi5,Zjw,.ok Zhw,.is Zhw (.bool false)],[Zec]):=by kernel_rfl
theorem md2:runTo Try.prog (orcFn tabY) 10000 20 (EMt 9) [.num,.num,.num,.num,.num,.num,.num,.num,.num] [0,0,0,0,1,1,1,1,0] hPy=some ([Zdb,Zda,Zc9,Zc8,Zc7,Zc6,Zc5,Zc4,Zc3,Zc2,Zdr,Zdq,Zd0,Zdz,Zed,Zeb,Ze1,Ze2,Zfg,.ok zMyt9,Zi4,Zi5,Zjw,.ok Zhw,Zly,.ok Zi6,.is Zi6 (.bool false)],[Zec]):=by kernel_rfl
theorem md3:runTo Try.prog (orcFn tabY) 10000 20 (EMt 9) [.num,.num,.num,.num,.num,.num,.num,.num,.num] [0,0,0,0,1,1,1,1,1,0] hPy=some ([Zdb,Zda,Zc9,Zc8,Zc7,Zc6,Zc5,Zc4,Zc3,Zc2,Zdr,Zdq,Zd0,Zdz,Zed,Zeb,Ze1,Ze2,Zfg,.ok zMyt9,Zi4,Zi5,Zjw,.ok Zhw,Zly,.ok Zi6,Zm3,.ok Zjv,.is Zjv (.bool false)],[Zec]):=by kernel_rfl
theorem md4:runTo Try.prog (orcFn tabY) 10000 20 (EMt 9) [.num,.num,.num,.num,.num,.num,.num,.num,.num] [0,0,0,0,1,1,1,1,1,1,0] hPy=some ([Zdb,Zda,Zc9,Zc8,Zc7,Zc6,Zc5,Zc4,Zc3,Zc2,Zdr,Zdq,Zd0,Zdz,Zed,Zeb,Ze1,Ze2,Zfg,.ok zMyt9,Zi4,Zi5,Zjw,.ok Zhw,Zly,.ok Zi6,Zm3,.ok Zjv,Zoc,.ok Zhg,.is Zhg (.bool false)],[Zec]):=by kernel_rfl
theorem md5:runTo Try.prog (orcFn tabY) 10000 20 (EMt 9) [.num,.num,.num,.num,.num,.num,.num,.num,.num] [0,0,0,0,1,1,1,1,1,1,1,0] hPy=some ([Zdb,Zda,Zc9,Zc8,Zc7,Zc6,Zc5,Zc4,Zc3,Zc2,Zdr,Zdq,Zd0,Zdz,Zed,Zeb,Ze1,Ze2,Zfg,.ok zMyt9,Zi4,Zi5,Zjw,.ok Zhw,Zly,.ok Zi6,Zm3,.ok Zjv,Zoc,.ok Zhg,Zm2,.ok Zm4,.is Zm4 (.bool false)],[Zec]):=by kernel_rfl
theorem md6:runTo Try.prog (orcFn tabY) 10000 20 (EMt 9) [.num,.num,.num,.num,.num,.num,.num,.num,.num] [0,0,0,0,1,1,1,1,1,1,1,1,0] hPy=some ([Zdb,Zda,Zc9,Zc8,Zc7,Zc6,Zc5,Zc4,Zc3,Zc2,Zdr,Zdq,Zd0,Zdz,Zed,Zeb,Ze1,Ze2,Zfg,.ok zMyt9,Zi4,Zi5,Zjw,.ok Zhw,Zly,.ok Zi6,Zm3,.ok Zjv,Zoc,.ok Zhg,Zm2,.ok Zm4,Zsr,.ok Zl0,.is Zl0 (.bool false)],[Zec]):=by kernel_rfl
theorem md7:runTo Try.prog (orcFn tabY) 10000 20 (EMt 9) [.num,.num,.num,.num,.num,.num,.num,.num,.num] [0,0,0,0,1,1,1,1,1,1,1,1,1,0] hPy=some ([Zdb,Zda,Zc9,Zc8,Zc7,Zc6,Zc5,Zc4,Zc3,Zc2,Zdr,Zdq,Zd0,Zdz,Zed,Zeb,Ze1,Ze2,Zfg,.ok zMyt9,Zi4,Zi5,Zjw,.ok Zhw,Zly,.ok Zi6,Zm3,.ok Zjv,Zoc,.ok Zhg,Zm2,.ok Zm4,Zsr,.ok Zl0,.is Zl0 (.bool true),Zuz,.is (.fn 1 [.var 7,zMyt2] 0) (.bool false)],[Zec]):=by kernel_rfl
theorem md8:runTo Try.prog (orcFn tabY) 10000 20 (EMt 9) [.num,.num,.num,.num,.num,.num,.num,.num,.num] [0,0,0,0,1,1,1,1,1,1,1,1,1,1,0] hPy=some ([Zdb,Zda,Zc9,Zc8,Zc7,Zc6,Zc5,Zc4,Zc3,Zc2,Zdr,Zdq,Zd0,Zdz,Zed,Zeb,Ze1,Ze2,Zfg,.ok zMyt9,Zi4,Zi5,Zjw,.ok Zhw,Zly,.ok Zi6,Zm3,.ok Zjv,Zoc,.ok Zhg,Zm2,.ok Zm4,Zsr,.ok Zl0,.is Zl0 (.bool true),Zuz,.is (.fn 1 [.var 7,zMyt2] 0) (.bool true),.ok (.slen (.var 8)),.ok Zss,.is Zss (.bool false)],[Zec]):=by kernel_rfl
theorem md9:runTo Try.prog (orcFn tabY) 10000 20 (EMt 9) [.num,.num,.num,.num,.num,.num,.num,.num,.num] [0,0,0,0,1,1,1,1,1,1,1,1,1,1,1] hPy=some ([Zdb,Zda,Zc9,Zc8,Zc7,Zc6,Zc5,Zc4,Zc3,Zc2,Zdr,Zdq,Zd0,Zdz,Zed,Zeb,Ze1,Ze2,Zfg,.ok zMyt9,Zi4,Zi5,Zjw,.ok Zhw,Zly,.ok Zi6,Zm3,.ok Zjv,Zoc,.ok Zhg,Zm2,.ok Zm4,Zsr,.ok Zl0,.is Zl0 (.bool true),Zuz,.is (.fn 1 [.var 7,zMyt2] 0) (.bool true),.ok (.slen (.var 8)),.ok Zss,.is Zss (.bool true)],[.con (.bool true)]):=by kernel_rfl
theorem mr0:runTo Try.prog (orcFn tabY) 10000 20 (EMt 9) [.num,.num,.num,.num,.num,.num,.num,.num,.num] [0,0,0,0,1,0,1,0] hPy=some ([Zdb,Zda,Zc9,Zc8,Zc7,Zc6,Zc5,Zc4,Zc3,Zc2,Zdr,Zdq,Zd0,Zdz,Zed,Zeb,Ze1,Ze2,Zfg,.ok zMyt9,Zob,.ok Zjx,Zsq,.ok Zlz,.is Zlz (.bool false)],[Zec]):=by kernel_rfl
theorem mr1:runTo Try.prog (orcFn tabY) 10000 20 (EMt 9) [.num,.num,.num,.num,.num,.num,.num,.num,.num] [0,0,0,0,1,0,1,1,0] hPy=some ([Zdb,Zda,Zc9,Zc8,Zc7,Zc6,Zc5,Zc4,Zc3,Zc2,Zdr,Zdq,Zd0,Zdz,Zed,Zeb,Ze1,Ze2,Zfg,.ok zMyt9,Zob,.ok Zjx,Zsq,.ok Zlz,.is Zlz (.bool true),.ok Zhg,.is Zhg (.bool false)],[Zec]):=by kernel_rfl
theorem mr3:runTo Try.prog (orcFn tabY) 10000 20 (EMt 9) [.num,.num,.num,.num,.num,.num,.num,.num,.num] [0,0,0,0,1,0,1,1,1,1] hPy=some ([Zdb,Zda,Zc9,Zc8,Zc7,Zc6,Zc5,Zc4,Zc3,Zc2,Zdr,Zdq,Zd0,Zdz,Zed,Zeb,Ze1,Ze2,Zfg,.ok zMyt9,Zob,.ok Zjx,Zsq,.ok Zlz,.is Zlz (.bool true),.ok Zhg,Zm2,.ok zMyt5,.is zMyt5 (.bool true)],[.con (.bool true)]):=by kernel_rfl
theorem mr2:runTo Try.prog (orcFn tabY) 10000 20 (EMt 9) [.num,.num,.num,.num,.num,.num,.num,.num,.num] [0,0,0,0,1,0,1,1,1,0] hPy=some ([Zdb,Zda,Zc9,Zc8,Zc7,Zc6,Zc5,Zc4,Zc3,Zc2,Zdr,Zdq,Zd0,Zdz,Zed,Zeb,Ze1,Ze2,Zfg,.ok zMyt9,Zob,.ok Zjx,Zsq,.ok Zlz,.is Zlz (.bool true),.ok Zhg,Zm2,.ok zMyt5,.is zMyt5 (.bool false)],[Zec]):=by kernel_rfl
theorem me1:runTo Try.prog (orcFn tabY) 10000 20 (EMt 9) [.num,.num,.num,.num,.num,.num,.num,.num,.num] [0,0,0,0,1,0,0,1] hPy=some ([Zdb,Zda,Zc9,Zc8,Zc7,Zc6,Zc5,Zc4,Zc3,Zc2,Zdr,Zdq,Zd0,Zdz,Zed,Zeb,Ze1,Ze2,Zfg,.ok zMyt9,Zob,.ok Zjx,.is Zjx (.bool false),.ok zMyt6,.is zMyt6 (.bool true)],[.con (.bool true)]):=by kernel_rfl
theorem me0:runTo Try.prog (orcFn tabY) 10000 20 (EMt 9) [.num,.num,.num,.num,.num,.num,.num,.num,.num] [0,0,0,0,1,0,0,0] hPy=some ([Zdb,Zda,Zc9,Zc8,Zc7,Zc6,Zc5,Zc4,Zc3,Zc2,Zdr,Zdq,Zd0,Zdz,Zed,Zeb,Ze1,Ze2,Zfg,.ok zMyt9,Zob,.ok Zjx,.is Zjx (.bool false),.ok zMyt6,.is zMyt6 (.bool false)],[Zec]):=by kernel_rfl
@[simp] theorem kMt (k:Nat):(EMt k).k=k:=rfl
noncomputable def FY:Fns:=fun k=>match k with | 1=>spec RNu | _=>fun _=>none
theorem y1:ToldF 33 (ENu 1) (FY 1):=Zue 1
theorem FY1 {n l:Int} (h1:-9223372036854775808<=n) (h2:n<=9223372036854775807):FY 1 [pI n,pI l]=some [pB (numB n l)]:=Zaf fNu ⟨n,l,h1,h2,rfl,rfl⟩
theorem eqI_v (x y:Int):ropPV .eqI [pI x,pI y]=some (pB (x == y)):=rfl
theorem eqS_v (x y:ByteArray):ropPV .eqS [pS x,pS y]=some (pB (x.toList == y.toList)):=rfl
theorem all9 (a b c d e f g h i:Bool):ropPV .allB [pB a,pB b,pB c,pB d,pB e,pB f,pB g,pB h,pB i]=some (pB (a && (b && (c && (d && (e && (f && (g && (h && (i && true)))))))))):=rfl
theorem e0_l (x:ByteArray):x.toList=[] ↔ x=e0:=by
 constructor
 ·exact fun h=>tl_injW (by rw [h,ByteArray.toList_eq];rfl)
 ·rintro rfl;rw [ByteArray.toList_eq];rfl
def tP (t:TellM):List PV:=[pI t.kind,pI t.to,pI t.epoch,pI t.seq,pI t.err,pI t.file,pI t.mode,pI t.ver,pS t.body]
theorem Zh4 {a b:TellM} (h:tP a=tP b):a=b:=by
 obtain ⟨a1,a2,a3,a4,a5,a6,a7,a8,a9⟩:=a
 obtain ⟨b1,b2,b3,b4,b5,b6,b7,b8,b9⟩:=b
 simp only [tP,List.cons.injEq,PV.v.injEq,Value.int.injEq,Value.string.injEq,true_and,and_true] at h
 obtain ⟨rfl,rfl,rfl,rfl,rfl,rfl,rfl,rfl,rfl⟩:=h
 rfl
def i64 (n:Int):Prop:=-9223372036854775808<=n/\n<=9223372036854775807
structure TOk (t:TellM):Prop where
 kind:i64 t.kind
 to:i64 t.to
 epoch:i64 t.epoch
 seq:i64 t.seq
 err:i64 t.err
 file:i64 t.file
 mode:i64 t.mode
 ver:i64 t.ver
 body:t.body.size<=9223372036854775807
def RMt (ps qs:List PV):Prop:=∃ t:TellM,TOk t/\ps=tP t/\qs=[pB (mayT t)]
theorem fMt:∀ ps q1 q2,RMt ps q1->RMt ps q2->q1=q2:=by
 rintro ps q1 q2 ⟨a,_,rfl,rfl⟩ ⟨b,_,h,rfl⟩
 rw [Zh4 h]
set_option maxHeartbeats 2000000 in
theorem toldMt (k:Nat):ToldF 20 (EMt k) (spec RMt):=by
 refine Zbw mixed_ok names_ok FY [.num,.num,.num,.num,.num,.num,.num,.num,.num] ?_
 intro ps qs h _
 obtain ⟨⟨t1,t2,t3,t4,t5,t6,t7,t8,t9⟩,ok,rfl,rfl⟩:=Zag h
 have g0:=FY1 (l:=0) ok.epoch.1 ok.epoch.2
 have g1:=FY1 (l:=1) ok.seq.1 ok.seq.2
 have g2:=FY1 (l:=0) ok.ver.1 ok.ver.2
 simp only [tP,numB] at *
 by_cases c1:1<=t1
 rotate_left
 ·rw [show mayT ⟨t1,t2,t3,t4,t5,t6,t7,t8,t9⟩=false by simp [mayT,numB,c1]]
  refine ⟨_,_,_,_,_,_,Zae tabY,mg0,fun w FP=>?_,?_⟩
  ·simp [-Zac,Zab,Zaa,Base.ev,SX.ev,evs,Value.oneCell',Zal,binPV,eqI_v,eqS_v,all9,e0_l,g0,g1,g2,myt.y1,c1]
   all_goals omega
  ·simp [evs,SX.ev]
 by_cases c2:t1<=3
 rotate_left
 ·rw [show mayT ⟨t1,t2,t3,t4,t5,t6,t7,t8,t9⟩=false by simp [mayT,numB,c1,c2]]
  refine ⟨_,_,_,_,_,_,Zae tabY,mg1,fun w FP=>?_,?_⟩
  ·simp [-Zac,Zab,Zaa,Base.ev,SX.ev,evs,Value.oneCell',Zal,binPV,eqI_v,eqS_v,all9,e0_l,g0,g1,g2,myt.y1,c1,c2]
   all_goals omega
  ·simp [evs,SX.ev]
 by_cases c3:1<=t2
 rotate_left
 ·rw [show mayT ⟨t1,t2,t3,t4,t5,t6,t7,t8,t9⟩=false by simp [mayT,numB,c1,c2,c3]]
  refine ⟨_,_,_,_,_,_,Zae tabY,mg2,fun w FP=>?_,?_⟩
  ·simp [-Zac,Zab,Zaa,Base.ev,SX.ev,evs,Value.oneCell',Zal,binPV,eqI_v,eqS_v,all9,e0_l,g0,g1,g2,myt.y1,c1,c2,c3]
   all_goals omega
  ·simp [evs,SX.ev]
 by_cases c4:t2<=3
 rotate_left
 ·rw [show mayT ⟨t1,t2,t3,t4,t5,t6,t7,t8,t9⟩=false by simp [mayT,numB,c1,c2,c3,c4]]
  refine ⟨_,_,_,_,_,_,Zae tabY,mg3,fun w FP=>?_,?_⟩
  ·simp [-Zac,Zab,Zaa,Base.ev,SX.ev,evs,Value.oneCell',Zal,binPV,eqI_v,eqS_v,all9,e0_l,g0,g1,g2,myt.y1,c1,c2,c3,c4]
   all_goals omega
  ·simp [evs,SX.ev]
 by_cases c5:0<=t3/\t3<=1073741824
 rotate_left
 ·rw [show mayT ⟨t1,t2,t3,t4,t5,t6,t7,t8,t9⟩=false by simp [mayT,numB,c1,c2,c3,c4,c5]]
  refine ⟨_,_,_,_,_,_,Zae tabY,mg4,fun w FP=>?_,?_⟩
  ·simp [-Zac,Zab,Zaa,Base.ev,SX.ev,evs,Value.oneCell',Zal,binPV,eqI_v,eqS_v,all9,e0_l,g0,g1,g2,myt.y1,c1,c2,c3,c4,c5]
   all_goals omega
  ·simp [evs,SX.ev]
 by_cases k1:t1=1
 ·skip
  by_cases d1:1<=t4/\t4<=1073741824
  rotate_left
  ·rw [show mayT ⟨t1,t2,t3,t4,t5,t6,t7,t8,t9⟩=false by simp [mayT,numB,c1,c2,c3,c4,c5,k1,d1]]
   refine ⟨_,_,_,_,_,_,Zae tabY,md0,fun w FP=>?_,?_⟩
   ·simp [-Zac,Zab,Zaa,Base.ev,SX.ev,evs,Value.oneCell',Zal,binPV,eqI_v,eqS_v,all9,e0_l,g0,g1,g2,myt.y1,c1,c2,c3,c4,c5,k1,d1]
    all_goals omega
   ·simp [evs,SX.ev]
  by_cases d2:0<=t5
  rotate_left
  ·rw [show mayT ⟨t1,t2,t3,t4,t5,t6,t7,t8,t9⟩=false by simp [mayT,numB,c1,c2,c3,c4,c5,k1,d1,d2]]
   refine ⟨_,_,_,_,_,_,Zae tabY,md1,fun w FP=>?_,?_⟩
   ·simp [-Zac,Zab,Zaa,Base.ev,SX.ev,evs,Value.oneCell',Zal,binPV,eqI_v,eqS_v,all9,e0_l,g0,g1,g2,myt.y1,c1,c2,c3,c4,c5,k1,d1,d2]
    all_goals omega
   ·simp [evs,SX.ev]
  by_cases d3:t5<=7
  rotate_left
  ·rw [show mayT ⟨t1,t2,t3,t4,t5,t6,t7,t8,t9⟩=false by simp [mayT,numB,c1,c2,c3,c4,c5,k1,d1,d2,d3]]
   refine ⟨_,_,_,_,_,_,Zae tabY,md2,fun w FP=>?_,?_⟩
   ·simp [-Zac,Zab,Zaa,Base.ev,SX.ev,evs,Value.oneCell',Zal,binPV,eqI_v,eqS_v,all9,e0_l,g0,g1,g2,myt.y1,c1,c2,c3,c4,c5,k1,d1,d2,d3]
    all_goals omega
   ·simp [evs,SX.ev]
  by_cases d4:0<=t6
  rotate_left
  ·rw [show mayT ⟨t1,t2,t3,t4,t5,t6,t7,t8,t9⟩=false by simp [mayT,numB,c1,c2,c3,c4,c5,k1,d1,d2,d3,d4]]
   refine ⟨_,_,_,_,_,_,Zae tabY,md3,fun w FP=>?_,?_⟩
   ·simp [-Zac,Zab,Zaa,Base.ev,SX.ev,evs,Value.oneCell',Zal,binPV,eqI_v,eqS_v,all9,e0_l,g0,g1,g2,myt.y1,c1,c2,c3,c4,c5,k1,d1,d2,d3,d4]
    all_goals omega
   ·simp [evs,SX.ev]
  by_cases d5:t6<=6
  rotate_left
  ·rw [show mayT ⟨t1,t2,t3,t4,t5,t6,t7,t8,t9⟩=false by simp [mayT,numB,c1,c2,c3,c4,c5,k1,d1,d2,d3,d4,d5]]
   refine ⟨_,_,_,_,_,_,Zae tabY,md4,fun w FP=>?_,?_⟩
   ·simp [-Zac,Zab,Zaa,Base.ev,SX.ev,evs,Value.oneCell',Zal,binPV,eqI_v,eqS_v,all9,e0_l,g0,g1,g2,myt.y1,c1,c2,c3,c4,c5,k1,d1,d2,d3,d4,d5]
    all_goals omega
   ·simp [evs,SX.ev]
  by_cases d6:0<=t7
  rotate_left
  ·rw [show mayT ⟨t1,t2,t3,t4,t5,t6,t7,t8,t9⟩=false by simp [mayT,numB,c1,c2,c3,c4,c5,k1,d1,d2,d3,d4,d5,d6]]
   refine ⟨_,_,_,_,_,_,Zae tabY,md5,fun w FP=>?_,?_⟩
   ·simp [-Zac,Zab,Zaa,Base.ev,SX.ev,evs,Value.oneCell',Zal,binPV,eqI_v,eqS_v,all9,e0_l,g0,g1,g2,myt.y1,c1,c2,c3,c4,c5,k1,d1,d2,d3,d4,d5,d6]
    all_goals omega
   ·simp [evs,SX.ev]
  by_cases d7:t7<=2
  rotate_left
  ·rw [show mayT ⟨t1,t2,t3,t4,t5,t6,t7,t8,t9⟩=false by simp [mayT,numB,c1,c2,c3,c4,c5,k1,d1,d2,d3,d4,d5,d6,d7]]
   refine ⟨_,_,_,_,_,_,Zae tabY,md6,fun w FP=>?_,?_⟩
   ·simp [-Zac,Zab,Zaa,Base.ev,SX.ev,evs,Value.oneCell',Zal,binPV,eqI_v,eqS_v,all9,e0_l,g0,g1,g2,myt.y1,c1,c2,c3,c4,c5,k1,d1,d2,d3,d4,d5,d6,d7]
    all_goals omega
   ·simp [evs,SX.ev]
  by_cases d8:0<=t8/\t8<=1073741824
  rotate_left
  ·rw [show mayT ⟨t1,t2,t3,t4,t5,t6,t7,t8,t9⟩=false by simp [mayT,numB,c1,c2,c3,c4,c5,k1,d1,d2,d3,d4,d5,d6,d7,d8]]
   refine ⟨_,_,_,_,_,_,Zae tabY,md7,fun w FP=>?_,?_⟩
   ·simp [-Zac,Zab,Zaa,Base.ev,SX.ev,evs,Value.oneCell',Zal,binPV,eqI_v,eqS_v,all9,e0_l,g0,g1,g2,myt.y1,c1,c2,c3,c4,c5,k1,d1,d2,d3,d4,d5,d6,d7,d8]
    all_goals omega
   ·simp [evs,SX.ev]
  by_cases d9:t9.size<=24
  rotate_left
  ·rw [show mayT ⟨t1,t2,t3,t4,t5,t6,t7,t8,t9⟩=false by simp [mayT,numB,c1,c2,c3,c4,c5,k1,d1,d2,d3,d4,d5,d6,d7,d8,d9]]
   refine ⟨_,_,_,_,_,_,Zae tabY,md8,fun w FP=>?_,?_⟩
   ·simp [-Zac,Zab,Zaa,Base.ev,SX.ev,evs,Value.oneCell',Zal,binPV,eqI_v,eqS_v,all9,e0_l,g0,g1,g2,myt.y1,c1,c2,c3,c4,c5,k1,d1,d2,d3,d4,d5,d6,d7,d8,d9]
    all_goals omega
   ·simp [evs,SX.ev]
  rw [show mayT ⟨t1,t2,t3,t4,t5,t6,t7,t8,t9⟩=true by simp [mayT,numB,c1,c2,c3,c4,c5,k1,d1,d2,d3,d4,d5,d6,d7,d8,d9]]
  refine ⟨_,_,_,_,_,_,Zae tabY,md9,fun w FP=>?_,?_⟩
  ·simp [-Zac,Zab,Zaa,Base.ev,SX.ev,evs,Value.oneCell',Zal,binPV,eqI_v,eqS_v,all9,e0_l,g0,g1,g2,myt.y1,c1,c2,c3,c4,c5,k1,d1,d2,d3,d4,d5,d6,d7,d8,d9]
   all_goals omega
  ·simp [evs,SX.ev]
 by_cases k2:t1=2
 ·skip
  by_cases r1:1<=t6
  rotate_left
  ·rw [show mayT ⟨t1,t2,t3,t4,t5,t6,t7,t8,t9⟩=false by simp [mayT,numB,c1,c2,c3,c4,c5,k1,k2,r1]]
   refine ⟨_,_,_,_,_,_,Zae tabY,mr0,fun w FP=>?_,?_⟩
   ·simp [-Zac,Zab,Zaa,Base.ev,SX.ev,evs,Value.oneCell',Zal,binPV,eqI_v,eqS_v,all9,e0_l,g0,g1,g2,myt.y1,c1,c2,c3,c4,c5,k1,k2,r1]
    all_goals omega
   ·simp [evs,SX.ev]
  by_cases r2:t6<=6
  rotate_left
  ·rw [show mayT ⟨t1,t2,t3,t4,t5,t6,t7,t8,t9⟩=false by simp [mayT,numB,c1,c2,c3,c4,c5,k1,k2,r1,r2]]
   refine ⟨_,_,_,_,_,_,Zae tabY,mr1,fun w FP=>?_,?_⟩
   ·simp [-Zac,Zab,Zaa,Base.ev,SX.ev,evs,Value.oneCell',Zal,binPV,eqI_v,eqS_v,all9,e0_l,g0,g1,g2,myt.y1,c1,c2,c3,c4,c5,k1,k2,r1,r2]
    all_goals omega
   ·simp [evs,SX.ev]
  by_cases q:t4=0/\t5=0/\t7=0/\t8=0/\t9=e0
  ·obtain ⟨q1,q2,q3,q4,q5⟩:=q
   rw [show mayT ⟨t1,t2,t3,t4,t5,t6,t7,t8,t9⟩=true by simp [mayT,numB,c1,c2,c3,c4,c5,k1,k2,r1,r2,q1,q2,q3,q4,q5]]
   refine ⟨_,_,_,_,_,_,Zae tabY,mr3,fun w FP=>?_,?_⟩
   ·simp [-Zac,Zab,Zaa,Base.ev,SX.ev,evs,Value.oneCell',Zal,binPV,eqI_v,eqS_v,all9,e0_l,g0,g1,g2,myt.y1,c1,c2,c3,c4,c5,k1,k2,r1,r2,q1,q2,q3,q4,q5]
    all_goals omega
   ·simp [evs,SX.ev]
  ·rw [show mayT ⟨t1,t2,t3,t4,t5,t6,t7,t8,t9⟩=false by simp [mayT,numB,c1,c2,c3,c4,c5,k1,k2,r1,r2,q]]
   refine ⟨_,_,_,_,_,_,Zae tabY,mr2,fun w FP=>?_,?_⟩
   ·simp [-Zac,Zab,Zaa,Base.ev,SX.ev,evs,Value.oneCell',Zal,binPV,eqI_v,eqS_v,all9,e0_l,g0,g1,g2,myt.y1,c1,c2,c3,c4,c5,k1,k2,r1,r2,q]
    all_goals (intros;grind)
   ·simp [evs,SX.ev]
 by_cases q:t4=0/\t5=0/\t7=0/\t8=0/\t9=e0/\t6=0
 ·obtain ⟨q1,q2,q3,q4,q5,q6⟩:=q
  rw [show mayT ⟨t1,t2,t3,t4,t5,t6,t7,t8,t9⟩=true by simp [mayT,numB,c1,c2,c3,c4,c5,k1,k2,q1,q2,q3,q4,q5,q6]]
  refine ⟨_,_,_,_,_,_,Zae tabY,me1,fun w FP=>?_,?_⟩
  ·simp [-Zac,Zab,Zaa,Base.ev,SX.ev,evs,Value.oneCell',Zal,binPV,eqI_v,eqS_v,all9,e0_l,g0,g1,g2,myt.y1,c1,c2,c3,c4,c5,k1,k2,q1,q2,q3,q4,q5,q6]
   all_goals omega
  ·simp [evs,SX.ev]
 ·rw [show mayT ⟨t1,t2,t3,t4,t5,t6,t7,t8,t9⟩=false by simp [mayT,numB,c1,c2,c3,c4,c5,k1,k2];exact fun e1 e2 e3 e4 e5 e6=>q ⟨e1,e2,e3,e4,e5,e6⟩]
  refine ⟨_,_,_,_,_,_,Zae tabY,me0,fun w FP=>?_,?_⟩
  ·simp [-Zac,Zab,Zaa,Base.ev,SX.ev,evs,Value.oneCell',Zal,binPV,eqI_v,eqS_v,all9,e0_l,g0,g1,g2,myt.y1,c1,c2,c3,c4,c5,k1,k2,q]
   all_goals (intros;grind)
  ·simp [evs,SX.ev]
end Go.Proofs.Ytnomiffghidmbaa.myt
end
section
/- Texts joined. -/
section
/- The document's PutTell, told. -/
namespace Go.Proofs.Ytnomiffghidmbaa.mpt
open Go Go.RowKit eng SX Fact fil fileFronts ima msm
open mws (tl_injW)
open mcr (EPuR ESl)
open mrd (Zav Zpp RSl fSl)
open myt (EMt RMt fMt toldMt tP Zh4 TOk i64)
open bip (RPuB fPuB RTxB fTxB EPuB ETxB)
set_option linter.unusedVariables false
set_option linter.unusedSimpArgs false
set_option maxRecDepth 1000000
def ETxR (k:Nat):FnE:={ k:=k,ins:=[none,none],leaks:=[false,false],outs:=[none],kinds:=[.row] }
def EPt (k:Nat):FnE:={ k:=k,ins:=[some 9],leaks:=[false,false,false,false,false,false,false,false,false],outs:=[none],kinds:=[.row] }
def tabP (f:FuncId):Option FnE:=cond (Nat.beq f 20) (some (EMt 1)) (cond (Nat.beq f 39) (some (EPuR 2)) (cond (Nat.beq f 40) (some (ETxR 3)) (cond (Nat.beq f 41) (some (ESl 4)) none)))
@[simp] def zMpt1:List SX:=[.fn 2 [.fn 2 [.fn 2 [.fn 2 [.fn 2 [.lit 0 [],.var 0,.con (.int .i64 1)] 0,.var 1,.con (.int .i64 1)] 0,.var 2,.con (.int .i64 4)] 0,.var 3,.con (.int .i64 4)] 0,.var 4,.con (.int .i64 1)] 0,.var 5,.con (.int .i64 1)]
@[simp] def zMpt2:List SX:=[.fn 2 [.fn 2 zMpt1 0,.var 6,.con (.int .i64 1)] 0,.var 7,.con (.int .i64 4)]
@[simp] def zMpt3:List SX:=[.fn 2 [.fn 2 [.lit 0 [],.var 0,.con (.int .i64 1)] 0,.var 1,.con (.int .i64 1)] 0,.var 2,.con (.int .i64 4)]
@[simp] def zMpt4:List SX:=[.var 0,.var 1,.var 2,.var 3,.var 4,.var 5,.var 6,.var 7,.var 8]
@[simp] def zMpt5:SX:=.con (.int .i64 1)
theorem pt0:runTo Try.prog (orcFn tabP) 10000 22 (EPt 9) [.num,.num,.num,.num,.num,.num,.num,.num,.num] [0]=some ([.ok (.var 0),.ok (.var 1),.ok (.var 2),.ok (.var 3),.ok (.var 4),.ok (.var 5),.ok (.var 6),.ok (.var 7),.ok (.var 8),.fn 20 (EMt 1) zMpt4,.is (.fn 1 zMpt4 0) (.bool false)],[.lit 0 []]):=by kernel_rfl
theorem pt1:runTo Try.prog (orcFn tabP) 10000 22 (EPt 9) [.num,.num,.num,.num,.num,.num,.num,.num,.num] [1]=some ([.ok (.var 0),.ok (.var 1),.ok (.var 2),.ok (.var 3),.ok (.var 4),.ok (.var 5),.ok (.var 6),.ok (.var 7),.ok (.var 8),.fn 20 (EMt 1) zMpt4,.is (.fn 1 zMpt4 0) (.bool true),.fn 39 (EPuR 2) [.lit 0 [],.var 0,zMpt5],.fn 39 (EPuR 2) [.fn 2 [.lit 0 [],.var 0,zMpt5] 0,.var 1,zMpt5],.fn 39 (EPuR 2) zMpt3,.fn 39 (EPuR 2) [.fn 2 zMpt3 0,.var 3,.con (.int .i64 4)],.fn 39 (EPuR 2) [.fn 2 [.fn 2 zMpt3 0,.var 3,.con (.int .i64 4)] 0,.var 4,zMpt5],.fn 39 (EPuR 2) zMpt1,.fn 39 (EPuR 2) [.fn 2 zMpt1 0,.var 6,zMpt5],.fn 39 (EPuR 2) zMpt2,.fn 40 (ETxR 3) [.fn 2 zMpt2 0,.var 8],.fn 41 (ESl 4) [.fn 3 [.fn 2 zMpt2 0,.var 8] 0]],[.fn 4 [.fn 3 [.fn 2 zMpt2 0,.var 8] 0] 0]):=by kernel_rfl
@[simp] theorem kTxR (k:Nat):(ETxR k).k=k:=rfl
@[simp] theorem kPt (k:Nat):(EPt k).k=k:=rfl
noncomputable def FP:Fns:=fun k=>match k with | 1=>spec RMt | 2=>spec RPuB | 3=>spec RTxB | 4=>spec RSl | _=>fun _=>none
theorem p1:ToldF 20 (EMt 1) (FP 1):=toldMt 1
theorem p2:ToldF 39 (EPuR 2) (FP 2):=Zav (rbt.toldPuR 2) rfl rfl rfl rfl
theorem p3:ToldF 40 (ETxR 3) (FP 3):=Zav (rbt.toldTxR 3) rfl rfl rfl rfl
theorem p4:ToldF 41 (ESl 4) (FP 4):=Zpp 4
theorem fp2 {l:List UInt8} {v:Int} {n:Nat} (h:l.length<=1000000) (z:Int) (hz:z=n) (h1:1<=n) (h2:n<=8):∃ m,m=l++low v n/\m.length=l.length+n/\FP 2 [pBy l,pI v,pI z]=some [pBy m]:=by
 subst hz
 exact ⟨_,rfl,by simp,Zaf fPuB ⟨l,v,n,h,by omega,by omega,rfl,rfl⟩⟩
theorem fp3 {l:List UInt8} {s:ByteArray} (h:l.length<=1000000) (h1:s.size<=255):∃ m,m=l++tx s/\m.length=l.length+(s.size+1)/\FP 3 [pBy l,pS s]=some [pBy m] :=
 ⟨_,rfl,by simp [Znk],Zaf fTxB ⟨l,s,h,h1,rfl,rfl⟩⟩
theorem fp4 {l:List UInt8} (h:l.length<=1000000):FP 4 [pBy l]=some [pBy (sealB l)]:=Zaf fSl ⟨l,h,rfl,rfl⟩
theorem nilY:PV.row 0 []=pBy []:=rfl
def RPt (ps qs:List PV):Prop:=∃ t:TellM,TOk t/\ps=tP t/\qs=[pBy (putT t)]
theorem fPt:∀ ps q1 q2,RPt ps q1->RPt ps q2->q1=q2:=by
 rintro ps q1 q2 ⟨a,_,rfl,rfl⟩ ⟨b,_,h,rfl⟩
 rw [Zh4 h]
theorem may_body {t:TellM} (h:mayT t=true):t.body.size<=24:=by
 simp only [mayT,Bool.and_eq_true,decide_eq_true_eq] at h
 obtain ⟨_,h⟩:=h
 split at h
 ·simp only [Bool.and_eq_true,decide_eq_true_eq] at h;exact h.2
 ·simp only [Bool.and_eq_true,decide_eq_true_eq] at h
  rw [h.1.2.2.2.2];decide
theorem toldPt (k:Nat):ToldF 22 (EPt k) (spec RPt):=by
 refine Zbw mixed_ok names_ok FP [.num,.num,.num,.num,.num,.num,.num,.num,.num] ?_
 intro ps qs h _
 obtain ⟨t,ok,rfl,rfl⟩:=Zag h
 have g1:FP 1 (tP t)=some [pB (mayT t)]:=Zaf fMt ⟨t,ok,rfl,rfl⟩
 by_cases hm:mayT t=true
 ·have hb:=may_body hm
  rw [hm] at g1
  have hq:putT t=sealB (tellB t):=by rw [putT,if_pos hm]
  clear hm
  obtain ⟨t1,t2,t3,t4,t5,t6,t7,t8,t9⟩:=t
  simp only [tP] at *
  obtain ⟨l1,e1,n1,c1⟩:=fp2 (l:=[]) (v:=t1) (n:=1) (by simp) 1 rfl (by omega) (by omega)
  obtain ⟨l2,e2,n2,c2⟩:=fp2 (l:=l1) (v:=t2) (n:=1) (by simp at n1;omega) 1 rfl (by omega) (by omega)
  obtain ⟨l3,e3,n3,c3⟩:=fp2 (l:=l2) (v:=t3) (n:=4) (by simp at n1;omega) 4 rfl (by omega) (by omega)
  obtain ⟨l4,e4,n4,c4⟩:=fp2 (l:=l3) (v:=t4) (n:=4) (by simp at n1;omega) 4 rfl (by omega) (by omega)
  obtain ⟨l5,e5,n5,c5⟩:=fp2 (l:=l4) (v:=t5) (n:=1) (by simp at n1;omega) 1 rfl (by omega) (by omega)
  obtain ⟨l6,e6,n6,c6⟩:=fp2 (l:=l5) (v:=t6) (n:=1) (by simp at n1;omega) 1 rfl (by omega) (by omega)
  obtain ⟨l7,e7,n7,c7⟩:=fp2 (l:=l6) (v:=t7) (n:=1) (by simp at n1;omega) 1 rfl (by omega) (by omega)
  obtain ⟨l8,e8,n8,c8⟩:=fp2 (l:=l7) (v:=t8) (n:=4) (by simp at n1;omega) 4 rfl (by omega) (by omega)
  obtain ⟨l9,e9,n9,c9⟩:=fp3 (l:=l8) (s:=t9) (by simp at n1;omega) (by omega)
  have c10:=fp4 (l:=l9) (by simp at n1;omega)
  have hl:l9=tellB ⟨t1,t2,t3,t4,t5,t6,t7,t8,t9⟩:=by simp [e1,e2,e3,e4,e5,e6,e7,e8,e9,tellB]
  rw [hq,<- hl]
  clear hl hq e1 e2 e3 e4 e5 e6 e7 e8 e9 n1 n2 n3 n4 n5 n6 n7 n8 n9 hb
  generalize sealB l9=z at *
  refine ⟨_,_,_,_,_,_,Zae tabP,pt1,fun w FP=>?_,?_⟩
  ·simp [-Zac,Zab,Zaa,Base.ev,SX.ev,evs,Value.oneCell',nilY,g1,c1,c2,c3,c4,c5,c6,c7,c8,c9,c10,mpt.p1,mpt.p2,mpt.p3,mpt.p4]
  ·simp [evs,SX.ev,nilY,g1,c1,c2,c3,c4,c5,c6,c7,c8,c9,c10]
 ·have hm:mayT t=false:=by simpa using hm
  rw [hm] at g1
  have hq:putT t=[]:=by rw [putT,if_neg (by simp [hm])]
  rw [hq]
  clear hm hq
  obtain ⟨t1,t2,t3,t4,t5,t6,t7,t8,t9⟩:=t
  simp only [tP] at *
  refine ⟨_,_,_,_,_,_,Zae tabP,pt0,fun w FP=>?_,?_⟩
  ·simp [-Zac,Zab,Zaa,Base.ev,SX.ev,evs,Value.oneCell',nilY,g1,mpt.p1]
  ·simp [evs,SX.ev,nilY]
end Go.Proofs.Ytnomiffghidmbaa.mpt
end
section
/- The document's TakeTell, told. -/
namespace Go.Proofs.Ytnomiffghidmbaa.mtt
open Go Go.RowKit eng SX Fact fil fileFronts ima msm
open mws (tl_injW)
open mrd (ENr ETr RNr fNr Zuf RTr fTr Zud)
open myt (EMt RMt fMt toldMt tP Zh4 TOk i64)
open mpt (EPt RPt fPt toldPt nilY)
open bip (pBy_inj)
set_option linter.unusedVariables false
set_option linter.unusedSimpArgs false
set_option maxRecDepth 1000000
def ETt (k:Nat):FnE:={ k:=k,ins:=[none],leaks:=[true],outs:=[some 9,none],kinds:=[.num,.num,.num,.num,.num,.num,.num,.num,.num,.truth] }
def tabT (f:FuncId):Option FnE:=cond (Nat.beq f 20) (some (EMt 1)) (cond (Nat.beq f 22) (some (EPt 2)) none)
def tabTP (f:FuncId):Option PtrE:=cond (Nat.beq f 52) (some (ENr 3)) (cond (Nat.beq f 53) (some (ETr 4)) none)
def orcT:Orc:=orcOr (orcFn tabT) (orcP tabTP)
def z1:List SX:=[.con (.int .i64 1),.fn 3 [.con (.int .i64 1),.var 0,.con (.bool false)] 1,.fn 3 [.con (.int .i64 1),.var 0,.con (.bool false)] 2]
def z2:List SX:=[.con (.int .i64 4),.fn 3 z1 1,.fn 3 z1 2]
def z3:List SX:=[.con (.int .i64 4),.fn 3 z2 1,.fn 3 z2 2]
def z4:List SX:=[.con (.int .i64 1),.fn 3 z3 1,.fn 3 z3 2]
def z5:List SX:=[.con (.int .i64 1),.fn 3 z4 1,.fn 3 z4 2]
def z6:List SX:=[.con (.int .i64 1),.fn 3 z5 1,.fn 3 z5 2]
def z7:List SX:=[.con (.int .i64 4),.fn 3 z6 1,.fn 3 z6 2]
def z8:List SX:=[.fn 3 z7 1,.fn 3 z7 2]
def z9:List SX:=[.fn 3 [.con (.int .i64 1),.var 0,.con (.bool false)] 0,.fn 3 z1 0,.fn 3 z2 0,.fn 3 z3 0,.fn 3 z4 0,.fn 3 z5 0,.fn 3 z6 0,.fn 3 z7 0,.fn 4 z8 0]
@[simp] def zMtt1:List SX:=[.con (.int .i64 1),.var 0,.con (.bool false)]
@[simp] def zMtt2:List SX:=[.con (.int .i64 0),.con (.int .i64 0),.con (.int .i64 0),.con (.int .i64 0),.con (.int .i64 0),.con (.int .i64 0),.con (.int .i64 0),.con (.int .i64 0),.con (.string { data:={ toList:=[] } }),.con (.bool false)]
@[simp] def zMtt3:SX:=.bin .neq (rop ROp.toStr [.fn 2 z9 0]) (rop ROp.toStr [.var 0])
@[simp] def zMtt4:Fact:=.is (.fn 4 z8 2) (.bool false)
theorem tt1:runTo Try.prog orcT 10000 26 (ETt 9) [.row] [1]=some ([.fp 52 (ENr 3) zMtt1,.ok (.fn 3 zMtt1 0),.ok (.fn 3 zMtt1 2),.fp 52 (ENr 3) z1,.ok (.fn 3 z1 0),.ok (.fn 3 z1 2),.fp 52 (ENr 3) z2,.ok (.fn 3 z2 0),.ok (.fn 3 z2 2),.fp 52 (ENr 3) z3,.ok (.fn 3 z3 0),.ok (.fn 3 z3 2),.fp 52 (ENr 3) z4,.ok (.fn 3 z4 0),.ok (.fn 3 z4 2),.fp 52 (ENr 3) z5,.ok (.fn 3 z5 0),.ok (.fn 3 z5 2),.fp 52 (ENr 3) z6,.ok (.fn 3 z6 0),.ok (.fn 3 z6 2),.fp 52 (ENr 3) z7,.ok (.fn 3 z7 0),.ok (.fn 3 z7 2),.fp 53 (ETr 4) z8,.ok (.fn 4 z8 0),.ok (.fn 4 z8 2),.is (.fn 4 z8 2) (.bool true)],zMtt2):=by kernel_rfl
theorem tt00:runTo Try.prog orcT 10000 26 (ETt 9) [.row] [0,0]=some ([.fp 52 (ENr 3) zMtt1,.ok (.fn 3 zMtt1 0),.ok (.fn 3 zMtt1 2),.fp 52 (ENr 3) z1,.ok (.fn 3 z1 0),.ok (.fn 3 z1 2),.fp 52 (ENr 3) z2,.ok (.fn 3 z2 0),.ok (.fn 3 z2 2),.fp 52 (ENr 3) z3,.ok (.fn 3 z3 0),.ok (.fn 3 z3 2),.fp 52 (ENr 3) z4,.ok (.fn 3 z4 0),.ok (.fn 3 z4 2),.fp 52 (ENr 3) z5,.ok (.fn 3 z5 0),.ok (.fn 3 z5 2),.fp 52 (ENr 3) z6,.ok (.fn 3 z6 0),.ok (.fn 3 z6 2),.fp 52 (ENr 3) z7,.ok (.fn 3 z7 0),.ok (.fn 3 z7 2),.fp 53 (ETr 4) z8,.ok (.fn 4 z8 0),.ok (.fn 4 z8 2),zMtt4,.fn 20 (EMt 1) z9,.is (.fn 1 z9 0) (.bool false)],zMtt2):=by kernel_rfl
theorem tt011:runTo Try.prog orcT 10000 26 (ETt 9) [.row] [0,1,1]=some ([.fp 52 (ENr 3) zMtt1,.ok (.fn 3 zMtt1 0),.ok (.fn 3 zMtt1 2),.fp 52 (ENr 3) z1,.ok (.fn 3 z1 0),.ok (.fn 3 z1 2),.fp 52 (ENr 3) z2,.ok (.fn 3 z2 0),.ok (.fn 3 z2 2),.fp 52 (ENr 3) z3,.ok (.fn 3 z3 0),.ok (.fn 3 z3 2),.fp 52 (ENr 3) z4,.ok (.fn 3 z4 0),.ok (.fn 3 z4 2),.fp 52 (ENr 3) z5,.ok (.fn 3 z5 0),.ok (.fn 3 z5 2),.fp 52 (ENr 3) z6,.ok (.fn 3 z6 0),.ok (.fn 3 z6 2),.fp 52 (ENr 3) z7,.ok (.fn 3 z7 0),.ok (.fn 3 z7 2),.fp 53 (ETr 4) z8,.ok (.fn 4 z8 0),.ok (.fn 4 z8 2),zMtt4,.fn 20 (EMt 1) z9,.is (.fn 1 z9 0) (.bool true),.fn 22 (EPt 2) z9,.ok (rop ROp.toStr [.fn 2 z9 0]),.ok (rop ROp.toStr [.var 0]),.ok zMtt3,.is zMtt3 (.bool true)],zMtt2):=by kernel_rfl
theorem tt010:runTo Try.prog orcT 10000 26 (ETt 9) [.row] [0,1,0]=some ([.fp 52 (ENr 3) zMtt1,.ok (.fn 3 zMtt1 0),.ok (.fn 3 zMtt1 2),.fp 52 (ENr 3) z1,.ok (.fn 3 z1 0),.ok (.fn 3 z1 2),.fp 52 (ENr 3) z2,.ok (.fn 3 z2 0),.ok (.fn 3 z2 2),.fp 52 (ENr 3) z3,.ok (.fn 3 z3 0),.ok (.fn 3 z3 2),.fp 52 (ENr 3) z4,.ok (.fn 3 z4 0),.ok (.fn 3 z4 2),.fp 52 (ENr 3) z5,.ok (.fn 3 z5 0),.ok (.fn 3 z5 2),.fp 52 (ENr 3) z6,.ok (.fn 3 z6 0),.ok (.fn 3 z6 2),.fp 52 (ENr 3) z7,.ok (.fn 3 z7 0),.ok (.fn 3 z7 2),.fp 53 (ETr 4) z8,.ok (.fn 4 z8 0),.ok (.fn 4 z8 2),zMtt4,.fn 20 (EMt 1) z9,.is (.fn 1 z9 0) (.bool true),.fn 22 (EPt 2) z9,.ok (rop ROp.toStr [.fn 2 z9 0]),.ok (rop ROp.toStr [.var 0]),.ok zMtt3,.is zMtt3 (.bool false)],[.fn 3 zMtt1 0,.fn 3 z1 0,.fn 3 z2 0,.fn 3 z3 0,.fn 3 z4 0,.fn 3 z5 0,.fn 3 z6 0,.fn 3 z7 0,.fn 4 z8 0,.con (.bool true)]):=by kernel_rfl
@[simp] theorem kTt (k:Nat):(ETt k).k=k:=rfl
@[simp] theorem kNr' (k:Nat):(ENr k).k=k:=rfl
@[simp] theorem kTr' (k:Nat):(ETr k).k=k:=rfl
noncomputable def FT:Fns:=fun k=>match k with | 1=>spec RMt | 2=>spec RPt | 3=>spec RNr | 4=>spec RTr | _=>fun _=>none
theorem q1:ToldF 20 (EMt 1) (FT 1):=toldMt 1
theorem q2:ToldF 22 (EPt 2) (FT 2):=toldPt 2
theorem q3:ToldP 52 (ENr 3) (FT 3):=Zuf 3
theorem q4:ToldP 53 (ETr 4) (FT 4):=Zud 4
theorem Zbs:OrcOk Try.prog orcT:=Zg7 (Zae tabT) (Zbp tabTP)
theorem rdN_len (s:Rd) (n:Nat):(rdN s n).2.1.length<=s.1.length:=by
 unfold rdN;split
 ·exact Nat.le_refl _
 ·simp
theorem rdT_len (s:Rd):(rdT s).2.1.length<=s.1.length:=by
 unfold rdT;split
 ·exact Nat.le_refl _
 ·simp
theorem rdN_i64 (s:Rd) (n:Nat) (h:n<=4):i64 (rdN s n).1:=by
 unfold rdN i64;split
 ·simp
 ·have h0:=Ziw (s.1.take n)
  have h1:=Zuo (s.1.take n)
  have h2:(256:Int) ^ (s.1.take n).length<=4294967296:=by
   have:(s.1.take n).length<=4:=by simp;omega
   generalize (s.1.take n).length=k at this
   match k,this with
   | 0,_=>decide
   | 1,_=>decide
   | 2,_=>decide
   | 3,_=>decide
   | 4,_=>decide
   | k+5,h=>omega
  generalize num (s.1.take n)=z at *
  generalize (256:Int) ^ (s.1.take n).length=y at *
  exact ⟨by omega,by omega⟩
theorem rdT_size (s:Rd):(rdT s).1.size<=255:=by
 unfold rdT;split
 ·show e0.size<=255
  decide
 ·have h:=(s.1.getD 0 0).toNat_lt
  exact Nat.le_trans (List.length_take_le _ _) (by omega)
theorem ft3 (s:Rd) (n:Nat) (z:Int) (hz:z=n) (h:s.1.length<=1000000) (h1:1<=n) (h2:n<=4):∃ (x:Int) (s':Rd),rdN s n=(x,s')/\s'.1.length<=1000000/\i64 x/\FT 3 [pI z,pBy s.1,pB s.2]=some [pI x,pBy s'.1,pB s'.2]:=by
 subst hz
 exact ⟨_,_,rfl,Nat.le_trans (rdN_len s n) h,rdN_i64 s n h2,Zaf fNr ⟨s,n,h,h1,by omega,rfl,rfl⟩⟩
theorem ft4 (s:Rd) (h:s.1.length<=1000000):∃ (x:ByteArray) (s':Rd),rdT s=(x,s')/\s'.1.length<=1000000/\x.size<=255/\FT 4 [pBy s.1,pB s.2]=some [pS x,pBy s'.1,pB s'.2]:=by
 exact ⟨_,_,rfl,Nat.le_trans (rdT_len s) h,rdT_size s,Zaf fTr ⟨s,h,rfl,rfl⟩⟩
theorem neY (x y:List UInt8):binPV .neq (pS ⟨x.toArray⟩) (pS ⟨y.toArray⟩)=some (pB (decide (x ≠ y))):=by
 by_cases h:x=y
 ·subst h;simp [binPV]
 ·have h':¬ (⟨x.toArray⟩:ByteArray).toList=(⟨y.toArray⟩:ByteArray).toList:=fun e=>by
   have:=tl_injW e
   simp at this
   exact h this
  simp [binPV,h,h']
def t0:TellM:=⟨0,0,0,0,0,0,0,0,e0⟩
def tellQ (b:List UInt8):List PV:=match takeT b with | some t=>tP t++[pB true] | none=>tP t0++[pB false]
def RTt (ps qs:List PV):Prop:=∃ b:List UInt8,b.length<=1000000/\ps=[pBy b]/\qs=tellQ b
theorem fTt:∀ ps q1 q2,RTt ps q1->RTt ps q2->q1=q2:=by
 rintro ps q1 q2 ⟨a,_,rfl,rfl⟩ ⟨b,_,h,rfl⟩
 simp only [List.cons.injEq,and_true] at h
 rw [pBy_inj h]
set_option maxHeartbeats 2000000 in
theorem toldTt (k:Nat):ToldF 26 (ETt k) (spec RTt):=by
 refine Zbw mixed_ok names_ok FT [.row] ?_
 intro ps qs h _
 obtain ⟨b,hb,rfl,rfl⟩:=Zag h
 obtain ⟨x1,⟨b1,d1⟩,e1,n1,i1,c1⟩:=ft3 (b,false) 1 1 rfl hb (by omega) (by omega)
 obtain ⟨x2,⟨b2,d2⟩,e2,n2,i2,c2⟩:=ft3 (b1,d1) 1 1 rfl n1 (by omega) (by omega)
 obtain ⟨x3,⟨b3,d3⟩,e3,n3,i3,c3⟩:=ft3 (b2,d2) 4 4 rfl n2 (by omega) (by omega)
 obtain ⟨x4,⟨b4,d4⟩,e4,n4,i4,c4⟩:=ft3 (b3,d3) 4 4 rfl n3 (by omega) (by omega)
 obtain ⟨x5,⟨b5,d5⟩,e5,n5,i5,c5⟩:=ft3 (b4,d4) 1 1 rfl n4 (by omega) (by omega)
 obtain ⟨x6,⟨b6,d6⟩,e6,n6,i6,c6⟩:=ft3 (b5,d5) 1 1 rfl n5 (by omega) (by omega)
 obtain ⟨x7,⟨b7,d7⟩,e7,n7,i7,c7⟩:=ft3 (b6,d6) 1 1 rfl n6 (by omega) (by omega)
 obtain ⟨x8,⟨b8,d8⟩,e8,n8,i8,c8⟩:=ft3 (b7,d7) 4 4 rfl n7 (by omega) (by omega)
 obtain ⟨x9,⟨b9,d9⟩,e9,n9,i9,c9⟩:=ft4 (b8,d8) n8
 have hp:Zb1 b=(⟨x1,x2,x3,x4,x5,x6,x7,x8,x9⟩,(b9,d9)):=by simp only [Zb1,e1,e2,e3,e4,e5,e6,e7,e8,e9]
 have ok:TOk ⟨x1,x2,x3,x4,x5,x6,x7,x8,x9⟩:=⟨i1,i2,i3,i4,i5,i6,i7,i8,by show x9.size<=_;omega⟩
 have g1:FT 1 (tP ⟨x1,x2,x3,x4,x5,x6,x7,x8,x9⟩)=some [pB (mayT ⟨x1,x2,x3,x4,x5,x6,x7,x8,x9⟩)]:=Zaf fMt ⟨_,ok,rfl,rfl⟩
 have g2:FT 2 (tP ⟨x1,x2,x3,x4,x5,x6,x7,x8,x9⟩)=some [pBy (putT ⟨x1,x2,x3,x4,x5,x6,x7,x8,x9⟩)]:=Zaf fPt ⟨_,ok,rfl,rfl⟩
 obtain ⟨T,hT⟩:∃ T:TellM,T=⟨x1,x2,x3,x4,x5,x6,x7,x8,x9⟩:=⟨_,rfl⟩
 have hTP:tP T=[pI x1,pI x2,pI x3,pI x4,pI x5,pI x6,pI x7,pI x8,pS x9]:=by rw [hT];rfl
 rw [<- hT] at g1 g2 hp
 have hq:tellQ b=if d9=true \/ mayT T=false \/ putT T ≠ b then tP t0++[pB false] else tP T++[pB true]:=by
  unfold tellQ takeT
  rw [hp]
  dsimp only
  split <;> rename_i h0
  ·split at h0
   ·cases h0
   ·cases h0;rw [if_neg (by assumption)]
  ·split at h0
   ·rw [if_pos (by assumption)]
   ·cases h0
 rw [hq]
 rw [hTP] at g1 g2 ⊢
 have hne:=neY (putT T) b
 have rt1:=Zd6 (putT T)
 have rt2:=Zd6 b
 clear hq hp hT ok hTP e1 e2 e3 e4 e5 e6 e7 e8 e9 n1 n2 n3 n4 n5 n6 n7 n8 n9 i1 i2 i3 i4 i5 i6 i7 i8 i9
 generalize mayT T=m at *
 generalize putT T=p at *
 clear T
 have h0:FT 3 [pI 1,pBy b,pB false]=some [pI x1,pBy b1,pB d1]:=c1
 have h1:evs (fun i=>[pBy b][i]?) FT z1=some [pI 1,pBy b1,pB d1]:=by simp [z1,evs,SX.ev,h0]
 have h2:evs (fun i=>[pBy b][i]?) FT z2=some [pI 4,pBy b2,pB d2]:=by simp [z2,evs,SX.ev,h1,c2]
 have h3:evs (fun i=>[pBy b][i]?) FT z3=some [pI 4,pBy b3,pB d3]:=by simp [z3,evs,SX.ev,h2,c3]
 have h4:evs (fun i=>[pBy b][i]?) FT z4=some [pI 1,pBy b4,pB d4]:=by simp [z4,evs,SX.ev,h3,c4]
 have h5:evs (fun i=>[pBy b][i]?) FT z5=some [pI 1,pBy b5,pB d5]:=by simp [z5,evs,SX.ev,h4,c5]
 have h6:evs (fun i=>[pBy b][i]?) FT z6=some [pI 1,pBy b6,pB d6]:=by simp [z6,evs,SX.ev,h5,c6]
 have h7:evs (fun i=>[pBy b][i]?) FT z7=some [pI 4,pBy b7,pB d7]:=by simp [z7,evs,SX.ev,h6,c7]
 have h8:evs (fun i=>[pBy b][i]?) FT z8=some [pBy b8,pB d8]:=by simp [z8,evs,SX.ev,h7,c8]
 have h9:evs (fun i=>[pBy b][i]?) FT z9=some [pI x1,pI x2,pI x3,pI x4,pI x5,pI x6,pI x7,pI x8,pS x9]:=by simp [z9,evs,SX.ev,h0,h1,h2,h3,h4,h5,h6,h7,h8,c2,c3,c4,c5,c6,c7,c8,c9]
 by_cases k1:d9=true
 ·rw [if_pos (.inl k1)]
  subst k1
  refine ⟨_,_,_,_,_,_,Zbs,tt1,fun w FP=>?_,?_⟩
  ·simp [-Zac,Zab,Zaa,Base.ev,SX.ev,evs,Value.oneCell',h0,h1,h2,h3,h4,h5,h6,h7,h8,c2,c3,c4,c5,c6,c7,c8,c9,mtt.q3,mtt.q4]
  ·simp [evs,SX.ev];rfl
 have k1':d9=false:=by simpa using k1
 subst k1'
 cases m with
 | false =>
  rw [if_pos (.inr (.inl rfl))]
  refine ⟨_,_,_,_,_,_,Zbs,tt00,fun w FP=>?_,?_⟩
  ·simp [-Zac,Zab,Zaa,Base.ev,SX.ev,evs,Value.oneCell',h0,h1,h2,h3,h4,h5,h6,h7,h8,h9,c2,c3,c4,c5,c6,c7,c8,c9,g1,mtt.q1,mtt.q3,mtt.q4]
  ·simp [evs,SX.ev];rfl
 | true =>
  by_cases k2:p=b
  ·rw [if_neg (by simp [k2])]
   rw [show decide (p ≠ b)=false by simp [k2]] at hne
   clear k2
   refine ⟨_,_,_,_,_,_,Zbs,tt010,fun w FP=>?_,?_⟩
   ·simp [-Zac,Zab,Zaa,Base.ev,SX.ev,evs,Value.oneCell',h0,h1,h2,h3,h4,h5,h6,h7,h8,h9,c2,c3,c4,c5,c6,c7,c8,c9,g1,g2,rt1,rt2,hne,mtt.q1,mtt.q2,mtt.q3,mtt.q4]
   ·simp [evs,SX.ev,h0,h1,h2,h3,h4,h5,h6,h7,h8,c2,c3,c4,c5,c6,c7,c8,c9]
  ·rw [if_pos (.inr (.inr k2))]
   rw [show decide (p ≠ b)=true by simp [k2]] at hne
   clear k2
   refine ⟨_,_,_,_,_,_,Zbs,tt011,fun w FP=>?_,?_⟩
   ·simp [-Zac,Zab,Zaa,Base.ev,SX.ev,evs,Value.oneCell',h0,h1,h2,h3,h4,h5,h6,h7,h8,h9,c2,c3,c4,c5,c6,c7,c8,c9,g1,g2,rt1,rt2,hne,mtt.q1,mtt.q2,mtt.q3,mtt.q4]
   ·simp [evs,SX.ev];rfl
end Go.Proofs.Ytnomiffghidmbaa.mtt
end
end
