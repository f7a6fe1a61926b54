/- MsgApart by the symbolic engine. -/
import Derived.Test.YtnomiffghidmbaaMlf
namespace Go.Proofs.Ytnomiffghidmbaa.msgApart
open Go Go.RowKit eng SX Fact fil ima msm mlw
open fileFronts (Zac rowU)
open pck (OkP encU)
open mws (aP ESa)
open myt (tP eqI_v eqS_v all9)
open mpa (EPa)
open mpt (EPt)
open mtk (EKa EKt eqY)
open mka2 (mkA)
open mkt (EMk mkT Znq)
open mkm (Zlo)
set_option linter.unusedVariables false
set_option linter.unusedSimpArgs false
set_option maxRecDepth 1000000
def hEq (_:FuncId) (o:Oper):Option Hint:=match o.op with | .binOp .eql 27 _ _ _=>some .parts | _=>none
noncomputable def flL:=flat (Zam Try.prog 6)
def shL:Shape:=⟨[(0,.leaf),(1,.leaf)],[],[some true,some true],60,6⟩
def shLR:Shape:=⟨[(4,.leaf)],[],[none],60,6⟩
def z1:List SX:=[.fn 8 [.var 0,.con (.int .i64 0)] 0,.fn 8 [.var 0,.con (.int .i64 0)] 1,.fn 8 [.var 0,.con (.int .i64 0)] 2,.fn 8 [.var 0,.con (.int .i64 0)] 3,.fn 8 [.var 0,.con (.int .i64 0)] 4,.fn 8 [.var 0,.con (.int .i64 0)] 5,.fn 8 [.var 0,.con (.int .i64 0)] 6,.fn 8 [.var 0,.con (.int .i64 0)] 7]
def z2:List SX:=[.fn 8 [.var 1,.con (.int .i64 0)] 0,.fn 8 [.var 1,.con (.int .i64 0)] 1,.fn 8 [.var 1,.con (.int .i64 0)] 2,.fn 8 [.var 1,.con (.int .i64 0)] 3,.fn 8 [.var 1,.con (.int .i64 0)] 4,.fn 8 [.var 1,.con (.int .i64 0)] 5,.fn 8 [.var 1,.con (.int .i64 0)] 6,.fn 8 [.var 1,.con (.int .i64 0)] 7]
def z3:List SX:=[.fn 8 [.var 0,.con (.int .i64 0)] 0,.fn 8 [.var 0,.con (.int .i64 0)] 1,.fn 8 [.var 0,.con (.int .i64 0)] 2,.fn 8 [.var 0,.con (.int .i64 0)] 3,.fn 8 [.var 0,.con (.int .i64 0)] 4,.fn 8 [.var 0,.con (.int .i64 0)] 5,.fn 8 [.var 0,.con (.int .i64 0)] 6,.fn 8 [.var 0,.con (.int .i64 0)] 7,.fn 8 [.var 1,.con (.int .i64 0)] 0,.fn 8 [.var 1,.con (.int .i64 0)] 1,.fn 8 [.var 1,.con (.int .i64 0)] 2,.fn 8 [.var 1,.con (.int .i64 0)] 3,.fn 8 [.var 1,.con (.int .i64 0)] 4,.fn 8 [.var 1,.con (.int .i64 0)] 5,.fn 8 [.var 1,.con (.int .i64 0)] 6,.fn 8 [.var 1,.con (.int .i64 0)] 7]
def z4:List SX:=[.fn 9 [.var 0,.con (.int .i64 0)] 0,.fn 9 [.var 0,.con (.int .i64 0)] 1,.fn 9 [.var 0,.con (.int .i64 0)] 2,.fn 9 [.var 0,.con (.int .i64 0)] 3,.fn 9 [.var 0,.con (.int .i64 0)] 4,.fn 9 [.var 0,.con (.int .i64 0)] 5,.fn 9 [.var 0,.con (.int .i64 0)] 6,.fn 9 [.var 0,.con (.int .i64 0)] 7,.fn 9 [.var 0,.con (.int .i64 0)] 8]
def z5:List SX:=[.fn 9 [.var 1,.con (.int .i64 0)] 0,.fn 9 [.var 1,.con (.int .i64 0)] 1,.fn 9 [.var 1,.con (.int .i64 0)] 2,.fn 9 [.var 1,.con (.int .i64 0)] 3,.fn 9 [.var 1,.con (.int .i64 0)] 4,.fn 9 [.var 1,.con (.int .i64 0)] 5,.fn 9 [.var 1,.con (.int .i64 0)] 6,.fn 9 [.var 1,.con (.int .i64 0)] 7,.fn 9 [.var 1,.con (.int .i64 0)] 8]
def z6:List SX:=[.fn 8 [.var 0,.con (.int .i64 0)] 0,.fn 8 [.var 0,.con (.int .i64 0)] 1,.fn 8 [.var 0,.con (.int .i64 0)] 2,.fn 8 [.var 0,.con (.int .i64 0)] 3,.fn 8 [.var 0,.con (.int .i64 0)] 4,.fn 8 [.var 0,.con (.int .i64 0)] 5,.fn 8 [.var 0,.con (.int .i64 0)] 6,.fn 8 [.var 0,.con (.int .i64 0)] 7,.fn 8 [.var 0,.con (.int .i64 0)] 0,.fn 8 [.var 0,.con (.int .i64 0)] 1,.fn 8 [.var 0,.con (.int .i64 0)] 2,.fn 8 [.var 0,.con (.int .i64 0)] 3,.fn 8 [.var 0,.con (.int .i64 0)] 4,.fn 8 [.var 0,.con (.int .i64 0)] 5,.fn 8 [.var 0,.con (.int .i64 0)] 6,.fn 8 [.var 0,.con (.int .i64 0)] 7]
@[simp] def zMlp1:SX:=rop ROp.allB [rop ROp.eqI [.fn 9 [.var 0,.con (.int .i64 0)] 0,.fn 9 [.var 1,.con (.int .i64 0)] 0],rop ROp.eqI [.fn 9 [.var 0,.con (.int .i64 0)] 1,.fn 9 [.var 1,.con (.int .i64 0)] 1],rop ROp.eqI [.fn 9 [.var 0,.con (.int .i64 0)] 2,.fn 9 [.var 1,.con (.int .i64 0)] 2],rop ROp.eqI [.fn 9 [.var 0,.con (.int .i64 0)] 3,.fn 9 [.var 1,.con (.int .i64 0)] 3],rop ROp.eqI [.fn 9 [.var 0,.con (.int .i64 0)] 4,.fn 9 [.var 1,.con (.int .i64 0)] 4],rop ROp.eqI [.fn 9 [.var 0,.con (.int .i64 0)] 5,.fn 9 [.var 1,.con (.int .i64 0)] 5],rop ROp.eqI [.fn 9 [.var 0,.con (.int .i64 0)] 6,.fn 9 [.var 1,.con (.int .i64 0)] 6],rop ROp.eqI [.fn 9 [.var 0,.con (.int .i64 0)] 7,.fn 9 [.var 1,.con (.int .i64 0)] 7],rop ROp.eqS [.fn 9 [.var 0,.con (.int .i64 0)] 8,.fn 9 [.var 1,.con (.int .i64 0)] 8]]
@[simp] def zMlp2:SX:=.con (.int .i64 0)
@[simp] def zMlp3:List SX:=[.var 0,zMlp2]
@[simp] def zMlp4:List SX:=[.var 1,zMlp2]
@[simp] def zMlp5:SX:=.bin .gtr (.len (.var 0)) (.con (.int .i64 20))
@[simp] def zMlp6:SX:=.bin .eql (rop ROp.toStr [.fn 2 z1 0]) (rop ROp.toStr [.fn 2 z2 0])
@[simp] def zMlp7:SX:=.bin .eql (rop ROp.toStr [.fn 3 z4 0]) (rop ROp.toStr [.fn 3 z5 0])
@[simp] def zMlp8:SX:=.bin .gtr (.len (.var 1)) (.con (.int .i64 20))
@[simp] def zMlp9:SX:=.con (.bool true)
@[simp] def Zoq:Fact:=.is (.fn 1 [] 0) (.bool true)
@[simp] def Zth:Fact:=.ok (rop ROp.toStr [.fn 2 z1 0])
@[simp] def Ztg:Fact:=.ok (rop ROp.toStr [.fn 2 z2 0])
@[simp] def Ztf:Fact:=.ok (rop ROp.toStr [.fn 3 z4 0])
@[simp] def Zte:Fact:=.ok (rop ROp.toStr [.fn 3 z5 0])
@[simp] def Ztd:Fact:=.is (.fn 6 z6 0) (.bool true)
@[simp] def Zq8:Fact:=.is zMlp5 (.bool false)
@[simp] def Zop:Fact:=.ok (.len (.var 0))
@[simp] def Zoo:Fact:=.fn 8 (ETrue 1) []
@[simp] def Zq7:Fact:=.ok (.len (.var 1))
@[simp] def Ztc:Fact:=.is zMlp8 (.bool false)
theorem q1:segTo Try.prog orcL 10000 flL shL [1,1] shLR [] hEq=some (.ret,[Zoo,Zoq,Zop,.ok zMlp5,.is zMlp5 (.bool true),.ok zMlp9],[zMlp9]):=by kernel_rfl
theorem q2:segTo Try.prog orcL 10000 flL shL [1,0,1] shLR [] hEq=some (.ret,[Zoo,Zoq,Zop,.ok zMlp5,Zq8,Zq7,.ok zMlp8,.is zMlp8 (.bool true),.ok zMlp9],[zMlp9]):=by kernel_rfl
theorem ree:segTo Try.prog orcL 10000 flL shL [1,0,0,1,1,1,1,1] shLR [] hEq=some (.ret,[Zoo,Zoq,Zop,.ok zMlp5,Zq8,Zq7,.ok zMlp8,Ztc,.fp 11 (EAkR 8) zMlp3,.ok (.fn 8 zMlp3 0),.ok (.fn 8 zMlp3 1),.ok (.fn 8 zMlp3 2),.ok (.fn 8 zMlp3 3),.ok (.fn 8 zMlp3 4),.ok (.fn 8 zMlp3 5),.ok (.fn 8 zMlp3 6),.ok (.fn 8 zMlp3 9),.fp 11 (EAkR 8) zMlp4,.ok (.fn 8 zMlp4 0),.ok (.fn 8 zMlp4 1),.ok (.fn 8 zMlp4 2),.ok (.fn 8 zMlp4 3),.ok (.fn 8 zMlp4 4),.ok (.fn 8 zMlp4 5),.ok (.fn 8 zMlp4 6),.ok (.fn 8 zMlp4 9),.fp 12 (EMk 9) zMlp3,.ok (.fn 9 zMlp3 0),.ok (.fn 9 zMlp3 1),.ok (.fn 9 zMlp3 2),.ok (.fn 9 zMlp3 3),.ok (.fn 9 zMlp3 4),.ok (.fn 9 zMlp3 5),.ok (.fn 9 zMlp3 6),.ok (.fn 9 zMlp3 7),.ok (.fn 9 zMlp3 8),.ok (.fn 9 zMlp3 10),.fp 12 (EMk 9) zMlp4,.ok (.fn 9 zMlp4 0),.ok (.fn 9 zMlp4 1),.ok (.fn 9 zMlp4 2),.ok (.fn 9 zMlp4 3),.ok (.fn 9 zMlp4 4),.ok (.fn 9 zMlp4 5),.ok (.fn 9 zMlp4 6),.ok (.fn 9 zMlp4 7),.ok (.fn 9 zMlp4 8),.ok (.fn 9 zMlp4 10),.fn 15 (EPa 2) z1,Zth,.fn 15 (EPa 2) z2,Ztg,.ok zMlp6,.is zMlp6 (.bool true),.fn 17 (ESa 6) z3,.is (.fn 6 z3 0) (.bool true),.fn 21 (EPt 3) z4,Ztf,.fn 21 (EPt 3) z5,Zte,.ok zMlp7,.is zMlp7 (.bool true),.ok zMlp1,.is zMlp1 (.bool true),.fn 17 (ESa 6) z6,Ztd,.ok zMlp9],[zMlp9]):=by kernel_rfl
theorem ren:segTo Try.prog orcL 10000 flL shL [1,0,0,1,1,0,0,1] shLR [] hEq=some (.ret,[Zoo,Zoq,Zop,.ok zMlp5,Zq8,Zq7,.ok zMlp8,Ztc,.fp 11 (EAkR 8) zMlp3,.ok (.fn 8 zMlp3 0),.ok (.fn 8 zMlp3 1),.ok (.fn 8 zMlp3 2),.ok (.fn 8 zMlp3 3),.ok (.fn 8 zMlp3 4),.ok (.fn 8 zMlp3 5),.ok (.fn 8 zMlp3 6),.ok (.fn 8 zMlp3 9),.fp 11 (EAkR 8) zMlp4,.ok (.fn 8 zMlp4 0),.ok (.fn 8 zMlp4 1),.ok (.fn 8 zMlp4 2),.ok (.fn 8 zMlp4 3),.ok (.fn 8 zMlp4 4),.ok (.fn 8 zMlp4 5),.ok (.fn 8 zMlp4 6),.ok (.fn 8 zMlp4 9),.fp 12 (EMk 9) zMlp3,.ok (.fn 9 zMlp3 0),.ok (.fn 9 zMlp3 1),.ok (.fn 9 zMlp3 2),.ok (.fn 9 zMlp3 3),.ok (.fn 9 zMlp3 4),.ok (.fn 9 zMlp3 5),.ok (.fn 9 zMlp3 6),.ok (.fn 9 zMlp3 7),.ok (.fn 9 zMlp3 8),.ok (.fn 9 zMlp3 10),.fp 12 (EMk 9) zMlp4,.ok (.fn 9 zMlp4 0),.ok (.fn 9 zMlp4 1),.ok (.fn 9 zMlp4 2),.ok (.fn 9 zMlp4 3),.ok (.fn 9 zMlp4 4),.ok (.fn 9 zMlp4 5),.ok (.fn 9 zMlp4 6),.ok (.fn 9 zMlp4 7),.ok (.fn 9 zMlp4 8),.ok (.fn 9 zMlp4 10),.fn 15 (EPa 2) z1,Zth,.fn 15 (EPa 2) z2,Ztg,.ok zMlp6,.is zMlp6 (.bool true),.fn 17 (ESa 6) z3,.is (.fn 6 z3 0) (.bool true),.fn 21 (EPt 3) z4,Ztf,.fn 21 (EPt 3) z5,Zte,.ok zMlp7,.is zMlp7 (.bool false),.ok zMlp1,.is zMlp1 (.bool false),.fn 17 (ESa 6) z6,Ztd,.ok zMlp9],[zMlp9]):=by kernel_rfl
theorem rne:segTo Try.prog orcL 10000 flL shL [1,0,0,0,0,1,1,1] shLR [] hEq=some (.ret,[Zoo,Zoq,Zop,.ok zMlp5,Zq8,Zq7,.ok zMlp8,Ztc,.fp 11 (EAkR 8) zMlp3,.ok (.fn 8 zMlp3 0),.ok (.fn 8 zMlp3 1),.ok (.fn 8 zMlp3 2),.ok (.fn 8 zMlp3 3),.ok (.fn 8 zMlp3 4),.ok (.fn 8 zMlp3 5),.ok (.fn 8 zMlp3 6),.ok (.fn 8 zMlp3 9),.fp 11 (EAkR 8) zMlp4,.ok (.fn 8 zMlp4 0),.ok (.fn 8 zMlp4 1),.ok (.fn 8 zMlp4 2),.ok (.fn 8 zMlp4 3),.ok (.fn 8 zMlp4 4),.ok (.fn 8 zMlp4 5),.ok (.fn 8 zMlp4 6),.ok (.fn 8 zMlp4 9),.fp 12 (EMk 9) zMlp3,.ok (.fn 9 zMlp3 0),.ok (.fn 9 zMlp3 1),.ok (.fn 9 zMlp3 2),.ok (.fn 9 zMlp3 3),.ok (.fn 9 zMlp3 4),.ok (.fn 9 zMlp3 5),.ok (.fn 9 zMlp3 6),.ok (.fn 9 zMlp3 7),.ok (.fn 9 zMlp3 8),.ok (.fn 9 zMlp3 10),.fp 12 (EMk 9) zMlp4,.ok (.fn 9 zMlp4 0),.ok (.fn 9 zMlp4 1),.ok (.fn 9 zMlp4 2),.ok (.fn 9 zMlp4 3),.ok (.fn 9 zMlp4 4),.ok (.fn 9 zMlp4 5),.ok (.fn 9 zMlp4 6),.ok (.fn 9 zMlp4 7),.ok (.fn 9 zMlp4 8),.ok (.fn 9 zMlp4 10),.fn 15 (EPa 2) z1,Zth,.fn 15 (EPa 2) z2,Ztg,.ok zMlp6,.is zMlp6 (.bool false),.fn 17 (ESa 6) z3,.is (.fn 6 z3 0) (.bool false),.fn 21 (EPt 3) z4,Ztf,.fn 21 (EPt 3) z5,Zte,.ok zMlp7,.is zMlp7 (.bool true),.ok zMlp1,.is zMlp1 (.bool true),.fn 17 (ESa 6) z6,Ztd,.ok zMlp9],[zMlp9]):=by kernel_rfl
theorem rnn:segTo Try.prog orcL 10000 flL shL [1,0,0,0,0,0,0,1] shLR [] hEq=some (.ret,[Zoo,Zoq,Zop,.ok zMlp5,Zq8,Zq7,.ok zMlp8,Ztc,.fp 11 (EAkR 8) zMlp3,.ok (.fn 8 zMlp3 0),.ok (.fn 8 zMlp3 1),.ok (.fn 8 zMlp3 2),.ok (.fn 8 zMlp3 3),.ok (.fn 8 zMlp3 4),.ok (.fn 8 zMlp3 5),.ok (.fn 8 zMlp3 6),.ok (.fn 8 zMlp3 9),.fp 11 (EAkR 8) zMlp4,.ok (.fn 8 zMlp4 0),.ok (.fn 8 zMlp4 1),.ok (.fn 8 zMlp4 2),.ok (.fn 8 zMlp4 3),.ok (.fn 8 zMlp4 4),.ok (.fn 8 zMlp4 5),.ok (.fn 8 zMlp4 6),.ok (.fn 8 zMlp4 9),.fp 12 (EMk 9) zMlp3,.ok (.fn 9 zMlp3 0),.ok (.fn 9 zMlp3 1),.ok (.fn 9 zMlp3 2),.ok (.fn 9 zMlp3 3),.ok (.fn 9 zMlp3 4),.ok (.fn 9 zMlp3 5),.ok (.fn 9 zMlp3 6),.ok (.fn 9 zMlp3 7),.ok (.fn 9 zMlp3 8),.ok (.fn 9 zMlp3 10),.fp 12 (EMk 9) zMlp4,.ok (.fn 9 zMlp4 0),.ok (.fn 9 zMlp4 1),.ok (.fn 9 zMlp4 2),.ok (.fn 9 zMlp4 3),.ok (.fn 9 zMlp4 4),.ok (.fn 9 zMlp4 5),.ok (.fn 9 zMlp4 6),.ok (.fn 9 zMlp4 7),.ok (.fn 9 zMlp4 8),.ok (.fn 9 zMlp4 10),.fn 15 (EPa 2) z1,Zth,.fn 15 (EPa 2) z2,Ztg,.ok zMlp6,.is zMlp6 (.bool false),.fn 17 (ESa 6) z3,.is (.fn 6 z3 0) (.bool false),.fn 21 (EPt 3) z4,Ztf,.fn 21 (EPt 3) z5,Zte,.ok zMlp7,.is zMlp7 (.bool false),.ok zMlp1,.is zMlp1 (.bool false),.fn 17 (ESa 6) z6,Ztd,.ok zMlp9],[zMlp9]):=by kernel_rfl
def ELaw (k:Nat):FnE:={ k:=k,ins:=[none,none],leaks:=[true,true],outs:=[none],kinds:=[.truth] }
def RL (ps qs:List PV):Prop:=∃ p r:List Nat,(∀ b ∈ p,b < 256)/\(∀ b ∈ r,b < 256)/\p.length<=9223372036854775807/\r.length<=9223372036854775807/\ps=[pRow encU p,pRow encU r]/\qs=[pB true]
theorem fL:∀ ps q1 q2,RL ps q1->RL ps q2->q1=q2:=by
 rintro ps q1 q2 ⟨_,_,_,_,_,_,_,rfl⟩ ⟨_,_,_,_,_,_,_,rfl⟩;rfl
theorem lenU (a:List Nat):lenPV (pRow encU a)=some (pI (a.length:Int)):=Zaq ..
theorem same9 (x1 x2 x3 x4 x5 x6 x7 x8 y1 y2 y3 y4 y5 y6 y7 y8:Int) (x9 y9:ByteArray):ropPV .allB [pB (x1 == y1),pB (x2 == y2),pB (x3 == y3),pB (x4 == y4),pB (x5 == y5),pB (x6 == y6),pB (x7 == y7),pB (x8 == y8),pB (x9.toList == y9.toList)]=some (pB (decide ((⟨x1,x2,x3,x4,x5,x6,x7,x8,x9⟩:TellM)=⟨y1,y2,y3,y4,y5,y6,y7,y8,y9⟩))):=by
 rw [all9]
 congr 3
 rw [Bool.eq_iff_iff]
 simp only [Bool.and_eq_true,beq_iff_eq,decide_eq_true_eq,TellM.mk.injEq,and_true]
 exact ⟨fun ⟨a,b,c,d,e,f,g,h,i⟩=>⟨a,b,c,d,e,f,g,h,mws.tl_injW i⟩,fun ⟨a,b,c,d,e,f,g,h,i⟩=>⟨a,b,c,d,e,f,g,h,by rw [i]⟩⟩
theorem put_same {a b:AskM} (ha:mayA a=true) (hb:mayA b=true):decide (putA a=putA b)=decide (a=b):=by
 rw [Bool.eq_iff_iff];simp only [decide_eq_true_eq]
 exact ⟨putA_inj ha hb,fun h=>by rw [h]⟩
theorem putT_same {a b:TellM} (ha:mayT a=true) (hb:mayT b=true):decide (putT a=putT b)=decide (a=b):=by
 rw [Bool.eq_iff_iff];simp only [decide_eq_true_eq]
 exact ⟨putT_inj ha hb,fun h=>by rw [h]⟩
set_option maxHeartbeats 4000000 in
theorem told (k:Nat):ToldF 6 (ELaw k) (spec RL):=by
 refine Zfv G _ (Zam Try.prog 6) Try.func6 (by kernel_rfl) shL (by kernel_rfl) ?_ ?_
 ·intro ps qs h
  obtain ⟨p,r,_,_,_,_,rfl,rfl⟩:=Zaf h
  exact Za6 rfl
 ·intro C ps qs hF h a w hsh
  obtain ⟨p,r,hp,hr,hpl,hrl,rfl,rfl⟩:=Zaf h
  clear h
  show wpL Try.prog flL _ a w
  rw [<- List.append_nil flL]
  have g1:=G1
  have l1:=lenU p
  have l2:=lenU r
  by_cases c1:20 < p.length
  ·have d1:(20:Int) < (p.length:Int):=by omega
   refine Zad names_ok mixed_ok Zg5 q1 hsh ?_ (fun qs a1 wd hq hx=>⟨nofun,fun _=>⟨.inr rfl,shLR,_,[SX.var 0],hx,by kernel_rfl,by simp [evs,SX.ev] at hq;subst hq;rfl⟩⟩)
   simp [-Zac,Zab,Zaa,Base.ev,SX.ev,evs,Value.oneCell',hF,binPV,g1,l1,l2,d1,mlw.u1]
  have d1:¬ (20:Int) < (p.length:Int):=by omega
  by_cases c2:20 < r.length
  ·have d2:(20:Int) < (r.length:Int):=by omega
   refine Zad names_ok mixed_ok Zg5 q2 hsh ?_ (fun qs a1 wd hq hx=>⟨nofun,fun _=>⟨.inr rfl,shLR,_,[SX.var 0],hx,by kernel_rfl,by simp [evs,SX.ev] at hq;subst hq;rfl⟩⟩)
   simp [-Zac,Zab,Zaa,Base.ev,SX.ev,evs,Value.oneCell',hF,binPV,g1,l1,l2,d1,d2,mlw.u1]
  have d2:¬ (20:Int) < (r.length:Int):=by omega
  have g8:=G8z (ok0 (by omega) hp)
  have g8':=G8z (ok0 (by omega) hr)
  have g9:=G9z (ok0 (by omega) hp)
  have g9':=G9z (ok0 (by omega) hr)
  have hx:=Zlo p 0
  have hx':=Zlo r 0
  have hy:=Znq p 0
  have hy':=Znq r 0
  generalize (mkA p 0).2=n8 at *
  generalize (mkA r 0).2=n8' at *
  generalize (mkT p 0).2=n9 at *
  generalize (mkT r 0).2=n9' at *
  generalize (mkA p 0).1=x at *
  generalize (mkA r 0).1=x' at *
  generalize (mkT p 0).1=y at *
  generalize (mkT r 0).1=y' at *
  have g2:=G2 hx
  have g2':=G2 hx'
  have g3:=G3 hy
  have g3':=G3 hy'
  have g6:=G6 hx hx'
  have g6':=G6 hx hx
  have s1:=Zgm (putA x)
  have s1':=Zgm (putA x')
  have s2:=Zgm (putT y)
  have s2':=Zgm (putT y')
  have e1:=eqY (putA x) (putA x')
  have e2:=eqY (putT y) (putT y')
  rw [put_same hx hx'] at e1
  rw [putT_same hy hy'] at e2
  rw [decide_eq_true rfl] at g6'
  have kA:x ≠ x'->¬ putA x=putA x':=fun h h'=>h (putA_inj hx hx' h')
  have kT:y ≠ y'->¬ putT y=putT y':=fun h h'=>h (putT_inj hy hy' h')
  clear hx hx' hy hy'
  by_cases cA:x=x'
  ·subst cA
   clear kA
   rw [decide_eq_true rfl] at e1 g6
   clear g2' s1'
   generalize putA x=PA at *
   by_cases cT:y=y'
   ·subst cT
    clear kT
    rw [decide_eq_true rfl] at e2
    clear g3' s2'
    generalize putT y=PT at *
    obtain ⟨x1,x2,x3,x4,x5,x6,x7,ws⟩:=x
    obtain ⟨y1,y2,y3,y4,y5,y6,y7,y8,y9⟩:=y
    have e3:ropPV .allB [pB true,pB true,pB true,pB true,pB true,pB true,pB true,pB true,pB true]=some (pB true):=rfl
    simp only [aP,tP,List.cons_append,List.nil_append] at *
    refine Zad names_ok mixed_ok Zg5 ree hsh ?_ (fun qs a1 wd hq hx=>⟨nofun,fun _=>⟨.inr rfl,shLR,_,[SX.var 0],hx,by kernel_rfl,by simp [evs,SX.ev] at hq;subst hq;rfl⟩⟩)
    simp [-Zac,Zab,Zaa,Base.ev,SX.ev,evs,Value.oneCell',z1,z2,z3,z4,z5,z6,hF,binPV,eqI_v,eqS_v,g1,l1,l2,d1,d2,g8,g8',g9,g9',g2,g3,g6,g6',s1,s2,e1,e2,e3,mlw.u1,mlw.u2,mlw.u3,mlw.u6,mlw.u8,mlw.u9]
   ·have qT:=kT cT
    clear kT
    rw [decide_eq_false cT] at e2
    generalize putT y=PT at *
    generalize putT y'=PT' at *
    obtain ⟨x1,x2,x3,x4,x5,x6,x7,ws⟩:=x
    obtain ⟨y1,y2,y3,y4,y5,y6,y7,y8,y9⟩:=y
    obtain ⟨u1,u2,u3,u4,u5,u6,u7,u8,u9⟩:=y'
    have e3:=same9 y1 y2 y3 y4 y5 y6 y7 y8 u1 u2 u3 u4 u5 u6 u7 u8 y9 u9
    rw [decide_eq_false cT] at e3
    simp only [aP,tP,List.cons_append,List.nil_append] at *
    refine Zad names_ok mixed_ok Zg5 ren hsh ?_ (fun qs a1 wd hq hx=>⟨nofun,fun _=>⟨.inr rfl,shLR,_,[SX.var 0],hx,by kernel_rfl,by simp [evs,SX.ev] at hq;subst hq;rfl⟩⟩)
    simp [-Zac,Zab,Zaa,Base.ev,SX.ev,evs,Value.oneCell',z1,z2,z3,z4,z5,z6,hF,binPV,eqI_v,eqS_v,g1,l1,l2,d1,d2,g8,g8',g9,g9',g2,g3,g3',g6,g6',s1,s2,s2',e1,e2,e3,mlw.u1,mlw.u2,mlw.u3,mlw.u6,mlw.u8,mlw.u9]
    exact qT
  ·have qA:=kA cA
   clear kA
   rw [decide_eq_false cA] at e1 g6
   generalize putA x=PA at *
   generalize putA x'=PA' at *
   by_cases cT:y=y'
   ·subst cT
    clear kT
    rw [decide_eq_true rfl] at e2
    clear g3' s2'
    generalize putT y=PT at *
    obtain ⟨x1,x2,x3,x4,x5,x6,x7,ws⟩:=x
    obtain ⟨v1,v2,v3,v4,v5,v6,v7,us⟩:=x'
    obtain ⟨y1,y2,y3,y4,y5,y6,y7,y8,y9⟩:=y
    have e3:ropPV .allB [pB true,pB true,pB true,pB true,pB true,pB true,pB true,pB true,pB true]=some (pB true):=rfl
    simp only [aP,tP,List.cons_append,List.nil_append] at *
    refine Zad names_ok mixed_ok Zg5 rne hsh ?_ (fun qs a1 wd hq hx=>⟨nofun,fun _=>⟨.inr rfl,shLR,_,[SX.var 0],hx,by kernel_rfl,by simp [evs,SX.ev] at hq;subst hq;rfl⟩⟩)
    simp [-Zac,Zab,Zaa,Base.ev,SX.ev,evs,Value.oneCell',z1,z2,z3,z4,z5,z6,hF,binPV,eqI_v,eqS_v,g1,l1,l2,d1,d2,g8,g8',g9,g9',g2,g2',g3,g6,g6',s1,s1',s2,e1,e2,e3,mlw.u1,mlw.u2,mlw.u3,mlw.u6,mlw.u8,mlw.u9]
    exact qA
   ·have qT:=kT cT
    clear kT
    rw [decide_eq_false cT] at e2
    generalize putT y=PT at *
    generalize putT y'=PT' at *
    obtain ⟨x1,x2,x3,x4,x5,x6,x7,ws⟩:=x
    obtain ⟨v1,v2,v3,v4,v5,v6,v7,us⟩:=x'
    obtain ⟨y1,y2,y3,y4,y5,y6,y7,y8,y9⟩:=y
    obtain ⟨u1,u2,u3,u4,u5,u6,u7,u8,u9⟩:=y'
    have e3:=same9 y1 y2 y3 y4 y5 y6 y7 y8 u1 u2 u3 u4 u5 u6 u7 u8 y9 u9
    rw [decide_eq_false cT] at e3
    simp only [aP,tP,List.cons_append,List.nil_append] at *
    refine Zad names_ok mixed_ok Zg5 rnn hsh ?_ (fun qs a1 wd hq hx=>⟨nofun,fun _=>⟨.inr rfl,shLR,_,[SX.var 0],hx,by kernel_rfl,by simp [evs,SX.ev] at hq;subst hq;rfl⟩⟩)
    simp [-Zac,Zab,Zaa,Base.ev,SX.ev,evs,Value.oneCell',z1,z2,z3,z4,z5,z6,hF,binPV,eqI_v,eqS_v,g1,l1,l2,d1,d2,g8,g8',g9,g9',g2,g2',g3,g3',g6,g6',s1,s1',s2,s2',e1,e2,e3,mlw.u1,mlw.u2,mlw.u3,mlw.u6,mlw.u8,mlw.u9]
    exact ⟨qA,qT⟩
theorem walk (w:World) (v1:Value) (len1:Nat) (Z1:Nat->Int) (hg1:IsRow .u8 w v1 len1 Z1) (v2:Value) (len2:Nat) (Z2:Nat->Int) (hg2:IsRow .u8 w v2 len2 Z2) :
  Calls Try.prog 6 #[v1,v2] w fun e w'=>e=.returned (.bool true)/\Ex w w':=by
 obtain ⟨p,hp,hpl,hr1⟩:=rowU hg1
 obtain ⟨r,hr,hrl,hr2⟩:=rowU hg2
 refine told_true (told 0) rfl (us:=[v1,v2]) (ps:=[pRow encU p,pRow encU r]) (Zah fL ⟨p,r,hp,hr,hpl,hrl,rfl,rfl⟩) rfl rfl (fun i p u hp hu=>?_)
 match i,hp,hu with
 | 0,hp,hu=>simp at hp hu;subst hp;subst hu;exact hr1
 | 1,hp,hu=>simp at hp hu;subst hp;subst hu;exact hr2
 | i+2,hp,hu=>simp at hp
end Go.Proofs.Ytnomiffghidmbaa.msgApart
