/- What lasts behind each deed (package state): opened, flushed, gone, begun anew, new. -/
import Derived.Test.YtonebjgdhachcaaSmb
namespace Go.Proofs.Ytonebjgdhachcaa.sta
open Go Go.RowKit eng SX Fact fil fileFronts dirs pck may
open fileFronts
open pck hiding F F20 F21
open dirs hiding shR shRl shRR flR lpR cutR f0 f1 f2 f3 m0 m1 m2 x2 x3 n1
open may hiding m1 m2 m3 m4 r1 r2 r3 r4 r5
set_option linter.unusedVariables false
set_option linter.unusedSimpArgs false
set_option maxRecDepth 1000000

def fbo (k:Nat):BoxT:=⟨70,3,true,[],some k,false⟩
def mbo (k:Nat):BoxT:=⟨40,4,true,[],some k,false⟩
noncomputable def flCp:=flat (Zar Try.prog 60)
def ECp (k:Nat):FnE:={ k:=k,ins:=[some 3],leaks:=[false,false,false],outs:=[some 3],kinds:=[.own 70 3 false,.own 40 4 false,.num] }
def shCp:Shape:=⟨[(0,.agg 3)],[],[some false,some false,none],14,60⟩
def shCpR:Shape:=⟨[(2,.ptr 0 0 0 0)],[⟨30,0,false,[.own 1 1 3,.own 2 2 4,.leaf],none,false⟩,fbo 1,mbo 2],[none],14,60⟩
def tabOf (f:FuncId):Option FnE:=cond (Nat.beq f 96) (some (EFind 1)) (cond (Nat.beq f 95) (some (EName 7)) (cond (Nat.beq f 97) (some (ERoom 8)) (cond (Nat.beq f 94) (some (EPutM 9)) (cond (Nat.beq f 99) (some (EMay 10)) (cond (Nat.beq f 100) (some (EAll 11)) (cond (Nat.beq f 68) (some (ENewM 12)) (cond (Nat.beq f 60) (some (ECp 13)) none)))))))
def orcO:Orc:=orcOr (orcFn tabOf) (orcX tabNx)
@[simp] def zSop1:List SX:=[.var 0,.var 1,.var 2]
@[simp] def zSop2:SX:=.con (.int .i64 0)
@[simp] def zSop3:SX:=.bin .sub (.fn 1 [.fn 13 zSop1 0,.var 5] 0) (.con (.int .i64 1))
@[simp] def zSop4:SX:=.bin .add zSop2 (.len (.var 0))
@[simp] def zSop5:SX:=.bin .add zSop2 (.len (.var 1))
@[simp] def zSop6:SX:=.fn 13 zSop1 0
@[simp] def zSop7:List SX:=[.var 4,.con (.int .i64 1),.con (.int .i64 1073741824)]
@[simp] def zSop8:Fact:=same (.len (.fn 13 zSop1 1)) (.len (.fn 13 zSop1 1))
@[simp] def zSop9:SX:=.len (rop (ROp.rep [.string { data:={ toList:=[] } },.int .i64 0,.string { data:={ toList:=[] } }]) [.bin .sub zSop4 zSop2])
@[simp] def Zpo:List SX:=[.var 3,.con (.int .i64 1),.con (.int .i64 3)]
@[simp] def Zpn:List SX:=[zSop6,.fn 13 zSop1 1,.fn 13 zSop1 2]
@[simp] def Znf:Fact:=same (.len zSop6) (.len zSop6)
@[simp] def zSop13:SX:=.len (rop (ROp.rep [.int .i64 0,.int .i64 0,.int .i64 0,.int .i64 0]) [.bin .sub zSop5 zSop2])
@[simp] def zSop14:List SX:=[.fn 13 zSop1 1,.var 3,.var 4,zSop2,.fn 1 [zSop6,.var 5] 0,.cell zSop6 zSop3 3 1]
@[simp] def Zpm:SX:=rop ROp.cat [.lit 0 [],.var 0]
@[simp] def Zpl:SX:=rop ROp.cat [.lit 0 [],.var 1]
@[simp] def zSop17:List SX:=[.fn 13 zSop1 1,.var 3,.var 4,.con (.int .i64 1),zSop2,zSop2]
theorem cp:segTo Try.prog fil.noOrc 10000 flCp shCp [0,0,1,1,0,0,1,1] shCpR [(3,0),(5,2),(7,2)] hApp=some (.ret,[.ok (.len (.var 0)),.ok zSop4,.ok (.bin .lss zSop4 zSop2),.is (.bin .lss zSop4 zSop2) (.bool false),.ok (.bin .lss zSop4 zSop2),.is (.bin .lss zSop4 zSop2) (.bool false),.ok (.bin .sub zSop4 zSop2),.ok (.bin .gtr (.bin .sub zSop4 zSop2) zSop2),.is (.bin .gtr (.bin .sub zSop4 zSop2) zSop2) (.bool true),upto (.bin .sub zSop4 zSop2) 4294967296,rng zSop2 zSop9,upto zSop9 4294967296,cells (.var 0) 3,same zSop2 (.len (.lit 0 [])),upto (.len Zpm) 4294967296,.ok (.len (.var 1)),.ok zSop5,.ok (.bin .lss zSop5 zSop2),.is (.bin .lss zSop5 zSop2) (.bool false),.ok (.bin .lss zSop5 zSop2),.is (.bin .lss zSop5 zSop2) (.bool false),.ok (.bin .sub zSop5 zSop2),.ok (.bin .gtr (.bin .sub zSop5 zSop2) zSop2),.is (.bin .gtr (.bin .sub zSop5 zSop2) zSop2) (.bool true),upto (.bin .sub zSop5 zSop2) 4294967296,rng zSop2 zSop13,upto zSop13 4294967296,cells (.var 1) 4,same zSop2 (.len (.lit 0 [])),upto (.len Zpl) 4294967296,.ok (.var 2),same (.len Zpm) (.len Zpm),same (.len Zpl) (.len Zpl)],[.var 2,Zpm,Zpl]):=by kernel_rfl
theorem on:runTo Try.prog orcO 10000 13 (EOpen 14) [.row,.row,.num,.num,.num,.num] [0,0,0,0] hApp=some ([.ok (.var 2),.ok (.var 3),.ok (.var 4),.ok (.var 5),.fn 60 (ECp 13) zSop1,.ok (.fn 13 zSop1 2),Fact.fx 64 (EMb 5) ([pvS1,pvS2,pvS3]) Zpn,.is (.fn 5 Zpn 0) (.int .i64 0),Znf,zSop8,Fact.fx 107 (EFr 2) ([pvS3]) Zpo,.is (.fn 2 Zpo 0) (.int .i64 0),Fact.fx 107 (EFr 2) ([pvS3]) zSop7,.is (.fn 2 zSop7 0) (.int .i64 0),.fn 95 (EName 7) [.var 5],.is (.fn 7 [.var 5] 0) (.bool false),.fn 94 (EPutM 9) zSop17,zSop8,Znf],[zSop6,.fn 9 zSop17 0,.fn 13 zSop1 2,.var 4,.con (.int .i64 1),zSop2,zSop2]):=by kernel_rfl
theorem of:runTo Try.prog orcO 10000 13 (EOpen 14) [.row,.row,.num,.num,.num,.num] [0,0,0,1,1] hApp=some ([.ok (.var 2),.ok (.var 3),.ok (.var 4),.ok (.var 5),.fn 60 (ECp 13) zSop1,.ok (.fn 13 zSop1 2),Fact.fx 64 (EMb 5) ([pvS1,pvS2,pvS3]) Zpn,.is (.fn 5 Zpn 0) (.int .i64 0),Znf,zSop8,Fact.fx 107 (EFr 2) ([pvS3]) Zpo,.is (.fn 2 Zpo 0) (.int .i64 0),Fact.fx 107 (EFr 2) ([pvS3]) zSop7,.is (.fn 2 zSop7 0) (.int .i64 0),.fn 95 (EName 7) [.var 5],.is (.fn 7 [.var 5] 0) (.bool true),.fn 96 (EFind 1) [zSop6,.var 5],Znf,.ok (.fn 1 [zSop6,.var 5] 0),.is (.fn 1 [zSop6,.var 5] 1) (.bool true),.ok zSop3,rng zSop3 (.len zSop6),.idx zSop6 zSop3 3 2,.fn 94 (EPutM 9) zSop14,zSop8,Znf],[zSop6,.fn 9 zSop14 0,.fn 13 zSop1 2,.var 4,zSop2,.fn 1 [zSop6,.var 5] 0,.cell zSop6 zSop3 3 1]):=by kernel_rfl

@[simp] theorem kCpS (k:Nat):(ECp k).k=k:=rfl
def RCpS (ps qs:List PV):Prop:=∃ s:StM,1<=s.files.length/\s.files.length<=1000000/\1<=s.marks.length/\s.marks.length<=1000000/\ps=pSt s/\qs=pSt s
noncomputable def FP:Fns:=fun k=>match k with | 1=>spec RFind | 2=>spec RFr | 5=>spec RMb | 7=>spec RName | 8=>spec RRoom | 9=>spec RPutP | 10=>spec RMay | 11=>spec RAll | 12=>spec RNewM | 13=>spec RCpS | _=>fun _=>none
theorem pp1:ToldF 96 (EFind 1) (FP 1):=toldFind 1
theorem pp2:ToldX 107 (EFr 2) [pvS3] (FP 2):=toldFr 2
theorem MayS.pre {s:StM} (h:MayS s):MayPre s:=by
 refine ⟨by rw [h.fl];omega,by rw [h.ml];omega,fun f hf=>?_⟩
 obtain ⟨j,hj,rfl⟩:=List.getElem_of_mem hf
 rcases h.fv j hj with h0 | ⟨h1,_,_,h4⟩
 ·rw [Zmx h0];simp only [f00,e0];decide
 ·have:=(Zdr.1 h1).1
  simp only [dirs.okN,Bool.and_eq_true,decide_eq_true_eq] at this
  all_goals omega



end Go.Proofs.Ytonebjgdhachcaa.sta
