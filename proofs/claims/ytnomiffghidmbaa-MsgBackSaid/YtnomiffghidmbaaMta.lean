/- The document's TakeAsk: its runs. -/
import Derived.Test.YtnomiffghidmbaaMpa
import Derived.Test.YtnomiffghidmbaaFroA
namespace Go.Proofs.Ytnomiffghidmbaa.mta
open Go Go.RowKit eng SX Fact fil ima msm
open fileFronts (Zac Zfg)
open mws (tl_injW aP Zfi)
open mrd (ENr ETr RNr Zuc RTr Zua rbox)
open mas (EMa RMa fMa Zuf AOk)
open mpa (EPa RPa fPa toldPa)

open pck (wbox)
open bip (pBy_inj)
set_option linter.unusedVariables false
set_option linter.unusedSimpArgs false
set_option maxRecDepth 1000000
def ETa (k:Nat):FnE:={ k:=k,ins:=[none],leaks:=[true],outs:=[some 8,none],kinds:=[.num,.num,.num,.num,.num,.num,.num,.own 49 2 true,.truth] }
def tabT (f:FuncId):Option FnE:=cond (Nat.beq f 14) (some (EMa 1)) (cond (Nat.beq f 16) (some (EPa 2)) none)
def tabTP (f:FuncId):Option PtrE:=cond (Nat.beq f 52) (some (ENr 3)) (cond (Nat.beq f 53) (some (ETr 4)) none)
def orcT:Orc:=orcOr (orcFn tabT) (orcP tabTP)
def isApp (o:Op):Bool:=match o with | .call c=>(match c.callee with | .builtin .append=>true | _=>false) | _=>false
def hTa (_:FuncId) (o:Oper):Option Hint:=cond (isApp o.op) (some .own) none
noncomputable def flT:=flat (Zam Try.prog 24)
noncomputable def lpT:=flat (Zar (nth flT 10))
def rb:BoxT:=⟨77,0,false,[.leaf,.leaf],none,false⟩
def anil:BoxT:=⟨24,0,false,[.leaf,.leaf,.leaf,.leaf,.leaf,.leaf,.leaf,.nil],none,false⟩
def aown (j k:Nat):BoxT:=⟨24,0,false,[.leaf,.leaf,.leaf,.leaf,.leaf,.leaf,.leaf,.own j k 2],none,false⟩
def shT:Shape:=⟨[(0,.leaf)],[],[some true],76,24⟩
def shTn:Shape:=⟨[(0,.leaf),(2,.ptr 0 0 0 0),(4,.ptr 1 0 0 0),(5,.ptr 2 0 0 0),(6,.leaf)],[anil,rb,anil],[some true,none,none,none,none,none,none,none,none,some true,none,none,none,none,none,none,none,none],76,24⟩
def shTo:Shape:=⟨[(0,.leaf),(2,.ptr 0 0 0 0),(4,.ptr 1 0 0 0),(5,.ptr 2 0 0 0),(6,.leaf)],[anil,rb,aown 3 18,wbox 18],[some true,none,none,none,none,none,none,none,none,some true,none,none,none,none,none,none,none,none],76,24⟩
def shRn:Shape:=⟨[(2,.ptr 0 0 0 0),(3,.leaf)],[anil],[none,none,none,none,none,none,none,none],76,24⟩
def shRo:Shape:=⟨[(2,.ptr 0 0 0 0),(3,.leaf)],[aown 1 8,wbox 8],[none,none,none,none,none,none,none,none],76,24⟩
def z1:List SX:=[.con (.int .i64 1),.fn 3 [.con (.int .i64 1),.var 0,.con (.bool false)] 1,.fn 3 [.con (.int .i64 1),.var 0,.con (.bool false)] 2]
def z2:List SX:=[.con (.int .i64 4),.fn 3 z1 1,.fn 3 z1 2]
def z3:List SX:=[.con (.int .i64 4),.fn 3 z2 1,.fn 3 z2 2]
def z4:List SX:=[.fn 3 z3 1,.fn 3 z3 2]
def z5:List SX:=[.con (.int .i64 1),.fn 4 z4 1,.fn 4 z4 2]
def z6:List SX:=[.con (.int .i64 1),.fn 3 z5 1,.fn 3 z5 2]
def z7:List SX:=[.con (.int .i64 1),.fn 3 z6 1,.fn 3 z6 2]
def z8:List SX:=[.fn 3 [.con (.int .i64 1),.var 9,.var 10] 1,.fn 3 [.con (.int .i64 1),.var 9,.var 10] 2]
@[simp] def zMta1:SX:=.lit 1 [.fn 3 [.con (.int .i64 1),.var 9,.var 10] 0,.fn 4 z8 0]
@[simp] def zMta2:SX:=.bin .gtr (.var 1) (.con (.int .i64 0))
@[simp] def zMta3:SX:=.bin .sub (.var 1) (.con (.int .i64 1))
@[simp] def zMta4:List SX:=[.con (.int .i64 1),.var 9,.var 10]
@[simp] def zMta5:SX:=rop ROp.cat [.var 18,zMta1]
theorem xn0:segTo Try.prog orcT 10000 lpT shTn [0] shTn [(0,0),(1,0),(2,0)] hTa=some (.exit 0,[.ok zMta2,.is zMta2 (.bool false),.ok (.var 1),.ok (.var 2),.ok (.var 3),.ok (.var 4),.ok (.var 5),.ok (.var 6),.ok (.var 7),.ok (.var 8),.ok (.var 10),.ok (.var 11),.ok (.var 12),.ok (.var 13),.ok (.var 14),.ok (.var 15),.ok (.var 16),.ok (.var 17)],[.var 0,.var 1,.var 2,.var 3,.var 4,.var 5,.var 6,.var 7,.var 8,.var 9,.var 10,.var 11,.var 12,.var 13,.var 14,.var 15,.var 16,.var 17]):=by kernel_rfl
theorem xo0:segTo Try.prog orcT 10000 lpT shTo [0] shTo [(0,0),(1,0),(2,0),(3,0)] hTa=some (.exit 0,[.ok zMta2,.is zMta2 (.bool false),.ok (.var 1),.ok (.var 2),.ok (.var 3),.ok (.var 4),.ok (.var 5),.ok (.var 6),.ok (.var 7),.ok (.var 8),.ok (.var 10),.ok (.var 11),.ok (.var 12),.ok (.var 13),.ok (.var 14),.ok (.var 15),.ok (.var 16),.ok (.var 17),same (.len (.var 18)) (.len (.var 18))],[.var 0,.var 1,.var 2,.var 3,.var 4,.var 5,.var 6,.var 7,.var 8,.var 9,.var 10,.var 11,.var 12,.var 13,.var 14,.var 15,.var 16,.var 17,.var 18]):=by kernel_rfl
theorem gn:segTo Try.prog orcT 10000 lpT shTn [1,0] shTo [(0,0),(1,0),(2,0),(9,0)] hTa=some (.normal,[.ok zMta2,.is zMta2 (.bool true),.is (.var 10) (.bool false),.fp 52 (ENr 3) zMta4,.ok (.fn 3 zMta4 0),.ok (.fn 3 zMta4 2),.fp 53 (ETr 4) z8,.ok (.fn 4 z8 0),.ok (.fn 4 z8 2),rng (.con (.int .i64 0)) (.len zMta1),upto (.len zMta1) 4294967296,.ok zMta3,.ok zMta3,.ok (.var 2),.ok (.var 3),.ok (.var 4),.ok (.var 5),.ok (.var 6),.ok (.var 7),.ok (.var 8),.ok (.fn 4 z8 2),.ok (.var 11),.ok (.var 12),.ok (.var 13),.ok (.var 14),.ok (.var 15),.ok (.var 16),.ok (.var 17),same (.len zMta1) (.len zMta1)],[.var 0,zMta3,.var 2,.var 3,.var 4,.var 5,.var 6,.var 7,.var 8,.fn 4 z8 1,.fn 4 z8 2,.var 11,.var 12,.var 13,.var 14,.var 15,.var 16,.var 17,zMta1]):=by kernel_rfl
theorem go:segTo Try.prog orcT 10000 lpT shTo [1,0] shTo [(0,0),(1,0),(2,0),(3,1)] hTa=some (.normal,[.ok zMta2,.is zMta2 (.bool true),.is (.var 10) (.bool false),.fp 52 (ENr 3) zMta4,.ok (.fn 3 zMta4 0),.ok (.fn 3 zMta4 2),.fp 53 (ETr 4) z8,.ok (.fn 4 z8 0),.ok (.fn 4 z8 2),same (.len (.var 18)) (.len (.var 18)),upto (.len zMta5) 4294967296,.ok zMta3,.ok zMta3,.ok (.var 2),.ok (.var 3),.ok (.var 4),.ok (.var 5),.ok (.var 6),.ok (.var 7),.ok (.var 8),.ok (.fn 4 z8 2),.ok (.var 11),.ok (.var 12),.ok (.var 13),.ok (.var 14),.ok (.var 15),.ok (.var 16),.ok (.var 17),same (.len zMta5) (.len zMta5)],[.var 0,zMta3,.var 2,.var 3,.var 4,.var 5,.var 6,.var 7,.var 8,.fn 4 z8 1,.fn 4 z8 2,.var 11,.var 12,.var 13,.var 14,.var 15,.var 16,.var 17,zMta5]):=by kernel_rfl
@[simp] theorem kTa (k:Nat):(ETa k).k=k:=rfl
@[simp] theorem kNr2 (k:Nat):(ENr k).k=k:=rfl
@[simp] theorem kTr2 (k:Nat):(ETr k).k=k:=rfl
@[simp] theorem kMa2 (k:Nat):(EMa k).k=k:=rfl
@[simp] theorem kPa2 (k:Nat):(EPa k).k=k:=rfl
noncomputable def FT:Fns:=fun k=>match k with | 1=>spec RMa | 2=>spec RPa | 3=>spec RNr | 4=>spec RTr | _=>fun _=>none
theorem q1:ToldF 14 (EMa 1) (FT 1):=Zuf 1
theorem q2:ToldF 16 (EPa 2) (FT 2):=toldPa 2
theorem q3:ToldP 52 (ENr 3) (FT 3):=Zuc 3
theorem q4:ToldP 53 (ETr 4) (FT 4):=Zua 4
theorem Zp0:OrcOk Try.prog orcT:=Zg4 (Zae tabT) (Zbn tabTP)
theorem rdN_byte (s:Rd):0<=(rdN s 1).1/\(rdN s 1).1 < 256:=by
 unfold rdN;split
 ·show (0:Int)<=0/\(0:Int) < 256
  decide
 ·have h0:=Ziz (s.1.take 1)
  have h1:=Zun (s.1.take 1)
  have h2:(256:Int) ^ (s.1.take 1).length<=256:=by
   have:(s.1.take 1).length<=1:=by simp;omega
   generalize (s.1.take 1).length=k at this
   match k,this with
   | 0,_=>decide
   | 1,_=>decide
   | k+2,h=>omega
  generalize num (s.1.take 1)=z at *
  generalize (256:Int) ^ (s.1.take 1).length=y at *
  exact ⟨by omega,by omega⟩
theorem Zak:PV.v (Value.string ⟨⟨[]⟩⟩)=pS e0:=rfl
theorem nilW:PV.row 0 []=pRow encW []:=rfl
theorem lit1 (o:Int) (s:ByteArray):PV.row 1 [pI o,pS s]=pRow encW [(o,s)]:=rfl
theorem cat2 (a b:List WrM):ropPV .cat [pRow encW a,pRow encW b]=some (pRow encW (a++b)):=by simp [ropPV,pRow,Enc.all]
theorem lenW (a:List WrM):lenPV (pRow encW a)=some (pI (a.length:Int)):=Zaq ..
def a0:AskM:=⟨0,0,0,0,e0,0,0,[]⟩
abbrev a7 (A:AskM):List PV:=[pI A.kind,pI A.frm,pI A.epoch,pI A.seq,pS A.name,pI A.file,pI A.mode]
theorem cutT:flT=flT.take 10++.block (Zay (nth flT 10)) (.loop (Zar (nth flT 10))) :: flT.drop 11:=by kernel_rfl
end Go.Proofs.Ytnomiffghidmbaa.mta
