/- Marks: package mark, and the document's Zcn, told. -/
import Derived.Test.YtpnegheknjeljaaGreatMkb
namespace Go.Proofs.YtpnegheknjeljaaGreat.sta
open Go Go.RowKit eng SX Fact fil
set_option linter.unusedVariables false
set_option linter.unusedSimpArgs false
set_option maxRecDepth 1000000

def isIx:Op->Bool | .indexAddr ..=>true | .makeSlice ..=>true | _=>false
def hOut (g:FuncId) (f:FuncId) (o:Oper):Option Hint:=cond (isApp o.op) (some .own) (cond (Nat.beq f g && isIx o.op) (some .out) none)
def ENewM (k:Nat):FnE:={ k:=k,ins:=[none],leaks:=[],outs:=[none],kinds:=[.row] }
def ESmM (k:Nat):FnE:={ k:=k,ins:=[none,none],leaks:=[false,false],outs:=[none],kinds:=[.truth] }
@[simp] def zGreatMka1:SX:=rop (ROp.rep [.int .i64 0,.int .i64 0,.int .i64 0,.int .i64 0]) [.var 0]
@[simp] def zGreatMka2:SX:=.bin .gtr (.var 0) (.con (.int .i64 67108863))
@[simp] def zGreatMka3:Fact:=.is (.bin .lss (.conv .i64 (.var 0)) (.con (.int .i64 0))) (.bool true)
theorem n1:runTo Tryz.prog fil.noOrc 10000 85 (ENewM 1) [.num] [0] (hOut 127)=some ([.ok (.var 0),.ok zGreatMka2,.is zGreatMka2 (.bool false),.is (.bin .lss (.var 0) (.con (.int .i64 0))) (.bool true),zGreatMka3,zGreatMka3],[.lit 0 []]):=by kernel_rfl
def m0:MarkM:=(0,0,0,0)
@[simp] theorem kNewM (k:Nat):(ENewM k).k=k:=rfl
@[simp] theorem kSmM (k:Nat):(ESmM k).k=k:=rfl


theorem Zrs (l:List MarkM) (i:Nat) (h:i < l.length):Zc1 (pRow encM l) (pI (i:Int)) 4 0=some (pI l[i].1)/\Zc1 (pRow encM l) (pI (i:Int)) 4 1=some (pI l[i].2.1)/\Zc1 (pRow encM l) (pI (i:Int)) 4 2=some (pI l[i].2.2.1)/\Zc1 (pRow encM l) (pI (i:Int)) 4 3=some (pI l[i].2.2.2):=by
 have h2:l[i]?=some l[i]:=List.getElem?_eq_getElem h
 refine ⟨?_,?_,?_,?_⟩
 ·rw [Zbe encM l i .i64 4 0 rfl h,Zco encM l i 0 _ h2 (by decide)];rfl
 ·rw [Zbe encM l i .i64 4 1 rfl h,Zco encM l i 1 _ h2 (by decide)];rfl
 ·rw [Zbe encM l i .i64 4 2 rfl h,Zco encM l i 2 _ h2 (by decide)];rfl
 ·rw [Zbe encM l i .i64 4 3 rfl h,Zco encM l i 3 _ h2 (by decide)];rfl
end Go.Proofs.YtpnegheknjeljaaGreat.sta
