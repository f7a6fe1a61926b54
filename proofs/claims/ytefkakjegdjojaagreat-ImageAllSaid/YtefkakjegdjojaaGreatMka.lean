/- Marks: package mark, and the document's Zeo, told. -/
import Derived.Test.YtefkakjegdjojaaGreatMkb
namespace Go.Proofs.YtefkakjegdjojaaGreat.sta
open Go Go.RowKit eng SX Fact fil
set_option linter.unusedVariables false
set_option linter.unusedSimpArgs false
set_option maxRecDepth 1000000

def isIx:Op->Bool | .indexAddr ..=>true | .makeSlice ..=>true | _=>false
def hOut (g:FuncId) (f:FuncId) (o:Oper):Option Hint:=cond (isApp o.op) (some .own) (cond (Nat.beq f g && isIx o.op) (some .out) none)
def ENewM (k:Nat):FnE:={ k:=k,ins:=[none],leaks:=[],outs:=[none],kinds:=[.row] }
def ESmM (k:Nat):FnE:={ k:=k,ins:=[none,none],leaks:=[false,false],outs:=[none],kinds:=[.truth] }
@[simp] def Zsf:SX:=rop (ROp.rep [.int .i64 0,.int .i64 0,.int .i64 0,.int .i64 0]) [.var 0]
@[simp] def Zo8:SX:=.bin .gtr (.var 0) (.con (.int .i64 67108863))
@[simp] def zGreatMka3:Fact:=.is (.bin .lss (.conv .i64 (.var 0)) (.con (.int .i64 0))) (.bool true)
theorem n0:runTo Tryz.prog fil.noOrc 10000 112 (ENewM 1) [.num] [0] hApp=some ([.ok (.var 0),.ok Zo8,.is Zo8 (.bool false),same (.var 0) (.var 0),upto (.var 0) 4294967296,same (.len Zsf) (.len Zsf)],[Zsf]):=by kernel_rfl
theorem n1:runTo Tryz.prog fil.noOrc 10000 112 (ENewM 1) [.num] [0] (hOut 152)=some ([.ok (.var 0),.ok Zo8,.is Zo8 (.bool false),.is (.bin .lss (.var 0) (.con (.int .i64 0))) (.bool true),zGreatMka3,zGreatMka3],[.lit 0 []]):=by kernel_rfl
def m0:MarkM:=(0,0,0,0)
@[simp] theorem kNewM (k:Nat):(ENewM k).k=k:=rfl
@[simp] theorem kSmM (k:Nat):(ESmM k).k=k:=rfl

def RNewM (ps qs:List PV):Prop:=∃ n:Int,-9223372036854775808<=n/\n<=1000/\ps=[pI n]/\qs=[pRow encM (List.replicate n.toNat m0)]

theorem cellM4 (l:List MarkM) (i:Nat) (h:i < l.length):Zb8 (pRow encM l) (pI (i:Int)) 4 0=some (pI l[i].1)/\Zb8 (pRow encM l) (pI (i:Int)) 4 1=some (pI l[i].2.1)/\Zb8 (pRow encM l) (pI (i:Int)) 4 2=some (pI l[i].2.2.1)/\Zb8 (pRow encM l) (pI (i:Int)) 4 3=some (pI l[i].2.2.2):=by
 have h2:l[i]?=some l[i]:=List.getElem?_eq_getElem h
 refine ⟨?_,?_,?_,?_⟩
 ·rw [Zbb encM l i .i64 4 0 rfl h,Zce encM l i 0 _ h2 (by decide)];rfl
 ·rw [Zbb encM l i .i64 4 1 rfl h,Zce encM l i 1 _ h2 (by decide)];rfl
 ·rw [Zbb encM l i .i64 4 2 rfl h,Zce encM l i 2 _ h2 (by decide)];rfl
 ·rw [Zbb encM l i .i64 4 3 rfl h,Zce encM l i 3 _ h2 (by decide)];rfl
def RPutP (ps qs:List PV):Prop:=∃ (l:List MarkM) (c:Int) (m:MarkM),1<=l.length/\l.length<=1000000/\-9223372036854775808<=c/\c<=9223372036854775807/\ps=[pRow encM l,pI c,pI m.1,pI m.2.1,pI m.2.2.1,pI m.2.2.2]/\qs=[pRow encM (putMk l c m)]
end Go.Proofs.YtefkakjegdjojaaGreat.sta
