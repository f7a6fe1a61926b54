/- Marks: package mark, and the document's Zbz, told. -/
import Derived.Test.YtonebjgdhachcaaMkb
namespace Go.Proofs.Ytonebjgdhachcaa.sta
open Go Go.RowKit eng SX Fact fil
set_option linter.unusedVariables false
set_option linter.unusedSimpArgs false
set_option maxRecDepth 1000000

def isIx:Op->Bool | .indexAddr ..=>true | .makeSlice ..=>true | _=>false
def hOut (g:FuncId) (f:FuncId) (o:Oper):Option Hint:=cond (isApp o.op) (some .own) (cond (Nat.beq f g && isIx o.op) (some .out) none)
def ENewM (k:Nat):FnE:={ k:=k,ins:=[none],leaks:=[],outs:=[none],kinds:=[.row] }
def ESmM (k:Nat):FnE:={ k:=k,ins:=[none,none],leaks:=[false,false],outs:=[none],kinds:=[.truth] }
@[simp] def zMka1:SX:=.bin .add (.con (.int .i64 0)) (.len (.var 0))
@[simp] def zMka2:SX:=.con (.int .i64 0)
@[simp] def zMka3:SX:=.bin .sub (.var 1) (.con (.int .i64 1))
@[simp] def zMka4:SX:=.len (rop (ROp.rep [.int .i64 0,.int .i64 0,.int .i64 0,.int .i64 0]) [.bin .sub zMka1 zMka2])
@[simp] def zMka5:SX:=rop ROp.cat [.lit 0 [],.var 0]
@[simp] def zMka6:Fact:=.is (.bin .lss zMka1 zMka2) (.bool false)
@[simp] def zMka7:SX:=.bin .sub zMka1 zMka2
@[simp] def zMka8:Fact:=.ok (.bin .lss zMka1 zMka2)
@[simp] def zMka9:SX:=rop (ROp.rep [.int .i64 0,.int .i64 0,.int .i64 0,.int .i64 0]) [.var 0]
@[simp] def Zqi:SX:=.bin .gtr (.var 0) (.con (.int .i64 67108863))
@[simp] def Zqh:SX:=.bin .leq (.var 2) (.cell (.var 0) zMka3 4 0)
@[simp] def Zno:SX:=.bin .gtr zMka7 zMka2
@[simp] def Zqg:Fact:=same zMka2 (.len (.lit 0 []))
@[simp] def Zqf:Fact:=upto (.len zMka5) 4294967296
@[simp] def zMka15:SX:=rop (ROp.upd 4 0) [zMka5,zMka3,.var 2,.var 3,.var 4,.var 5]
@[simp] def Znn:Fact:=.ok (.len (.var 0))
@[simp] def Zqe:Fact:=.is Zno (.bool true)
@[simp] def zMka18:Fact:=.is (.bin .lss (.conv .i64 (.var 0)) zMka2) (.bool true)
@[simp] def Zsl:Fact:=same (.len zMka5) (.len zMka5)
theorem n0:runTo Try.prog fil.noOrc 10000 68 (ENewM 1) [.num] [0] hApp=some ([.ok (.var 0),.ok Zqi,.is Zqi (.bool false),same (.var 0) (.var 0),upto (.var 0) 4294967296,same (.len zMka9) (.len zMka9)],[zMka9]):=by kernel_rfl
theorem n1:runTo Try.prog fil.noOrc 10000 68 (ENewM 1) [.num] [0] (hOut 110)=some ([.ok (.var 0),.ok Zqi,.is Zqi (.bool false),.is (.bin .lss (.var 0) zMka2) (.bool true),zMka18,zMka18],[.lit 0 []]):=by kernel_rfl
theorem q0:runTo Try.prog fil.noOrc 10000 94 (EPutM 1) [.row,.num,.num,.num,.num,.num] [0,0,0,1,1] hApp=some ([.ok (.var 1),.ok (.var 2),.ok (.var 3),.ok (.var 4),.ok (.var 5),.ok zMka3,.idx (.var 0) zMka3 4 4,.idx (.var 0) zMka3 4 1,.ok (.cell (.var 0) zMka3 4 0),.ok Zqh,.is Zqh (.bool false),Znn,.ok zMka1,zMka8,zMka6,zMka8,zMka6,.ok zMka7,.ok Zno,Zqe,upto zMka7 4294967296,rng zMka2 zMka4,upto zMka4 4294967296,cells (.var 0) 4,Zqg,Zqf,.ok zMka3,rng zMka3 (.len zMka5),.idx zMka5 zMka3 4 4,same (.len zMka5) (.len zMka15)],[zMka15]):=by kernel_rfl
theorem q1:runTo Try.prog fil.noOrc 10000 94 (EPutM 1) [.row,.num,.num,.num,.num,.num] [1,0,0,1,1] hApp=some ([.ok (.var 1),.ok (.var 2),.ok (.var 3),.ok (.var 4),.ok (.var 5),.ok zMka3,.idx (.var 0) zMka3 4 4,.idx (.var 0) zMka3 4 1,.ok (.cell (.var 0) zMka3 4 0),.ok Zqh,.is Zqh (.bool true),Znn,.ok zMka1,zMka8,zMka6,zMka8,zMka6,.ok zMka7,.ok Zno,Zqe,upto zMka7 4294967296,rng zMka2 zMka4,upto zMka4 4294967296,cells (.var 0) 4,Zqg,Zqf,Zsl],[zMka5]):=by kernel_rfl
theorem q2:runTo Try.prog fil.noOrc 10000 94 (EPutM 1) [.row,.num,.num,.num,.num,.num] [0,0,0,1,1] (hOut 127)=some ([.ok (.var 1),.ok (.var 2),.ok (.var 3),.ok (.var 4),.ok (.var 5),.ok zMka3,Znn,.is (.bin .lss zMka3 zMka2) (.bool true),Znn,.ok zMka1,zMka8,zMka6,zMka8,zMka6,.ok zMka7,.ok Zno,Zqe,upto zMka7 4294967296,rng zMka2 zMka4,upto zMka4 4294967296,cells (.var 0) 4,Zqg,Zqf,Zsl],[zMka5]):=by kernel_rfl
theorem q3:runTo Try.prog fil.noOrc 10000 94 (EPutM 1) [.row,.num,.num,.num,.num,.num] [1,0,0,1,1] (hOut 127)=some ([.ok (.var 1),.ok (.var 2),.ok (.var 3),.ok (.var 4),.ok (.var 5),.ok zMka3,.is (.bin .geq zMka3 (.len (.var 0))) (.bool true),Znn,.ok zMka1,zMka8,zMka6,zMka8,zMka6,.ok zMka7,.ok Zno,Zqe,upto zMka7 4294967296,rng zMka2 zMka4,upto zMka4 4294967296,cells (.var 0) 4,Zqg,Zqf,Zsl],[zMka5]):=by kernel_rfl
def m0:MarkM:=(0,0,0,0)
@[simp] theorem kNewM (k:Nat):(ENewM k).k=k:=rfl
@[simp] theorem kSmM (k:Nat):(ESmM k).k=k:=rfl

def RNewM (ps qs:List PV):Prop:=∃ n:Int,-9223372036854775808<=n/\n<=1000/\ps=[pI n]/\qs=[pRow encM (List.replicate n.toNat m0)]

theorem Zkn (l:List MarkM) (i:Nat) (h:i < l.length):Zbh (pRow encM l) (pI (i:Int)) 4 0=some (pI l[i].1)/\Zbh (pRow encM l) (pI (i:Int)) 4 1=some (pI l[i].2.1)/\Zbh (pRow encM l) (pI (i:Int)) 4 2=some (pI l[i].2.2.1)/\Zbh (pRow encM l) (pI (i:Int)) 4 3=some (pI l[i].2.2.2):=by
 have h2:l[i]?=some l[i]:=List.getElem?_eq_getElem h
 refine ⟨?_,?_,?_,?_⟩
 ·rw [Za3 encM l i .i64 4 0 rfl h,Zbj encM l i 0 _ h2 (by decide)];rfl
 ·rw [Za3 encM l i .i64 4 1 rfl h,Zbj encM l i 1 _ h2 (by decide)];rfl
 ·rw [Za3 encM l i .i64 4 2 rfl h,Zbj encM l i 2 _ h2 (by decide)];rfl
 ·rw [Za3 encM l i .i64 4 3 rfl h,Zbj encM l i 3 _ h2 (by decide)];rfl
def RPutP (ps qs:List PV):Prop:=∃ (l:List MarkM) (c:Int) (m:MarkM),1<=l.length/\l.length<=1000000/\-9223372036854775808<=c/\c<=9223372036854775807/\ps=[pRow encM l,pI c,pI m.1,pI m.2.1,pI m.2.2.1,pI m.2.2.2]/\qs=[pRow encM (putMk l c m)]
end Go.Proofs.Ytonebjgdhachcaa.sta
