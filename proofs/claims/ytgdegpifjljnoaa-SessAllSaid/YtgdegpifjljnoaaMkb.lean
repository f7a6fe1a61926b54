/- Marks: the document's PutMark, told. -/
import Derived.Test.YtgdegpifjljnoaaGrd
namespace Go.Proofs.Ytgdegpifjljnoaa.sta
open Go Go.RowKit eng SX Fact fil
set_option linter.unusedVariables false
set_option linter.unusedSimpArgs false
set_option maxRecDepth 1000000

def isApp:Op->Bool | .call { callee:=.builtin .append,.. }=>true | _=>false
def hApp (_:FuncId) (o:Oper):Option Hint:=cond (isApp o.op) (some .own) none
abbrev MarkM:=Int × Int × Int × Int
def encM:Enc MarkM:={ sz:=4,enc:=fun p=>[.int .i64 p.1,.int .i64 p.2.1,.int .i64 p.2.2.1,.int .i64 p.2.2.2],len:=fun _=>rfl,one:=fun _ u hu=>by simp at hu;rcases hu with rfl | rfl | rfl | rfl <;> rfl,pos:=by decide }
def EPutM (k:Nat):FnE:={ k:=k,ins:=[none,none,some 4],leaks:=[false,false,false,false,false,false],outs:=[none],kinds:=[.row] }
@[simp] theorem kPutM (k:Nat):(EPutM k).k=k:=rfl
theorem Zl1:∀ xs ys:List MarkM,encM.all xs=encM.all ys->xs=ys
 | [],[],_=>rfl
 | [],_ :: _,h=>by simp [Enc.all,encM] at h
 | _ :: _,[],h=>by simp [Enc.all,encM] at h
 | x :: xs,y :: ys,h=>by
  rw [Enc.all_cons,Enc.all_cons] at h
  obtain ⟨h1,h2⟩:=List.append_inj h (by rw [encM.len,encM.len])
  simp only [encM,List.cons.injEq,Value.int.injEq,true_and,and_true] at h1
  rw [Prod.ext h1.1 (Prod.ext h1.2.1 (Prod.ext h1.2.2.1 h1.2.2.2)),Zl1 xs ys h2]
end Go.Proofs.Ytgdegpifjljnoaa.sta
