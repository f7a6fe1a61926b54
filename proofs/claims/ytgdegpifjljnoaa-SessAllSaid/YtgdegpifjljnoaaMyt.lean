/- Texts joined. -/
import Derived.Test.YtgdegpifjljnoaaMrd
import Derived.Test.YtgdegpifjljnoaaFroA
section
/- The document's num, SameWrites, SameAsk, told. -/
namespace Go.Proofs.Ytgdegpifjljnoaa.mws
open Go Go.RowKit eng SX Fact fil fileFronts ima msm
set_option linter.unusedVariables false
set_option linter.unusedSimpArgs false
set_option maxRecDepth 1000000
def ESx (k:Nat):FnE:={ k:=k,ins:=[none,none],leaks:=[false,false],outs:=[none],kinds:=[.truth] }
def ENu (k:Nat):FnE:={ k:=k,ins:=[none,none],leaks:=[false,false],outs:=[none],kinds:=[.truth] }
def ESa (k:Nat):FnE:={ k:=k,ins:=[some 8,some 8],leaks:=[false,false,false,false,false,false,false,false,false,false,false,false,false,false,false,false],outs:=[none],kinds:=[.truth] }
@[simp] theorem kSx (k:Nat):(ESx k).k=k:=rfl
@[simp] theorem kNu (k:Nat):(ENu k).k=k:=rfl
@[simp] theorem kSa (k:Nat):(ESa k).k=k:=rfl
def aP (a:AskM):List PV:=[pI a.kind,pI a.frm,pI a.epoch,pI a.seq,pS a.name,pI a.file,pI a.mode,pRow encW a.writes]
theorem Zpv {a b:AskM} (h:aP a=aP b):a=b:=by
 obtain ⟨a1,a2,a3,a4,a5,a6,a7,a8⟩:=a
 obtain ⟨b1,b2,b3,b4,b5,b6,b7,b8⟩:=b
 simp only [aP,List.cons.injEq,PV.v.injEq,Value.int.injEq,Value.string.injEq,true_and,and_true] at h
 obtain ⟨rfl,rfl,rfl,rfl,rfl,rfl,rfl,h⟩:=h
 rw [fil.pRow_inj encW_inj h]
end Go.Proofs.Ytgdegpifjljnoaa.mws
end
section
/- The document's MayTell, told. -/
namespace Go.Proofs.Ytgdegpifjljnoaa.myt
open Go Go.RowKit eng SX Fact fil fileFronts ima msm
open mws (ENu)
set_option linter.unusedVariables false
set_option linter.unusedSimpArgs false
set_option maxRecDepth 1000000
def EMt (k:Nat):FnE:={ k:=k,ins:=[some 9],leaks:=[false,false,false,false,false,false,false,false,false],outs:=[none],kinds:=[.truth] }
@[simp] theorem kMt (k:Nat):(EMt k).k=k:=rfl
def tP (t:TellM):List PV:=[pI t.kind,pI t.to,pI t.epoch,pI t.seq,pI t.err,pI t.file,pI t.mode,pI t.ver,pS t.body]
def i64 (n:Int):Prop:=-9223372036854775808<=n/\n<=9223372036854775807
end Go.Proofs.Ytgdegpifjljnoaa.myt
end
