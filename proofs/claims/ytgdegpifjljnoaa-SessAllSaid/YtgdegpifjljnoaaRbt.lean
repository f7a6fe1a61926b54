/- Texts joined. -/
import Derived.Test.YtgdegpifjljnoaaCrcMath
import Derived.Test.YtgdegpifjljnoaaGrd
section
/- Texts joined. -/
section
/- Texts joined. -/
section
/- Numbers as bytes (reckoning alone). -/
namespace Go.Proofs.Ytgdegpifjljnoaa.ima
open Go Go.RowKit eng fil
set_option linter.unusedVariables false
set_option linter.unusedSimpArgs false
set_option maxRecDepth 100000

def byt (v:Int) (i:Nat):UInt8:=UInt8.ofNat (v / 256 ^ i % 256).toNat
def low (v:Int):Nat->List UInt8
 | 0=>[]
 | n+1=>byt v n :: low v n
def num (l:List UInt8):Int:=l.foldl (fun a b=>a * 256+(b.toNat:Int)) 0
@[simp] theorem low_length (v:Int):∀ n,(low v n).length=n
 | 0=>rfl
 | n+1=>by simp [low,low_length v n]

end Go.Proofs.Ytgdegpifjljnoaa.ima
end
section
/- Messages as bytes: reckoning alone, no program. -/
namespace Go.Proofs.Ytgdegpifjljnoaa.msm
open Go Go.RowKit eng fil ima
set_option linter.unusedVariables false
set_option linter.unusedSimpArgs false

def lst (a:ByteArray):List UInt8:=a.data.toList
def tx (a:ByteArray):List UInt8:=UInt8.ofNat a.size :: lst a
abbrev WrM:=Int × ByteArray
structure AskM where
 kind:Int
 frm:Int
 epoch:Int
 seq:Int
 name:ByteArray
 file:Int
 mode:Int
 writes:List WrM
deriving DecidableEq
structure TellM where
 kind:Int
 to:Int
 epoch:Int
 seq:Int
 err:Int
 file:Int
 mode:Int
 ver:Int
 body:ByteArray
deriving DecidableEq
def e0:ByteArray:=⟨#[]⟩

end Go.Proofs.Ytgdegpifjljnoaa.msm
end
end
section
/- Texts joined. -/
section
/- Numbers and texts as bytes (package bits), put: told. -/
namespace Go.Proofs.Ytgdegpifjljnoaa.bip
open Go Go.RowKit eng SX Fact fil ima symD
set_option linter.unusedVariables false
set_option linter.unusedSimpArgs false
set_option maxRecDepth 1000000

def isApp:Op->Bool | .call { callee:=.builtin .append,.. }=>true | .makeSlice ..=>true | _=>false
def hApp (_:FuncId) (o:Oper):Option Hint:=cond (isApp o.op) (some .own) none
def ELow (k:Nat):FnE:={ k:=k,ins:=[none,none],leaks:=[false,false],outs:=[none],kinds:=[.own 5 1 true] }
@[simp] theorem kLow (k:Nat):(ELow k).k=k:=rfl
end Go.Proofs.Ytgdegpifjljnoaa.bip
end
section
/- Numbers and texts as bytes (package bits), put: told, second part. -/
namespace Go.Proofs.Ytgdegpifjljnoaa.bip
open Go Go.RowKit eng SX Fact fil ima symD
set_option linter.unusedVariables false
set_option linter.unusedSimpArgs false
set_option maxRecDepth 1000000

def EPuB (k:Nat):FnE:={ k:=k,ins:=[none,none,none],leaks:=[false,false,false],outs:=[none],kinds:=[.own 5 1 true] }
def ETxB (k:Nat):FnE:={ k:=k,ins:=[none,none],leaks:=[false,false],outs:=[none],kinds:=[.own 5 1 true] }
def EMsB (k:Nat):FnE:={ k:=k,ins:=[none],leaks:=[false],outs:=[none],kinds:=[.own 5 1 true] }
def bitsN:Nat->Nat->List Nat
 | 0,_=>[]
 | n+1,k=>k % 2 :: bitsN n (k / 2)
@[simp] theorem kMsB (k:Nat):(EMsB k).k=k:=rfl
@[simp] theorem kPuB (k:Nat):(EPuB k).k=k:=rfl
@[simp] theorem kTxB (k:Nat):(ETxB k).k=k:=rfl
def msB (s:ByteArray):List UInt8:=UInt8.ofNat s.size :: s.data.toList
@[simp] theorem msB_length (s:ByteArray):(msB s).length=s.size+1:=by simp [msB]
end Go.Proofs.Ytgdegpifjljnoaa.bip
end
end
end
section
/- Texts joined. -/
section
/- Numbers and texts as bytes (package bits), taken: told. -/
namespace Go.Proofs.Ytgdegpifjljnoaa.bip
open Go Go.RowKit eng SX Fact fil ima symD
set_option linter.unusedVariables false
set_option linter.unusedSimpArgs false
set_option maxRecDepth 1000000

def ENb (k:Nat):FnE:={ k:=k,ins:=[none],leaks:=[false],outs:=[none],kinds:=[.num] }
def ETkB (k:Nat):FnE:={ k:=k,ins:=[none,none],leaks:=[false,false],outs:=[none,none],kinds:=[.num,.truth] }
def ETtB (k:Nat):FnE:={ k:=k,ins:=[none],leaks:=[false],outs:=[none,none,none],kinds:=[.num,.num,.truth] }
@[simp] theorem kNb (k:Nat):(ENb k).k=k:=rfl
@[simp] theorem kTkB (k:Nat):(ETkB k).k=k:=rfl
@[simp] theorem kTtB (k:Nat):(ETtB k).k=k:=rfl
@[simp] theorem ex_0p (p:Nat->Prop):(∃ z:Nat,(0:Int)=(z:Int)/\p z) ↔ p 0:=⟨fun ⟨z,h,hp⟩=>by rw [show (0:Nat)=z by omega];exact hp,fun h=>⟨0,rfl,h⟩⟩
@[simp] theorem ex_1p (p:Nat->Prop):(∃ z:Nat,(1:Int)=(z:Int)/\p z) ↔ p 1:=⟨fun ⟨z,h,hp⟩=>by rw [show (1:Nat)=z by omega];exact hp,fun h=>⟨1,rfl,h⟩⟩
end Go.Proofs.Ytgdegpifjljnoaa.bip
end
section
/- Numbers and texts as bytes, the document's: told. -/
namespace Go.Proofs.Ytgdegpifjljnoaa.rbt
open Go Go.RowKit eng SX Fact fil ima symD
open bip hiding isApp hApp bitsN
set_option linter.unusedVariables false
set_option linter.unusedSimpArgs false
set_option maxRecDepth 1000000

def isApp:Op->Bool | .call { callee:=.builtin .append,.. }=>true | .makeSlice ..=>true | _=>false
def hApp (_:FuncId) (o:Oper):Option Hint:=cond (isApp o.op) (some .own) none
def bitsN:Nat->Nat->List Nat
 | 0,_=>[]
 | n+1,k=>k % 2 :: bitsN n (k / 2)
end Go.Proofs.Ytgdegpifjljnoaa.rbt
end
end
