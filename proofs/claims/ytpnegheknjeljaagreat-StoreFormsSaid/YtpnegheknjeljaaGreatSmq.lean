/- What lasts, compared: slices.Equal at files and at marks, the document's SameMarks and SameState, package state's Same: told. -/
import Derived.Test.YtpnegheknjeljaaGreatSmy
import Derived.Test.YtpnegheknjeljaaGreatMka
namespace Go.Proofs.YtpnegheknjeljaaGreat.sta
open Go Go.RowKit eng SX Fact fil fileFronts dirs pck may
open fileFronts
open pck hiding F F20 F21
open dirs hiding shR shRl shRR flR lpR cutR f0 f1 f2 f3
open may hiding r1 r2 r3 r4 r5
set_option linter.unusedVariables false
set_option linter.unusedSimpArgs false
set_option maxRecDepth 1000000

def hP (_:FuncId) (_:Oper):Option Hint:=some .parts
def ESmF (k:Nat):FnE:={ k:=k,ins:=[none,none],leaks:=[false,false],outs:=[none],kinds:=[.truth] }
def ESmN (k:Nat):FnE:={ k:=k,ins:=[none,none],leaks:=[false,false],outs:=[none],kinds:=[.num] }
def ESmS (k:Nat):FnE:={ k:=k,ins:=[some 3,some 3],leaks:=[false,false,false,false,false,false],outs:=[none],kinds:=[.num] }
@[simp] theorem kSmF (k:Nat):(ESmF k).k=k:=rfl
@[simp] theorem kSmN (k:Nat):(ESmN k).k=k:=rfl
@[simp] theorem kSmS (k:Nat):(ESmS k).k=k:=rfl


end Go.Proofs.YtpnegheknjeljaaGreat.sta
