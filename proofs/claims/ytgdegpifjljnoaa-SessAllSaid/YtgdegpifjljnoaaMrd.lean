/- Texts joined. -/
import Derived.Test.YtgdegpifjljnoaaRbt
import Derived.Laws.BitsAllLaws
section
/- The document's Crc and sealed, told. -/
namespace Go.Proofs.Ytgdegpifjljnoaa.mcr
open Go Go.RowKit eng SX Fact fil ima symD msm

set_option linter.unusedVariables false
set_option linter.unusedSimpArgs false
set_option maxRecDepth 1000000
def ECr (k:Nat):FnE:={ k:=k,ins:=[none],leaks:=[false],outs:=[none],kinds:=[.num] }
def EPuR (k:Nat):FnE:={ k:=k,ins:=[none,none,none],leaks:=[false,false,false],outs:=[none],kinds:=[.row] }
def ESl (k:Nat):FnE:={ k:=k,ins:=[none],leaks:=[false],outs:=[none],kinds:=[.row] }
@[simp] theorem kCr (k:Nat):(ECr k).k=k:=rfl
@[simp] theorem kPuR (k:Nat):(EPuR k).k=k:=rfl
@[simp] theorem kSl (k:Nat):(ESl k).k=k:=rfl
end Go.Proofs.Ytgdegpifjljnoaa.mcr
end
section
/- What is read of bytes, the document's: TakeText, Reader.Num, Reader.Text; sealed: told. -/
namespace Go.Proofs.Ytgdegpifjljnoaa.mrd
open Go Go.RowKit eng SX Fact fil ima symD msm mcr
open bip (EPuB ETxB)
set_option linter.unusedVariables false
set_option linter.unusedSimpArgs false
set_option maxRecDepth 1000000
theorem told_row' {f:FuncId} {E E':FnE} {R:List PV->Option (List PV)} (h:ToldF f E R) (h1:E'.ins=E.ins) (h2:E'.leaks=E.leaks) (h3:E'.outs=E.outs) (h5:E'.kinds.all CK.plain=true):ToldF f E' R:=by
 intro w FP us ps qs a b c d e
 rw [h1] at c ⊢
 rw [h2] at e
 refine (h w FP us ps qs a b c d e).mono ?_
 rintro e w' ⟨us',ow,g1,g2,how,g4,g5,g6⟩
 exact ⟨us',fun _=>none,g1,by rw [h3];exact g2,Zd8 h5,fun i q u hq hu w2 hw2=>g4 i q u hq hu w2 (fun k hk _=>hw2 k hk (fun _ _=>by simp)),by rw [h3];exact g5,g6⟩
def ETkR (k:Nat):FnE:={ k:=k,ins:=[none,none],leaks:=[false,false],outs:=[none,none],kinds:=[.num,.truth] }
def ETtR (k:Nat):FnE:={ k:=k,ins:=[none],leaks:=[false],outs:=[none,none,none],kinds:=[.num,.num,.truth] }
@[simp] theorem kTkR (k:Nat):(ETkR k).k=k:=rfl
@[simp] theorem kTtR (k:Nat):(ETtR k).k=k:=rfl
end Go.Proofs.Ytgdegpifjljnoaa.mrd
end
