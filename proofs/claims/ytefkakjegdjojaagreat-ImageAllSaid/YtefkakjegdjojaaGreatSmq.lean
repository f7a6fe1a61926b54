/- What lasts, compared: slices.Equal at files and at marks, the document's SameMarks and SameState, package state's Same: told. -/
import Derived.Test.YtefkakjegdjojaaGreatSmy
import Derived.Test.YtefkakjegdjojaaGreatMka
namespace Go.Proofs.YtefkakjegdjojaaGreat.sta
open Go Go.RowKit eng SX Fact fil fileFronts dirs pck may
open fileFronts
open pck hiding F F20 F21
open dirs hiding shR shRl shRR flR lpR cutR f0 f1 f2 f3
open may hiding r1 r2 r3 r4 r5
set_option linter.unusedVariables false
set_option linter.unusedSimpArgs false
set_option maxRecDepth 1000000

def hP (_:FuncId) (_:Oper):Option Hint:=some .parts
def hZ (g:FuncId) (l:List Nat) (f:FuncId) (o:Oper):Option Hint:=match o.dst with | some d=>cond (Nat.beq f g && l.elem d) (some .parts) (some .lazy) | none=>some .lazy
def ESmF (k:Nat):FnE:={ k:=k,ins:=[none,none],leaks:=[false,false],outs:=[none],kinds:=[.truth] }
def ESmN (k:Nat):FnE:={ k:=k,ins:=[none,none],leaks:=[false,false],outs:=[none],kinds:=[.num] }
def ESmS (k:Nat):FnE:={ k:=k,ins:=[some 3,some 3],leaks:=[false,false,false,false,false,false],outs:=[none],kinds:=[.num] }
noncomputable def flC:=flat (Zaq Tryz.prog 57)
def shC:Shape:=⟨[(0,.leaf),(1,.leaf)],[],[some false,some false],26,57⟩
noncomputable def flD:=flat (Zaq Tryz.prog 20)
noncomputable def lpD:=flat (Zaj (nth flD 4))
def shD:Shape:=⟨[(0,.agg 3),(1,.agg 3)],[],[some false,some false,none,some false,some false,none],46,20⟩
def shDR:Shape:=⟨[(4,.leaf)],[],[none],46,20⟩
noncomputable def sameQ {α:Type} (xs ys:List α):Bool:=@decide (xs=ys) (Classical.propDecidable _)
theorem sameQ_iff {α:Type} {xs ys:List α}:sameQ xs ys=true ↔ xs=ys:=by simp [sameQ]
@[simp] theorem kSmF (k:Nat):(ESmF k).k=k:=rfl
@[simp] theorem kSmN (k:Nat):(ESmN k).k=k:=rfl
@[simp] theorem kSmS (k:Nat):(ESmS k).k=k:=rfl

theorem cutC:flC=flC.take 4++.block (Zao (nth flC 4)) (.loop (Zaj (nth flC 4))) :: flC.drop 5:=by kernel_rfl
noncomputable def sameS (s t:StM):Bool:=sameQ s.files t.files && (sameQ s.marks t.marks && (s.epoch == t.epoch))
theorem sameS_iff {s t:StM}:sameS s t=true ↔ s=t:=by
 cases s;cases t
 simp only [sameS,Bool.and_eq_true,sameQ_iff,beq_iff_eq,StM.mk.injEq]
def RSmS (ps qs:List PV):Prop:=∃ s t:StM,s.files.length<=1000000/\s.marks.length<=1000000/\t.files.length<=1000000/\t.marks.length<=1000000/\ps=pSt s++pSt t/\qs=[pB (sameS s t)]
theorem fSmS:∀ ps q1 q2,RSmS ps q1->RSmS ps q2->q1=q2:=by
 rintro ps q1 q2 ⟨s,t,_,_,_,_,rfl,rfl⟩ ⟨s',t',_,_,_,_,h,rfl⟩
 simp only [List.cons_append,List.nil_append,List.cons.injEq,PV.v.injEq,Value.int.injEq,true_and,and_true] at h
 obtain ⟨h1,h2,h3,h4,h5,h6⟩:=h
 rw [Zj8 h1 h2 h3,Zj8 h4 h5 h6]
theorem cutD:flD=flD.take 4++.block (Zao (nth flD 4)) (.loop (Zaj (nth flD 4))) :: flD.drop 5:=by kernel_rfl
end Go.Proofs.YtefkakjegdjojaaGreat.sta
