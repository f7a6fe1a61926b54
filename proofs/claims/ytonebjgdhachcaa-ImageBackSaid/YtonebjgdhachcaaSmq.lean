/- What lasts, compared: slices.Equal at files and at marks, the document's SameMarks and SameState, package state's Same: told. -/
import Derived.Test.YtonebjgdhachcaaSmy
import Derived.Test.YtonebjgdhachcaaMka
namespace Go.Proofs.Ytonebjgdhachcaa.sta
open Go Go.RowKit eng SX Fact fil fileFronts dirs pck may
open fileFronts
open pck hiding F F20 F21
open dirs hiding shR shRl shRR flR lpR cutR f0 f1 f2 f3 m0 m1 m2
open may hiding m1 m2 m3 m4 r1 r2 r3 r4 r5
set_option linter.unusedVariables false
set_option linter.unusedSimpArgs false
set_option maxRecDepth 1000000

def hP (_:FuncId) (_:Oper):Option Hint:=some .parts
def ESmF (k:Nat):FnE:={ k:=k,ins:=[none,none],leaks:=[false,false],outs:=[none],kinds:=[.truth] }
def ESmN (k:Nat):FnE:={ k:=k,ins:=[none,none],leaks:=[false,false],outs:=[none],kinds:=[.num] }
def ESmS (k:Nat):FnE:={ k:=k,ins:=[some 3,some 3],leaks:=[false,false,false,false,false,false],outs:=[none],kinds:=[.num] }
noncomputable def flA:=flat (Zar Try.prog 66)
noncomputable def lpA:=flat (Zak (nth flA 4))
def shA:Shape:=⟨[(0,.leaf),(1,.leaf)],[],[some false,some false],26,66⟩
def shAl:Shape:=⟨[(0,.leaf),(1,.leaf),(12,.leaf),(13,.leaf)],[],[some false,some false,none,none],26,66⟩
def shAR:Shape:=⟨[(4,.leaf)],[],[none],26,66⟩
noncomputable def flB:=flat (Zar Try.prog 67)
noncomputable def lpB:=flat (Zak (nth flB 4))
def shB:Shape:=⟨[(0,.leaf),(1,.leaf)],[],[some false,some false],26,67⟩
def shBl:Shape:=⟨[(0,.leaf),(1,.leaf),(12,.leaf),(13,.leaf)],[],[some false,some false,none,none],26,67⟩
def shBR:Shape:=⟨[(4,.leaf)],[],[none],26,67⟩
noncomputable def flC:=flat (Zar Try.prog 58)
noncomputable def lpC:=flat (Zak (nth flC 4))
def shC:Shape:=⟨[(0,.leaf),(1,.leaf)],[],[some false,some false],26,58⟩
def shCl:Shape:=⟨[(0,.leaf),(1,.leaf),(5,.leaf)],[],[some false,some false,none],26,58⟩
def shCR:Shape:=⟨[(4,.leaf)],[],[none],26,58⟩
noncomputable def flD:=flat (Zar Try.prog 17)
noncomputable def lpD:=flat (Zak (nth flD 4))
def shD:Shape:=⟨[(0,.agg 3),(1,.agg 3)],[],[some false,some false,none,some false,some false,none],46,17⟩
def bxD:BoxT:=⟨30,0,false,[.leaf,.leaf,.leaf],none,false⟩
def shDl:Shape:=⟨[(2,.ptr 0 0 0 0),(3,.ptr 1 0 0 0),(5,.leaf)],[bxD,bxD],[none,some false,some false,none,some false,some false,none],46,17⟩
def shDR:Shape:=⟨[(4,.leaf)],[],[none],46,17⟩
def tabD (f:FuncId):Option FnE:=cond (Nat.beq f 58) (some (ESmN 1)) (cond (Nat.beq f 66) (some (ESmN 2)) (cond (Nat.beq f 67) (some (ESmN 3)) none))
@[simp] def zSmq1:SX:=rop ROp.notB [rop ROp.allB [rop ROp.eqI [.cell (.var 0) (.var 3) 4 0,.cell (.var 1) (.var 3) 4 0],rop ROp.eqI [.cell (.var 0) (.var 3) 4 1,.cell (.var 1) (.var 3) 4 1],rop ROp.eqI [.cell (.var 0) (.var 3) 4 2,.cell (.var 1) (.var 3) 4 2],rop ROp.eqI [.cell (.var 0) (.var 3) 4 3,.cell (.var 1) (.var 3) 4 3]]]
@[simp] def zSmq2:SX:=rop ROp.notB [rop ROp.allB [rop ROp.eqI [.cell (.var 0) (.var 2) 4 0,.cell (.var 1) (.var 2) 4 0],rop ROp.eqI [.cell (.var 0) (.var 2) 4 1,.cell (.var 1) (.var 2) 4 1],rop ROp.eqI [.cell (.var 0) (.var 2) 4 2,.cell (.var 1) (.var 2) 4 2],rop ROp.eqI [.cell (.var 0) (.var 2) 4 3,.cell (.var 1) (.var 2) 4 3]]]
@[simp] def zSmq3:SX:=rop ROp.notB [rop ROp.allB [rop ROp.eqS [.cell (.var 0) (.var 3) 3 0,.cell (.var 1) (.var 3) 3 0],rop ROp.eqI [.cell (.var 0) (.var 3) 3 1,.cell (.var 1) (.var 3) 3 1],rop ROp.eqS [.cell (.var 0) (.var 3) 3 2,.cell (.var 1) (.var 3) 3 2]]]
@[simp] def zSmq4:SX:=rop ROp.notB [rop ROp.allB [rop ROp.eqS [.cell (.var 1) (.var 0) 3 0,.cell (.var 4) (.var 0) 3 0],rop ROp.eqI [.cell (.var 1) (.var 0) 3 1,.cell (.var 4) (.var 0) 3 1],rop ROp.eqS [.cell (.var 1) (.var 0) 3 2,.cell (.var 4) (.var 0) 3 2]]]
@[simp] def zSmq5:SX:=.bin .neq (.len (.var 0)) (.len (.var 1))
@[simp] def zSmq6:SX:=.len (.var 0)
@[simp] def zSmq7:SX:=.con (.bool false)
@[simp] def zSmq8:SX:=.bin .lss (.var 3) (.var 2)
@[simp] def zSmq9:SX:=.bin .neq zSmq6 (.len (.var 3))
@[simp] def Zli:SX:=.bin .add (.var 3) (.con (.int .i64 1))
@[simp] def Zlh:SX:=rop ROp.notB [.fn 1 [.var 1,.var 4] 0]
@[simp] def Zlg:SX:=.bin .lss (.var 0) (.len (.var 1))
@[simp] def Zhh:Fact:=.ok (.len (.var 1))
@[simp] def Zlf:SX:=.bin .lss (.var 2) zSmq6
@[simp] def Zi9:SX:=.con (.int .i64 0)
@[simp] def Zi8:SX:=.con (.bool true)
@[simp] def Zse:SX:=.bin .add (.var 2) (.con (.int .i64 1))
@[simp] def Zsd:SX:=.bin .add (.var 0) (.con (.int .i64 1))
@[simp] def Zpy:SX:=.bin .neq (.var 2) (.var 5)
@[simp] def Zpx:Fact:=.idx (.var 0) (.var 3) 3 3
@[simp] def Zpw:Fact:=.idx (.var 1) (.var 3) 3 3
@[simp] def Zpv:Fact:=.idx (.var 0) (.var 3) 4 4
@[simp] def Zpu:Fact:=.idx (.var 1) (.var 3) 4 4
@[simp] def Zpt:Fact:=.idx (.var 0) (.var 2) 4 4
@[simp] def Zps:Fact:=.idx (.var 1) (.var 2) 4 4
@[simp] def Zpr:Fact:=.idx (.var 1) (.var 0) 3 3
@[simp] def Zpq:Fact:=.idx (.var 4) (.var 0) 3 3
@[simp] def Zsc:Fact:=.fn 58 (ESmN 1) [.var 1,.var 4]
@[simp] def Zdb:Fact:=.ok zSmq6
@[simp] def Zpp:Fact:=.is zSmq8 (.bool true)
@[simp] def Zsb:Fact:=.ok (.fn 1 [.var 1,.var 4] 0)
theorem Apre:segTo Try.prog fil.noOrc 10000 (flA.take 4) shA [0] shAl [] hP=some (.normal,[Zdb,Zhh,.ok zSmq5,.is zSmq5 (.bool false),Zdb,Zdb,.ok Zi9],[.var 0,.var 1,zSmq6,Zi9]):=by kernel_rfl
theorem Ano:segTo Try.prog fil.noOrc 10000 (flA.take 4) shA [1] shAR [] hP=some (.ret,[Zdb,Zhh,.ok zSmq5,.is zSmq5 (.bool true),.ok zSmq7],[zSmq7]):=by kernel_rfl
theorem Aex:segTo Try.prog fil.noOrc 10000 lpA shAl [0] shAl [] hP=some (.exit 0,[.ok zSmq8,.is zSmq8 (.bool false),.ok (.var 2),.ok (.var 3)],[.var 0,.var 1,.var 2,.var 3]):=by kernel_rfl
theorem Ago:segTo Try.prog fil.noOrc 10000 lpA shAl [1,0] shAl [] hP=some (.normal,[.ok zSmq8,Zpp,Zpx,Zpx,.ok (.cell (.var 0) (.var 3) 3 0),.ok (.cell (.var 0) (.var 3) 3 1),.ok (.cell (.var 0) (.var 3) 3 2),Zpw,Zpw,.ok (.cell (.var 1) (.var 3) 3 0),.ok (.cell (.var 1) (.var 3) 3 1),.ok (.cell (.var 1) (.var 3) 3 2),.ok zSmq3,.is zSmq3 (.bool false),.ok Zli,.ok (.var 2),.ok Zli],[.var 0,.var 1,.var 2,Zli]):=by kernel_rfl
theorem Ane:segTo Try.prog fil.noOrc 10000 lpA shAl [1,1] shAR [] hP=some (.ret,[.ok zSmq8,Zpp,Zpx,Zpx,.ok (.cell (.var 0) (.var 3) 3 0),.ok (.cell (.var 0) (.var 3) 3 1),.ok (.cell (.var 0) (.var 3) 3 2),Zpw,Zpw,.ok (.cell (.var 1) (.var 3) 3 0),.ok (.cell (.var 1) (.var 3) 3 1),.ok (.cell (.var 1) (.var 3) 3 2),.ok zSmq3,.is zSmq3 (.bool true),.ok zSmq7],[zSmq7]):=by kernel_rfl
theorem Apost:segTo Try.prog fil.noOrc 10000 (flA.drop 5) shAl [] shAR [] hP=some (.ret,[.ok Zi8],[Zi8]):=by kernel_rfl
theorem Bpre:segTo Try.prog fil.noOrc 10000 (flB.take 4) shB [0] shBl [] hP=some (.normal,[Zdb,Zhh,.ok zSmq5,.is zSmq5 (.bool false),Zdb,Zdb,.ok Zi9],[.var 0,.var 1,zSmq6,Zi9]):=by kernel_rfl
theorem Bno:segTo Try.prog fil.noOrc 10000 (flB.take 4) shB [1] shBR [] hP=some (.ret,[Zdb,Zhh,.ok zSmq5,.is zSmq5 (.bool true),.ok zSmq7],[zSmq7]):=by kernel_rfl
theorem Bex:segTo Try.prog fil.noOrc 10000 lpB shBl [0] shBl [] hP=some (.exit 0,[.ok zSmq8,.is zSmq8 (.bool false),.ok (.var 2),.ok (.var 3)],[.var 0,.var 1,.var 2,.var 3]):=by kernel_rfl
theorem Bgo:segTo Try.prog fil.noOrc 10000 lpB shBl [1,0] shBl [] hP=some (.normal,[.ok zSmq8,Zpp,Zpv,Zpv,.ok (.cell (.var 0) (.var 3) 4 0),.ok (.cell (.var 0) (.var 3) 4 1),.ok (.cell (.var 0) (.var 3) 4 2),.ok (.cell (.var 0) (.var 3) 4 3),Zpu,Zpu,.ok (.cell (.var 1) (.var 3) 4 0),.ok (.cell (.var 1) (.var 3) 4 1),.ok (.cell (.var 1) (.var 3) 4 2),.ok (.cell (.var 1) (.var 3) 4 3),.ok zSmq1,.is zSmq1 (.bool false),.ok Zli,.ok (.var 2),.ok Zli],[.var 0,.var 1,.var 2,Zli]):=by kernel_rfl
theorem Bne:segTo Try.prog fil.noOrc 10000 lpB shBl [1,1] shBR [] hP=some (.ret,[.ok zSmq8,Zpp,Zpv,Zpv,.ok (.cell (.var 0) (.var 3) 4 0),.ok (.cell (.var 0) (.var 3) 4 1),.ok (.cell (.var 0) (.var 3) 4 2),.ok (.cell (.var 0) (.var 3) 4 3),Zpu,Zpu,.ok (.cell (.var 1) (.var 3) 4 0),.ok (.cell (.var 1) (.var 3) 4 1),.ok (.cell (.var 1) (.var 3) 4 2),.ok (.cell (.var 1) (.var 3) 4 3),.ok zSmq1,.is zSmq1 (.bool true),.ok zSmq7],[zSmq7]):=by kernel_rfl
theorem Bpost:segTo Try.prog fil.noOrc 10000 (flB.drop 5) shBl [] shBR [] hP=some (.ret,[.ok Zi8],[Zi8]):=by kernel_rfl
theorem Cpre:segTo Try.prog fil.noOrc 10000 (flC.take 4) shC [0] shCl [] hP=some (.normal,[Zdb,Zhh,.ok zSmq5,.is zSmq5 (.bool false),.ok Zi9],[.var 0,.var 1,Zi9]):=by kernel_rfl
theorem Cno:segTo Try.prog fil.noOrc 10000 (flC.take 4) shC [1] shCR [] hP=some (.ret,[Zdb,Zhh,.ok zSmq5,.is zSmq5 (.bool true),.ok zSmq7],[zSmq7]):=by kernel_rfl
theorem Cex:segTo Try.prog fil.noOrc 10000 lpC shCl [0] shCl [] hP=some (.exit 0,[Zdb,.ok Zlf,.is Zlf (.bool false),.ok (.var 2)],[.var 0,.var 1,.var 2]):=by kernel_rfl
theorem Cgo:segTo Try.prog fil.noOrc 10000 lpC shCl [1,0] shCl [] hP=some (.normal,[Zdb,.ok Zlf,.is Zlf (.bool true),Zpt,Zpt,.ok (.cell (.var 0) (.var 2) 4 0),.ok (.cell (.var 0) (.var 2) 4 1),.ok (.cell (.var 0) (.var 2) 4 2),.ok (.cell (.var 0) (.var 2) 4 3),Zps,Zps,.ok (.cell (.var 1) (.var 2) 4 0),.ok (.cell (.var 1) (.var 2) 4 1),.ok (.cell (.var 1) (.var 2) 4 2),.ok (.cell (.var 1) (.var 2) 4 3),.ok zSmq2,.is zSmq2 (.bool false),.ok Zse,.ok Zse],[.var 0,.var 1,Zse]):=by kernel_rfl
theorem Cne:segTo Try.prog fil.noOrc 10000 lpC shCl [1,1] shCR [] hP=some (.ret,[Zdb,.ok Zlf,.is Zlf (.bool true),Zpt,Zpt,.ok (.cell (.var 0) (.var 2) 4 0),.ok (.cell (.var 0) (.var 2) 4 1),.ok (.cell (.var 0) (.var 2) 4 2),.ok (.cell (.var 0) (.var 2) 4 3),Zps,Zps,.ok (.cell (.var 1) (.var 2) 4 0),.ok (.cell (.var 1) (.var 2) 4 1),.ok (.cell (.var 1) (.var 2) 4 2),.ok (.cell (.var 1) (.var 2) 4 3),.ok zSmq2,.is zSmq2 (.bool true),.ok zSmq7],[zSmq7]):=by kernel_rfl
theorem Cpost:segTo Try.prog fil.noOrc 10000 (flC.drop 5) shCl [] shCR [] hP=some (.ret,[.ok Zi8],[Zi8]):=by kernel_rfl
theorem Dpre:segTo Try.prog (orcFn tabD) 10000 (flD.take 4) shD [0,0,0] shDl [(4,0),(5,0)] hP=some (.normal,[Zdb,.ok (.len (.var 3)),.ok zSmq9,.is zSmq9 (.bool false),Zsc,Zsb,.ok Zlh,.is Zlh (.bool false),.ok Zpy,.is Zpy (.bool false),.ok Zi9,.ok (.var 2),.ok (.var 5)],[Zi9,.var 0,.var 1,.var 2,.var 3,.var 4,.var 5]):=by kernel_rfl
theorem Dn1:segTo Try.prog (orcFn tabD) 10000 (flD.take 4) shD [1] shDR [] hP=some (.ret,[Zdb,.ok (.len (.var 3)),.ok zSmq9,.is zSmq9 (.bool true),.ok zSmq7],[zSmq7]):=by kernel_rfl
theorem Dn2:segTo Try.prog (orcFn tabD) 10000 (flD.take 4) shD [0,1] shDR [] hP=some (.ret,[Zdb,.ok (.len (.var 3)),.ok zSmq9,.is zSmq9 (.bool false),Zsc,Zsb,.ok Zlh,.is Zlh (.bool true),.ok zSmq7],[zSmq7]):=by kernel_rfl
theorem Dn3:segTo Try.prog (orcFn tabD) 10000 (flD.take 4) shD [0,0,1] shDR [] hP=some (.ret,[Zdb,.ok (.len (.var 3)),.ok zSmq9,.is zSmq9 (.bool false),Zsc,Zsb,.ok Zlh,.is Zlh (.bool false),.ok Zpy,.is Zpy (.bool true),.ok zSmq7],[zSmq7]):=by kernel_rfl
theorem Dex:segTo Try.prog (orcFn tabD) 10000 lpD shDl [0] shDl [(0,0),(1,0)] hP=some (.exit 0,[Zhh,.ok Zlg,.is Zlg (.bool false),.ok (.var 0),.ok (.var 3),.ok (.var 6)],[.var 0,.var 1,.var 2,.var 3,.var 4,.var 5,.var 6]):=by kernel_rfl
theorem Dgo:segTo Try.prog (orcFn tabD) 10000 lpD shDl [1,0] shDl [(0,0),(1,0)] hP=some (.normal,[Zhh,.ok Zlg,.is Zlg (.bool true),Zpr,Zpr,.ok (.cell (.var 1) (.var 0) 3 0),.ok (.cell (.var 1) (.var 0) 3 1),.ok (.cell (.var 1) (.var 0) 3 2),Zpq,Zpq,.ok (.cell (.var 4) (.var 0) 3 0),.ok (.cell (.var 4) (.var 0) 3 1),.ok (.cell (.var 4) (.var 0) 3 2),.ok zSmq4,.is zSmq4 (.bool false),.ok Zsd,.ok Zsd,.ok (.var 3),.ok (.var 6)],[Zsd,.var 1,.var 2,.var 3,.var 4,.var 5,.var 6]):=by kernel_rfl
theorem Dne:segTo Try.prog (orcFn tabD) 10000 lpD shDl [1,1] shDR [] hP=some (.ret,[Zhh,.ok Zlg,.is Zlg (.bool true),Zpr,Zpr,.ok (.cell (.var 1) (.var 0) 3 0),.ok (.cell (.var 1) (.var 0) 3 1),.ok (.cell (.var 1) (.var 0) 3 2),Zpq,Zpq,.ok (.cell (.var 4) (.var 0) 3 0),.ok (.cell (.var 4) (.var 0) 3 1),.ok (.cell (.var 4) (.var 0) 3 2),.ok zSmq4,.is zSmq4 (.bool true),.ok zSmq7],[zSmq7]):=by kernel_rfl
theorem Dpost:segTo Try.prog (orcFn tabD) 10000 (flD.drop 5) shDl [] shDR [] hP=some (.ret,[.ok Zi8],[Zi8]):=by kernel_rfl

noncomputable def sameQ {α:Type} (xs ys:List α):Bool:=@decide (xs=ys) (Classical.propDecidable _)
theorem Zht {α:Type} {xs ys:List α} (h:xs=ys):sameQ xs ys=true:=by simp [sameQ,h]
theorem Zea {α:Type} {xs ys:List α} (h:¬ xs=ys):sameQ xs ys=false:=by simp [sameQ,h]
theorem sameQ_iff {α:Type} {xs ys:List α}:sameQ xs ys=true ↔ xs=ys:=by simp [sameQ]
def sameF (f g:FileM):Bool:=f.1.toList == g.1.toList && (f.2.1 == g.2.1 && (f.2.2.toList == g.2.2.toList && true))
def sameM (f g:MarkM):Bool:=f.1 == g.1 && (f.2.1 == g.2.1 && (f.2.2.1 == g.2.2.1 && (f.2.2.2 == g.2.2.2 && true)))
theorem Zhx {f g:FileM}:sameF f g=true ↔ f=g:=by
 simp only [sameF,Bool.and_eq_true,beq_iff_eq,and_true]
 constructor
 ·rintro ⟨a,b,c⟩;exact Prod.ext (Zhq a) (Prod.ext b (Zhq c))
 ·rintro rfl;exact ⟨rfl,rfl,rfl⟩
theorem Zhu {f g:MarkM}:sameM f g=true ↔ f=g:=by
 simp only [sameM,Bool.and_eq_true,beq_iff_eq,and_true]
 constructor
 ·rintro ⟨a,b,c,d⟩;exact Prod.ext a (Prod.ext b (Prod.ext c d))
 ·rintro rfl;exact ⟨rfl,rfl,rfl,rfl⟩
theorem cmpF (f g:FileM):∃ t1 t2 t3,ropPV .eqS [pS f.1,pS g.1]=some (pB t1)/\ropPV .eqI [pI f.2.1,pI g.2.1]=some (pB t2)/\ropPV .eqS [pS f.2.2,pS g.2.2]=some (pB t3)/\ropPV .allB [pB t1,pB t2,pB t3]=some (pB (sameF f g)):=⟨_,_,_,rfl,rfl,rfl,rfl⟩
theorem cmpM (f g:MarkM):∃ t1 t2 t3 t4,ropPV .eqI [pI f.1,pI g.1]=some (pB t1)/\ropPV .eqI [pI f.2.1,pI g.2.1]=some (pB t2)/\ropPV .eqI [pI f.2.2.1,pI g.2.2.1]=some (pB t3)/\ropPV .eqI [pI f.2.2.2,pI g.2.2.2]=some (pB t4)/\ropPV .allB [pB t1,pB t2,pB t3,pB t4]=some (pB (sameM f g)):=⟨_,_,_,_,rfl,rfl,rfl,rfl,rfl⟩
@[simp] theorem kSmF (k:Nat):(ESmF k).k=k:=rfl
@[simp] theorem kSmN (k:Nat):(ESmN k).k=k:=rfl
@[simp] theorem kSmS (k:Nat):(ESmS k).k=k:=rfl
def RSmF (ps qs:List PV):Prop:=∃ xs ys:List FileM,xs.length<=1000000/\ys.length<=1000000/\ps=[pRow encF xs,pRow encF ys]/\qs=[pB (sameQ xs ys)]
def RSmG (ps qs:List PV):Prop:=∃ xs ys:List MarkM,xs.length<=1000000/\ys.length<=1000000/\ps=[pRow encM xs,pRow encM ys]/\qs=[pB (sameQ xs ys)]
theorem fSmG:∀ ps q1 q2,RSmG ps q1->RSmG ps q2->q1=q2:=by
 rintro ps q1 q2 ⟨a,b,_,_,rfl,rfl⟩ ⟨c,d,_,_,h,rfl⟩
 simp only [List.cons.injEq,and_true] at h
 rw [fil.pRow_inj Zgd h.1,fil.pRow_inj Zgd h.2]

theorem cutA:flA=flA.take 4++.block (Zan (nth flA 4)) (.loop (Zak (nth flA 4))) :: flA.drop 5:=by kernel_rfl
set_option maxHeartbeats 1000000 in
theorem toldA (k:Nat):ToldF 66 (ESmF k) (spec RSmF):=by
 refine Zcq (fun _ _=>none) _ (Zar Try.prog 66) Try.func66 (by kernel_rfl) shA (by kernel_rfl) ?_ ?_
 ·intro ps qs h i hi
  obtain ⟨xs,ys,_,_,rfl,rfl⟩:=Zai h
  simp [shA] at hi
  match i,hi with
  | 0,hi=>simp at hi
  | 1,hi=>simp at hi
  | i+2,hi=>simp at hi
 ·intro C ps qs hF h a w hsh
  obtain ⟨xs,ys,hx,hy,rfl,rfl⟩:=Zai h
  show wpL Try.prog flA _ a w
  rw [cutA]
  by_cases hl:xs.length=ys.length
  ·have hl':(xs.length:Int)=(ys.length:Int):=by omega
   refine Zag Zac Zad fil.noOrc_ok Apre hsh ?_ ?_
   ·simp only [fmC,fmN]
    simp [-Zae,Zab,Zaa,Base.ev,SX.ev,evs,Value.oneCell',Zaf,binPV,hl']
   intro qs a1 w1 hq h1
   refine ⟨fun _=>?_,fun h=>absurd rfl h⟩
   simp [evs,SX.ev,Zaf] at hq
   subst hq
   refine Zay (fun q a w=>∃ i:Nat,i<=xs.length/\q=xs.length - i/\(∀ j (h1:j < xs.length) (h2:j < ys.length),j < i->xs[j]=ys[j])/\Zah C shAl [pRow encF xs,pRow encF ys,pI (xs.length:Int),pI (i:Int)] a w) ?_ (n:=xs.length) ⟨0,by omega,by omega,fun j _ _ h=>absurd h (by omega),h1⟩
   rintro q a w ⟨i,hi,rfl,hb,hin⟩
   show wpL Try.prog lpA _ a w
   rw [<- List.append_nil lpA]
   by_cases hlt:i < xs.length
   ·have hlt2:i < ys.length:=by omega
    obtain ⟨c0,c1,c2⟩:=cellF xs i hlt
    obtain ⟨d0,d1,d2⟩:=cellF ys i hlt2
    have ix:=Zaq encF xs i 3 3 .i64 rfl hlt (by decide)
    have iy:=Zaq encF ys i 3 3 .i64 rfl hlt2 (by decide)
    have v3:IntKind.i64.wrap ((i:Int)+1)=(i:Int)+1:=wrapI _ (by omega) (by omega)
    obtain ⟨t1,t2,t3,r1,r2,r3,ra⟩:=cmpF xs[i] ys[i]
    by_cases he:xs[i]=ys[i]
    ·rw [Zhx.2 he] at ra
     have rn:ropPV .notB [pB true]=some (pB false):=rfl
     have hnx:∀ j (h1:j < xs.length) (h2:j < ys.length),j < i+1->xs[j]=ys[j]:=fun j h1 h2 h3=>by
      by_cases hj:j=i
      ·subst hj;exact he
      ·exact hb j h1 h2 (by omega)
     clear hb he
     generalize xs[i]=xb at *
     generalize ys[i]=yb at *
     refine Zag Zac Zad fil.noOrc_ok Ago hin ?_ (fun qs a1 w1 hq h1=>⟨fun _=>.inl ⟨rfl,xs.length - (i+1),by omega,i+1,by omega,rfl,hnx,by simp [evs,SX.ev,binPV,v3] at hq;subst hq;exact h1⟩,fun h=>absurd rfl h⟩)
     simp only [fmC,fmN]
     simp [-Zae,Zab,Zaa,Base.ev,SX.ev,evs,Value.oneCell',Zaf,binPV,v3,hlt,ix,iy,c0,c1,c2,d0,d1,d2,r1,r2,r3,ra,rn]
    ·have hs:sameF xs[i] ys[i]=false:=by rw [<- Bool.not_eq_true];exact fun h=>he (Zhx.1 h)
     rw [hs] at ra
     have rn:ropPV .notB [pB false]=some (pB true):=rfl
     have hQ:sameQ xs ys=false:=Zea fun h=>he (by subst h;rfl)
     rw [hQ] at *
     clear hb he hs
     generalize xs[i]=xb at *
     generalize ys[i]=yb at *
     refine Zag Zac Zad fil.noOrc_ok Ane hin ?_ ?_
     ·simp only [fmC,fmN]
      simp [-Zae,Zab,Zaa,Base.ev,SX.ev,evs,Value.oneCell',Zaf,binPV,v3,hlt,ix,iy,c0,c1,c2,d0,d1,d2,r1,r2,r3,ra,rn]
     ·intro qs a1 w1 hq h1
      exact ⟨fun h=>(by cases h),fun _=>.inr (.inr ⟨rfl,.inr rfl,shAR,qs,[SX.var 0],h1,by kernel_rfl,by simp [evs,SX.ev] at hq ⊢;subst hq;rfl⟩)⟩
   ·have hie:i=xs.length:=by omega
    subst hie
    have hQ:sameQ xs ys=true:=Zht (List.ext_getElem hl fun j h1 h2=>hb j h1 h2 h1)
    rw [hQ] at *
    refine Zag Zac Zad fil.noOrc_ok Aex hin ?_ ?_
    ·simp only [fmC,fmN]
     simp [-Zae,Zab,Zaa,Base.ev,SX.ev,evs,Value.oneCell',Zaf,binPV]
    ·intro qs a1 w1 hq h1
     refine ⟨fun h=>(by cases h),fun _=>.inr (.inl ⟨by rw [show Zan (nth flA 4)=0 by kernel_rfl];rfl,?_⟩)⟩
     simp [evs,SX.ev] at hq
     subst hq
     rw [<- List.append_nil (flA.drop 5)]
     refine Zag Zac Zad fil.noOrc_ok Apost h1 ?_ (fun qs a1 w1 hq h1=>⟨fun h=>(by cases h),fun _=>⟨.inr rfl,shAR,_,[SX.var 0],h1,by kernel_rfl,by simp [evs,SX.ev] at hq;subst hq;rfl⟩⟩)
     simp only [fmC,fmN]
     simp [-Zae,Zab,Zaa,Base.ev,SX.ev,evs,Value.oneCell',Zaf]
  ·have hl':¬ (xs.length:Int)=(ys.length:Int):=by omega
   have hQ:sameQ xs ys=false:=Zea fun h=>hl (by rw [h])
   rw [hQ] at *
   refine Zag Zac Zad fil.noOrc_ok Ano hsh ?_ ?_
   ·simp only [fmC,fmN]
    simp [-Zae,Zab,Zaa,Base.ev,SX.ev,evs,Value.oneCell',Zaf,binPV,hl,hl']
   ·intro qs a1 w1 hq h1
    exact ⟨fun h=>(by cases h),fun _=>⟨.inr rfl,shAR,_,[SX.var 0],h1,by kernel_rfl,by simp [evs,SX.ev] at hq;subst hq;rfl⟩⟩

theorem cutB:flB=flB.take 4++.block (Zan (nth flB 4)) (.loop (Zak (nth flB 4))) :: flB.drop 5:=by kernel_rfl
set_option maxHeartbeats 1000000 in
theorem toldB (k:Nat):ToldF 67 (ESmF k) (spec RSmG):=by
 refine Zcq (fun _ _=>none) _ (Zar Try.prog 67) Try.func67 (by kernel_rfl) shB (by kernel_rfl) ?_ ?_
 ·intro ps qs h i hi
  obtain ⟨xs,ys,_,_,rfl,rfl⟩:=Zai h
  simp [shB] at hi
  match i,hi with
  | 0,hi=>simp at hi
  | 1,hi=>simp at hi
  | i+2,hi=>simp at hi
 ·intro C ps qs hF h a w hsh
  obtain ⟨xs,ys,hx,hy,rfl,rfl⟩:=Zai h
  show wpL Try.prog flB _ a w
  rw [cutB]
  by_cases hl:xs.length=ys.length
  ·have hl':(xs.length:Int)=(ys.length:Int):=by omega
   refine Zag Zac Zad fil.noOrc_ok Bpre hsh ?_ ?_
   ·simp only [fmC,fmN]
    simp [-Zae,Zab,Zaa,Base.ev,SX.ev,evs,Value.oneCell',Zaf,binPV,hl']
   intro qs a1 w1 hq h1
   refine ⟨fun _=>?_,fun h=>absurd rfl h⟩
   simp [evs,SX.ev,Zaf] at hq
   subst hq
   refine Zay (fun q a w=>∃ i:Nat,i<=xs.length/\q=xs.length - i/\(∀ j (h1:j < xs.length) (h2:j < ys.length),j < i->xs[j]=ys[j])/\Zah C shBl [pRow encM xs,pRow encM ys,pI (xs.length:Int),pI (i:Int)] a w) ?_ (n:=xs.length) ⟨0,by omega,by omega,fun j _ _ h=>absurd h (by omega),h1⟩
   rintro q a w ⟨i,hi,rfl,hb,hin⟩
   show wpL Try.prog lpB _ a w
   rw [<- List.append_nil lpB]
   by_cases hlt:i < xs.length
   ·have hlt2:i < ys.length:=by omega
    obtain ⟨c0,c1,c2,c3⟩:=Zkn xs i hlt
    obtain ⟨d0,d1,d2,d3⟩:=Zkn ys i hlt2
    have ix:=Zaq encM xs i 4 4 .i64 rfl hlt (by decide)
    have iy:=Zaq encM ys i 4 4 .i64 rfl hlt2 (by decide)
    have v3:IntKind.i64.wrap ((i:Int)+1)=(i:Int)+1:=wrapI _ (by omega) (by omega)
    obtain ⟨t1,t2,t3,t4,r1,r2,r3,r4,ra⟩:=cmpM xs[i] ys[i]
    by_cases he:xs[i]=ys[i]
    ·rw [Zhu.2 he] at ra
     have rn:ropPV .notB [pB true]=some (pB false):=rfl
     have hnx:∀ j (h1:j < xs.length) (h2:j < ys.length),j < i+1->xs[j]=ys[j]:=fun j h1 h2 h3=>by
      by_cases hj:j=i
      ·subst hj;exact he
      ·exact hb j h1 h2 (by omega)
     clear hb he
     generalize xs[i]=xb at *
     generalize ys[i]=yb at *
     refine Zag Zac Zad fil.noOrc_ok Bgo hin ?_ (fun qs a1 w1 hq h1=>⟨fun _=>.inl ⟨rfl,xs.length - (i+1),by omega,i+1,by omega,rfl,hnx,by simp [evs,SX.ev,binPV,v3] at hq;subst hq;exact h1⟩,fun h=>absurd rfl h⟩)
     simp only [fmC,fmN]
     simp [-Zae,Zab,Zaa,Base.ev,SX.ev,evs,Value.oneCell',Zaf,binPV,v3,hlt,ix,iy,c0,c1,c2,c3,d0,d1,d2,d3,r1,r2,r3,r4,ra,rn]
    ·have hs:sameM xs[i] ys[i]=false:=by rw [<- Bool.not_eq_true];exact fun h=>he (Zhu.1 h)
     rw [hs] at ra
     have rn:ropPV .notB [pB false]=some (pB true):=rfl
     have hQ:sameQ xs ys=false:=Zea fun h=>he (by subst h;rfl)
     rw [hQ] at *
     clear hb he hs
     generalize xs[i]=xb at *
     generalize ys[i]=yb at *
     refine Zag Zac Zad fil.noOrc_ok Bne hin ?_ ?_
     ·simp only [fmC,fmN]
      simp [-Zae,Zab,Zaa,Base.ev,SX.ev,evs,Value.oneCell',Zaf,binPV,v3,hlt,ix,iy,c0,c1,c2,c3,d0,d1,d2,d3,r1,r2,r3,r4,ra,rn]
     ·intro qs a1 w1 hq h1
      exact ⟨fun h=>(by cases h),fun _=>.inr (.inr ⟨rfl,.inr rfl,shBR,qs,[SX.var 0],h1,by kernel_rfl,by simp [evs,SX.ev] at hq ⊢;subst hq;rfl⟩)⟩
   ·have hie:i=xs.length:=by omega
    subst hie
    have hQ:sameQ xs ys=true:=Zht (List.ext_getElem hl fun j h1 h2=>hb j h1 h2 h1)
    rw [hQ] at *
    refine Zag Zac Zad fil.noOrc_ok Bex hin ?_ ?_
    ·simp only [fmC,fmN]
     simp [-Zae,Zab,Zaa,Base.ev,SX.ev,evs,Value.oneCell',Zaf,binPV]
    ·intro qs a1 w1 hq h1
     refine ⟨fun h=>(by cases h),fun _=>.inr (.inl ⟨by rw [show Zan (nth flB 4)=0 by kernel_rfl];rfl,?_⟩)⟩
     simp [evs,SX.ev] at hq
     subst hq
     rw [<- List.append_nil (flB.drop 5)]
     refine Zag Zac Zad fil.noOrc_ok Bpost h1 ?_ (fun qs a1 w1 hq h1=>⟨fun h=>(by cases h),fun _=>⟨.inr rfl,shBR,_,[SX.var 0],h1,by kernel_rfl,by simp [evs,SX.ev] at hq;subst hq;rfl⟩⟩)
     simp only [fmC,fmN]
     simp [-Zae,Zab,Zaa,Base.ev,SX.ev,evs,Value.oneCell',Zaf]
  ·have hl':¬ (xs.length:Int)=(ys.length:Int):=by omega
   have hQ:sameQ xs ys=false:=Zea fun h=>hl (by rw [h])
   rw [hQ] at *
   refine Zag Zac Zad fil.noOrc_ok Bno hsh ?_ ?_
   ·simp only [fmC,fmN]
    simp [-Zae,Zab,Zaa,Base.ev,SX.ev,evs,Value.oneCell',Zaf,binPV,hl,hl']
   ·intro qs a1 w1 hq h1
    exact ⟨fun h=>(by cases h),fun _=>⟨.inr rfl,shBR,_,[SX.var 0],h1,by kernel_rfl,by simp [evs,SX.ev] at hq;subst hq;rfl⟩⟩

theorem cutC:flC=flC.take 4++.block (Zan (nth flC 4)) (.loop (Zak (nth flC 4))) :: flC.drop 5:=by kernel_rfl
set_option maxHeartbeats 1000000 in
theorem toldC (k:Nat):ToldF 58 (ESmF k) (spec RSmG):=by
 refine Zcq (fun _ _=>none) _ (Zar Try.prog 58) Try.func58 (by kernel_rfl) shC (by kernel_rfl) ?_ ?_
 ·intro ps qs h i hi
  obtain ⟨xs,ys,_,_,rfl,rfl⟩:=Zai h
  simp [shC] at hi
  match i,hi with
  | 0,hi=>simp at hi
  | 1,hi=>simp at hi
  | i+2,hi=>simp at hi
 ·intro C ps qs hF h a w hsh
  obtain ⟨xs,ys,hx,hy,rfl,rfl⟩:=Zai h
  show wpL Try.prog flC _ a w
  rw [cutC]
  by_cases hl:xs.length=ys.length
  ·have hl':(xs.length:Int)=(ys.length:Int):=by omega
   refine Zag Zac Zad fil.noOrc_ok Cpre hsh ?_ ?_
   ·simp only [fmC,fmN]
    simp [-Zae,Zab,Zaa,Base.ev,SX.ev,evs,Value.oneCell',Zaf,binPV,hl']
   intro qs a1 w1 hq h1
   refine ⟨fun _=>?_,fun h=>absurd rfl h⟩
   simp [evs,SX.ev,Zaf] at hq
   subst hq
   refine Zay (fun q a w=>∃ i:Nat,i<=xs.length/\q=xs.length - i/\(∀ j (h1:j < xs.length) (h2:j < ys.length),j < i->xs[j]=ys[j])/\Zah C shCl [pRow encM xs,pRow encM ys,pI (i:Int)] a w) ?_ (n:=xs.length) ⟨0,by omega,by omega,fun j _ _ h=>absurd h (by omega),h1⟩
   rintro q a w ⟨i,hi,rfl,hb,hin⟩
   show wpL Try.prog lpC _ a w
   rw [<- List.append_nil lpC]
   by_cases hlt:i < xs.length
   ·have hlt2:i < ys.length:=by omega
    obtain ⟨c0,c1,c2,c3⟩:=Zkn xs i hlt
    obtain ⟨d0,d1,d2,d3⟩:=Zkn ys i hlt2
    have ix:=Zaq encM xs i 4 4 .i64 rfl hlt (by decide)
    have iy:=Zaq encM ys i 4 4 .i64 rfl hlt2 (by decide)
    have v3:IntKind.i64.wrap ((i:Int)+1)=(i:Int)+1:=wrapI _ (by omega) (by omega)
    obtain ⟨t1,t2,t3,t4,r1,r2,r3,r4,ra⟩:=cmpM xs[i] ys[i]
    by_cases he:xs[i]=ys[i]
    ·rw [Zhu.2 he] at ra
     have rn:ropPV .notB [pB true]=some (pB false):=rfl
     have hnx:∀ j (h1:j < xs.length) (h2:j < ys.length),j < i+1->xs[j]=ys[j]:=fun j h1 h2 h3=>by
      by_cases hj:j=i
      ·subst hj;exact he
      ·exact hb j h1 h2 (by omega)
     clear hb he
     generalize xs[i]=xb at *
     generalize ys[i]=yb at *
     refine Zag Zac Zad fil.noOrc_ok Cgo hin ?_ (fun qs a1 w1 hq h1=>⟨fun _=>.inl ⟨rfl,xs.length - (i+1),by omega,i+1,by omega,rfl,hnx,by simp [evs,SX.ev,binPV,v3] at hq;subst hq;exact h1⟩,fun h=>absurd rfl h⟩)
     simp only [fmC,fmN]
     simp [-Zae,Zab,Zaa,Base.ev,SX.ev,evs,Value.oneCell',Zaf,binPV,v3,hlt,ix,iy,c0,c1,c2,c3,d0,d1,d2,d3,r1,r2,r3,r4,ra,rn]
    ·have hs:sameM xs[i] ys[i]=false:=by rw [<- Bool.not_eq_true];exact fun h=>he (Zhu.1 h)
     rw [hs] at ra
     have rn:ropPV .notB [pB false]=some (pB true):=rfl
     have hQ:sameQ xs ys=false:=Zea fun h=>he (by subst h;rfl)
     rw [hQ] at *
     clear hb he hs
     generalize xs[i]=xb at *
     generalize ys[i]=yb at *
     refine Zag Zac Zad fil.noOrc_ok Cne hin ?_ ?_
     ·simp only [fmC,fmN]
      simp [-Zae,Zab,Zaa,Base.ev,SX.ev,evs,Value.oneCell',Zaf,binPV,v3,hlt,ix,iy,c0,c1,c2,c3,d0,d1,d2,d3,r1,r2,r3,r4,ra,rn]
     ·intro qs a1 w1 hq h1
      exact ⟨fun h=>(by cases h),fun _=>.inr (.inr ⟨rfl,.inr rfl,shCR,qs,[SX.var 0],h1,by kernel_rfl,by simp [evs,SX.ev] at hq ⊢;subst hq;rfl⟩)⟩
   ·have hie:i=xs.length:=by omega
    subst hie
    have hQ:sameQ xs ys=true:=Zht (List.ext_getElem hl fun j h1 h2=>hb j h1 h2 h1)
    rw [hQ] at *
    refine Zag Zac Zad fil.noOrc_ok Cex hin ?_ ?_
    ·simp only [fmC,fmN]
     simp [-Zae,Zab,Zaa,Base.ev,SX.ev,evs,Value.oneCell',Zaf,binPV]
    ·intro qs a1 w1 hq h1
     refine ⟨fun h=>(by cases h),fun _=>.inr (.inl ⟨by rw [show Zan (nth flC 4)=0 by kernel_rfl];rfl,?_⟩)⟩
     simp [evs,SX.ev] at hq
     subst hq
     rw [<- List.append_nil (flC.drop 5)]
     refine Zag Zac Zad fil.noOrc_ok Cpost h1 ?_ (fun qs a1 w1 hq h1=>⟨fun h=>(by cases h),fun _=>⟨.inr rfl,shCR,_,[SX.var 0],h1,by kernel_rfl,by simp [evs,SX.ev] at hq;subst hq;rfl⟩⟩)
     simp only [fmC,fmN]
     simp [-Zae,Zab,Zaa,Base.ev,SX.ev,evs,Value.oneCell',Zaf]
  ·have hl':¬ (xs.length:Int)=(ys.length:Int):=by omega
   have hQ:sameQ xs ys=false:=Zea fun h=>hl (by rw [h])
   rw [hQ] at *
   refine Zag Zac Zad fil.noOrc_ok Cno hsh ?_ ?_
   ·simp only [fmC,fmN]
    simp [-Zae,Zab,Zaa,Base.ev,SX.ev,evs,Value.oneCell',Zaf,binPV,hl,hl']
   ·intro qs a1 w1 hq h1
    exact ⟨fun h=>(by cases h),fun _=>⟨.inr rfl,shCR,_,[SX.var 0],h1,by kernel_rfl,by simp [evs,SX.ev] at hq;subst hq;rfl⟩⟩

noncomputable def sameS (s t:StM):Bool:=sameQ s.files t.files && (sameQ s.marks t.marks && (s.epoch == t.epoch))
theorem Zhs {s t:StM}:sameS s t=true ↔ s=t:=by
 cases s;cases t
 simp only [sameS,Bool.and_eq_true,sameQ_iff,beq_iff_eq,StM.mk.injEq]
def RSmS (ps qs:List PV):Prop:=∃ s t:StM,s.files.length<=1000000/\s.marks.length<=1000000/\t.files.length<=1000000/\t.marks.length<=1000000/\ps=pSt s++pSt t/\qs=[pB (sameS s t)]
theorem fSmS:∀ ps q1 q2,RSmS ps q1->RSmS ps q2->q1=q2:=by
 rintro ps q1 q2 ⟨s,t,_,_,_,_,rfl,rfl⟩ ⟨s',t',_,_,_,_,h,rfl⟩
 simp only [List.cons_append,List.nil_append,List.cons.injEq,PV.v.injEq,Value.int.injEq,true_and,and_true] at h
 obtain ⟨h1,h2,h3,h4,h5,h6⟩:=h
 rw [Zdv h1 h2 h3,Zdv h4 h5 h6]
noncomputable def FQ:Fns:=fun k=>match k with | 1=>spec RSmG | 2=>spec RSmF | 3=>spec RSmG | _=>fun _=>none
theorem d1:ToldF 58 (ESmN 1) (FQ 1):=Zeq (toldC 1) rfl rfl rfl rfl rfl
theorem d2:ToldF 66 (ESmN 2) (FQ 2):=Zeq (toldA 2) rfl rfl rfl rfl rfl
theorem d3:ToldF 67 (ESmN 3) (FQ 3):=Zeq (toldB 3) rfl rfl rfl rfl rfl
theorem FQ1 {xs ys:List MarkM} (h1:xs.length<=1000000) (h2:ys.length<=1000000):FQ 1 [pRow encM xs,pRow encM ys]=some [pB (sameQ xs ys)]:=Zao fSmG ⟨xs,ys,h1,h2,rfl,rfl⟩
theorem cutD:flD=flD.take 4++.block (Zan (nth flD 4)) (.loop (Zak (nth flD 4))) :: flD.drop 5:=by kernel_rfl
set_option maxHeartbeats 1000000 in
theorem toldSmD (k:Nat):ToldF 17 (ESmS k) (spec RSmS):=by
 refine Zcq FQ _ (Zar Try.prog 17) Try.func17 (by kernel_rfl) shD (by kernel_rfl) ?_ ?_
 ·intro ps qs h i hi
  obtain ⟨s,t,_,_,_,_,rfl,rfl⟩:=Zai h
  simp [shD] at hi
  match i,hi with
  | 0,hi=>simp at hi
  | 1,hi=>simp at hi
  | 2,hi=>exact ⟨_,rfl,rfl⟩
  | 3,hi=>simp at hi
  | 4,hi=>simp at hi
  | 5,hi=>exact ⟨_,rfl,rfl⟩
  | i+6,hi=>simp at hi
 ·intro C ps qs hF h a w hsh
  obtain ⟨⟨xs,m1,e1⟩,⟨ys,m2,e2⟩,h1,h2,h3,h4,rfl,rfl⟩:=Zai h
  show wpL Try.prog flD _ a w
  rw [cutD]
  have q1:=FQ1 h2 h4
  simp only at h1 h2 h3 h4 q1
  have rn:∀ b,ropPV .notB [pB b]=some (pB (!b)):=fun _=>rfl
  have hsx:sameS ⟨xs,m1,e1⟩ ⟨ys,m2,e2⟩=(sameQ xs ys && (sameQ m1 m2 && (e1 == e2))):=rfl
  have no:sameS ⟨xs,m1,e1⟩ ⟨ys,m2,e2⟩=false->∀ qs a1 w1,qs=[pB false]->Zah C shDR qs a1 w1->(AX.ret=.normal->wpL Try.prog (.block (Zan (nth flD 4)) (.loop (Zak (nth flD 4))) :: flD.drop 5) (fun e a' w'=>(e=.normal \/ e=.ret)/\∃ sh' ps' es,Zah C sh' ps' a' w'/\resTo Try.prog Try.f17 sh' (ESmS k)=some es/\evs (fun i=>ps'[i]?) FQ es=some [pB (sameS ⟨xs,m1,e1⟩ ⟨ys,m2,e2⟩)]) a1 w1)/\(AX.ret ≠ .normal->(AX.ret.to=.normal \/ AX.ret.to=.ret)/\∃ sh' ps' es,Zah C sh' ps' a1 w1/\resTo Try.prog Try.f17 sh' (ESmS k)=some es/\evs (fun i=>ps'[i]?) FQ es=some [pB (sameS ⟨xs,m1,e1⟩ ⟨ys,m2,e2⟩)]):=by
   intro hn qs a1 w1 hq h1
   exact ⟨fun h=>(by cases h),fun _=>⟨.inr rfl,shDR,_,[SX.var 0],h1,by kernel_rfl,by subst hq;rw [hn];rfl⟩⟩
  by_cases hl:xs.length=ys.length
  ·have hl':(xs.length:Int)=(ys.length:Int):=by omega
   cases hm:sameQ m1 m2 with
   | false =>
    have hQ:sameS ⟨xs,m1,e1⟩ ⟨ys,m2,e2⟩=false:=by rw [hsx,hm];simp
    rw [hm] at q1
    refine Zag Zac Zad (Zaj _) Dn2 hsh ?_ (fun qs a1 w1 hq h=>no hQ qs a1 w1 (by simp [evs,SX.ev] at hq;exact hq.symm) h)
    simp only [fmC,fmN]
    simp [-Zae,Zab,Zaa,Base.ev,SX.ev,evs,Value.oneCell',hF,Zaf,binPV,hl',q1,rn,d1]
   | true =>
    rw [hm] at q1
    by_cases he:e1=e2
    ·refine Zag Zac Zad (Zaj _) Dpre hsh ?_ ?_
     ·simp only [fmC,fmN]
      simp [-Zae,Zab,Zaa,Base.ev,SX.ev,evs,Value.oneCell',hF,Zaf,binPV,hl',q1,rn,d1,he]
     intro qs a1 w1 hq h1
     refine ⟨fun _=>?_,fun h=>absurd rfl h⟩
     simp [evs,SX.ev,Zaf] at hq
     subst hq
     refine Zay (fun q a w=>∃ i:Nat,i<=xs.length/\q=xs.length - i/\(∀ j (h1:j < xs.length) (h2:j < ys.length),j < i->xs[j]=ys[j])/\Zah C shDl [pI (i:Int),pRow encF xs,pRow encM m1,pI e1,pRow encF ys,pRow encM m2,pI e2] a w) ?_ (n:=xs.length) ⟨0,by omega,by omega,fun j _ _ h=>absurd h (by omega),h1⟩
     rintro q a w ⟨i,hi,rfl,hb,hin⟩
     show wpL Try.prog lpD _ a w
     rw [<- List.append_nil lpD]
     by_cases hlt:i < xs.length
     ·have hlt2:i < ys.length:=by omega
      obtain ⟨c0,c1,c2⟩:=cellF xs i hlt
      obtain ⟨d0,d1',d2'⟩:=cellF ys i hlt2
      have ix:=Zaq encF xs i 3 3 .i64 rfl hlt (by decide)
      have iy:=Zaq encF ys i 3 3 .i64 rfl hlt2 (by decide)
      have v3:IntKind.i64.wrap ((i:Int)+1)=(i:Int)+1:=wrapI _ (by omega) (by omega)
      obtain ⟨t1,t2,t3,r1,r2,r3,ra⟩:=cmpF xs[i] ys[i]
      by_cases he':xs[i]=ys[i]
      ·rw [Zhx.2 he'] at ra
       have hnx:∀ j (h1:j < xs.length) (h2:j < ys.length),j < i+1->xs[j]=ys[j]:=fun j h1 h2 h3=>by
        by_cases hj:j=i
        ·subst hj;exact he'
        ·exact hb j h1 h2 (by omega)
       clear hb he'
       generalize xs[i]=xb at *
       generalize ys[i]=yb at *
       refine Zag Zac Zad (Zaj _) Dgo hin ?_ (fun qs a1 w1 hq h1=>⟨fun _=>.inl ⟨rfl,xs.length - (i+1),by omega,i+1,by omega,rfl,hnx,by simp [evs,SX.ev,binPV,v3] at hq;subst hq;exact h1⟩,fun h=>absurd rfl h⟩)
       simp only [fmC,fmN]
       simp [-Zae,Zab,Zaa,Base.ev,SX.ev,evs,Value.oneCell',Zaf,binPV,v3,hlt,ix,iy,c0,c1,c2,d0,d1',d2',r1,r2,r3,ra,rn]
      ·have hs:sameF xs[i] ys[i]=false:=by rw [<- Bool.not_eq_true];exact fun h=>he' (Zhx.1 h)
       rw [hs] at ra
       have hQ:sameS ⟨xs,m1,e1⟩ ⟨ys,m2,e2⟩=false:=by
        rw [hsx,Zea fun h=>he' (by subst h;rfl)];rfl
       clear hb he' hs
       generalize xs[i]=xb at *
       generalize ys[i]=yb at *
       refine Zag Zac Zad (Zaj _) Dne hin ?_ ?_
       ·simp only [fmC,fmN]
        simp [-Zae,Zab,Zaa,Base.ev,SX.ev,evs,Value.oneCell',Zaf,binPV,v3,hlt,ix,iy,c0,c1,c2,d0,d1',d2',r1,r2,r3,ra,rn]
       ·intro qs a1 w1 hq h1
        exact ⟨fun h=>(by cases h),fun _=>.inr (.inr ⟨rfl,.inr rfl,shDR,qs,[SX.var 0],h1,by kernel_rfl,by simp [evs,SX.ev] at hq ⊢;subst hq;rw [hQ];rfl⟩)⟩
     ·have hie:i=xs.length:=by omega
      subst hie
      have hQ:sameS ⟨xs,m1,e1⟩ ⟨ys,m2,e2⟩=true:=by
       rw [hsx,Zht (List.ext_getElem hl fun j h1 h2=>hb j h1 h2 h1),hm,he];simp
      refine Zag Zac Zad (Zaj _) Dex hin ?_ ?_
      ·simp only [fmC,fmN]
       simp [-Zae,Zab,Zaa,Base.ev,SX.ev,evs,Value.oneCell',Zaf,binPV]
      ·intro qs a1 w1 hq h1
       refine ⟨fun h=>(by cases h),fun _=>.inr (.inl ⟨by rw [show Zan (nth flD 4)=0 by kernel_rfl];rfl,?_⟩)⟩
       simp [evs,SX.ev] at hq
       subst hq
       rw [<- List.append_nil (flD.drop 5)]
       refine Zag Zac Zad (Zaj _) Dpost h1 ?_ (fun qs a1 w1 hq h1=>⟨fun h=>(by cases h),fun _=>⟨.inr rfl,shDR,_,[SX.var 0],h1,by kernel_rfl,by simp [evs,SX.ev] at hq;subst hq;rw [hQ];rfl⟩⟩)
       simp only [fmC,fmN]
       simp [-Zae,Zab,Zaa,Base.ev,SX.ev,evs,Value.oneCell',Zaf]
    ·have hQ:sameS ⟨xs,m1,e1⟩ ⟨ys,m2,e2⟩=false:=by
      rw [hsx,beq_eq_false_iff_ne.2 he];simp
     refine Zag Zac Zad (Zaj _) Dn3 hsh ?_ (fun qs a1 w1 hq h=>no hQ qs a1 w1 (by simp [evs,SX.ev] at hq;exact hq.symm) h)
     simp only [fmC,fmN]
     simp [-Zae,Zab,Zaa,Base.ev,SX.ev,evs,Value.oneCell',hF,Zaf,binPV,hl',q1,rn,d1,he]
  ·have hl':¬ (xs.length:Int)=(ys.length:Int):=by omega
   have hQ:sameS ⟨xs,m1,e1⟩ ⟨ys,m2,e2⟩=false:=by
    rw [hsx,Zea fun h=>hl (by rw [h])];rfl
   refine Zag Zac Zad (Zaj _) Dn1 hsh ?_ (fun qs a1 w1 hq h=>no hQ qs a1 w1 (by simp [evs,SX.ev] at hq;exact hq.symm) h)
   simp only [fmC,fmN]
   simp [-Zae,Zab,Zaa,Base.ev,SX.ev,evs,Value.oneCell',Zaf,binPV,hl,hl']
end Go.Proofs.Ytonebjgdhachcaa.sta
