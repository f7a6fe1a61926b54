/- What lasts, compared: slices.Equal at files and at marks, the document's SameMarks and SameState, package state's Same: told. -/
import Derived.Test.YtefkakjegdjojaaGreatSmy
import Derived.Test.YtefkakjegdjojaaGreatMka
namespace Go.Proofs.YtefkakjegdjojaaGreat.sta
open Go Go.RowKit eng SX Fact fil fileFronts dirs pck may
open fileFronts
open pck hiding F F20 F21
open dirs hiding shR shRl shRR flR lpR cutR f0 f1 f2 f3
open may hiding r1 r2 r3 r4 r5
set_option linter.unusedVariables false
set_option linter.unusedSimpArgs false
set_option maxRecDepth 1000000

def hP (_:FuncId) (_:Oper):Option Hint:=some .parts
def ESmF (k:Nat):FnE:={ k:=k,ins:=[none,none],leaks:=[false,false],outs:=[none],kinds:=[.truth] }
def ESmN (k:Nat):FnE:={ k:=k,ins:=[none,none],leaks:=[false,false],outs:=[none],kinds:=[.num] }
def ESmS (k:Nat):FnE:={ k:=k,ins:=[some 3,some 3],leaks:=[false,false,false,false,false,false],outs:=[none],kinds:=[.num] }
noncomputable def flC:=flat (Zar Tryz.prog 57)
noncomputable def lpC:=flat (Zak (nth flC 4))
def shC:Shape:=⟨[(0,.leaf),(1,.leaf)],[],[some false,some false],26,57⟩
def shCl:Shape:=⟨[(0,.leaf),(1,.leaf),(5,.leaf)],[],[some false,some false,none],26,57⟩
def shCR:Shape:=⟨[(4,.leaf)],[],[none],26,57⟩
noncomputable def flD:=flat (Zar Tryz.prog 20)
noncomputable def lpD:=flat (Zak (nth flD 4))
def shD:Shape:=⟨[(0,.agg 3),(1,.agg 3)],[],[some false,some false,none,some false,some false,none],46,20⟩
def bxD:BoxT:=⟨30,0,false,[.leaf,.leaf,.leaf],none,false⟩
def shDl:Shape:=⟨[(2,.ptr 0 0 0 0),(3,.ptr 1 0 0 0),(5,.leaf)],[bxD,bxD],[none,some false,some false,none,some false,some false,none],46,20⟩
def shDR:Shape:=⟨[(4,.leaf)],[],[none],46,20⟩
def tabD (f:FuncId):Option FnE:=cond (Nat.beq f 57) (some (ESmN 1)) none
@[simp] def Zoy:SX:=rop ROp.notB [rop ROp.allB [rop ROp.eqI [.cell (.var 0) (.var 2) 4 0,.cell (.var 1) (.var 2) 4 0],rop ROp.eqI [.cell (.var 0) (.var 2) 4 1,.cell (.var 1) (.var 2) 4 1],rop ROp.eqI [.cell (.var 0) (.var 2) 4 2,.cell (.var 1) (.var 2) 4 2],rop ROp.eqI [.cell (.var 0) (.var 2) 4 3,.cell (.var 1) (.var 2) 4 3]]]
@[simp] def Zox:SX:=rop ROp.notB [rop ROp.allB [rop ROp.eqS [.cell (.var 1) (.var 0) 3 0,.cell (.var 4) (.var 0) 3 0],rop ROp.eqI [.cell (.var 1) (.var 0) 3 1,.cell (.var 4) (.var 0) 3 1],rop ROp.eqS [.cell (.var 1) (.var 0) 3 2,.cell (.var 4) (.var 0) 3 2]]]
@[simp] def Zf6:SX:=.bin .neq (.len (.var 0)) (.len (.var 3))
@[simp] def Zi1:SX:=rop ROp.notB [.fn 1 [.var 1,.var 4] 0]
@[simp] def Zi0:SX:=.bin .lss (.var 2) (.len (.var 0))
@[simp] def Ziz:SX:=.bin .lss (.var 0) (.len (.var 1))
@[simp] def Zow:SX:=.bin .neq (.len (.var 0)) (.len (.var 1))
@[simp] def Zcv:SX:=.con (.bool false)
@[simp] def Zff:Fact:=.ok (.len (.var 0))
theorem Cpre:segTo Tryz.prog fil.noOrc 10000 (flC.take 4) shC [0] shCl [] hP=some (.normal,[Zff,.ok (.len (.var 1)),.ok Zow,.is Zow (.bool false),.ok (.con (.int .i64 0))],[.var 0,.var 1,.con (.int .i64 0)]):=by kernel_rfl
theorem Cno:segTo Tryz.prog fil.noOrc 10000 (flC.take 4) shC [1] shCR [] hP=some (.ret,[Zff,.ok (.len (.var 1)),.ok Zow,.is Zow (.bool true),.ok Zcv],[Zcv]):=by kernel_rfl
theorem Cex:segTo Tryz.prog fil.noOrc 10000 lpC shCl [0] shCl [] hP=some (.exit 0,[Zff,.ok Zi0,.is Zi0 (.bool false),.ok (.var 2)],[.var 0,.var 1,.var 2]):=by kernel_rfl
theorem Cgo:segTo Tryz.prog fil.noOrc 10000 lpC shCl [1,0] shCl [] hP=some (.normal,[Zff,.ok Zi0,.is Zi0 (.bool true),.idx (.var 0) (.var 2) 4 4,.idx (.var 0) (.var 2) 4 4,.ok (.cell (.var 0) (.var 2) 4 0),.ok (.cell (.var 0) (.var 2) 4 1),.ok (.cell (.var 0) (.var 2) 4 2),.ok (.cell (.var 0) (.var 2) 4 3),.idx (.var 1) (.var 2) 4 4,.idx (.var 1) (.var 2) 4 4,.ok (.cell (.var 1) (.var 2) 4 0),.ok (.cell (.var 1) (.var 2) 4 1),.ok (.cell (.var 1) (.var 2) 4 2),.ok (.cell (.var 1) (.var 2) 4 3),.ok Zoy,.is Zoy (.bool false),.ok (.bin .add (.var 2) (.con (.int .i64 1))),.ok (.bin .add (.var 2) (.con (.int .i64 1)))],[.var 0,.var 1,.bin .add (.var 2) (.con (.int .i64 1))]):=by kernel_rfl
theorem Cne:segTo Tryz.prog fil.noOrc 10000 lpC shCl [1,1] shCR [] hP=some (.ret,[Zff,.ok Zi0,.is Zi0 (.bool true),.idx (.var 0) (.var 2) 4 4,.idx (.var 0) (.var 2) 4 4,.ok (.cell (.var 0) (.var 2) 4 0),.ok (.cell (.var 0) (.var 2) 4 1),.ok (.cell (.var 0) (.var 2) 4 2),.ok (.cell (.var 0) (.var 2) 4 3),.idx (.var 1) (.var 2) 4 4,.idx (.var 1) (.var 2) 4 4,.ok (.cell (.var 1) (.var 2) 4 0),.ok (.cell (.var 1) (.var 2) 4 1),.ok (.cell (.var 1) (.var 2) 4 2),.ok (.cell (.var 1) (.var 2) 4 3),.ok Zoy,.is Zoy (.bool true),.ok Zcv],[Zcv]):=by kernel_rfl
theorem Cpost:segTo Tryz.prog fil.noOrc 10000 (flC.drop 5) shCl [] shCR [] hP=some (.ret,[.ok (.con (.bool true))],[.con (.bool true)]):=by kernel_rfl
theorem Dpre:segTo Tryz.prog (orcFn tabD) 10000 (flD.take 4) shD [0,0,0] shDl [(4,0),(5,0)] hP=some (.normal,[Zff,.ok (.len (.var 3)),.ok Zf6,.is Zf6 (.bool false),.fn 57 (ESmN 1) [.var 1,.var 4],.ok (.fn 1 [.var 1,.var 4] 0),.ok Zi1,.is Zi1 (.bool false),.ok (.bin .neq (.var 2) (.var 5)),.is (.bin .neq (.var 2) (.var 5)) (.bool false),.ok (.con (.int .i64 0)),.ok (.var 2),.ok (.var 5)],[.con (.int .i64 0),.var 0,.var 1,.var 2,.var 3,.var 4,.var 5]):=by kernel_rfl
theorem Dn1:segTo Tryz.prog (orcFn tabD) 10000 (flD.take 4) shD [1] shDR [] hP=some (.ret,[Zff,.ok (.len (.var 3)),.ok Zf6,.is Zf6 (.bool true),.ok Zcv],[Zcv]):=by kernel_rfl
theorem Dn2:segTo Tryz.prog (orcFn tabD) 10000 (flD.take 4) shD [0,1] shDR [] hP=some (.ret,[Zff,.ok (.len (.var 3)),.ok Zf6,.is Zf6 (.bool false),.fn 57 (ESmN 1) [.var 1,.var 4],.ok (.fn 1 [.var 1,.var 4] 0),.ok Zi1,.is Zi1 (.bool true),.ok Zcv],[Zcv]):=by kernel_rfl
theorem Dn3:segTo Tryz.prog (orcFn tabD) 10000 (flD.take 4) shD [0,0,1] shDR [] hP=some (.ret,[Zff,.ok (.len (.var 3)),.ok Zf6,.is Zf6 (.bool false),.fn 57 (ESmN 1) [.var 1,.var 4],.ok (.fn 1 [.var 1,.var 4] 0),.ok Zi1,.is Zi1 (.bool false),.ok (.bin .neq (.var 2) (.var 5)),.is (.bin .neq (.var 2) (.var 5)) (.bool true),.ok Zcv],[Zcv]):=by kernel_rfl
theorem Dex:segTo Tryz.prog (orcFn tabD) 10000 lpD shDl [0] shDl [(0,0),(1,0)] hP=some (.exit 0,[.ok (.len (.var 1)),.ok Ziz,.is Ziz (.bool false),.ok (.var 0),.ok (.var 3),.ok (.var 6)],[.var 0,.var 1,.var 2,.var 3,.var 4,.var 5,.var 6]):=by kernel_rfl
theorem Dgo:segTo Tryz.prog (orcFn tabD) 10000 lpD shDl [1,0] shDl [(0,0),(1,0)] hP=some (.normal,[.ok (.len (.var 1)),.ok Ziz,.is Ziz (.bool true),.idx (.var 1) (.var 0) 3 3,.idx (.var 1) (.var 0) 3 3,.ok (.cell (.var 1) (.var 0) 3 0),.ok (.cell (.var 1) (.var 0) 3 1),.ok (.cell (.var 1) (.var 0) 3 2),.idx (.var 4) (.var 0) 3 3,.idx (.var 4) (.var 0) 3 3,.ok (.cell (.var 4) (.var 0) 3 0),.ok (.cell (.var 4) (.var 0) 3 1),.ok (.cell (.var 4) (.var 0) 3 2),.ok Zox,.is Zox (.bool false),.ok (.bin .add (.var 0) (.con (.int .i64 1))),.ok (.bin .add (.var 0) (.con (.int .i64 1))),.ok (.var 3),.ok (.var 6)],[.bin .add (.var 0) (.con (.int .i64 1)),.var 1,.var 2,.var 3,.var 4,.var 5,.var 6]):=by kernel_rfl
theorem Dne:segTo Tryz.prog (orcFn tabD) 10000 lpD shDl [1,1] shDR [] hP=some (.ret,[.ok (.len (.var 1)),.ok Ziz,.is Ziz (.bool true),.idx (.var 1) (.var 0) 3 3,.idx (.var 1) (.var 0) 3 3,.ok (.cell (.var 1) (.var 0) 3 0),.ok (.cell (.var 1) (.var 0) 3 1),.ok (.cell (.var 1) (.var 0) 3 2),.idx (.var 4) (.var 0) 3 3,.idx (.var 4) (.var 0) 3 3,.ok (.cell (.var 4) (.var 0) 3 0),.ok (.cell (.var 4) (.var 0) 3 1),.ok (.cell (.var 4) (.var 0) 3 2),.ok Zox,.is Zox (.bool true),.ok Zcv],[Zcv]):=by kernel_rfl
theorem Dpost:segTo Tryz.prog (orcFn tabD) 10000 (flD.drop 5) shDl [] shDR [] hP=some (.ret,[.ok (.con (.bool true))],[.con (.bool true)]):=by kernel_rfl
noncomputable def sameQ {α:Type} (xs ys:List α):Bool:=@decide (xs=ys) (Classical.propDecidable _)
theorem sameQ_yes {α:Type} {xs ys:List α} (h:xs=ys):sameQ xs ys=true:=by simp [sameQ,h]
theorem Ztn {α:Type} {xs ys:List α} (h:¬ xs=ys):sameQ xs ys=false:=by simp [sameQ,h]
theorem sameQ_iff {α:Type} {xs ys:List α}:sameQ xs ys=true ↔ xs=ys:=by simp [sameQ]
def sameF (f g:FileM):Bool:=f.1.toList == g.1.toList && (f.2.1 == g.2.1 && (f.2.2.toList == g.2.2.toList && true))
def sameM (f g:MarkM):Bool:=f.1 == g.1 && (f.2.1 == g.2.1 && (f.2.2.1 == g.2.2.1 && (f.2.2.2 == g.2.2.2 && true)))
theorem sameF_iff {f g:FileM}:sameF f g=true ↔ f=g:=by
 simp only [sameF,Bool.and_eq_true,beq_iff_eq,and_true]
 constructor
 ·rintro ⟨a,b,c⟩;exact Prod.ext (Zrt a) (Prod.ext b (Zrt c))
 ·rintro rfl;exact ⟨rfl,rfl,rfl⟩
theorem sameM_iff {f g:MarkM}:sameM f g=true ↔ f=g:=by
 simp only [sameM,Bool.and_eq_true,beq_iff_eq,and_true]
 constructor
 ·rintro ⟨a,b,c,d⟩;exact Prod.ext a (Prod.ext b (Prod.ext c d))
 ·rintro rfl;exact ⟨rfl,rfl,rfl,rfl⟩
theorem cmpF (f g:FileM):∃ t1 t2 t3,ropPV .eqS [pS f.1,pS g.1]=some (pB t1)/\ropPV .eqI [pI f.2.1,pI g.2.1]=some (pB t2)/\ropPV .eqS [pS f.2.2,pS g.2.2]=some (pB t3)/\ropPV .allB [pB t1,pB t2,pB t3]=some (pB (sameF f g)):=⟨_,_,_,rfl,rfl,rfl,rfl⟩
theorem cmpM (f g:MarkM):∃ t1 t2 t3 t4,ropPV .eqI [pI f.1,pI g.1]=some (pB t1)/\ropPV .eqI [pI f.2.1,pI g.2.1]=some (pB t2)/\ropPV .eqI [pI f.2.2.1,pI g.2.2.1]=some (pB t3)/\ropPV .eqI [pI f.2.2.2,pI g.2.2.2]=some (pB t4)/\ropPV .allB [pB t1,pB t2,pB t3,pB t4]=some (pB (sameM f g)):=⟨_,_,_,_,rfl,rfl,rfl,rfl,rfl⟩
@[simp] theorem kSmF (k:Nat):(ESmF k).k=k:=rfl
@[simp] theorem kSmN (k:Nat):(ESmN k).k=k:=rfl
@[simp] theorem kSmS (k:Nat):(ESmS k).k=k:=rfl
def RSmF (ps qs:List PV):Prop:=∃ xs ys:List FileM,xs.length<=1000000/\ys.length<=1000000/\ps=[pRow encF xs,pRow encF ys]/\qs=[pB (sameQ xs ys)]
def RSmG (ps qs:List PV):Prop:=∃ xs ys:List MarkM,xs.length<=1000000/\ys.length<=1000000/\ps=[pRow encM xs,pRow encM ys]/\qs=[pB (sameQ xs ys)]
theorem fSmG:∀ ps q1 q2,RSmG ps q1->RSmG ps q2->q1=q2:=by
 rintro ps q1 q2 ⟨a,b,_,_,rfl,rfl⟩ ⟨c,d,_,_,h,rfl⟩
 simp only [List.cons.injEq,and_true] at h
 rw [fil.pRow_inj Zqd h.1,fil.pRow_inj Zqd h.2]

theorem cutC:flC=flC.take 4++.block (Zao (nth flC 4)) (.loop (Zak (nth flC 4))) :: flC.drop 5:=by kernel_rfl
set_option maxHeartbeats 1000000 in
theorem toldC (k:Nat):ToldF 57 (ESmF k) (spec RSmG):=by
 refine Zek (fun _ _=>none) _ (Zar Tryz.prog 57) Tryz.func57 (by kernel_rfl) shC (by kernel_rfl) ?_ ?_
 ·intro ps qs h
  obtain ⟨xs,ys,_,_,rfl,rfl⟩:=Zaj h
  exact Zbd rfl
 ·intro C ps qs hF h a w hsh
  obtain ⟨xs,ys,hx,hy,rfl,rfl⟩:=Zaj h
  show wpL Tryz.prog flC _ a w
  rw [cutC]
  by_cases hl:xs.length=ys.length
  ·have hl':(xs.length:Int)=(ys.length:Int):=by omega
   refine Zag Zad Zac fil.noOrc_ok Cpre hsh ?_ ?_
   ·simp [-Zae,Zab,Zaa,Base.ev,SX.ev,evs,Value.oneCell',Zaf,binPV,hl']
   intro qs a1 w1 hq h1
   refine ⟨fun _=>?_,fun h=>absurd rfl h⟩
   simp [evs,SX.ev,Zaf] at hq
   subst hq
   refine Zau (fun q a w=>∃ i:Nat,i<=xs.length/\q=xs.length - i/\(∀ j (h1:j < xs.length) (h2:j < ys.length),j < i->xs[j]=ys[j])/\Zah C shCl [pRow encM xs,pRow encM ys,pI (i:Int)] a w) ?_ (n:=xs.length) ⟨0,by omega,by omega,fun j _ _ h=>absurd h (by omega),h1⟩
   rintro q a w ⟨i,hi,rfl,hb,hin⟩
   show wpL Tryz.prog lpC _ a w
   rw [<- List.append_nil lpC]
   by_cases hlt:i < xs.length
   ·have hlt2:i < ys.length:=by omega
    obtain ⟨c0,c1,c2,c3⟩:=cellM4 xs i hlt
    obtain ⟨d0,d1,d2,d3⟩:=cellM4 ys i hlt2
    have ix:=Zaq encM xs i 4 4 .i64 rfl hlt (by decide)
    have iy:=Zaq encM ys i 4 4 .i64 rfl hlt2 (by decide)
    have v3:IntKind.i64.wrap ((i:Int)+1)=(i:Int)+1:=wrapI _ (by omega) (by omega)
    obtain ⟨t1,t2,t3,t4,r1,r2,r3,r4,ra⟩:=cmpM xs[i] ys[i]
    by_cases he:xs[i]=ys[i]
    ·rw [sameM_iff.2 he] at ra
     have rn:ropPV .notB [pB true]=some (pB false):=rfl
     have hnx:∀ j (h1:j < xs.length) (h2:j < ys.length),j < i+1->xs[j]=ys[j]:=fun j h1 h2 h3=>by
      by_cases hj:j=i
      ·subst hj;exact he
      ·exact hb j h1 h2 (by omega)
     clear hb he
     generalize xs[i]=xb at *
     generalize ys[i]=yb at *
     refine Zag Zad Zac fil.noOrc_ok Cgo hin ?_ (fun qs a1 w1 hq h1=>⟨fun _=>.inl ⟨rfl,xs.length - (i+1),by omega,i+1,by omega,rfl,hnx,by simp [evs,SX.ev,binPV,v3] at hq;subst hq;exact h1⟩,fun h=>absurd rfl h⟩)
     simp [-Zae,Zab,Zaa,Base.ev,SX.ev,evs,Value.oneCell',Zaf,binPV,v3,hlt,ix,iy,c0,c1,c2,c3,d0,d1,d2,d3,r1,r2,r3,r4,ra,rn]
    ·have hs:sameM xs[i] ys[i]=false:=by rw [<- Bool.not_eq_true];exact fun h=>he (sameM_iff.1 h)
     rw [hs] at ra
     have rn:ropPV .notB [pB false]=some (pB true):=rfl
     have hQ:sameQ xs ys=false:=Ztn fun h=>he (by subst h;rfl)
     rw [hQ] at *
     clear hb he hs
     generalize xs[i]=xb at *
     generalize ys[i]=yb at *
     refine Zag Zad Zac fil.noOrc_ok Cne hin ?_ ?_
     ·simp [-Zae,Zab,Zaa,Base.ev,SX.ev,evs,Value.oneCell',Zaf,binPV,v3,hlt,ix,iy,c0,c1,c2,c3,d0,d1,d2,d3,r1,r2,r3,r4,ra,rn]
     ·intro qs a1 w1 hq h1
      exact ⟨nofun,fun _=>.inr (.inr ⟨rfl,.inr rfl,shCR,qs,[SX.var 0],h1,by kernel_rfl,by simp [evs,SX.ev] at hq ⊢;subst hq;rfl⟩)⟩
   ·have hie:i=xs.length:=by omega
    subst hie
    have hQ:sameQ xs ys=true:=sameQ_yes (List.ext_getElem hl fun j h1 h2=>hb j h1 h2 h1)
    rw [hQ] at *
    refine Zag Zad Zac fil.noOrc_ok Cex hin ?_ ?_
    ·simp [-Zae,Zab,Zaa,Base.ev,SX.ev,evs,Value.oneCell',Zaf,binPV]
    ·intro qs a1 w1 hq h1
     refine ⟨nofun,fun _=>.inr (.inl ⟨by rw [show Zao (nth flC 4)=0 by kernel_rfl];rfl,?_⟩)⟩
     simp [evs,SX.ev] at hq
     subst hq
     rw [<- List.append_nil (flC.drop 5)]
     refine Zag Zad Zac fil.noOrc_ok Cpost h1 ?_ (fun qs a1 w1 hq h1=>⟨nofun,fun _=>⟨.inr rfl,shCR,_,[SX.var 0],h1,by kernel_rfl,by simp [evs,SX.ev] at hq;subst hq;rfl⟩⟩)
     simp [-Zae,Zab,Zaa,Base.ev,SX.ev,evs,Value.oneCell',Zaf]
  ·have hl':¬ (xs.length:Int)=(ys.length:Int):=by omega
   have hQ:sameQ xs ys=false:=Ztn fun h=>hl (by rw [h])
   rw [hQ] at *
   refine Zag Zad Zac fil.noOrc_ok Cno hsh ?_ ?_
   ·simp [-Zae,Zab,Zaa,Base.ev,SX.ev,evs,Value.oneCell',Zaf,binPV,hl,hl']
   ·intro qs a1 w1 hq h1
    exact ⟨nofun,fun _=>⟨.inr rfl,shCR,_,[SX.var 0],h1,by kernel_rfl,by simp [evs,SX.ev] at hq;subst hq;rfl⟩⟩

noncomputable def sameS (s t:StM):Bool:=sameQ s.files t.files && (sameQ s.marks t.marks && (s.epoch == t.epoch))
theorem sameS_iff {s t:StM}:sameS s t=true ↔ s=t:=by
 cases s;cases t
 simp only [sameS,Bool.and_eq_true,sameQ_iff,beq_iff_eq,StM.mk.injEq]
def RSmS (ps qs:List PV):Prop:=∃ s t:StM,s.files.length<=1000000/\s.marks.length<=1000000/\t.files.length<=1000000/\t.marks.length<=1000000/\ps=pSt s++pSt t/\qs=[pB (sameS s t)]
theorem fSmS:∀ ps q1 q2,RSmS ps q1->RSmS ps q2->q1=q2:=by
 rintro ps q1 q2 ⟨s,t,_,_,_,_,rfl,rfl⟩ ⟨s',t',_,_,_,_,h,rfl⟩
 simp only [List.cons_append,List.nil_append,List.cons.injEq,PV.v.injEq,Value.int.injEq,true_and,and_true] at h
 obtain ⟨h1,h2,h3,h4,h5,h6⟩:=h
 rw [Zkj h1 h2 h3,Zkj h4 h5 h6]
noncomputable def FQ:Fns:=fun k=>match k with | 1=>spec RSmG | 2=>spec RSmF | 3=>spec RSmG | _=>fun _=>none
theorem dq1:ToldF 57 (ESmN 1) (FQ 1):=Zgo (toldC 1) rfl rfl rfl rfl rfl
theorem FQ1 {xs ys:List MarkM} (h1:xs.length<=1000000) (h2:ys.length<=1000000):FQ 1 [pRow encM xs,pRow encM ys]=some [pB (sameQ xs ys)]:=Zal fSmG ⟨xs,ys,h1,h2,rfl,rfl⟩
theorem cutD:flD=flD.take 4++.block (Zao (nth flD 4)) (.loop (Zak (nth flD 4))) :: flD.drop 5:=by kernel_rfl
set_option maxHeartbeats 1000000 in
theorem toldSmD (k:Nat):ToldF 20 (ESmS k) (spec RSmS):=by
 refine Zek FQ _ (Zar Tryz.prog 20) Tryz.func20 (by kernel_rfl) shD (by kernel_rfl) ?_ ?_
 ·intro ps qs h
  obtain ⟨s,t,_,_,_,_,rfl,rfl⟩:=Zaj h
  exact Zbd rfl
 ·intro C ps qs hF h a w hsh
  obtain ⟨⟨xs,m1,e1⟩,⟨ys,m2,e2⟩,h1,h2,h3,h4,rfl,rfl⟩:=Zaj h
  show wpL Tryz.prog flD _ a w
  rw [cutD]
  have q1:=FQ1 h2 h4
  simp only at h1 h2 h3 h4 q1
  have rn:∀ b,ropPV .notB [pB b]=some (pB (!b)):=fun _=>rfl
  have hsx:sameS ⟨xs,m1,e1⟩ ⟨ys,m2,e2⟩=(sameQ xs ys && (sameQ m1 m2 && (e1 == e2))):=rfl
  have no:sameS ⟨xs,m1,e1⟩ ⟨ys,m2,e2⟩=false->∀ qs a1 w1,qs=[pB false]->Zah C shDR qs a1 w1->(AX.ret=.normal->wpL Tryz.prog (.block (Zao (nth flD 4)) (.loop (Zak (nth flD 4))) :: flD.drop 5) (fun e a' w'=>(e=.normal \/ e=.ret)/\∃ sh' ps' es,Zah C sh' ps' a' w'/\resTo Tryz.prog Tryz.f20 sh' (ESmS k)=some es/\evs (fun i=>ps'[i]?) FQ es=some [pB (sameS ⟨xs,m1,e1⟩ ⟨ys,m2,e2⟩)]) a1 w1)/\(AX.ret ≠ .normal->(AX.ret.to=.normal \/ AX.ret.to=.ret)/\∃ sh' ps' es,Zah C sh' ps' a1 w1/\resTo Tryz.prog Tryz.f20 sh' (ESmS k)=some es/\evs (fun i=>ps'[i]?) FQ es=some [pB (sameS ⟨xs,m1,e1⟩ ⟨ys,m2,e2⟩)]):=by
   intro hn qs a1 w1 hq h1
   exact ⟨nofun,fun _=>⟨.inr rfl,shDR,_,[SX.var 0],h1,by kernel_rfl,by subst hq;rw [hn];rfl⟩⟩
  by_cases hl:xs.length=ys.length
  ·have hl':(xs.length:Int)=(ys.length:Int):=by omega
   cases hm:sameQ m1 m2 with
   | false =>
    have hQ:sameS ⟨xs,m1,e1⟩ ⟨ys,m2,e2⟩=false:=by rw [hsx,hm];simp
    rw [hm] at q1
    refine Zag Zad Zac (Zai _) Dn2 hsh ?_ (fun qs a1 w1 hq h=>no hQ qs a1 w1 (by simp [evs,SX.ev] at hq;exact hq.symm) h)
    simp [-Zae,Zab,Zaa,Base.ev,SX.ev,evs,Value.oneCell',hF,Zaf,binPV,hl',q1,rn,dq1]
   | true =>
    rw [hm] at q1
    by_cases he:e1=e2
    ·refine Zag Zad Zac (Zai _) Dpre hsh ?_ ?_
     ·simp [-Zae,Zab,Zaa,Base.ev,SX.ev,evs,Value.oneCell',hF,Zaf,binPV,hl',q1,rn,dq1,he]
     intro qs a1 w1 hq h1
     refine ⟨fun _=>?_,fun h=>absurd rfl h⟩
     simp [evs,SX.ev,Zaf] at hq
     subst hq
     refine Zau (fun q a w=>∃ i:Nat,i<=xs.length/\q=xs.length - i/\(∀ j (h1:j < xs.length) (h2:j < ys.length),j < i->xs[j]=ys[j])/\Zah C shDl [pI (i:Int),pRow encF xs,pRow encM m1,pI e1,pRow encF ys,pRow encM m2,pI e2] a w) ?_ (n:=xs.length) ⟨0,by omega,by omega,fun j _ _ h=>absurd h (by omega),h1⟩
     rintro q a w ⟨i,hi,rfl,hb,hin⟩
     show wpL Tryz.prog lpD _ a w
     rw [<- List.append_nil lpD]
     by_cases hlt:i < xs.length
     ·have hlt2:i < ys.length:=by omega
      obtain ⟨c0,c1,c2⟩:=cellF xs i hlt
      obtain ⟨d0,d1',d2'⟩:=cellF ys i hlt2
      have ix:=Zaq encF xs i 3 3 .i64 rfl hlt (by decide)
      have iy:=Zaq encF ys i 3 3 .i64 rfl hlt2 (by decide)
      have v3:IntKind.i64.wrap ((i:Int)+1)=(i:Int)+1:=wrapI _ (by omega) (by omega)
      obtain ⟨t1,t2,t3,r1,r2,r3,ra⟩:=cmpF xs[i] ys[i]
      by_cases he':xs[i]=ys[i]
      ·rw [sameF_iff.2 he'] at ra
       have hnx:∀ j (h1:j < xs.length) (h2:j < ys.length),j < i+1->xs[j]=ys[j]:=fun j h1 h2 h3=>by
        by_cases hj:j=i
        ·subst hj;exact he'
        ·exact hb j h1 h2 (by omega)
       clear hb he'
       generalize xs[i]=xb at *
       generalize ys[i]=yb at *
       refine Zag Zad Zac (Zai _) Dgo hin ?_ (fun qs a1 w1 hq h1=>⟨fun _=>.inl ⟨rfl,xs.length - (i+1),by omega,i+1,by omega,rfl,hnx,by simp [evs,SX.ev,binPV,v3] at hq;subst hq;exact h1⟩,fun h=>absurd rfl h⟩)
       simp [-Zae,Zab,Zaa,Base.ev,SX.ev,evs,Value.oneCell',Zaf,binPV,v3,hlt,ix,iy,c0,c1,c2,d0,d1',d2',r1,r2,r3,ra,rn]
      ·have hs:sameF xs[i] ys[i]=false:=by rw [<- Bool.not_eq_true];exact fun h=>he' (sameF_iff.1 h)
       rw [hs] at ra
       have hQ:sameS ⟨xs,m1,e1⟩ ⟨ys,m2,e2⟩=false:=by
        rw [hsx,Ztn fun h=>he' (by subst h;rfl)];rfl
       clear hb he' hs
       generalize xs[i]=xb at *
       generalize ys[i]=yb at *
       refine Zag Zad Zac (Zai _) Dne hin ?_ ?_
       ·simp [-Zae,Zab,Zaa,Base.ev,SX.ev,evs,Value.oneCell',Zaf,binPV,v3,hlt,ix,iy,c0,c1,c2,d0,d1',d2',r1,r2,r3,ra,rn]
       ·intro qs a1 w1 hq h1
        exact ⟨nofun,fun _=>.inr (.inr ⟨rfl,.inr rfl,shDR,qs,[SX.var 0],h1,by kernel_rfl,by simp [evs,SX.ev] at hq ⊢;subst hq;rw [hQ];rfl⟩)⟩
     ·have hie:i=xs.length:=by omega
      subst hie
      have hQ:sameS ⟨xs,m1,e1⟩ ⟨ys,m2,e2⟩=true:=by
       rw [hsx,sameQ_yes (List.ext_getElem hl fun j h1 h2=>hb j h1 h2 h1),hm,he];simp
      refine Zag Zad Zac (Zai _) Dex hin ?_ ?_
      ·simp [-Zae,Zab,Zaa,Base.ev,SX.ev,evs,Value.oneCell',Zaf,binPV]
      ·intro qs a1 w1 hq h1
       refine ⟨nofun,fun _=>.inr (.inl ⟨by rw [show Zao (nth flD 4)=0 by kernel_rfl];rfl,?_⟩)⟩
       simp [evs,SX.ev] at hq
       subst hq
       rw [<- List.append_nil (flD.drop 5)]
       refine Zag Zad Zac (Zai _) Dpost h1 ?_ (fun qs a1 w1 hq h1=>⟨nofun,fun _=>⟨.inr rfl,shDR,_,[SX.var 0],h1,by kernel_rfl,by simp [evs,SX.ev] at hq;subst hq;rw [hQ];rfl⟩⟩)
       simp [-Zae,Zab,Zaa,Base.ev,SX.ev,evs,Value.oneCell',Zaf]
    ·have hQ:sameS ⟨xs,m1,e1⟩ ⟨ys,m2,e2⟩=false:=by
      rw [hsx,beq_eq_false_iff_ne.2 he];simp
     refine Zag Zad Zac (Zai _) Dn3 hsh ?_ (fun qs a1 w1 hq h=>no hQ qs a1 w1 (by simp [evs,SX.ev] at hq;exact hq.symm) h)
     simp [-Zae,Zab,Zaa,Base.ev,SX.ev,evs,Value.oneCell',hF,Zaf,binPV,hl',q1,rn,dq1,he]
  ·have hl':¬ (xs.length:Int)=(ys.length:Int):=by omega
   have hQ:sameS ⟨xs,m1,e1⟩ ⟨ys,m2,e2⟩=false:=by
    rw [hsx,Ztn fun h=>hl (by rw [h])];rfl
   refine Zag Zad Zac (Zai _) Dn1 hsh ?_ (fun qs a1 w1 hq h=>no hQ qs a1 w1 (by simp [evs,SX.ev] at hq;exact hq.symm) h)
   simp [-Zae,Zab,Zaa,Base.ev,SX.ev,evs,Value.oneCell',Zaf,binPV,hl,hl']
end Go.Proofs.YtefkakjegdjojaaGreat.sta
