/- Put and Diff of package image: told. -/
import Derived.Test.YtefkakjegdjojaaGreatIdf
namespace Go.Proofs.YtefkakjegdjojaaGreat.ipd
open Go Go.RowKit eng SX Fact fil ima symD sta ise idf
open fileFronts (Zae)
open dirs (encF)
set_option linter.unusedVariables false
set_option linter.unusedSimpArgs false
set_option maxRecDepth 1000000

def EPuI (k:Nat):FnE:={ k:=k,ins:=[some 3],leaks:=[false,false,false],outs:=[none],kinds:=[.row] }
def EDfI (k:Nat):FnE:={ k:=k,ins:=[none,none],leaks:=[false,false],outs:=[none],kinds:=[.row] }
def tabX (f:FuncId):Option (FnE × List Value):=cond (Nat.beq f 60) (some (ESec 1,[pvSe])) (cond (Nat.beq f 71) (some (EUn 2,[pvUn])) none)
@[simp] def Zlk:List SX:=[.var 0,.var 1,.var 2]
theorem py:runTo Tryz.prog (orcX tabX) 10000 22 (EPuI 3) [.row,.row,.num] [0]=some ([.ok (.var 2),Fact.fx 60 (ESec 1) ([pvSe]) Zlk,.is (.fn 1 Zlk 0) (.int .i64 0)],[.fn 1 Zlk 1]):=by kernel_rfl
theorem pn:runTo Tryz.prog (orcX tabX) 10000 22 (EPuI 3) [.row,.row,.num] [1]=some ([.ok (.var 2),Fact.fx 60 (ESec 1) ([pvSe]) Zlk,.is (.fn 1 Zlk 0) (.int .i64 1)],[.lit 0 []]):=by kernel_rfl
theorem dy:runTo Tryz.prog (orcX tabX) 10000 26 (EDfI 3) [.row,.row] [0]=some ([Fact.fx 71 (EUn 2) ([pvUn]) [.var 0,.var 1],.is (.fn 2 [.var 0,.var 1] 0) (.int .i64 0)],[.fn 2 [.var 0,.var 1] 1]):=by kernel_rfl
theorem dn:runTo Tryz.prog (orcX tabX) 10000 26 (EDfI 3) [.row,.row] [1]=some ([Fact.fx 71 (EUn 2) ([pvUn]) [.var 0,.var 1],.is (.fn 2 [.var 0,.var 1] 0) (.int .i64 1)],[.lit 0 []]):=by kernel_rfl

@[simp] theorem kPuI (k:Nat):(EPuI k).k=k:=rfl
@[simp] theorem kDfI (k:Nat):(EDfI k).k=k:=rfl
noncomputable def FX:Fns:=fun k=>match k with | 1=>spec RSec | 2=>spec RUn | _=>fun _=>none
theorem pp1:ToldX 60 (ESec 1) [pvSe] (FX 1):=Zwk 1
theorem pp2:ToldX 71 (EUn 2) [pvUn] (FX 2):=toldUn 2
def RPuI (ps qs:List PV):Prop:=∃ s:StM,MayPre s/\ps=pSt s/\qs=[pRow encS (putI s)]
theorem fPuI:∀ ps q1 q2,RPuI ps q1->RPuI ps q2->q1=q2:=by
 rintro ps q1 q2 ⟨s,_,rfl,rfl⟩ ⟨s',_,h,rfl⟩
 simp only [pSt,List.cons.injEq,PV.v.injEq,Value.int.injEq,true_and,and_true] at h
 rw [Zkj h.1 h.2.1 h.2.2]
theorem toldPuI (k:Nat):ToldF 22 (EPuI k) (spec RPuI):=by
 refine Ze5 Zac Zad FX [.row,.row,.num] ?_
 intro ps qs h _
 obtain ⟨s,hp,rfl,rfl⟩:=Zaj h
 have g:=Zal (R:=RSec) fSec ⟨s,hp,rfl,rfl⟩
 cases hm:mayS s with
 | true =>
  rw [hm,if_pos rfl] at g
  have g1:FX 1 [pRow encF s.files,pRow encM s.marks,pI s.epoch]=some [pI 0,pRow encS (putI s)]:=g
  refine ⟨_,_,_,_,_,_,Zkk tabX,py,fun w FP=>?_,?_⟩
  ·simp [-Zae,Zab,Zaa,Base.ev,SX.ev,evs,Value.oneCell',pSt,g1,pp1]
  ·simp [evs,SX.ev,pSt,g1]
 | false =>
  rw [hm,if_neg (by simp)] at g
  have g1:FX 1 [pRow encF s.files,pRow encM s.marks,pI s.epoch]=some [pI 1]:=g
  have hn:putI s=[]:=by unfold putI;rw [hm];rfl
  refine ⟨_,_,_,_,_,_,Zkk tabX,pn,fun w FP=>?_,?_⟩
  ·simp [-Zae,Zab,Zaa,Base.ev,SX.ev,evs,Value.oneCell',pSt,g1,pp1]
  ·simp [evs,SX.ev,hn]
   rfl
def difI (a b:List ByteArray):List (Int × ByteArray):=if a.length=b.length then diffI a b else []
def RDfI (ps qs:List PV):Prop:=∃ a b:List ByteArray,a.length<=1000000/\b.length<=1000000/\ps=[pRow encS a,pRow encS b]/\qs=[pRow encQ (difI a b)]
theorem fDfI:∀ ps q1 q2,RDfI ps q1->RDfI ps q2->q1=q2:=by
 rintro ps q1 q2 ⟨a,b,_,_,rfl,rfl⟩ ⟨a',b',_,_,h,rfl⟩
 simp only [List.cons.injEq,and_true] at h
 rw [fil.pRow_inj encS_inj h.1,fil.pRow_inj encS_inj h.2]
theorem toldDfI (k:Nat):ToldF 26 (EDfI k) (spec RDfI):=by
 refine Ze5 Zac Zad FX [.row,.row] ?_
 intro ps qs h _
 obtain ⟨a,b,ha,hb,rfl,rfl⟩:=Zaj h
 have g:=Zal (R:=RUn) fUn ⟨a,b,ha,hb,rfl,rfl⟩
 by_cases hl:a.length=b.length
 ·rw [if_pos hl] at g
  have g1:FX 2 [pRow encS a,pRow encS b]=some [pI 0,pRow encQ (diffI a b)]:=g
  rw [difI,if_pos hl]
  refine ⟨_,_,_,_,_,_,Zkk tabX,dy,fun w FP=>?_,?_⟩
  ·simp [-Zae,Zab,Zaa,Base.ev,SX.ev,evs,Value.oneCell',g1,pp2]
  ·simp [evs,SX.ev,g1]
 ·rw [if_neg hl] at g
  have g1:FX 2 [pRow encS a,pRow encS b]=some [pI 1]:=g
  rw [difI,if_neg hl]
  refine ⟨_,_,_,_,_,_,Zkk tabX,dn,fun w FP=>?_,?_⟩
  ·simp [-Zae,Zab,Zaa,Base.ev,SX.ev,evs,Value.oneCell',g1,pp2]
  ·simp [evs,SX.ev]
   rfl

end Go.Proofs.YtefkakjegdjojaaGreat.ipd
