/- Put and Diff of package image: told. -/
import Derived.Test.YtpnegheknjeljaaGreatIdf
namespace Go.Proofs.YtpnegheknjeljaaGreat.ipd
open Go Go.RowKit eng SX Fact fil ima symD sta ise idf
open fileFronts (Zac)
open dirs (encF)
set_option linter.unusedVariables false
set_option linter.unusedSimpArgs false
set_option maxRecDepth 1000000

def EPuI (k:Nat):FnE:={ k:=k,ins:=[some 3],leaks:=[false,false,false],outs:=[none],kinds:=[.row] }
def EDfI (k:Nat):FnE:={ k:=k,ins:=[none,none],leaks:=[false,false],outs:=[none],kinds:=[.row] }
def tabX (f:FuncId):Option (FnE × List Value):=cond (Nat.beq f 105) (some (ESec 1,[pvSe])) (cond (Nat.beq f 67) (some (EUn 2,[pvUn])) none)
@[simp] def Zgv:List SX:=[.var 0,.var 1,.var 2]
theorem py:runTo Tryz.prog (orcX tabX) 10000 68 (EPuI 3) [.row,.row,.num] [0]=some ([.ok (.var 2),Fact.fx 105 (ESec 1) ([pvSe]) Zgv,.is (.fn 1 Zgv 0) (.int .i64 0)],[.fn 1 Zgv 1]):=by kernel_rfl
theorem pn:runTo Tryz.prog (orcX tabX) 10000 68 (EPuI 3) [.row,.row,.num] [1]=some ([.ok (.var 2),Fact.fx 105 (ESec 1) ([pvSe]) Zgv,.is (.fn 1 Zgv 0) (.int .i64 1)],[.lit 0 []]):=by kernel_rfl
@[simp] theorem kPuI (k:Nat):(EPuI k).k=k:=rfl
@[simp] theorem kDfI (k:Nat):(EDfI k).k=k:=rfl
noncomputable def FX:Fns:=fun k=>match k with | 1=>spec RSec | 2=>spec RUn | _=>fun _=>none
theorem pp1:ToldX 105 (ESec 1) [pvSe] (FX 1):=toldSec 1
def RPuI (ps qs:List PV):Prop:=∃ s:StM,MayPre s/\ps=pSt s/\qs=[pRow encS (putI s)]
theorem fPuI:∀ ps q1 q2,RPuI ps q1->RPuI ps q2->q1=q2:=by
 rintro ps q1 q2 ⟨s,_,rfl,rfl⟩ ⟨s',_,h,rfl⟩
 simp only [pSt,List.cons.injEq,PV.v.injEq,Value.int.injEq,true_and,and_true] at h
 rw [Znj h.1 h.2.1 h.2.2]
theorem toldPuI (k:Nat):ToldF 68 (EPuI k) (spec RPuI):=by
 refine Zgh mixed_ok names_ok FX [.row,.row,.num] ?_
 intro ps qs h _
 obtain ⟨s,hp,rfl,rfl⟩:=Zah h
 have g:=Zap (R:=RSec) fSec ⟨s,hp,rfl,rfl⟩
 cases hm:mayS s with
 | true =>
  rw [hm,if_pos rfl] at g
  have g1:FX 1 [pRow encF s.files,pRow encM s.marks,pI s.epoch]=some [pI 0,pRow encS (putI s)]:=g
  refine ⟨_,_,_,_,_,_,Zil tabX,py,fun w FP=>?_,?_⟩
  ·simp [-Zac,Zab,Zaa,Base.ev,SX.ev,evs,Value.oneCell',pSt,g1,pp1]
  ·simp [evs,SX.ev,pSt,g1]
 | false =>
  rw [hm,if_neg (by simp)] at g
  have g1:FX 1 [pRow encF s.files,pRow encM s.marks,pI s.epoch]=some [pI 1]:=g
  have hn:putI s=[]:=by unfold putI;rw [hm];rfl
  refine ⟨_,_,_,_,_,_,Zil tabX,pn,fun w FP=>?_,?_⟩
  ·simp [-Zac,Zab,Zaa,Base.ev,SX.ev,evs,Value.oneCell',pSt,g1,pp1]
  ·simp [evs,SX.ev,hn]
   rfl

end Go.Proofs.YtpnegheknjeljaaGreat.ipd
