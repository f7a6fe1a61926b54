/- dir.May and package msg's mustBeWrites, told. -/
import Derived.Test.YtnomiffghidmbaaMas
import Derived.Test.YtnomiffghidmbaaMeq
namespace Go.Proofs.Ytnomiffghidmbaa.mmw
open Go Go.RowKit eng SX Fact fil ima msm
open fileFronts (Zac Zei)
open dirs (EName RName fName EMust RMust fMust toldMust mustQ okN okC pvB1 pvB2)
open may (EMay RMay fMay toldMay)
set_option linter.unusedVariables false
set_option linter.unusedSimpArgs false
set_option maxRecDepth 1000000
def EMw (k:Nat):FnE:={ k:=k,ins:=[none,none],leaks:=[false,false],outs:=[],kinds:=[] }
def tabD (f:FuncId):Option (FnE × List Value):=cond (Nat.beq f 84) (some (EMust 3,[pvB1,pvB2])) none
def tabW (f:FuncId):Option FnE:=cond (Nat.beq f 75) (some (EMay 4)) none
noncomputable def flW:=flat (Zam Try.prog 60)
noncomputable def lpW:=flat (Zaq (nth flW 2))
def shW:Shape:=⟨[(0,.leaf),(1,.leaf)],[],[some false,none],21,60⟩
def shWl:Shape:=⟨[(10,.leaf),(11,.leaf),(12,.leaf)],[],[some false,none,none],21,60⟩
def shW0:Shape:=⟨[],[],[],21,60⟩
@[simp] def zMmw1:List SX:=[.cell (.var 0) (.var 2) 2 0,.cell (.var 0) (.var 2) 2 1]
@[simp] def zMmw2:SX:=.bin .lss (.len (.var 0)) (.var 1)
@[simp] def zMmw3:SX:=.bin .gtr (.len (.var 0)) (.con (.int .i64 5))
@[simp] def zMmw4:SX:=.bin .lss (.var 2) (.var 1)
@[simp] def zMmw5:Fact:=Fact.fx 84 (EMust 3) ([pvB1,pvB2]) [.var 0]
@[simp] def zMmw6:SX:=.bin .add (.var 2) (.con (.int .i64 1))
@[simp] def zMmw7:Fact:=.idx (.var 0) (.var 2) 2 2
@[simp] def zMmw8:Fact:=.ok (.len (.var 0))
theorem dm0:runTo Try.prog (orcX tabD) 10000 74 (EName 1) [.num] [0]=some ([.ok (.var 0),zMmw5,.is (.fn 3 [.var 0] 0) (.int .i64 0)],[.con (.bool true)]):=by kernel_rfl
theorem dm1:runTo Try.prog (orcX tabD) 10000 74 (EName 1) [.num] [1]=some ([.ok (.var 0),zMmw5,.is (.fn 3 [.var 0] 0) (.int .i64 1)],[.con (.bool false)]):=by kernel_rfl
theorem dm2:runTo Try.prog (orcX tabD) 10000 74 (EName 1) [.num] [2]=some ([.ok (.var 0),zMmw5,.is (.fn 3 [.var 0] 0) (.int .i64 2)],[.con (.bool false)]):=by kernel_rfl
theorem wpre:segTo Try.prog (orcFn tabW) 10000 (flW.take 2) shW [0,0] shWl []=some (.normal,[zMmw8,.ok zMmw2,.is zMmw2 (.bool false),.ok zMmw3,.is zMmw3 (.bool false),zMmw8,zMmw8,.ok (.con (.int .i64 0))],[.var 0,.len (.var 0),.con (.int .i64 0)]):=by kernel_rfl
theorem wn1:segTo Try.prog (orcFn tabW) 10000 (flW.take 2) shW [1] shW0 []=some (.panic (.iface 9 (.string { data:={ toList:=[UInt8.ofNat 109,UInt8.ofNat 115,UInt8.ofNat 103,UInt8.ofNat 58,UInt8.ofNat 32,UInt8.ofNat 97,UInt8.ofNat 32,UInt8.ofNat 110,UInt8.ofNat 117,UInt8.ofNat 109,UInt8.ofNat 98,UInt8.ofNat 101,UInt8.ofNat 114,UInt8.ofNat 32,UInt8.ofNat 116,UInt8.ofNat 104,UInt8.ofNat 97,UInt8.ofNat 116,UInt8.ofNat 32,UInt8.ofNat 109,UInt8.ofNat 97,UInt8.ofNat 121,UInt8.ofNat 32,UInt8.ofNat 110,UInt8.ofNat 111,UInt8.ofNat 116,UInt8.ofNat 32,UInt8.ofNat 98,UInt8.ofNat 101] } })),[zMmw8,.ok zMmw2,.is zMmw2 (.bool true)],[]):=by kernel_rfl
theorem wn2:segTo Try.prog (orcFn tabW) 10000 (flW.take 2) shW [0,1] shW0 []=some (.panic (.iface 9 (.string { data:={ toList:=[UInt8.ofNat 109,UInt8.ofNat 115,UInt8.ofNat 103,UInt8.ofNat 58,UInt8.ofNat 32,UInt8.ofNat 97,UInt8.ofNat 32,UInt8.ofNat 110,UInt8.ofNat 117,UInt8.ofNat 109,UInt8.ofNat 98,UInt8.ofNat 101,UInt8.ofNat 114,UInt8.ofNat 32,UInt8.ofNat 116,UInt8.ofNat 104,UInt8.ofNat 97,UInt8.ofNat 116,UInt8.ofNat 32,UInt8.ofNat 109,UInt8.ofNat 97,UInt8.ofNat 121,UInt8.ofNat 32,UInt8.ofNat 110,UInt8.ofNat 111,UInt8.ofNat 116,UInt8.ofNat 32,UInt8.ofNat 98,UInt8.ofNat 101] } })),[zMmw8,.ok zMmw2,.is zMmw2 (.bool false),.ok zMmw3,.is zMmw3 (.bool true)],[]):=by kernel_rfl
theorem wx:segTo Try.prog (orcFn tabW) 10000 lpW shWl [0] shW0 []=some (.exit 0,[.ok zMmw4,.is zMmw4 (.bool false)],[]):=by kernel_rfl
theorem wo:segTo Try.prog (orcFn tabW) 10000 lpW shWl [1,1] shWl []=some (.normal,[.ok zMmw4,.is zMmw4 (.bool true),zMmw7,zMmw7,.ok (.cell (.var 0) (.var 2) 2 0),.ok (.cell (.var 0) (.var 2) 2 1),.fn 75 (EMay 4) zMmw1,.is (.fn 4 zMmw1 0) (.bool true),.ok zMmw6,.ok (.var 1),.ok zMmw6],[.var 0,.var 1,zMmw6]):=by kernel_rfl
theorem wb:segTo Try.prog (orcFn tabW) 10000 lpW shWl [1,0] shW0 []=some (.panic (.iface 9 (.string { data:={ toList:=[UInt8.ofNat 109,UInt8.ofNat 115,UInt8.ofNat 103,UInt8.ofNat 58,UInt8.ofNat 32,UInt8.ofNat 97,UInt8.ofNat 32,UInt8.ofNat 119,UInt8.ofNat 114,UInt8.ofNat 105,UInt8.ofNat 116,UInt8.ofNat 101,UInt8.ofNat 32,UInt8.ofNat 116,UInt8.ofNat 104,UInt8.ofNat 97,UInt8.ofNat 116,UInt8.ofNat 32,UInt8.ofNat 109,UInt8.ofNat 97,UInt8.ofNat 121,UInt8.ofNat 32,UInt8.ofNat 110,UInt8.ofNat 111,UInt8.ofNat 116,UInt8.ofNat 32,UInt8.ofNat 98,UInt8.ofNat 101] } })),[.ok zMmw4,.is zMmw4 (.bool true),zMmw7,zMmw7,.ok (.cell (.var 0) (.var 2) 2 0),.ok (.cell (.var 0) (.var 2) 2 1),.fn 75 (EMay 4) zMmw1,.is (.fn 4 zMmw1 0) (.bool false)],[]):=by kernel_rfl
@[simp] theorem kMst (k:Nat):(EMust k).k=k:=rfl
@[simp] theorem kMw4 (k:Nat):(EMay k).k=k:=rfl
@[simp] theorem kMwE (k:Nat):(EMw k).k=k:=rfl
@[simp] theorem holds_fxM (B:Base) (f:FuncId) (E:FnE) (pans:List Value) (es:List SX):(Fact.fx f E pans es).holds B ↔ ToldX f E pans (B.F E.k)/\∃ ps qs,evs B.s B.F es=some ps/\B.F E.k ps=some qs:=Iff.rfl
theorem must_ok {s:ByteArray} (h:okN s=true):mustQ s=[pI 0]:=by
 simp only [okN,Bool.and_eq_true,decide_eq_true_eq] at h
 rw [mustQ,if_pos h.1,if_pos h.2]
theorem must_no {s:ByteArray} (h:okN s=false):mustQ s=[pI 1] \/ mustQ s=[pI 2]:=by
 unfold mustQ
 by_cases h1:1<=s.size/\s.size<=8
 ·rw [if_pos h1]
  by_cases h2:s.data.toList.all okC=true
  ·simp [okN,h1,h2] at h
  ·rw [if_neg h2];exact .inr rfl
 ·rw [if_neg h1];exact .inl rfl
noncomputable def FD:Fns:=fun k=>match k with | 3=>spec RMust | 4=>spec RMay | _=>fun _=>none
theorem x3:ToldX 84 (EMust 3) [pvB1,pvB2] (FD 3):=toldMust 3
theorem x4:ToldF 75 (EMay 4) (FD 4):=toldMay 4
theorem FD3 {s:ByteArray} (h:s.size<=9223372036854775807):FD 3 [pS s]=some (mustQ s):=Zaf fMust ⟨s,h,rfl,rfl⟩
theorem toldDm (k:Nat):ToldF 74 (EName k) (spec RName):=by
 refine Zbw mixed_ok names_ok FD [.num] ?_
 intro ps qs h _
 obtain ⟨s,hs,rfl,rfl⟩:=Zag h
 have g3:=FD3 hs
 cases hm:okN s with
 | true =>
  rw [must_ok hm] at g3
  refine ⟨_,_,_,_,_,_,Zdo tabD,dm0,fun w FP=>?_,?_⟩
  ·simp [Base.ev,SX.ev,evs,Value.oneCell',g3,x3]
  ·simp [evs,SX.ev]
 | false =>
  rcases must_no hm with h2 | h2
  ·rw [h2] at g3
   refine ⟨_,_,_,_,_,_,Zdo tabD,dm1,fun w FP=>?_,?_⟩
   ·simp [Base.ev,SX.ev,evs,Value.oneCell',g3,x3]
   ·simp [evs,SX.ev]
  ·rw [h2] at g3
   refine ⟨_,_,_,_,_,_,Zdo tabD,dm2,fun w FP=>?_,?_⟩
   ·simp [Base.ev,SX.ev,evs,Value.oneCell',g3,x3]
   ·simp [evs,SX.ev]
def okWs (l:List WrM) (n:Int):Bool:=decide (n<=(l.length:Int)/\l.length<=5) && l.all okWr
def RMw (ps qs:List PV):Prop:=∃ (l:List WrM) (n:Int),l.length<=1000000/\(∀ w ∈ l,-9223372036854775808<=w.1/\w.1<=9223372036854775807/\w.2.size<=9223372036854775807)/\ps=[pRow encW l,pI n]/\qs=if okWs l n=true then [pI 0] else [pI 1]
theorem fMw:∀ ps q1 q2,RMw ps q1->RMw ps q2->q1=q2:=by
 rintro ps q1 q2 ⟨l,n,_,_,rfl,rfl⟩ ⟨l',n',_,_,h,rfl⟩
 simp only [List.cons.injEq,PV.v.injEq,Value.int.injEq,true_and,and_true] at h
 rw [fil.pRow_inj Zk3 h.1,h.2]
theorem cutW:flW=flW.take 2++[.block (Zat (nth flW 2)) (.loop (Zaq (nth flW 2)))]:=by kernel_rfl
set_option maxHeartbeats 1000000 in
theorem toldMw (k0:Nat):ToldX 60 (EMw k0) [anyV] (spec RMw):=by
 refine Zgt FD _ (Zam Try.prog 60) Try.func60 (by kernel_rfl) shW (by kernel_rfl) ?_ ?_
 ·intro ps qs h
  obtain ⟨l,n,_,_,rfl,rfl⟩:=Zag h
  exact Za7 rfl
 ·intro C ps qs hF h a w hsh
  obtain ⟨l,least,hl,hb,rfl,hqs⟩:=Zag h
  show wpL Try.prog flW _ a w
  rw [cutW]
  have rl:=Zar encW l
  by_cases h1:(l.length:Int) < least
  ·rw [show okWs l least=false by simp [okWs];omega,if_neg (by simp)] at hqs
   refine Zad names_ok mixed_ok (Zae tabW) wn1 hsh ?_ (fun qs a1 w1 hq h1=>⟨nofun,fun _=>.inr ⟨0,anyV,_,_,_,hqs,rfl,rfl,h1⟩⟩)
   simp [-Zac,Zab,Zaa,Base.ev,SX.ev,evs,Value.oneCell',rl,binPV,h1]
  by_cases h2:5 < l.length
  ·rw [show okWs l least=false by simp [okWs];omega,if_neg (by simp)] at hqs
   have h2':(5:Int) < (l.length:Int):=by omega
   refine Zad names_ok mixed_ok (Zae tabW) wn2 hsh ?_ (fun qs a1 w1 hq h1=>⟨nofun,fun _=>.inr ⟨0,anyV,_,_,_,hqs,rfl,rfl,h1⟩⟩)
   simp [-Zac,Zab,Zaa,Base.ev,SX.ev,evs,Value.oneCell',rl,binPV,h1,h2']
  have h2':¬ (5:Int) < (l.length:Int):=by omega
  refine Zad names_ok mixed_ok (Zae tabW) wpre hsh ?_ ?_
  ·simp [-Zac,Zab,Zaa,Base.ev,SX.ev,evs,Value.oneCell',rl,binPV,h1,h2']
  intro qs a1 w1 hq hx
  refine ⟨fun _=>?_,fun h=>absurd rfl h⟩
  simp [evs,SX.ev,rl] at hq
  subst hq
  refine Zhe (fun n a w=>∃ k:Nat,k<=l.length/\n=l.length - k/\(∀ j (hj:j < l.length),j < k->okWr l[j]=true)/\Zah C shWl [pRow encW l,pI (l.length:Int),pI (k:Int)] a w) ?_ (n:=l.length) ⟨0,by omega,by omega,fun j _ h=>absurd h (by omega),hx⟩
  clear hx
  rintro n a w ⟨k,hk,rfl,hd,hin⟩
  show wpL Try.prog lpW _ a w
  rw [<- List.append_nil lpW]
  by_cases hlt:k < l.length
  ·obtain ⟨c0,c1⟩:=Zei l k hlt
   have ix:=Zdk encW l k 2 2 .i64 rfl hlt (by decide)
   have v3:IntKind.i64.wrap ((k:Int)+1)=(k:Int)+1:=wrapI _ (by omega) (by omega)
   obtain ⟨b1,b2,b3⟩:=hb l[k] (List.getElem_mem hlt)
   have g4:FD 4 [pI l[k].1,pS l[k].2]=some [pB (okWr l[k])]:=by rw [<- mas.okW_eq];exact Zaf fMay ⟨_,_,b1,b2,b3,rfl,rfl⟩
   cases hm:okWr l[k] with
   | true =>
    rw [hm] at g4
    refine Zad names_ok mixed_ok (Zae tabW) wo hin ?_ (fun qs a1 w1 hq h1=>⟨fun _=>.inl ⟨rfl,l.length - (k+1),by omega,k+1,by omega,rfl,fun j hj hji=>?_,by simp [evs,SX.ev,binPV,v3] at hq;subst hq;exact h1⟩,fun h=>absurd rfl h⟩)
    ·simp [-Zac,Zab,Zaa,Base.ev,SX.ev,evs,Value.oneCell',hF,rl,binPV,v3,hlt,ix,c0,c1,g4,mmw.x4]
    ·by_cases hje:j=k
     ·subst hje;exact hm
     ·exact hd j hj (by omega)
   | false =>
    rw [hm] at g4
    have hno:okWs l least=false:=by
     cases hf:okWs l least with
     | false=>rfl
     | true =>
      simp only [okWs,Bool.and_eq_true] at hf
      rw [List.all_eq_true.1 hf.2 _ (List.getElem_mem hlt)] at hm
      cases hm
    rw [hno,if_neg (by simp)] at hqs
    refine Zad names_ok mixed_ok (Zae tabW) wb hin ?_ (fun qs a1 w1 hq h1=>⟨nofun,fun _=>.inr (.inr (.inr ⟨_,rfl,.inr ⟨0,anyV,_,_,_,hqs,rfl,rfl,h1⟩⟩))⟩)
    simp [-Zac,Zab,Zaa,Base.ev,SX.ev,evs,Value.oneCell',hF,rl,binPV,v3,hlt,ix,c0,c1,g4,mmw.x4]
  ·have hie:k=l.length:=by omega
   subst hie
   have hyes:okWs l least=true:=by
    simp only [okWs,Bool.and_eq_true,decide_eq_true_eq,List.all_eq_true]
    refine ⟨by omega,fun p hp=>?_⟩
    obtain ⟨j,hj,rfl⟩:=List.getElem_of_mem hp
    exact hd j hj hj
   rw [hyes,if_pos rfl] at hqs
   refine Zad names_ok mixed_ok (Zae tabW) wx hin ?_ (fun qs a1 w1 hq h1=>⟨nofun,fun _=>.inr (.inl ⟨by rw [show Zat (nth flW 2)=0 by kernel_rfl];rfl,?_⟩)⟩)
   ·simp [-Zac,Zab,Zaa,Base.ev,SX.ev,evs,Value.oneCell',rl,binPV]
   show wpL Try.prog [] _ a1 w1
   exact .inl ⟨_,hqs,.inl rfl,shW0,_,[],h1,by kernel_rfl,rfl⟩
end Go.Proofs.Ytnomiffghidmbaa.mmw
