/- Package msg's tellBytes, MayAsk, PutAsk, MayTell, PutTell, told. -/
import Derived.Test.YtnomiffghidmbaaMab
import Derived.Test.YtnomiffghidmbaaMmt
namespace Go.Proofs.Ytnomiffghidmbaa.mat
open Go Go.RowKit eng SX Fact fil ima msm
open fileFronts (Zac Zei)
open mws (tl_injW aP Zej)
open mcr (EPuR ECr RCr fCr)
open mpt (ETxR nilY EPt RPt fPt)
open mas (AOk EMa RMa fMa)
open mpa (EPa RPa fPa)
open mma (EMb RMb fMb Zug)
open mab (EAb RAb fAb Zro)
open mmt (ETb RTb fTb Zvp)
open myt (TOk tP Zh4 EMt RMt fMt)
open bip (RPuB fPuB RTxB fTxB pBy_inj)
set_option linter.unusedVariables false
set_option linter.unusedSimpArgs false
set_option maxRecDepth 1000000
def EAt (k:Nat):FnE:={ k:=k,ins:=[some 9],leaks:=[false,false,false,false,false,false,false,false,false],outs:=[none],kinds:=[.row] }
def tabT (f:FuncId):Option FnE:=cond (Nat.beq f 76) (some (EPuR 2)) (cond (Nat.beq f 77) (some (ETxR 3)) (cond (Nat.beq f 78) (some (ECr 4)) none))
def tabTX (f:FuncId):Option (FnE × List Value):=cond (Nat.beq f 45) (some (ETb 1,[anyV])) none
def orcT:Orc:=orcOr (orcFn tabT) (orcX tabTX)
def tabQX (f:FuncId):Option (FnE × List Value):=cond (Nat.beq f 45) (some (ETb 1,[anyV])) (cond (Nat.beq f 32) (some (EMb 2,[anyV])) (cond (Nat.beq f 47) (some (EAt 3,[anyV])) (cond (Nat.beq f 38) (some (EAb 4,[anyV])) none)))
noncomputable def flT:=flat (Zam Try.prog 47)
def shT:Shape:=⟨[(0,.agg 9)],[],[none,none,none,none,none,none,none,none,none],42,47⟩
def shTR:Shape:=⟨[(2,.leaf)],[],[some true],42,47⟩
def shT0:Shape:=⟨[],[],[],42,47⟩
def z1:List SX:=[.fn 2 [.lit 0 [],.var 0,.con (.int .i64 1)] 0,.var 1,.con (.int .i64 1)]
def z2:List SX:=[.fn 2 z1 0,.var 2,.con (.int .i64 4)]
def z3:List SX:=[.fn 2 z2 0,.var 3,.con (.int .i64 4)]
def z4:List SX:=[.fn 2 z3 0,.var 4,.con (.int .i64 1)]
def z5:List SX:=[.fn 2 z4 0,.var 5,.con (.int .i64 1)]
def z6:List SX:=[.fn 2 z5 0,.var 6,.con (.int .i64 1)]
def z7:List SX:=[.fn 2 z6 0,.var 7,.con (.int .i64 4)]
def z8:List SX:=[.fn 2 z7 0,.var 8]
def z9:List SX:=[.fn 3 z8 0]
def z10:List SX:=[.fn 3 z8 0,.conv .i64 (.fn 4 z9 0),.con (.int .i64 2)]
@[simp] def zMat1:List SX:=[.var 0,.var 1,.var 2,.var 3,.var 4,.var 5,.var 6,.var 7,.var 8]
@[simp] def zMat2:List SX:=[.var 0,.var 1,.var 2,.var 3,.var 4,.var 5,.var 6,.var 7]
@[simp] def zMat3:Fact:=Fact.fx 45 (ETb 1) [.tuple { toList:=[] }] zMat1
@[simp] def zMat4:Fact:=.ok (.var 0)
@[simp] def zMat5:Fact:=.ok (.var 1)
@[simp] def zMat6:Fact:=.ok (.var 2)
@[simp] def zMat7:Fact:=.ok (.var 3)
@[simp] def zMat8:Fact:=.ok (.var 4)
@[simp] def zMat9:Fact:=.ok (.var 5)
theorem tz:segTo Try.prog orcT 10000 flT shT [0] shTR []=some (.ret,[zMat3,.is (.fn 1 zMat1 0) (.int .i64 0),.fn 76 (EPuR 2) [.lit 0 [],.var 0,.con (.int .i64 1)],.fn 76 (EPuR 2) z1,.fn 76 (EPuR 2) z2,.fn 76 (EPuR 2) z3,.fn 76 (EPuR 2) z4,.fn 76 (EPuR 2) z5,.fn 76 (EPuR 2) z6,.fn 76 (EPuR 2) z7,.fn 77 (ETxR 3) z8,.fn 78 (ECr 4) z9,.ok (.fn 4 z9 0),.ok (.conv .i64 (.fn 4 z9 0)),.fn 76 (EPuR 2) z10],[.fn 2 z10 0]):=by kernel_rfl
theorem tu:segU Try.prog orcT 10000 flT shT [1] shT0 []=some (.panic (.tuple { toList:=[] }),[zMat3,.is (.fn 1 zMat1 0) (.int .i64 1)],[]):=by kernel_rfl
theorem ma0:runTo Try.prog (orcX tabQX) 10000 13 (EMa 9) [.num,.num,.num,.num,.num,.num,.num,.row] [0]=some ([zMat4,zMat5,zMat6,zMat7,zMat8,zMat9,.ok (.var 6),Fact.fx 32 (EMb 2) [.tuple { toList:=[] }] zMat2,.is (.fn 2 zMat2 0) (.int .i64 0)],[.con (.bool true)]):=by kernel_rfl
theorem ma1:runTo Try.prog (orcX tabQX) 10000 13 (EMa 9) [.num,.num,.num,.num,.num,.num,.num,.row] [1]=some ([zMat4,zMat5,zMat6,zMat7,zMat8,zMat9,.ok (.var 6),Fact.fx 32 (EMb 2) [.tuple { toList:=[] }] zMat2,.is (.fn 2 zMat2 0) (.int .i64 1)],[.con (.bool false)]):=by kernel_rfl
theorem mt0:runTo Try.prog (orcX tabQX) 10000 19 (EMt 9) [.num,.num,.num,.num,.num,.num,.num,.num,.num] [0]=some ([zMat4,zMat5,zMat6,zMat7,zMat8,zMat9,.ok (.var 6),.ok (.var 7),.ok (.var 8),zMat3,.is (.fn 1 zMat1 0) (.int .i64 0)],[.con (.bool true)]):=by kernel_rfl
theorem mt1:runTo Try.prog (orcX tabQX) 10000 19 (EMt 9) [.num,.num,.num,.num,.num,.num,.num,.num,.num] [1]=some ([zMat4,zMat5,zMat6,zMat7,zMat8,zMat9,.ok (.var 6),.ok (.var 7),.ok (.var 8),zMat3,.is (.fn 1 zMat1 0) (.int .i64 1)],[.con (.bool false)]):=by kernel_rfl
theorem pa0:runTo Try.prog (orcX tabQX) 10000 15 (EPa 9) [.num,.num,.num,.num,.num,.num,.num,.row] [0]=some ([zMat4,zMat5,zMat6,zMat7,zMat8,zMat9,.ok (.var 6),Fact.fx 38 (EAb 4) [.tuple { toList:=[] }] zMat2,.is (.fn 4 zMat2 0) (.int .i64 0)],[.fn 4 zMat2 1]):=by kernel_rfl
theorem pa1:runTo Try.prog (orcX tabQX) 10000 15 (EPa 9) [.num,.num,.num,.num,.num,.num,.num,.row] [1]=some ([zMat4,zMat5,zMat6,zMat7,zMat8,zMat9,.ok (.var 6),Fact.fx 38 (EAb 4) [.tuple { toList:=[] }] zMat2,.is (.fn 4 zMat2 0) (.int .i64 1)],[.lit 0 []]):=by kernel_rfl
theorem pt0:runTo Try.prog (orcX tabQX) 10000 21 (EPt 9) [.num,.num,.num,.num,.num,.num,.num,.num,.num] [0]=some ([zMat4,zMat5,zMat6,zMat7,zMat8,zMat9,.ok (.var 6),.ok (.var 7),.ok (.var 8),Fact.fx 47 (EAt 3) [.tuple { toList:=[] }] zMat1,.is (.fn 3 zMat1 0) (.int .i64 0)],[.fn 3 zMat1 1]):=by kernel_rfl
theorem pt1:runTo Try.prog (orcX tabQX) 10000 21 (EPt 9) [.num,.num,.num,.num,.num,.num,.num,.num,.num] [1]=some ([zMat4,zMat5,zMat6,zMat7,zMat8,zMat9,.ok (.var 6),.ok (.var 7),.ok (.var 8),Fact.fx 47 (EAt 3) [.tuple { toList:=[] }] zMat1,.is (.fn 3 zMat1 0) (.int .i64 1)],[.lit 0 []]):=by kernel_rfl
@[simp] theorem kAt (k:Nat):(EAt k).k=k:=rfl
@[simp] theorem kTbM (k:Nat):(ETb k).k=k:=rfl
@[simp] theorem kMaM (k:Nat):(EMa k).k=k:=rfl
@[simp] theorem kPaM (k:Nat):(EPa k).k=k:=rfl
@[simp] theorem kMtM (k:Nat):(EMt k).k=k:=rfl
@[simp] theorem kPtM (k:Nat):(EPt k).k=k:=rfl
def RAt (ps qs:List PV):Prop:=∃ a:TellM,TOk a/\ps=tP a/\qs=if mayT a=true then [pI 0,pBy (putT a)] else [pI 1]
theorem fAt:∀ ps q1 q2,RAt ps q1->RAt ps q2->q1=q2:=by
 rintro ps q1 q2 ⟨a,_,rfl,rfl⟩ ⟨b,_,h,rfl⟩
 rw [Zh4 h]
noncomputable def FT:Fns:=fun k=>match k with | 1=>spec RTb | 2=>spec RPuB | 3=>spec RTxB | 4=>spec RCr | _=>fun _=>none
theorem r1:ToldX 45 (ETb 1) [.tuple { toList:=[] }] (FT 1):=Zvp 1
theorem r2:ToldF 76 (EPuR 2) (FT 2):=mab.p2
theorem r3:ToldF 77 (ETxR 3) (FT 3):=mab.p3
theorem r4:ToldF 78 (ECr 4) (FT 4):=mab.p4
theorem fp2 {l:List UInt8} {v:Int} {n:Nat} (h:l.length<=1000000) (z:Int) (hz:z=n) (h1:1<=n) (h2:n<=8):∃ m,m=l++low v n/\m.length=l.length+n/\FT 2 [pBy l,pI v,pI z]=some [pBy m]:=mab.fp2 h z hz h1 h2
theorem fp3 {l:List UInt8} {s:ByteArray} (h:l.length<=1000000) (h1:s.size<=255):∃ m,m=l++tx s/\m.length=l.length+(s.size+1)/\FT 3 [pBy l,pS s]=some [pBy m]:=mab.fp3 h h1
theorem fp4 {l:List UInt8} (h:l.length<=1000000):∃ z:Int,FT 4 [pBy l]=some [.v (.int .u16 z)]/\IntKind.i64.wrap z=z/\FT 2 [pBy l,pI z,pI 2]=some [pBy (sealB l)]:=mab.fp4 h
theorem Zbs:OrcOk Try.prog orcT:=Zg7 (Zae tabT) (Zdo tabTX)
set_option maxHeartbeats 2000000 in
theorem Zuh (k:Nat):ToldX 47 (EAt k) [anyV] (spec RAt):=by
 refine Zgt FT _ (Zam Try.prog 47) Try.func47 (by kernel_rfl) shT (by kernel_rfl) ?_ ?_
 ·intro ps qs h
  obtain ⟨a,_,rfl,rfl⟩:=Zag h
  exact Za7 rfl
 intro C ps qs hF h a w hsh
 obtain ⟨A,ok,rfl,hqs⟩:=Zag h
 clear h
 show wpL Try.prog flT _ a w
 have g1:FT 1 (tP A)=some (if mayT A=true then [pI 0] else [pI 1]):=Zaf fTb ⟨A,ok,rfl,rfl⟩
 rw [<- List.append_nil flT]
 by_cases hm:mayT A=true
 ·have hn:A.body.size<=255:=(may_fitT hm).body
  rw [if_pos hm] at g1
  have hq:putT A=sealB (tellB A):=by rw [putT,if_pos hm]
  rw [if_pos hm,hq] at hqs
  clear hm hq ok
  obtain ⟨t1,t2,t3,t4,t5,t6,t7,t8,t9⟩:=A
  simp only [tP] at *
  obtain ⟨l1,e1,n1,c1⟩:=fp2 (l:=[]) (v:=t1) (n:=1) (by simp) 1 rfl (by omega) (by omega)
  obtain ⟨l2,e2,n2,c2⟩:=fp2 (l:=l1) (v:=t2) (n:=1) (by simp at n1;omega) 1 rfl (by omega) (by omega)
  obtain ⟨l3,e3,n3,c3⟩:=fp2 (l:=l2) (v:=t3) (n:=4) (by simp at n1;omega) 4 rfl (by omega) (by omega)
  obtain ⟨l4,e4,n4,c4⟩:=fp2 (l:=l3) (v:=t4) (n:=4) (by simp at n1;omega) 4 rfl (by omega) (by omega)
  obtain ⟨l5,e5,n5,c5⟩:=fp2 (l:=l4) (v:=t5) (n:=1) (by simp at n1;omega) 1 rfl (by omega) (by omega)
  obtain ⟨l6,e6,n6,c6⟩:=fp2 (l:=l5) (v:=t6) (n:=1) (by simp at n1;omega) 1 rfl (by omega) (by omega)
  obtain ⟨l7,e7,n7,c7⟩:=fp2 (l:=l6) (v:=t7) (n:=1) (by simp at n1;omega) 1 rfl (by omega) (by omega)
  obtain ⟨l8,e8,n8,c8⟩:=fp2 (l:=l7) (v:=t8) (n:=4) (by simp at n1;omega) 4 rfl (by omega) (by omega)
  obtain ⟨l9,e9,n9,c9⟩:=fp3 (l:=l8) (s:=t9) (by simp at n1;omega) hn
  have hl:tellB ⟨t1,t2,t3,t4,t5,t6,t7,t8,t9⟩=l9:=by simp [e1,e2,e3,e4,e5,e6,e7,e8,e9,tellB]
  rw [hl] at hqs
  obtain ⟨z,k1,k2,k3⟩:=fp4 (l:=l9) (by simp at n1;omega)
  clear hl e1 e2 e3 e4 e5 e6 e7 e8 e9 n1 n2 n3 n4 n5 n6 n7 n8 n9 hn
  refine Zad names_ok mixed_ok Zbs tz hsh ?_ (fun qs a1 w1 hq h1=>⟨nofun,fun _=>.inl ⟨_,hqs,.inr rfl,shTR,_,[SX.var 0],h1,by kernel_rfl,?_⟩⟩)
  ·simp [-Zac,Zab,Zaa,Base.ev,SX.ev,evs,Value.oneCell',hF,nilY,Zay,g1,c1,c2,c3,c4,c5,c6,c7,c8,c9,k1,k2,k3,z1,z2,z3,z4,z5,z6,z7,z8,z9,z10,mat.r1,mat.r2,mat.r3,mat.r4]
  ·simp [evs,SX.ev,hF,nilY,Zay,c1,c2,c3,c4,c5,c6,c7,c8,c9,k1,k2,k3,z1,z2,z3,z4,z5,z6,z7,z8,z9,z10] at hq
   subst hq
   rfl
 ·rw [if_neg hm] at g1 hqs
  clear hm
  obtain ⟨t1,t2,t3,t4,t5,t6,t7,t8,t9⟩:=A
  simp only [tP] at *
  refine Zbh names_ok mixed_ok Zbs tu hsh ?_ (fun qs a1 w1 hq h1=>⟨nofun,fun _ u=>.inr ⟨0,anyV,u,_,_,hqs,rfl,rfl,h1⟩⟩)
  simp [-Zac,Zab,Zaa,Base.ev,SX.ev,evs,Value.oneCell',hF,nilY,g1,mat.r1]
noncomputable def FQ:Fns:=fun k=>match k with | 1=>spec RTb | 2=>spec RMb | 3=>spec RAt | 4=>spec RAb | _=>fun _=>none
theorem u1:ToldX 45 (ETb 1) [.tuple { toList:=[] }] (FQ 1):=Zvp 1
theorem u2:ToldX 32 (EMb 2) [.tuple { toList:=[] }] (FQ 2):=Zug 2
theorem u3:ToldX 47 (EAt 3) [.tuple { toList:=[] }] (FQ 3):=Zuh 3
theorem u4:ToldX 38 (EAb 4) [.tuple { toList:=[] }] (FQ 4):=Zro 4
theorem toldMaP (k:Nat):ToldF 13 (EMa k) (spec RMa):=by
 refine Zbw mixed_ok names_ok FQ [.num,.num,.num,.num,.num,.num,.num,.row] ?_
 intro ps qs h _
 obtain ⟨A,ok,rfl,rfl⟩:=Zag h
 have g:FQ 2 (aP A)=some (if mayA A=true then [pI 0] else [pI 1]):=Zaf fMb ⟨A,ok,rfl,rfl⟩
 clear h ok
 cases hm:mayA A with
 | true =>
  rw [hm,if_pos rfl] at g
  clear hm
  obtain ⟨t1,t2,t3,t4,t5,t6,t7,ws⟩:=A
  simp only [aP] at *
  refine ⟨_,_,_,_,_,_,Zdo tabQX,ma0,fun w FP=>?_,?_⟩
  ·simp [-Zac,Zab,Zaa,Base.ev,SX.ev,evs,Value.oneCell',g,mat.u2]
  ·simp [evs,SX.ev]
 | false =>
  rw [hm,if_neg (by simp)] at g
  clear hm
  obtain ⟨t1,t2,t3,t4,t5,t6,t7,ws⟩:=A
  simp only [aP] at *
  refine ⟨_,_,_,_,_,_,Zdo tabQX,ma1,fun w FP=>?_,?_⟩
  ·simp [-Zac,Zab,Zaa,Base.ev,SX.ev,evs,Value.oneCell',g,mat.u2]
  ·simp [evs,SX.ev]
theorem toldMtP (k:Nat):ToldF 19 (EMt k) (spec RMt):=by
 refine Zbw mixed_ok names_ok FQ [.num,.num,.num,.num,.num,.num,.num,.num,.num] ?_
 intro ps qs h _
 obtain ⟨A,ok,rfl,rfl⟩:=Zag h
 have g:FQ 1 (tP A)=some (if mayT A=true then [pI 0] else [pI 1]):=Zaf fTb ⟨A,ok,rfl,rfl⟩
 clear h ok
 cases hm:mayT A with
 | true =>
  rw [hm,if_pos rfl] at g
  clear hm
  obtain ⟨t1,t2,t3,t4,t5,t6,t7,t8,t9⟩:=A
  simp only [tP] at *
  refine ⟨_,_,_,_,_,_,Zdo tabQX,mt0,fun w FP=>?_,?_⟩
  ·simp [-Zac,Zab,Zaa,Base.ev,SX.ev,evs,Value.oneCell',g,mat.u1]
  ·simp [evs,SX.ev]
 | false =>
  rw [hm,if_neg (by simp)] at g
  clear hm
  obtain ⟨t1,t2,t3,t4,t5,t6,t7,t8,t9⟩:=A
  simp only [tP] at *
  refine ⟨_,_,_,_,_,_,Zdo tabQX,mt1,fun w FP=>?_,?_⟩
  ·simp [-Zac,Zab,Zaa,Base.ev,SX.ev,evs,Value.oneCell',g,mat.u1]
  ·simp [evs,SX.ev]
theorem toldPaP (k:Nat):ToldF 15 (EPa k) (spec RPa):=by
 refine Zbw mixed_ok names_ok FQ [.num,.num,.num,.num,.num,.num,.num,.row] ?_
 intro ps qs h _
 obtain ⟨A,ok,rfl,rfl⟩:=Zag h
 have g:FQ 4 (aP A)=some (if mayA A=true then [pI 0,pBy (putA A)] else [pI 1]):=Zaf fAb ⟨A,ok,rfl,rfl⟩
 clear h ok
 cases hm:mayA A with
 | true =>
  rw [hm,if_pos rfl] at g
  clear hm
  generalize putA A=y at *
  obtain ⟨t1,t2,t3,t4,t5,t6,t7,ws⟩:=A
  simp only [aP] at *
  refine ⟨_,_,_,_,_,_,Zdo tabQX,pa0,fun w FP=>?_,?_⟩
  ·simp [-Zac,Zab,Zaa,Base.ev,SX.ev,evs,Value.oneCell',g,mat.u4]
  ·simp [evs,SX.ev,g]
 | false =>
  rw [hm,if_neg (by simp)] at g
  rw [show putA A=[] by rw [putA,if_neg (by simp [hm])]]
  clear hm
  obtain ⟨t1,t2,t3,t4,t5,t6,t7,ws⟩:=A
  simp only [aP] at *
  refine ⟨_,_,_,_,_,_,Zdo tabQX,pa1,fun w FP=>?_,?_⟩
  ·simp [-Zac,Zab,Zaa,Base.ev,SX.ev,evs,Value.oneCell',g,mat.u4]
  ·simp [evs,SX.ev,nilY]
theorem toldPtP (k:Nat):ToldF 21 (EPt k) (spec RPt):=by
 refine Zbw mixed_ok names_ok FQ [.num,.num,.num,.num,.num,.num,.num,.num,.num] ?_
 intro ps qs h _
 obtain ⟨A,ok,rfl,rfl⟩:=Zag h
 have g:FQ 3 (tP A)=some (if mayT A=true then [pI 0,pBy (putT A)] else [pI 1]):=Zaf fAt ⟨A,ok,rfl,rfl⟩
 clear h ok
 cases hm:mayT A with
 | true =>
  rw [hm,if_pos rfl] at g
  clear hm
  generalize putT A=y at *
  obtain ⟨t1,t2,t3,t4,t5,t6,t7,t8,t9⟩:=A
  simp only [tP] at *
  refine ⟨_,_,_,_,_,_,Zdo tabQX,pt0,fun w FP=>?_,?_⟩
  ·simp [-Zac,Zab,Zaa,Base.ev,SX.ev,evs,Value.oneCell',g,mat.u3]
  ·simp [evs,SX.ev,g]
 | false =>
  rw [hm,if_neg (by simp)] at g
  rw [show putT A=[] by rw [putT,if_neg (by simp [hm])]]
  clear hm
  obtain ⟨t1,t2,t3,t4,t5,t6,t7,t8,t9⟩:=A
  simp only [tP] at *
  refine ⟨_,_,_,_,_,_,Zdo tabQX,pt1,fun w FP=>?_,?_⟩
  ·simp [-Zac,Zab,Zaa,Base.ev,SX.ev,evs,Value.oneCell',g,mat.u3]
  ·simp [evs,SX.ev,nilY]
end Go.Proofs.Ytnomiffghidmbaa.mat
