/- Picks: a tell, told. -/
import Derived.Test.YtnomiffghidmbaaMtt
import Derived.Test.YtnomiffghidmbaaFroA
namespace Go.Proofs.Ytnomiffghidmbaa.mkt
open Go Go.RowKit eng SX Fact fil fileFronts ima msm pck
open myt (tP Zh4 TOk i64)
set_option linter.unusedVariables false
set_option linter.unusedSimpArgs false
set_option maxRecDepth 1000000
def EMk (k:Nat):PtrE:={ k:=k,elem:=52,cells:=2,ins:=[],outs:=[some 9],kinds:=[.num,.num,.num,.num,.num,.num,.num,.num,.num,.row,.num] }
def tabK (f:FuncId):Option PtrE:=cond (Nat.beq f 27) (some (ENum 20)) none
noncomputable def flK:=flat (Zam Try.prog 12)
def tlbox:BoxT:=⟨27,0,false,[.leaf,.leaf,.leaf,.leaf,.leaf,.leaf,.leaf,.leaf,.leaf],none,false⟩
def shK:Shape:=⟨[(0,.ptr 0 0 0 0)],[pbox],[some true,none],46,12⟩
def shKR:Shape:=⟨[(2,.ptr 1 0 0 0)],[pbox,tlbox],[some true,none,none,none,none,none,none,none,none,none,none],46,12⟩
def z1:List SX:=[.con (.int .i64 3),.fn 20 [.con (.int .i64 3),.var 0,.var 1] 1,.fn 20 [.con (.int .i64 3),.var 0,.var 1] 2]
def z2:List SX:=[.con (.int .i64 3),.fn 20 z1 1,.fn 20 z1 2]
def z3:List SX:=[.con (.int .i64 20),.fn 20 z2 1,.fn 20 z2 2]
def z4:List SX:=[.con (.int .i64 8),.fn 20 z3 1,.fn 20 z3 2]
def z5:List SX:=[.con (.int .i64 7),.fn 20 z4 1,.fn 20 z4 2]
def z6:List SX:=[.con (.int .i64 3),.fn 20 z5 1,.fn 20 z5 2]
def z7:List SX:=[.con (.int .i64 300),.fn 20 z6 1,.fn 20 z6 2]
def z8:List SX:=[.con (.int .i64 3),.fn 20 z7 1,.fn 20 z7 2]
def z9:List SX:=[.con (.int .i64 6),.fn 20 z2 1,.fn 20 z2 2]
@[simp] def zMkt1:SX:=.bin .add (.con (.int .i64 1)) (.fn 20 [.con (.int .i64 3),.var 0,.var 1] 0)
@[simp] def zMkt2:SX:=.bin .add (.con (.int .i64 1)) (.fn 20 z1 0)
@[simp] def zMkt3:List SX:=[.con (.int .i64 3),.var 0,.var 1]
@[simp] def zMkt4:SX:=.bin .add (.con (.int .i64 1)) (.fn 20 z3 0)
@[simp] def zMkt5:SX:=.bin .eql zMkt1 (.con (.int .i64 1))
@[simp] def zMkt6:SX:=.con (.int .i64 0)
@[simp] def zMkt7:SX:=.con (.string { data:={ toList:=[] } })
@[simp] def zMkt8:Fact:=.ok (.fn 20 z2 0)
@[simp] def zMkt9:SX:=.con (.string { data:={ toList:=[UInt8.ofNat 98,UInt8.ofNat 111,UInt8.ofNat 100,UInt8.ofNat 121] } })
@[simp] def Zto:SX:=.bin .eql zMkt1 (.con (.int .i64 2))
@[simp] def zMkt11:SX:=.con (.string { data:={ toList:=[UInt8.ofNat 97,UInt8.ofNat 0,UInt8.ofNat 98] } })
@[simp] def Zvi:SX:=.bin .add (.con (.int .i64 1)) (.fn 20 z9 0)
@[simp] def Zrf:Fact:=.fp 27 (ENum 20) zMkt3
@[simp] def Zre:Fact:=.ok (.fn 20 zMkt3 0)
@[simp] def Zrd:Fact:=.ok (.fn 20 zMkt3 2)
@[simp] def Zoz:Fact:=.ok (.fn 20 z2 2)
@[simp] def Zoy:Fact:=.ok (.fn 20 z4 0)
@[simp] def Zox:Fact:=.ok (.fn 20 z5 0)
@[simp] def Zow:Fact:=.ok (.fn 20 z6 0)
@[simp] def Zov:Fact:=.ok (.fn 20 z7 0)
@[simp] def Zou:Fact:=.ok (.fn 20 z8 2)
@[simp] def Zrc:Fact:=.fp 27 (ENum 20) z1
@[simp] def Zrb:Fact:=.fp 27 (ENum 20) z2
theorem k10:segTo Try.prog (orcP tabK) 10000 flK shK [1,0] shKR [(0,0),(2,0)]=some (.ret,[Zrf,Zre,Zrd,.ok zMkt1,Zrc,.ok (.fn 20 z1 0),.ok (.fn 20 z1 2),.ok zMkt2,Zrb,zMkt8,Zoz,.ok zMkt5,.is zMkt5 (.bool true),.fp 27 (ENum 20) z3,.ok (.fn 20 z3 0),.ok (.fn 20 z3 2),.ok zMkt4,.fp 27 (ENum 20) z4,Zoy,.ok (.fn 20 z4 2),.fp 27 (ENum 20) z5,Zox,.ok (.fn 20 z5 2),.fp 27 (ENum 20) z6,Zow,.ok (.fn 20 z6 2),.fp 27 (ENum 20) z7,Zov,.ok (.fn 20 z7 2),.fp 27 (ENum 20) z8,.ok (.fn 20 z8 0),Zou,Fact.at (.fn 20 z8 0) 0,Zou,.ok zMkt1,.ok zMkt2,zMkt8,.ok zMkt4,Zoy,Zox,Zow,Zov,.ok zMkt7],[.fn 20 z8 1,.fn 20 z8 2,zMkt1,zMkt2,.fn 20 z2 0,zMkt4,.fn 20 z4 0,.fn 20 z5 0,.fn 20 z6 0,.fn 20 z7 0,zMkt7]):=by kernel_rfl
theorem k11:segTo Try.prog (orcP tabK) 10000 flK shK [1,1] shKR [(0,0),(2,0)]=some (.ret,[Zrf,Zre,Zrd,.ok zMkt1,Zrc,.ok (.fn 20 z1 0),.ok (.fn 20 z1 2),.ok zMkt2,Zrb,zMkt8,Zoz,.ok zMkt5,.is zMkt5 (.bool true),.fp 27 (ENum 20) z3,.ok (.fn 20 z3 0),.ok (.fn 20 z3 2),.ok zMkt4,.fp 27 (ENum 20) z4,Zoy,.ok (.fn 20 z4 2),.fp 27 (ENum 20) z5,Zox,.ok (.fn 20 z5 2),.fp 27 (ENum 20) z6,Zow,.ok (.fn 20 z6 2),.fp 27 (ENum 20) z7,Zov,.ok (.fn 20 z7 2),.fp 27 (ENum 20) z8,.ok (.fn 20 z8 0),Zou,Fact.at (.fn 20 z8 0) 1,Zou,.ok zMkt1,.ok zMkt2,zMkt8,.ok zMkt4,Zoy,Zox,Zow,Zov,.ok zMkt9],[.fn 20 z8 1,.fn 20 z8 2,zMkt1,zMkt2,.fn 20 z2 0,zMkt4,.fn 20 z4 0,.fn 20 z5 0,.fn 20 z6 0,.fn 20 z7 0,zMkt9]):=by kernel_rfl
theorem k12:segTo Try.prog (orcP tabK) 10000 flK shK [1,2] shKR [(0,0),(2,0)]=some (.ret,[Zrf,Zre,Zrd,.ok zMkt1,Zrc,.ok (.fn 20 z1 0),.ok (.fn 20 z1 2),.ok zMkt2,Zrb,zMkt8,Zoz,.ok zMkt5,.is zMkt5 (.bool true),.fp 27 (ENum 20) z3,.ok (.fn 20 z3 0),.ok (.fn 20 z3 2),.ok zMkt4,.fp 27 (ENum 20) z4,Zoy,.ok (.fn 20 z4 2),.fp 27 (ENum 20) z5,Zox,.ok (.fn 20 z5 2),.fp 27 (ENum 20) z6,Zow,.ok (.fn 20 z6 2),.fp 27 (ENum 20) z7,Zov,.ok (.fn 20 z7 2),.fp 27 (ENum 20) z8,.ok (.fn 20 z8 0),Zou,Fact.at (.fn 20 z8 0) 2,Zou,.ok zMkt1,.ok zMkt2,zMkt8,.ok zMkt4,Zoy,Zox,Zow,Zov,.ok zMkt11],[.fn 20 z8 1,.fn 20 z8 2,zMkt1,zMkt2,.fn 20 z2 0,zMkt4,.fn 20 z4 0,.fn 20 z5 0,.fn 20 z6 0,.fn 20 z7 0,zMkt11]):=by kernel_rfl
theorem k2:segTo Try.prog (orcP tabK) 10000 flK shK [0,1] shKR [(0,0),(2,0)]=some (.ret,[Zrf,Zre,Zrd,.ok zMkt1,Zrc,.ok (.fn 20 z1 0),.ok (.fn 20 z1 2),.ok zMkt2,Zrb,zMkt8,Zoz,.ok zMkt5,.is zMkt5 (.bool false),.ok Zto,.is Zto (.bool true),.fp 27 (ENum 20) z9,.ok (.fn 20 z9 0),.ok (.fn 20 z9 2),.ok Zvi,.ok (.fn 20 z9 2),.ok zMkt1,.ok zMkt2,zMkt8,.ok zMkt6,.ok zMkt6,.ok Zvi,.ok zMkt6,.ok zMkt6,.ok zMkt7],[.fn 20 z9 1,.fn 20 z9 2,zMkt1,zMkt2,.fn 20 z2 0,zMkt6,zMkt6,Zvi,zMkt6,zMkt6,zMkt7]):=by kernel_rfl
theorem k3:segTo Try.prog (orcP tabK) 10000 flK shK [0,0] shKR [(0,0),(2,0)]=some (.ret,[Zrf,Zre,Zrd,.ok zMkt1,Zrc,.ok (.fn 20 z1 0),.ok (.fn 20 z1 2),.ok zMkt2,Zrb,zMkt8,Zoz,.ok zMkt5,.is zMkt5 (.bool false),.ok Zto,.is Zto (.bool false),Zoz,.ok zMkt1,.ok zMkt2,zMkt8,.ok zMkt6,.ok zMkt6,.ok zMkt6,.ok zMkt6,.ok zMkt6,.ok zMkt7],[.fn 20 z2 1,.fn 20 z2 2,zMkt1,zMkt2,.fn 20 z2 0,zMkt6,zMkt6,zMkt6,zMkt6,zMkt6,zMkt7]):=by kernel_rfl
@[simp] theorem kMk (k:Nat):(EMk k).k=k:=rfl
def bodyT:Nat->ByteArray
 | 0=>e0
 | 1=>⟨⟨[98,111,100,121]⟩⟩
 | _=>⟨⟨[97,0,98]⟩⟩
def mkT (l:List Nat) (n:Nat):TellM × Nat :=
 let n1:=numN l n;let n2:=numN l n1;let n3:=numN l n2;let n4:=numN l n3;let n5:=numN l n4;let n6:=numN l n5;let n7:=numN l n6;let n8:=numN l n7
 let k:Int:=1+(numV l n 3:Int);let to:Int:=1+(numV l n1 3:Int);let ep:Int:=numV l n2 3
 if numV l n 3=0 then (⟨k,to,ep,1+(numV l n3 20:Int),numV l n4 8,numV l n5 7,numV l n6 3,numV l n7 300,bodyT (numV l n8 3)⟩,numN l n8)
 else if numV l n 3=1 then (⟨k,to,ep,0,0,1+(numV l n3 6:Int),0,0,e0⟩,n4)
 else (⟨k,to,ep,0,0,0,0,0,e0⟩,n3)
theorem Zup (l:List Nat) (n:Nat):mayT (mkT l n).1=true:=by
 have b0:numV l n 3 < 3:=Zbq (by omega)
 have b1:=Zbq (l:=l) (n:=numN l n) (m:=3) (by omega)
 have b2:=Zbq (l:=l) (n:=numN l (numN l n)) (m:=3) (by omega)
 unfold mkT
 dsimp only
 generalize numN l (numN l (numN l n))=n3 at *
 have b3:=Zbq (l:=l) (n:=n3) (m:=20) (by omega)
 have b3':=Zbq (l:=l) (n:=n3) (m:=6) (by omega)
 generalize numN l n3=n4 at *
 have b4:=Zbq (l:=l) (n:=n4) (m:=8) (by omega)
 generalize numN l n4=n5 at *
 have b5:=Zbq (l:=l) (n:=n5) (m:=7) (by omega)
 generalize numN l n5=n6 at *
 have b6:=Zbq (l:=l) (n:=n6) (m:=3) (by omega)
 generalize numN l n6=n7 at *
 have b7:=Zbq (l:=l) (n:=n7) (m:=300) (by omega)
 generalize numN l n7=n8 at *
 have hb:(bodyT (numV l n8 3)).size<=24:=by
  generalize numV l n8 3=x
  match x with
  | 0=>decide
  | 1=>decide
  | _+2=>show (⟨⟨[97,0,98]⟩⟩:ByteArray).size<=24;decide
 split
 ·rename_i h
  simp [mayT,numB,h]
  omega
 ·split
  ·rename_i h h'
   simp [mayT,numB,h']
   omega
  ·rename_i h h'
   have h2:numV l n 3=2:=by omega
   simp [mayT,numB,h2]
   omega
noncomputable def FK:Fns:=fun k=>match k with | 20=>spec RNum | _=>fun _=>none
theorem fk20:ToldP 27 (ENum 20) (FK 20):=Zsa 20
theorem FKs {l:List Nat} {n:Nat} (ok:OkP l n) (m:Nat) (z:Int) (hz:z=m) (h1:1<=m) (h2:m<=1000):∃ x n',numV l n m=x/\numN l n=n'/\x < m/\OkP l n'/\IntKind.i64.wrap (1+(x:Int))=1+(x:Int)/\FK 20 [pI z,pRow encU l,pI (n:Int)]=some [pI (x:Int),pRow encU l,pI (n':Int)]:=by
 subst hz
 have:=Zbq (l:=l) (n:=n) (m:=m) (by omega)
 exact ⟨_,_,rfl,rfl,this,okN ok,wrapI _ (by omega) (by omega),Zaf fNum ⟨m,n,l,h1,h2,ok.n,ok.len,ok.u8,rfl,rfl⟩⟩
theorem Zai:PV.v (Value.string ⟨⟨[]⟩⟩)=pS e0:=rfl
def RMk (ps qs:List PV):Prop:=∃ (n:Nat) (l:List Nat),OkP l n/\ps=[pRow encU l,pI (n:Int)]/\qs=tP (mkT l n).1++[pRow encU l,pI ((mkT l n).2:Int)]
theorem fMk:∀ ps q1 q2,RMk ps q1->RMk ps q2->q1=q2:=by
 rintro ps q1 q2 ⟨n,l,_,rfl,rfl⟩ ⟨n',l',_,h,rfl⟩
 simp only [List.cons.injEq,PV.v.injEq,Value.int.injEq,true_and,and_true,Int.ofNat_inj] at h
 obtain ⟨h,rfl⟩:=h
 rw [fil.pRow_inj Ziy h]
set_option maxHeartbeats 2000000 in
theorem toldMk (k:Nat):ToldP 12 (EMk k) (spec RMk):=by
 refine Zks FK _ (Zam Try.prog 12) Try.func12 (by kernel_rfl) shK (by kernel_rfl) ?_ ?_
 ·intro ps qs h
  obtain ⟨n,l,_,rfl,rfl⟩:=Zag h
  exact Za7 rfl
 ·intro C ps qs hF h a w hsh
  obtain ⟨n,l,ok,rfl,rfl⟩:=Zag h
  show wpL Try.prog flK _ a w
  rw [<- List.append_nil flK]
  obtain ⟨x0,n1,e0',f0,b0,o1,v0,c0⟩:=FKs ok 3 3 rfl (by omega) (by omega)
  obtain ⟨x1,n2,e1,f1,b1,o2,v1,c1⟩:=FKs o1 3 3 rfl (by omega) (by omega)
  obtain ⟨x2,n3,e2,f2,b2,o3,v2,c2⟩:=FKs o2 3 3 rfl (by omega) (by omega)
  by_cases k0:x0=0
  ·subst k0
   obtain ⟨x3,n4,e3,f3,b3,o4,v3,c3⟩:=FKs o3 20 20 rfl (by omega) (by omega)
   obtain ⟨x4,n5,e4,f4,b4,o5,v4,c4⟩:=FKs o4 8 8 rfl (by omega) (by omega)
   obtain ⟨x5,n6,e5,f5,b5,o6,v5,c5⟩:=FKs o5 7 7 rfl (by omega) (by omega)
   obtain ⟨x6,n7,e6,f6,b6,o7,v6,c6⟩:=FKs o6 3 3 rfl (by omega) (by omega)
   obtain ⟨x7,n8,e7,f7,b7,o8,v7,c7⟩:=FKs o7 300 300 rfl (by omega) (by omega)
   obtain ⟨x8,n9,e8,f8,b8,o9,v8,c8⟩:=FKs o8 3 3 rfl (by omega) (by omega)
   have hm:mkT l n=(⟨1,1+(x1:Int),x2,1+(x3:Int),x4,x5,x6,x7,bodyT x8⟩,n9):=by
    unfold mkT
    simp only [e0',f0,e1,f1,e2,f2,e3,f3,e4,f4,e5,f5,e6,f6,e7,f7,e8,f8,if_true]
    rfl
   rw [hm]
   clear hm e0' f0 e1 f1 e2 f2 e3 f3 e4 f4 e5 f5 e6 f6 e7 f7 e8 f8 o1 o2 o3 o4 o5 o6 o7 o8 o9 ok
   have w0:IntKind.i64.wrap (1+((0:Nat):Int))=1:=rfl
   have w0':IntKind.i64.wrap 1=1:=rfl
   simp only [Int.natCast_zero] at c0 w0
   have hx:x8=0 \/ x8=1 \/ x8=2:=by omega
   rcases hx with rfl | rfl | rfl
   ·refine Zad names_ok mixed_ok (Zbp _) k10 hsh ?_ ?_
    ·simp [-Zac,Zab,Zaa,Base.ev,SX.ev,evs,Value.oneCell',hF,binPV,z1,z2,z3,z4,z5,z6,z7,z8,z9,c0,c1,c2,c3,c4,c5,c6,c7,c8,w0,w0',v1,v3,fk20]
    ·intro qs a1 w1' hq h1'
     refine ⟨nofun,fun _=>⟨.inr rfl,shKR,qs,[SX.var 2,SX.var 3,SX.var 4,SX.var 5,SX.var 6,SX.var 7,SX.var 8,SX.var 9,SX.var 10,SX.var 0,SX.var 1],h1',by kernel_rfl,?_⟩⟩
     simp [evs,SX.ev,hF,binPV,z1,z2,z3,z4,z5,z6,z7,z8,z9,c0,c1,c2,c3,c4,c5,c6,c7,c8,w0,w0',v1,v3] at hq ⊢
     subst hq
     rfl
   ·refine Zad names_ok mixed_ok (Zbp _) k11 hsh ?_ ?_
    ·simp [-Zac,Zab,Zaa,Base.ev,SX.ev,evs,Value.oneCell',hF,binPV,z1,z2,z3,z4,z5,z6,z7,z8,z9,c0,c1,c2,c3,c4,c5,c6,c7,c8,w0,w0',v1,v3,fk20]
    ·intro qs a1 w1' hq h1'
     refine ⟨nofun,fun _=>⟨.inr rfl,shKR,qs,[SX.var 2,SX.var 3,SX.var 4,SX.var 5,SX.var 6,SX.var 7,SX.var 8,SX.var 9,SX.var 10,SX.var 0,SX.var 1],h1',by kernel_rfl,?_⟩⟩
     simp [evs,SX.ev,hF,binPV,z1,z2,z3,z4,z5,z6,z7,z8,z9,c0,c1,c2,c3,c4,c5,c6,c7,c8,w0,w0',v1,v3] at hq ⊢
     subst hq
     rfl
   ·refine Zad names_ok mixed_ok (Zbp _) k12 hsh ?_ ?_
    ·simp [-Zac,Zab,Zaa,Base.ev,SX.ev,evs,Value.oneCell',hF,binPV,z1,z2,z3,z4,z5,z6,z7,z8,z9,c0,c1,c2,c3,c4,c5,c6,c7,c8,w0,w0',v1,v3,fk20]
    ·intro qs a1 w1' hq h1'
     refine ⟨nofun,fun _=>⟨.inr rfl,shKR,qs,[SX.var 2,SX.var 3,SX.var 4,SX.var 5,SX.var 6,SX.var 7,SX.var 8,SX.var 9,SX.var 10,SX.var 0,SX.var 1],h1',by kernel_rfl,?_⟩⟩
     simp [evs,SX.ev,hF,binPV,z1,z2,z3,z4,z5,z6,z7,z8,z9,c0,c1,c2,c3,c4,c5,c6,c7,c8,w0,w0',v1,v3] at hq ⊢
     subst hq
     rfl
  ·by_cases k1:x0=1
   ·subst k1
    obtain ⟨x3,n4,e3,f3,b3,o4,v3,c3⟩:=FKs o3 6 6 rfl (by omega) (by omega)
    have hm:mkT l n=(⟨2,1+(x1:Int),x2,0,0,1+(x3:Int),0,0,e0⟩,n4):=by
     unfold mkT
     simp only [e0',f0,e1,f1,e2,f2,e3,f3]
     rfl
    rw [hm]
    clear hm e0' f0 e1 f1 e2 f2 e3 f3 o1 o2 o3 o4 ok
    have w0:IntKind.i64.wrap 2=2:=rfl
    simp only [Int.natCast_one] at c0
    refine Zad names_ok mixed_ok (Zbp _) k2 hsh ?_ ?_
    ·simp [-Zac,Zab,Zaa,Base.ev,SX.ev,evs,Value.oneCell',hF,binPV,z1,z2,z3,z4,z5,z6,z7,z8,z9,c0,c1,c2,c3,w0,v1,v3,fk20]
    ·intro qs a1 w1' hq h1'
     refine ⟨nofun,fun _=>⟨.inr rfl,shKR,qs,[SX.var 2,SX.var 3,SX.var 4,SX.var 5,SX.var 6,SX.var 7,SX.var 8,SX.var 9,SX.var 10,SX.var 0,SX.var 1],h1',by kernel_rfl,?_⟩⟩
     simp [evs,SX.ev,hF,binPV,z1,z2,z3,z4,z5,z6,z7,z8,z9,c0,c1,c2,c3,w0,v1,v3] at hq ⊢
     subst hq
     rfl
   ·have k2':x0=2:=by omega
    subst k2'
    have hm:mkT l n=(⟨3,1+(x1:Int),x2,0,0,0,0,0,e0⟩,n3):=by
     unfold mkT
     simp only [e0',f0,e1,f1,e2,f2]
     rfl
    rw [hm]
    clear hm e0' f0 e1 f1 e2 f2 o1 o2 o3 ok
    have w0:IntKind.i64.wrap 3=3:=rfl
    refine Zad names_ok mixed_ok (Zbp _) k3 hsh ?_ ?_
    ·simp [-Zac,Zab,Zaa,Base.ev,SX.ev,evs,Value.oneCell',hF,binPV,z1,z2,z3,z4,z5,z6,z7,z8,z9,c0,c1,c2,w0,v1,fk20]
    ·intro qs a1 w1' hq h1'
     refine ⟨nofun,fun _=>⟨.inr rfl,shKR,qs,[SX.var 2,SX.var 3,SX.var 4,SX.var 5,SX.var 6,SX.var 7,SX.var 8,SX.var 9,SX.var 10,SX.var 0,SX.var 1],h1',by kernel_rfl,?_⟩⟩
     simp [evs,SX.ev,hF,binPV,z1,z2,z3,z4,z5,z6,z7,z8,z9,c0,c1,c2,w0,v1] at hq ⊢
     subst hq
     rfl
end Go.Proofs.Ytnomiffghidmbaa.mkt
