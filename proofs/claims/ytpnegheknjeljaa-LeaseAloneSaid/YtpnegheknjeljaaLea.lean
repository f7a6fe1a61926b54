/- Leases: package lease's order, found, Holds, told. -/
import Derived.Test.YtpnegheknjeljaaSymB
import Derived.Test.YtpnegheknjeljaaLem
namespace Go.Proofs.Ytpnegheknjeljaa.lea
open Go Go.RowKit eng SX Fact fil lem
set_option linter.unusedVariables false
set_option linter.unusedSimpArgs false
set_option maxRecDepth 1000000

def ECmp (k:Nat):FnE:={ k:=k,ins:=[none,none],leaks:=[false,false],outs:=[none],kinds:=[.num] }
def EOrd (k:Nat):FnE:={ k:=k,ins:=[some 4,some 4],leaks:=List.replicate 8 false,outs:=[none],kinds:=[.num] }
def tabC (f:FuncId):Option FnE:=cond (Nat.beq f 38) (some (ECmp 1)) none
def EFo (k:Nat):FnE:={ k:=k,ins:=[none,none,none],leaks:=[false,false,false],outs:=[some 4],kinds:=[.num,.num,.num,.num] }
def lbox:BoxT:=⟨32,0,false,[.leaf,.leaf,.leaf,.leaf],none,false⟩
noncomputable def flF:=flat (Zgw Try.prog 25)
noncomputable def lpF:=flat (Zbl (nth flF 2))
def shF:Shape:=⟨[(0,.leaf),(1,.leaf),(2,.leaf)],[],[some false,none,none],22,25⟩
def shFl:Shape:=⟨[(1,.leaf),(2,.leaf),(6,.ptr 0 0 0 0),(9,.leaf),(10,.leaf),(11,.leaf)],[lbox],[none,none,some false,none,none,none,none,none,none],22,25⟩
def shFR:Shape:=⟨[(6,.ptr 0 0 0 0)],[lbox],[none,none,none,none],22,25⟩
def shFP:Shape:=⟨[],[],[],22,25⟩
def EHo (k:Nat):FnE:={ k:=k,ins:=[none,none,none,none],leaks:=[false,false,false,false],outs:=[none],kinds:=[.num] }
noncomputable def flB:=flat (Zgw Try.prog 27)
noncomputable def lpB:=flat (Zbl (nth flB 1))
def shB:Shape:=⟨[(0,.leaf)],[],[some false],27,27⟩
def shBl:Shape:=⟨[(0,.leaf),(4,.leaf),(5,.leaf),(6,.leaf)],[],[some false,some false,none,none],27,27⟩
def shBR:Shape:=⟨[],[],[],27,27⟩
def EMust (k:Nat):FnE:={ k:=k,ins:=[none],leaks:=[false],outs:=[],kinds:=[] }
def Zdz (k:Nat):FnE:={ k:=k,ins:=[some 4],leaks:=[false,false,false,false],outs:=[],kinds:=[] }
def EMayL (k:Nat):FnE:={ k:=k,ins:=[none],leaks:=[false],outs:=[none],kinds:=[.num] }
def tabO (f:FuncId):Option FnE:=cond (Nat.beq f 33) (some (EOrd 2)) (cond (Nat.beq f 31) (some (Zdz 3)) none)
def tabB (f:FuncId):Option FnE:=cond (Nat.beq f 27) (some (EMust 5)) none
def pvF:Value:=(.iface 9 (.string { data:={ toList:=[UInt8.ofNat 108,UInt8.ofNat 101,UInt8.ofNat 97,UInt8.ofNat 115,UInt8.ofNat 101,UInt8.ofNat 58,UInt8.ofNat 32,UInt8.ofNat 116,UInt8.ofNat 104,UInt8.ofNat 101,UInt8.ofNat 114,UInt8.ofNat 101,UInt8.ofNat 32,UInt8.ofNat 105,UInt8.ofNat 115,UInt8.ofNat 32,UInt8.ofNat 110,UInt8.ofNat 111,UInt8.ofNat 110,UInt8.ofNat 101] } }))
@[simp] def zLea1:List SX:=[.cell (.var 0) (.bin .sub (.var 3) (.con (.int .i64 1))) 4 0,.cell (.var 0) (.bin .sub (.var 3) (.con (.int .i64 1))) 4 1,.cell (.var 0) (.bin .sub (.var 3) (.con (.int .i64 1))) 4 2,.cell (.var 0) (.bin .sub (.var 3) (.con (.int .i64 1))) 4 3,.cell (.var 1) (.var 3) 4 0,.cell (.var 1) (.var 3) 4 1,.cell (.var 1) (.var 3) 4 2,.cell (.var 1) (.var 3) 4 3]
@[simp] def zLea2:SX:=.con (.int .i64 0)
@[simp] def zLea3:SX:=.con (.int .i64 1)
@[simp] def zLea4:SX:=.cell (.var 2) (.var 4) 4 0
@[simp] def zLea5:SX:=.bin .neq (.fn 1 [.var 1,.var 5] 0) zLea2
@[simp] def zLea6:SX:=.cell (.var 2) (.var 4) 4 1
@[simp] def zLea7:SX:=.bin .lss (.var 4) (.var 3)
@[simp] def zLea8:SX:=.fn 1 [.var 0,.var 4] 0
@[simp] def zLea9:Fact:=.fn 31 (Zdz 3) [.cell (.var 1) (.var 3) 4 0,.cell (.var 1) (.var 3) 4 1,.cell (.var 1) (.var 3) 4 2,.cell (.var 1) (.var 3) 4 3]
@[simp] def Zg7:SX:=.bin .sub (.var 3) zLea3
@[simp] def Zh5:SX:=.bin .neq (.var 0) (.var 0)
@[simp] def Zh4:SX:=.bin .neq (.var 1) (.var 1)
@[simp] def Zh3:SX:=.bin .lss (.var 0) (.var 1)
@[simp] def Zh2:SX:=.bin .lss (.var 3) (.var 2)
@[simp] def Zh1:Fact:=.idx (.var 2) (.var 4) 4 4
@[simp] def Zh0:SX:=.bin .eql zLea4 (.var 0)
@[simp] def Zjb:SX:=.bin .add (.var 4) zLea3
@[simp] def Zhz:SX:=.bin .add (.var 3) zLea3
@[simp] def Zja:SX:=.cell (.var 2) (.var 4) 4 2
@[simp] def Zi9:SX:=.cell (.var 2) (.var 4) 4 3
@[simp] def zLea21:List SX:=[.var 0,.var 1,.var 2,.var 3,Zjb,.var 5,.var 6,.var 7,.var 8]
@[simp] def Zj7:SX:=.bin .gtr (.var 0) (.var 1)
@[simp] def Zg6:List SX:=[.var 1,.var 5]
@[simp] def Zj6:Fact:=.idx (.var 1) (.var 3) 4 4
@[simp] def Zev:Fact:=.ok (.var 1)
@[simp] def Zj5:SX:=.bin .eql zLea6 (.var 1)
@[simp] def Zj4:SX:=.bin .gtr (.var 3) zLea2
@[simp] def Zk6:Fact:=.fn 38 (ECmp 1) [.var 0,.var 4]
@[simp] def zLea29:SX:=.bin .gtr (.var 3) (.con (.int .i64 9223372036854775807))
@[simp] def Zfa:Fact:=.ok (.var 0)
theorem c1:runTo Try.prog fil.noOrc 10000 38 (ECmp 1) [.num,.num] [0,0,1]=some ([Zfa,Zev,.ok Zh5,.is Zh5 (.bool false),.ok Zh4,.is Zh4 (.bool false),.ok Zh3,.is Zh3 (.bool true)],[.con (.int .i64 (Int.negSucc 0))]):=by kernel_rfl
theorem c01:runTo Try.prog fil.noOrc 10000 38 (ECmp 1) [.num,.num] [0,0,0,1]=some ([Zfa,Zev,.ok Zh5,.is Zh5 (.bool false),.ok Zh4,.is Zh4 (.bool false),.ok Zh3,.is Zh3 (.bool false),.ok Zj7,.is Zj7 (.bool true)],[zLea3]):=by kernel_rfl
theorem c00:runTo Try.prog fil.noOrc 10000 38 (ECmp 1) [.num,.num] [0,0,0,0]=some ([Zfa,Zev,.ok Zh5,.is Zh5 (.bool false),.ok Zh4,.is Zh4 (.bool false),.ok Zh3,.is Zh3 (.bool false),.ok Zj7,.is Zj7 (.bool false)],[zLea2]):=by kernel_rfl
theorem o1:runTo Try.prog (orcFn tabC) 10000 33 (EOrd 2) [.num,.num,.num,.num,.num,.num,.num,.num] [1]=some ([Zfa,Zev,.ok (.var 2),.ok (.var 3),.ok (.var 4),.ok (.var 5),.ok (.var 6),.ok (.var 7),.fn 38 (ECmp 1) Zg6,.ok (.fn 1 Zg6 0),Zk6,.ok zLea8,.ok zLea5,.is zLea5 (.bool true)],[.fn 1 Zg6 0]):=by kernel_rfl
theorem o01:runTo Try.prog (orcFn tabC) 10000 33 (EOrd 2) [.num,.num,.num,.num,.num,.num,.num,.num] [0,1]=some ([Zfa,Zev,.ok (.var 2),.ok (.var 3),.ok (.var 4),.ok (.var 5),.ok (.var 6),.ok (.var 7),.fn 38 (ECmp 1) Zg6,.ok (.fn 1 Zg6 0),Zk6,.ok zLea8,.ok zLea5,.is zLea5 (.bool false),.ok (.bin .neq zLea8 zLea2),.is (.bin .neq zLea8 zLea2) (.bool true)],[zLea8]):=by kernel_rfl
theorem o00:runTo Try.prog (orcFn tabC) 10000 33 (EOrd 2) [.num,.num,.num,.num,.num,.num,.num,.num] [0,0]=some ([Zfa,Zev,.ok (.var 2),.ok (.var 3),.ok (.var 4),.ok (.var 5),.ok (.var 6),.ok (.var 7),.fn 38 (ECmp 1) Zg6,.ok (.fn 1 Zg6 0),Zk6,.ok zLea8,.ok zLea5,.is zLea5 (.bool false),.ok (.bin .neq zLea8 zLea2),.is (.bin .neq zLea8 zLea2) (.bool false)],[zLea2]):=by kernel_rfl
theorem preF:segTo Try.prog fil.noOrc 10000 (flF.take 2) shF [] shFl [(1,0)]=some (.normal,[.ok (.len (.var 0)),Zev,.ok (.var 2),.ok (.len (.var 0)),.ok zLea2,.ok zLea2,.ok zLea2,.ok zLea2,.ok zLea2],[.var 1,.var 2,.var 0,.len (.var 0),zLea2,zLea2,zLea2,zLea2,zLea2]):=by kernel_rfl
theorem exF:segTo Try.prog fil.noOrc 10000 lpF shFl [0] shFP []=some (.exit 0,[.ok zLea7,.is zLea7 (.bool false)],[]):=by kernel_rfl
theorem on0:segTo Try.prog fil.noOrc 10000 lpF shFl [1,0] shFl [(0,0)]=some (.normal,[.ok zLea7,.is zLea7 (.bool true),Zh1,Zh1,.ok zLea4,.ok zLea6,.ok Zja,.ok Zi9,.ok Zh0,.is Zh0 (.bool false),.ok Zjb,Zfa,Zev,.ok (.var 3),.ok Zjb,.ok (.var 5),.ok (.var 6),.ok (.var 7),.ok (.var 8)],zLea21):=by kernel_rfl
theorem on1:segTo Try.prog fil.noOrc 10000 lpF shFl [1,1,0] shFl [(0,0)]=some (.normal,[.ok zLea7,.is zLea7 (.bool true),Zh1,Zh1,.ok zLea4,.ok zLea6,.ok Zja,.ok Zi9,.ok Zh0,.is Zh0 (.bool true),.ok Zj5,.is Zj5 (.bool false),.ok Zjb,Zfa,Zev,.ok (.var 3),.ok Zjb,.ok (.var 5),.ok (.var 6),.ok (.var 7),.ok (.var 8)],zLea21):=by kernel_rfl
theorem isF:segTo Try.prog fil.noOrc 10000 lpF shFl [1,1,1] shFR [(0,0)]=some (.ret,[.ok zLea7,.is zLea7 (.bool true),Zh1,Zh1,.ok zLea4,.ok zLea6,.ok Zja,.ok Zi9,.ok Zh0,.is Zh0 (.bool true),.ok Zj5,.is Zj5 (.bool true),.ok zLea4,.ok zLea6,.ok Zja,.ok Zi9],[zLea4,zLea6,Zja,Zi9]):=by kernel_rfl
theorem postF:segTo Try.prog fil.noOrc 10000 (flF.drop 3) shFP [] shFP []=some (.panic pvF,[],[]):=by kernel_rfl
theorem ml:runTo Try.prog fil.noOrc 10000 31 (Zdz 3) [.num,.num,.num,.num] [0,0,0,0,0,0,0,0]=some ([Zfa,Zev,.ok (.var 2),.ok (.var 3),.ok (.bin .lss (.var 0) zLea3),.is (.bin .lss (.var 0) zLea3) (.bool false),.ok (.bin .gtr (.var 0) (.con (.int .i64 3))),.is (.bin .gtr (.var 0) (.con (.int .i64 3))) (.bool false),.ok (.bin .lss (.var 1) zLea3),.is (.bin .lss (.var 1) zLea3) (.bool false),.ok (.bin .gtr (.var 1) (.con (.int .i64 6))),.is (.bin .gtr (.var 1) (.con (.int .i64 6))) (.bool false),.ok (.bin .lss (.var 2) zLea3),.is (.bin .lss (.var 2) zLea3) (.bool false),.ok (.bin .gtr (.var 2) (.con (.int .i64 2))),.is (.bin .gtr (.var 2) (.con (.int .i64 2))) (.bool false),.ok (.bin .lss (.var 3) zLea2),.is (.bin .lss (.var 3) zLea2) (.bool false),.ok zLea29,.is zLea29 (.bool false)],[]):=by kernel_rfl
theorem preB:segTo Try.prog (orcFn tabO) 10000 (flB.take 1) shB [] shBl []=some (.normal,[.ok (.len (.var 0)),.ok (.len (.var 0)),.ok zLea2],[.var 0,.var 0,.len (.var 0),zLea2]):=by kernel_rfl
theorem exB:segTo Try.prog (orcFn tabO) 10000 lpB shBl [0] shBR []=some (.exit 0,[.ok Zh2,.is Zh2 (.bool false)],[]):=by kernel_rfl
theorem onB0:segTo Try.prog (orcFn tabO) 10000 lpB shBl [1,0] shBl []=some (.normal,[.ok Zh2,.is Zh2 (.bool true),Zj6,Zj6,.ok (.cell (.var 1) (.var 3) 4 0),.ok (.cell (.var 1) (.var 3) 4 1),.ok (.cell (.var 1) (.var 3) 4 2),.ok (.cell (.var 1) (.var 3) 4 3),zLea9,.ok Zj4,.is Zj4 (.bool false),.ok Zhz,.ok (.var 2),.ok Zhz],[.var 0,.var 1,.var 2,Zhz]):=by kernel_rfl
theorem onB1:segTo Try.prog (orcFn tabO) 10000 lpB shBl [1,1,0] shBl []=some (.normal,[.ok Zh2,.is Zh2 (.bool true),Zj6,Zj6,.ok (.cell (.var 1) (.var 3) 4 0),.ok (.cell (.var 1) (.var 3) 4 1),.ok (.cell (.var 1) (.var 3) 4 2),.ok (.cell (.var 1) (.var 3) 4 3),zLea9,.ok Zj4,.is Zj4 (.bool true),.ok Zg7,.idx (.var 0) Zg7 4 4,.idx (.var 0) Zg7 4 4,.ok (.cell (.var 0) Zg7 4 0),.ok (.cell (.var 0) Zg7 4 1),.ok (.cell (.var 0) Zg7 4 2),.ok (.cell (.var 0) Zg7 4 3),.fn 33 (EOrd 2) zLea1,.ok (.fn 2 zLea1 0),.ok (.bin .geq (.fn 2 zLea1 0) zLea2),.is (.bin .geq (.fn 2 zLea1 0) zLea2) (.bool false),.ok Zhz,.ok (.var 2),.ok Zhz],[.var 0,.var 1,.var 2,Zhz]):=by kernel_rfl
theorem my:runTo Try.prog (orcFn tabB) 10000 11 (EMayL 6) [.row] []=some ([.fn 27 (EMust 5) [.var 0]],[.con (.bool true)]):=by kernel_rfl

def cmpI (a b:Int):Int:=if a < b then -1 else if b < a then 1 else 0
def ordL (a b:LeM):Int:=if cmpI a.2.1 b.2.1=0 then cmpI a.1 b.1 else cmpI a.2.1 b.2.1
def okL (x:LeM):Prop:=1<=x.1/\x.1<=3/\1<=x.2.1/\x.2.1<=6/\1<=x.2.2.1/\x.2.2.1<=2/\0<=x.2.2.2/\x.2.2.2<=9223372036854775807
def isL (c f:Int) (x:LeM):Bool:=x.1 == c && x.2.1 == f
def MayL (l:List LeM):Prop:=l.length<=1000000/\(∀ x ∈ l,okL x)/\∀ (i:Nat) (h:i+1 < l.length),ordL l[i] l[i+1] < 0
theorem Zdb:∀ xs ys:List LeM,encL.all xs=encL.all ys->xs=ys
 | [],[],_=>rfl
 | [],_ :: _,h=>by simp [Enc.all,encL] at h
 | _ :: _,[],h=>by simp [Enc.all,encL] at h
 | x :: xs,y :: ys,h=>by
  rw [Enc.all_cons,Enc.all_cons] at h
  obtain ⟨h1,h2⟩:=List.append_inj h (by rw [encL.len,encL.len])
  simp only [encL,List.cons.injEq,Value.int.injEq,true_and,and_true] at h1
  rw [Prod.ext h1.1 (Prod.ext h1.2.1 (Prod.ext h1.2.2.1 h1.2.2.2)),Zdb xs ys h2]
theorem cellL (l:List LeM) (i:Nat) (h:i < l.length):Zc2 (pRow encL l) (pI (i:Int)) 4 0=some (pI l[i].1)/\Zc2 (pRow encL l) (pI (i:Int)) 4 1=some (pI l[i].2.1)/\Zc2 (pRow encL l) (pI (i:Int)) 4 2=some (pI l[i].2.2.1)/\Zc2 (pRow encL l) (pI (i:Int)) 4 3=some (pI l[i].2.2.2):=by
 have h2:l[i]?=some l[i]:=List.getElem?_eq_getElem h
 refine ⟨?_,?_,?_,?_⟩
 ·rw [Zdm encL l i .i64 4 0 rfl h,Zfx encL l i 0 _ h2 (by decide)];rfl
 ·rw [Zdm encL l i .i64 4 1 rfl h,Zfx encL l i 1 _ h2 (by decide)];rfl
 ·rw [Zdm encL l i .i64 4 2 rfl h,Zfx encL l i 2 _ h2 (by decide)];rfl
 ·rw [Zdm encL l i .i64 4 3 rfl h,Zfx encL l i 3 _ h2 (by decide)];rfl
@[simp] theorem kCmp (k:Nat):(ECmp k).k=k:=rfl
@[simp] theorem kOrd (k:Nat):(EOrd k).k=k:=rfl
@[simp] theorem kFo (k:Nat):(EFo k).k=k:=rfl
@[simp] theorem kHo (k:Nat):(EHo k).k=k:=rfl
@[simp] theorem kMust (k:Nat):(EMust k).k=k:=rfl
@[simp] theorem kMustL (k:Nat):(Zdz k).k=k:=rfl
@[simp] theorem kMayL (k:Nat):(EMayL k).k=k:=rfl
def RCmp (ps qs:List PV):Prop:=∃ a b:Int,ps=[pI a,pI b]/\qs=[pI (cmpI a b)]
theorem fCmp:∀ ps q1 q2,RCmp ps q1->RCmp ps q2->q1=q2:=by
 rintro ps q1 q2 ⟨a,b,rfl,rfl⟩ ⟨a',b',h,rfl⟩
 simp only [List.cons.injEq,PV.v.injEq,Value.int.injEq,true_and,and_true] at h
 obtain ⟨rfl,rfl⟩:=h;rfl
theorem toldCmp (k:Nat):ToldF 38 (ECmp k) (spec RCmp):=by
 refine Zf6 mixed_ok names_ok (fun _ _=>none) [.num,.num] ?_
 intro ps qs h _
 obtain ⟨a,b,rfl,rfl⟩:=Zbd h
 by_cases d1:a < b
 ·refine ⟨_,_,_,_,_,_,fil.noOrc_ok,c1,fun w FP=>?_,?_⟩
  ·simp only [fmC,fmN]
   simp [Base.ev,SX.ev,evs,Value.oneCell',binPV,d1]
  ·simp [evs,SX.ev,cmpI,d1]
 by_cases d2:b < a
 ·refine ⟨_,_,_,_,_,_,fil.noOrc_ok,c01,fun w FP=>?_,?_⟩
  ·simp only [fmC,fmN]
   simp [Base.ev,SX.ev,evs,Value.oneCell',binPV,d1,d2]
  ·simp [evs,SX.ev,cmpI,d1,d2]
 ·refine ⟨_,_,_,_,_,_,fil.noOrc_ok,c00,fun w FP=>?_,?_⟩
  ·simp only [fmC,fmN]
   simp [Base.ev,SX.ev,evs,Value.oneCell',binPV,d1,d2]
  ·simp [evs,SX.ev,cmpI,d1,d2]
def p4 (x:LeM):List PV:=[pI x.1,pI x.2.1,pI x.2.2.1,pI x.2.2.2]
theorem Zlc {x y:LeM} (h:p4 x=p4 y):x=y:=by
 obtain ⟨a,b,c,d⟩:=x
 obtain ⟨a',b',c',d'⟩:=y
 simp only [p4,List.cons.injEq,PV.v.injEq,Value.int.injEq,true_and,and_true] at h
 obtain ⟨rfl,rfl,rfl,rfl⟩:=h;rfl
def ROrd (ps qs:List PV):Prop:=∃ a b:LeM,ps=p4 a++p4 b/\qs=[pI (ordL a b)]
theorem fOrd:∀ ps q1 q2,ROrd ps q1->ROrd ps q2->q1=q2:=by
 rintro ps q1 q2 ⟨a,b,rfl,rfl⟩ ⟨a',b',h,rfl⟩
 obtain ⟨h1,h2⟩:=List.append_inj h rfl
 rw [Zlc h1,Zlc h2]
noncomputable def FL:Fns:=fun k=>match k with | 1=>spec RCmp | _=>fun _=>none
theorem FL1 (a b:Int):FL 1 [pI a,pI b]=some [pI (cmpI a b)]:=Zav fCmp ⟨a,b,rfl,rfl⟩
theorem t1:ToldF 38 (ECmp 1) (FL 1):=toldCmp 1
theorem toldOrd (k:Nat):ToldF 33 (EOrd k) (spec ROrd):=by
 refine Zf6 mixed_ok names_ok FL [.num,.num,.num,.num,.num,.num,.num,.num] ?_
 intro ps qs h _
 obtain ⟨⟨a0,a1,a2,a3⟩,⟨b0,b1,b2,b3⟩,rfl,rfl⟩:=Zbd h
 have g1:=FL1 a1 b1
 have g2:=FL1 a0 b0
 by_cases d1:cmpI a1 b1=0
 ·by_cases d2:cmpI a0 b0=0
  ·have e:ordL (a0,a1,a2,a3) (b0,b1,b2,b3)=0:=by simp [ordL,d1,d2]
   rw [e]
   rw [d1] at g1;rw [d2] at g2
   refine ⟨_,_,_,_,_,_,Zal tabC,o00,fun w FP=>?_,?_⟩
   ·simp only [fmC,fmN]
    simp [Base.ev,SX.ev,evs,Value.oneCell',p4,g1,g2,t1,binPV]
   ·simp [evs,SX.ev]
  ·have e:ordL (a0,a1,a2,a3) (b0,b1,b2,b3)=cmpI a0 b0:=by simp [ordL,d1]
   rw [e]
   rw [d1] at g1
   generalize cmpI a0 b0=z at *
   refine ⟨_,_,_,_,_,_,Zal tabC,o01,fun w FP=>?_,?_⟩
   ·simp only [fmC,fmN]
    simp [Base.ev,SX.ev,evs,Value.oneCell',p4,g1,g2,t1,binPV,d2]
   ·simp [evs,SX.ev,p4,g2]
 ·have e:ordL (a0,a1,a2,a3) (b0,b1,b2,b3)=cmpI a1 b1:=by simp [ordL,d1]
  rw [e]
  generalize cmpI a1 b1=z at *
  refine ⟨_,_,_,_,_,_,Zal tabC,o1,fun w FP=>?_,?_⟩
  ·simp only [fmC,fmN]
   simp [Base.ev,SX.ev,evs,Value.oneCell',p4,g1,g2,t1,binPV,d1]
  ·simp [evs,SX.ev,p4,g1]
def RMl (ps qs:List PV):Prop:=∃ x:LeM,okL x/\ps=p4 x/\qs=[]
theorem fMl:∀ ps q1 q2,RMl ps q1->RMl ps q2->q1=q2:=by
 rintro ps q1 q2 ⟨x,_,rfl,rfl⟩ ⟨x',_,h,rfl⟩;rfl
theorem toldMl (k:Nat):ToldF 31 (Zdz k) (spec RMl):=by
 refine Zf6 mixed_ok names_ok (fun _ _=>none) [.num,.num,.num,.num] ?_
 intro ps qs h _
 obtain ⟨⟨a0,a1,a2,a3⟩,⟨h1,h2,h3,h4,h5,h6,h7,h8⟩,rfl,rfl⟩:=Zbd h
 simp only at h1 h2 h3 h4 h5 h6 h7 h8
 refine ⟨_,_,_,_,_,_,fil.noOrc_ok,ml,fun w FP=>?_,?_⟩
 ·simp only [fmC,fmN]
  simp [Base.ev,SX.ev,evs,Value.oneCell',p4,binPV]
  all_goals omega
 ·simp [evs]
noncomputable def FO:Fns:=fun k=>match k with | 2=>spec ROrd | 3=>spec RMl | _=>fun _=>none
theorem FO2 (a b:LeM):FO 2 [pI a.1,pI a.2.1,pI a.2.2.1,pI a.2.2.2,pI b.1,pI b.2.1,pI b.2.2.1,pI b.2.2.2]=some [pI (ordL a b)]:=Zav fOrd ⟨a,b,rfl,rfl⟩
theorem FO3 {x:LeM} (h:okL x):FO 3 [pI x.1,pI x.2.1,pI x.2.2.1,pI x.2.2.2]=some []:=Zav fMl ⟨x,h,rfl,rfl⟩
theorem t2:ToldF 33 (EOrd 2) (FO 2):=toldOrd 2
theorem t3:ToldF 31 (Zdz 3) (FO 3):=toldMl 3
def RMb (ps qs:List PV):Prop:=∃ l:List LeM,MayL l/\ps=[pRow encL l]/\qs=[]
theorem fMb:∀ ps q1 q2,RMb ps q1->RMb ps q2->q1=q2:=by
 rintro ps q1 q2 ⟨x,_,rfl,rfl⟩ ⟨x',_,h,rfl⟩;rfl
theorem cutB:flB=flB.take 1++.block (Zba (nth flB 1)) (.loop (Zbl (nth flB 1))) :: flB.drop 2:=by kernel_rfl
theorem dropB:flB.drop 2=[]:=by kernel_rfl
set_option maxHeartbeats 1000000 in
theorem toldMb (k:Nat):ToldF 27 (EMust k) (spec RMb):=by
 refine Zjs FO _ (Zgw Try.prog 27) Try.func27 (by kernel_rfl) shB (by kernel_rfl) ?_ ?_
 ·intro ps qs h i hi
  obtain ⟨l,_,rfl,rfl⟩:=Zbd h
  simp [shB] at hi
  match i,hi with
  | 0,hi=>simp at hi
  | i+1,hi=>simp at hi
 ·intro C ps qs hF h a w hsh
  obtain ⟨l,hl,rfl,rfl⟩:=Zbd h
  obtain ⟨hlen,hok,hord⟩:=hl
  have g2:∀ a b:LeM,C.F 2 [pI a.1,pI a.2.1,pI a.2.2.1,pI a.2.2.2,pI b.1,pI b.2.1,pI b.2.2.1,pI b.2.2.2]=some [pI (ordL a b)]:=fun a b=>by rw [hF];exact FO2 a b
  have g3:∀ x:LeM,okL x->C.F 3 [pI x.1,pI x.2.1,pI x.2.2.1,pI x.2.2.2]=some []:=fun x hx=>by rw [hF];exact FO3 hx
  have t2':ToldF 33 (EOrd 2) (C.F 2):=by rw [hF];exact t2
  have t3':ToldF 31 (Zdz 3) (C.F 3):=by rw [hF];exact t3
  show wpL Try.prog flB _ a w
  rw [cutB]
  refine Zak names_ok mixed_ok (Zal tabO) preB hsh ?_ ?_
  ·simp only [fmC,fmN]
   simp [Base.ev,SX.ev,evs,Value.oneCell',Zag]
  ·intro qs a1 w1 hq h1
   refine ⟨fun _=>?_,fun h=>absurd rfl h⟩
   simp [evs,SX.ev,Zag] at hq
   subst hq
   refine Zdn (fun n a w=>∃ i,i<=l.length/\n=l.length - i/\Zar C shBl [pRow encL l,pRow encL l,pI (l.length:Int),pI (i:Int)] a w) ?_ (n:=l.length) ⟨0,by omega,by omega,h1⟩
   rintro n a w ⟨i,hi,rfl,hin⟩
   show wpL Try.prog lpB _ a w
   rw [<- List.append_nil lpB]
   by_cases hlt:i < l.length
   ·obtain ⟨c0',c1',c2',c3'⟩:=cellL l i hlt
    have ix:=Zda encL l i 4 4 .i64 rfl hlt (by decide)
    have v3:IntKind.i64.wrap ((i:Int)+1)=(i:Int)+1:=wrapI _ (by omega) (by omega)
    have k3:=g3 l[i] (hok _ (List.getElem_mem hlt))
    by_cases h0:i=0
    ·have hp:¬ (0:Int) < (i:Int):=by omega
     refine Zak names_ok mixed_ok (Zal tabO) onB0 hin ?_ ?_
     ·simp only [fmC,fmN]
      simp [Zab,Zaa,Base.ev,SX.ev,evs,Value.oneCell',Zag,binPV,c0',c1',c2',c3',ix,v3,hlt,k3,t3',hp]
      all_goals omega
     ·intro qs a1 w1 hq h1
      refine ⟨fun _=>.inl ⟨rfl,l.length - (i+1),by omega,i+1,by omega,rfl,?_⟩,fun h=>absurd rfl h⟩
      simp [evs,SX.ev,binPV,v3] at hq
      subst hq
      exact h1
    ·obtain ⟨j,hj⟩:∃ j,i=j+1:=⟨i - 1,by omega⟩
     have w1:IntKind.i64.wrap ((i:Int) - 1)=(j:Int):=by rw [wrapI _ (by omega) (by omega)];omega
     obtain ⟨e0',e1',e2',e3'⟩:=cellL l j (by omega)
     have hneg:ordL (l[j]'(by omega)) l[i] < 0:=by subst hj;exact hord j hlt
     have k2:=g2 (l[j]'(by omega)) l[i]
     have ixj:=Zda encL l j 4 4 .i64 rfl (by omega) (by decide)
     generalize ordL (l[j]'(by omega)) l[i]=z at *
     have hz:¬ (0:Int)<=z:=by omega
     have hp:(0:Int) < (i:Int):=by omega
     refine Zak names_ok mixed_ok (Zal tabO) onB1 hin ?_ ?_
     ·simp only [fmC,fmN]
      simp [Zab,Zaa,Base.ev,SX.ev,evs,Value.oneCell',Zag,binPV,c0',c1',c2',c3',e0',e1',e2',e3',v3,w1,hlt,k2,k3,t2',t3',hz,hp,ix,ixj]
      all_goals omega
     ·intro qs a1 w1 hq h1
      refine ⟨fun _=>.inl ⟨rfl,l.length - (i+1),by omega,i+1,by omega,rfl,?_⟩,fun h=>absurd rfl h⟩
      simp [evs,SX.ev,binPV,v3] at hq
      subst hq
      exact h1
   ·have hie:i=l.length:=by omega
    subst hie
    refine Zak names_ok mixed_ok (Zal tabO) exB hin ?_ ?_
    ·simp only [fmC,fmN]
     simp [Base.ev,SX.ev,evs,Value.oneCell',binPV]
    ·intro qs a1 w1 hq h1
     refine ⟨fun h=>(by cases h),fun _=>.inr (.inl ⟨by rw [show Zba (nth flB 1)=0 by kernel_rfl];rfl,?_⟩)⟩
     rw [dropB]
     exact ⟨.inl rfl,shBR,_,[],h1,by kernel_rfl,rfl⟩

noncomputable def FB:Fns:=fun k=>match k with | 5=>spec RMb | _=>fun _=>none
theorem FB5 {l:List LeM} (h:MayL l):FB 5 [pRow encL l]=some []:=Zav fMb ⟨l,h,rfl,rfl⟩
theorem t5:ToldF 27 (EMust 5) (FB 5):=toldMb 5
def RMy (ps qs:List PV):Prop:=∃ l:List LeM,MayL l/\ps=[pRow encL l]/\qs=[pB true]
theorem fMy:∀ ps q1 q2,RMy ps q1->RMy ps q2->q1=q2:=by
 rintro ps q1 q2 ⟨x,_,rfl,rfl⟩ ⟨x',_,h,rfl⟩;rfl
theorem toldMy (k:Nat):ToldF 11 (EMayL k) (spec RMy):=by
 refine Zf6 mixed_ok names_ok FB [.row] ?_
 intro ps qs h _
 obtain ⟨l,hl,rfl,rfl⟩:=Zbd h
 have g:=FB5 hl
 refine ⟨_,_,_,_,_,_,Zal tabB,my,fun w FP=>?_,?_⟩
 ·simp only [fmC,fmN]
  simp [Base.ev,SX.ev,evs,Value.oneCell',g,t5]
 ·simp [evs,SX.ev]
def Zfo (l:List LeM) (c f:Int):List PV:=match l.find? (isL c f) with | some x=>pI 0 :: p4 x | none=>[pI (0+1:Nat)]
def RFo (ps qs:List PV):Prop:=∃ (l:List LeM) (c f:Int),l.length<=1000000/\ps=[pRow encL l,pI c,pI f]/\qs=Zfo l c f
theorem fFo:∀ ps q1 q2,RFo ps q1->RFo ps q2->q1=q2:=by
 rintro ps q1 q2 ⟨l,c,f,_,rfl,rfl⟩ ⟨l',c',f',_,h,rfl⟩
 simp only [List.cons.injEq,PV.v.injEq,Value.int.injEq,true_and,and_true] at h
 obtain ⟨h,rfl,rfl⟩:=h
 rw [fil.pRow_inj Zdb h]
theorem find_hit {p:LeM->Bool} {l:List LeM} {i:Nat} (h:i < l.length) (hp:p l[i]=true) (hb:∀ j (hj:j < l.length),j < i->p l[j]=false):l.find? p=some l[i]:=by
 rw [List.find?_eq_some_iff_getElem]
 exact ⟨hp,i,h,rfl,fun j hj=>by simp [hb j (by omega) hj]⟩
theorem find_miss {p:LeM->Bool} {l:List LeM} (hb:∀ j (hj:j < l.length),p l[j]=false):l.find? p=none:=by
 rw [List.find?_eq_none]
 intro x hx
 obtain ⟨j,hj,rfl⟩:=List.getElem_of_mem hx
 simp [hb j hj]
theorem cutF:flF=flF.take 2++.block (Zba (nth flF 2)) (.loop (Zbl (nth flF 2))) :: flF.drop 3:=by kernel_rfl
set_option maxHeartbeats 1000000 in
theorem toldFo (k:Nat):ToldX 25 (EFo k) [pvF] (spec RFo):=by
 refine told_byX (fun _ _=>none) _ (Zgw Try.prog 25) Try.func25 (by kernel_rfl) shF (by kernel_rfl) ?_ ?_
 ·intro ps qs h i hi
  obtain ⟨l,c,f,_,rfl,rfl⟩:=Zbd h
  simp [shF] at hi
  match i,hi with
  | 0,hi=>simp at hi
  | 1,hi=>exact ⟨_,rfl,rfl⟩
  | 2,hi=>exact ⟨_,rfl,rfl⟩
  | i+3,hi=>simp at hi
 ·intro C ps qs hF h a w hsh
  obtain ⟨l,c,f,hl,rfl,rfl⟩:=Zbd h
  show wpL Try.prog flF _ a w
  rw [cutF]
  refine Zak names_ok mixed_ok fil.noOrc_ok preF hsh ?_ ?_
  ·simp only [fmC,fmN]
   simp [Base.ev,SX.ev,evs,Value.oneCell',Zag]
  ·intro qs a1 w1 hq h1
   refine ⟨fun _=>?_,fun h=>absurd rfl h⟩
   simp [evs,SX.ev,Zag] at hq
   subst hq
   refine block_loopX (fun n a w=>∃ i,i<=l.length/\n=l.length - i/\(∀ j (hj:j < l.length),j < i->isL c f l[j]=false)/\Zar C shFl [pI c,pI f,pRow encL l,pI (l.length:Int),pI (i:Int),pI 0,pI 0,pI 0,pI 0] a w) ?_ (n:=l.length) ⟨0,by omega,by omega,fun j _ hj=>absurd hj (by omega),h1⟩
   rintro n a w ⟨i,hi,rfl,hb,hin⟩
   show wpL Try.prog lpF _ a w
   rw [<- List.append_nil lpF]
   by_cases hlt:i < l.length
   ·obtain ⟨c0',c1',c2',c3'⟩:=cellL l i hlt
    have ix:=Zda encL l i 4 4 .i64 rfl hlt (by decide)
    have v3:IntKind.i64.wrap ((i:Int)+1)=(i:Int)+1:=wrapI _ (by omega) (by omega)
    have next:isL c f l[i]=false->∀ j (hj:j < l.length),j < i+1->isL c f l[j]=false:=fun hp j hj hji=>by
     by_cases hje:j=i
     ·subst hje;exact hp
     ·exact hb j hj (by omega)
    by_cases d1:l[i].1=c
    ·by_cases d2:l[i].2.1=f
     ·have hp:isL c f l[i]=true:=by simp [isL,d1,d2]
      have hq0:Zfo l c f=pI 0 :: p4 l[i]:=by simp only [Zfo,find_hit hlt hp hb]
      refine Zak names_ok mixed_ok fil.noOrc_ok isF hin ?_ ?_
      ·simp only [fmC,fmN]
       simp [Zab,Zaa,Base.ev,SX.ev,evs,Value.oneCell',Zag,binPV,c0',c1',c2',c3',ix,v3,hlt,d1,d2]
       all_goals omega
      ·intro qs a1 w1 hq h1
       refine ⟨fun h=>(by cases h),fun _=>.inr (.inr (.inl ⟨rfl,.inl ⟨_,hq0,.inr rfl,shFR,qs,[SX.var 0,SX.var 1,SX.var 2,SX.var 3],h1,by kernel_rfl,?_⟩⟩))⟩
       simp [evs,SX.ev,c0',c1',c2',c3'] at hq ⊢
       subst hq
       simp [p4]
     ·have hp:isL c f l[i]=false:=by simp [isL,d2]
      refine Zak names_ok mixed_ok fil.noOrc_ok on1 hin ?_ ?_
      ·simp only [fmC,fmN]
       simp [Zab,Zaa,Base.ev,SX.ev,evs,Value.oneCell',Zag,binPV,c0',c1',c2',c3',ix,v3,hlt,d1,d2]
       all_goals omega
      ·intro qs a1 w1 hq h1
       refine ⟨fun _=>.inl ⟨rfl,l.length - (i+1),by omega,i+1,by omega,rfl,next hp,?_⟩,fun h=>absurd rfl h⟩
       simp [evs,SX.ev,binPV,v3] at hq
       subst hq
       exact h1
    ·have hp:isL c f l[i]=false:=by simp [isL,d1]
     refine Zak names_ok mixed_ok fil.noOrc_ok on0 hin ?_ ?_
     ·simp only [fmC,fmN]
      simp [Zab,Zaa,Base.ev,SX.ev,evs,Value.oneCell',Zag,binPV,c0',c1',c2',c3',ix,v3,hlt,d1]
      all_goals omega
     ·intro qs a1 w1 hq h1
      refine ⟨fun _=>.inl ⟨rfl,l.length - (i+1),by omega,i+1,by omega,rfl,next hp,?_⟩,fun h=>absurd rfl h⟩
      simp [evs,SX.ev,binPV,v3] at hq
      subst hq
      exact h1
   ·have hie:i=l.length:=by omega
    subst hie
    have hq0:Zfo l c f=[pI (0+1:Nat)]:=by simp only [Zfo,find_miss (fun j hj=>hb j hj hj)]
    refine Zak names_ok mixed_ok fil.noOrc_ok exF hin ?_ ?_
    ·simp only [fmC,fmN]
     simp [Base.ev,SX.ev,evs,Value.oneCell',binPV]
    ·intro qs a1 w1 hq h1
     refine ⟨fun h=>(by cases h),fun _=>.inr (.inl ⟨by rw [show Zba (nth flF 2)=0 by kernel_rfl];rfl,?_⟩)⟩
     rw [<- List.append_nil (flF.drop 3)]
     refine Zak names_ok mixed_ok fil.noOrc_ok postF h1 (by simp) ?_
     intro qs a2 w2 hq h2
     exact ⟨fun h=>(by cases h),fun _=>.inr ⟨0,_,_,_,hq0,rfl,rfl,h2⟩⟩
end Go.Proofs.Ytpnegheknjeljaa.lea
