/- Texts joined. -/
import Derived.Test.YtnomiffghidmbaaMpa
import Derived.Test.YtnomiffghidmbaaMkt
import Derived.Test.YtnomiffghidmbaaEng31
section
/- Picks: an ask, told. -/
namespace Go.Proofs.Ytnomiffghidmbaa.mka2
open Go Go.RowKit eng SX Fact fil fileFronts ima msm pck
open mws (aP Zej)
open mas (AOk)
open mkt (FKs)
set_option linter.unusedVariables false
set_option linter.unusedSimpArgs false
set_option maxRecDepth 1000000
def EAk (k:Nat):PtrE:={ k:=k,elem:=52,cells:=2,ins:=[],outs:=[some 8],kinds:=[.num,.num,.num,.num,.num,.num,.num,.own 49 2 true,.row,.num] }
def tabO (f:FuncId):Option PtrE:=cond (Nat.beq f 27) (some (ENum 20)) (cond (Nat.beq f 28) (some (EWo 23)) (cond (Nat.beq f 29) (some (EWr1 21)) none))
def isApp (o:Op):Bool:=match o with | .call c=>(match c.callee with | .builtin .append=>true | _=>false) | _=>false
def hAk (_:FuncId) (o:Oper):Option Hint:=cond (isApp o.op) (some .own) none
noncomputable def flK:=flat (Zam Try.prog 11)
def aknil:BoxT:=⟨24,0,false,[.leaf,.leaf,.leaf,.leaf,.leaf,.leaf,.leaf,.nil],none,false⟩
def akown:BoxT:=⟨24,0,false,[.leaf,.leaf,.leaf,.leaf,.leaf,.leaf,.leaf,.own 2 9 2],none,false⟩
def shK:Shape:=⟨[(0,.ptr 0 0 0 0)],[pbox],[some true,none],52,11⟩
def shKn:Shape:=⟨[(2,.ptr 1 0 0 0)],[pbox,aknil],[some true,none,none,none,none,none,none,none,none],52,11⟩
def shKo:Shape:=⟨[(2,.ptr 1 0 0 0)],[pbox,akown,wbox 9],[some true,none,none,none,none,none,none,none,none],52,11⟩
def z1:List SX:=[.con (.int .i64 3),.fn 20 [.con (.int .i64 5),.var 0,.var 1] 1,.fn 20 [.con (.int .i64 5),.var 0,.var 1] 2]
def z2:List SX:=[.con (.int .i64 3),.fn 20 z1 1,.fn 20 z1 2]
def z3:List SX:=[.con (.int .i64 20),.fn 20 z2 1,.fn 20 z2 2]
def z4:List SX:=[.con (.int .i64 4),.fn 20 z3 1,.fn 20 z3 2]
def z5:List SX:=[.con (.int .i64 2),.fn 20 z3 1,.fn 20 z3 2]
def z6:List SX:=[.con (.int .i64 6),.fn 20 z5 1,.fn 20 z5 2]
def z7:List SX:=[.fn 23 z4 1,.fn 23 z4 2]
def z8:List SX:=[.con (.int .i64 6),.fn 21 z7 2,.fn 21 z7 3]
def z9:List SX:=[.con (.int .i64 5),.fn 20 z3 1,.fn 20 z3 2]
def z10:List SX:=[.con (.int .i64 6),.fn 23 z9 1,.fn 23 z9 2]
def z11:List SX:=[.con (.int .i64 6),.fn 20 z3 1,.fn 20 z3 2]
@[simp] def Zdm:SX:=.bin .add (.con (.int .i64 1)) (.fn 20 [.con (.int .i64 5),.var 0,.var 1] 0)
@[simp] def Zd3:SX:=.con (.int .i64 1)
@[simp] def Zr6:List SX:=[.con (.int .i64 5),.var 0,.var 1]
@[simp] def Zft:SX:=.bin .add Zd3 (.fn 20 z1 0)
@[simp] def Zfs:SX:=.bin .add Zd3 (.fn 20 z3 0)
@[simp] def Zfd:SX:=.con (.string { data:={ toList:=[] } })
@[simp] def Zdl:SX:=.bin .eql Zdm Zd3
@[simp] def Zh0:SX:=.bin .eql Zdm (.con (.int .i64 2))
@[simp] def Za6:SX:=.con (.int .i64 0)
@[simp] def Zey:SX:=.bin .eql Zdm (.con (.int .i64 3))
@[simp] def Zis:SX:=.lit 1 [.fn 21 z7 0,.fn 21 z7 1]
@[simp] def Zbo:Fact:=.ok (.fn 20 z2 0)
@[simp] def Zir:SX:=.bin .eql Zdm (.con (.int .i64 4))
@[simp] def Zex:Fact:=.fp 27 (ENum 20) Zr6
@[simp] def Zew:Fact:=.ok (.fn 20 Zr6 0)
@[simp] def Zev:Fact:=.ok (.fn 20 Zr6 2)
@[simp] def Ziq:SX:=.bin .add Zd3 (.fn 20 z10 0)
@[simp] def zMka2_18:SX:=.con (.string { data:={ toList:=[UInt8.ofNat 110,UInt8.ofNat 111,UInt8.ofNat 116,UInt8.ofNat 101,UInt8.ofNat 115] } })
@[simp] def Zip:SX:=.bin .add Zd3 (.fn 20 z8 0)
@[simp] def Zeu:Fact:=.fp 27 (ENum 20) z1
@[simp] def Zet:Fact:=.fp 27 (ENum 20) z2
@[simp] def Zes:Fact:=.fp 27 (ENum 20) z3
@[simp] def Zio:Fact:=.is Zdl (.bool false)
@[simp] def Zer:Fact:=.ok (.fn 20 z1 0)
@[simp] def Zeq:Fact:=.ok (.fn 20 z1 2)
@[simp] def Zep:Fact:=.ok (.fn 20 z2 2)
@[simp] def Zeo:Fact:=.ok (.fn 20 z3 0)
@[simp] def Zen:Fact:=.ok (.fn 20 z3 2)
@[simp] def Zmr:SX:=rop ROp.cat [.fn 23 z4 0,Zis]
@[simp] def Zkc:Fact:=.is Zh0 (.bool false)
@[simp] def Zga:Fact:=.ok (.fn 20 z4 2)
@[simp] def Zbn:Fact:=.ok Zdm
@[simp] def Zbm:Fact:=.ok Zft
@[simp] def Zbl:Fact:=.ok Zfs
theorem k10:segTo Try.prog (orcP tabO) 10000 flK shK [1,0] shKn [(0,0),(2,0)] hAk=some (.ret,[Zex,Zew,Zev,Zbn,Zeu,Zer,Zeq,Zbm,Zet,Zbo,Zep,Zes,Zeo,Zen,Zbl,.ok Zdl,.is Zdl (.bool true),.fp 27 (ENum 20) z4,.ok (.fn 20 z4 0),Zga,Fact.at (.fn 20 z4 0) 0,Zga,Zbn,Zbm,Zbo,Zbl,.ok (.con (.string { data:={ toList:=[UInt8.ofNat 97] } })),.ok Za6,.ok Za6],[.fn 20 z4 1,.fn 20 z4 2,Zdm,Zft,.fn 20 z2 0,Zfs,.con (.string { data:={ toList:=[UInt8.ofNat 97] } }),Za6,Za6]):=by kernel_rfl
theorem k11:segTo Try.prog (orcP tabO) 10000 flK shK [1,1] shKn [(0,0),(2,0)] hAk=some (.ret,[Zex,Zew,Zev,Zbn,Zeu,Zer,Zeq,Zbm,Zet,Zbo,Zep,Zes,Zeo,Zen,Zbl,.ok Zdl,.is Zdl (.bool true),.fp 27 (ENum 20) z4,.ok (.fn 20 z4 0),Zga,Fact.at (.fn 20 z4 0) 1,Zga,Zbn,Zbm,Zbo,Zbl,.ok (.con (.string { data:={ toList:=[UInt8.ofNat 98] } })),.ok Za6,.ok Za6],[.fn 20 z4 1,.fn 20 z4 2,Zdm,Zft,.fn 20 z2 0,Zfs,.con (.string { data:={ toList:=[UInt8.ofNat 98] } }),Za6,Za6]):=by kernel_rfl
theorem k12:segTo Try.prog (orcP tabO) 10000 flK shK [1,2] shKn [(0,0),(2,0)] hAk=some (.ret,[Zex,Zew,Zev,Zbn,Zeu,Zer,Zeq,Zbm,Zet,Zbo,Zep,Zes,Zeo,Zen,Zbl,.ok Zdl,.is Zdl (.bool true),.fp 27 (ENum 20) z4,.ok (.fn 20 z4 0),Zga,Fact.at (.fn 20 z4 0) 2,Zga,Zbn,Zbm,Zbo,Zbl,.ok zMka2_18,.ok Za6,.ok Za6],[.fn 20 z4 1,.fn 20 z4 2,Zdm,Zft,.fn 20 z2 0,Zfs,zMka2_18,Za6,Za6]):=by kernel_rfl
theorem k13:segTo Try.prog (orcP tabO) 10000 flK shK [1,3] shKn [(0,0),(2,0)] hAk=some (.ret,[Zex,Zew,Zev,Zbn,Zeu,Zer,Zeq,Zbm,Zet,Zbo,Zep,Zes,Zeo,Zen,Zbl,.ok Zdl,.is Zdl (.bool true),.fp 27 (ENum 20) z4,.ok (.fn 20 z4 0),Zga,Fact.at (.fn 20 z4 0) 3,Zga,Zbn,Zbm,Zbo,Zbl,.ok (.con (.string { data:={ toList:=[UInt8.ofNat 99] } })),.ok Za6,.ok Za6],[.fn 20 z4 1,.fn 20 z4 2,Zdm,Zft,.fn 20 z2 0,Zfs,.con (.string { data:={ toList:=[UInt8.ofNat 99] } }),Za6,Za6]):=by kernel_rfl
theorem k2:segTo Try.prog (orcP tabO) 10000 flK shK [0,1] shKn [(0,0),(2,0)] hAk=some (.ret,[Zex,Zew,Zev,Zbn,Zeu,Zer,Zeq,Zbm,Zet,Zbo,Zep,Zes,Zeo,Zen,Zbl,.ok Zdl,Zio,.ok Zh0,.is Zh0 (.bool true),.fp 27 (ENum 20) z5,.ok (.fn 20 z5 0),.ok (.fn 20 z5 2),.ok (.bin .add Zd3 (.fn 20 z5 0)),.fp 27 (ENum 20) z6,.ok (.fn 20 z6 0),.ok (.fn 20 z6 2),.ok (.bin .add Zd3 (.fn 20 z6 0)),.ok (.fn 20 z6 2),Zbn,Zbm,Zbo,Zbl,.ok Zfd,.ok (.bin .add Zd3 (.fn 20 z6 0)),.ok (.bin .add Zd3 (.fn 20 z5 0))],[.fn 20 z6 1,.fn 20 z6 2,Zdm,Zft,.fn 20 z2 0,Zfs,Zfd,.bin .add Zd3 (.fn 20 z6 0),.bin .add Zd3 (.fn 20 z5 0)]):=by kernel_rfl
theorem k30:segTo Try.prog (orcP tabO) 10000 flK shK [0,0,1,0] shKo [(0,0),(2,0),(11,0)] hAk=some (.ret,[Zex,Zew,Zev,Zbn,Zeu,Zer,Zeq,Zbm,Zet,Zbo,Zep,Zes,Zeo,Zen,Zbl,.ok Zdl,Zio,.ok Zh0,Zkc,.ok Zey,.is Zey (.bool true),.fp 28 (EWo 23) z4,.is (.len (.fn 23 z4 0)) (.int .i64 0),.ok (.fn 23 z4 2),.fp 29 (EWr1 21) z7,.ok (.fn 21 z7 0),.ok (.fn 21 z7 1),.ok (.fn 21 z7 3),rng Za6 (.len Zis),upto (.len Zis) 4294967296,.fp 27 (ENum 20) z8,.ok (.fn 20 z8 0),.ok (.fn 20 z8 2),.ok Zip,.ok (.fn 20 z8 2),Zbn,Zbm,Zbo,Zbl,.ok Zfd,.ok Zip,.ok Za6,same (.len Zis) (.len Zis)],[.fn 20 z8 1,.fn 20 z8 2,Zdm,Zft,.fn 20 z2 0,Zfs,Zfd,Zip,Za6,Zis]):=by kernel_rfl
theorem k31:segTo Try.prog (orcP tabO) 10000 flK shK [0,0,1,1] shKo [(0,0),(2,0),(9,1)] hAk=some (.ret,[Zex,Zew,Zev,Zbn,Zeu,Zer,Zeq,Zbm,Zet,Zbo,Zep,Zes,Zeo,Zen,Zbl,.ok Zdl,Zio,.ok Zh0,Zkc,.ok Zey,.is Zey (.bool true),.fp 28 (EWo 23) z4,rng Za6 (.len (.fn 23 z4 0)),.ok (.fn 23 z4 2),.fp 29 (EWr1 21) z7,.ok (.fn 21 z7 0),.ok (.fn 21 z7 1),.ok (.fn 21 z7 3),same (.len (.fn 23 z4 0)) (.len (.fn 23 z4 0)),upto (.len Zmr) 4294967296,.fp 27 (ENum 20) z8,.ok (.fn 20 z8 0),.ok (.fn 20 z8 2),.ok Zip,.ok (.fn 20 z8 2),Zbn,Zbm,Zbo,Zbl,.ok Zfd,.ok Zip,.ok Za6,same (.len Zmr) (.len Zmr)],[.fn 20 z8 1,.fn 20 z8 2,Zdm,Zft,.fn 20 z2 0,Zfs,Zfd,Zip,Za6,Zmr]):=by kernel_rfl
theorem k40:segTo Try.prog (orcP tabO) 10000 flK shK [0,0,0,1,0] shKn [(0,0),(2,0)] hAk=some (.ret,[Zex,Zew,Zev,Zbn,Zeu,Zer,Zeq,Zbm,Zet,Zbo,Zep,Zes,Zeo,Zen,Zbl,.ok Zdl,Zio,.ok Zh0,Zkc,.ok Zey,.is Zey (.bool false),.ok Zir,.is Zir (.bool true),.fp 28 (EWo 23) z9,.is (.len (.fn 23 z9 0)) (.int .i64 0),.ok (.fn 23 z9 2),.fp 27 (ENum 20) z10,.ok (.fn 20 z10 0),.ok (.fn 20 z10 2),.ok Ziq,.ok (.fn 20 z10 2),Zbn,Zbm,Zbo,Zbl,.ok Zfd,.ok Ziq,.ok Za6],[.fn 20 z10 1,.fn 20 z10 2,Zdm,Zft,.fn 20 z2 0,Zfs,Zfd,Ziq,Za6]):=by kernel_rfl
theorem k41:segTo Try.prog (orcP tabO) 10000 flK shK [0,0,0,1,1] shKo [(0,0),(2,0),(9,0)] hAk=some (.ret,[Zex,Zew,Zev,Zbn,Zeu,Zer,Zeq,Zbm,Zet,Zbo,Zep,Zes,Zeo,Zen,Zbl,.ok Zdl,Zio,.ok Zh0,Zkc,.ok Zey,.is Zey (.bool false),.ok Zir,.is Zir (.bool true),.fp 28 (EWo 23) z9,rng Za6 (.len (.fn 23 z9 0)),.ok (.fn 23 z9 2),.fp 27 (ENum 20) z10,.ok (.fn 20 z10 0),.ok (.fn 20 z10 2),.ok Ziq,.ok (.fn 20 z10 2),Zbn,Zbm,Zbo,Zbl,.ok Zfd,.ok Ziq,.ok Za6,same (.len (.fn 23 z9 0)) (.len (.fn 23 z9 0))],[.fn 20 z10 1,.fn 20 z10 2,Zdm,Zft,.fn 20 z2 0,Zfs,Zfd,Ziq,Za6,.fn 23 z9 0]):=by kernel_rfl
theorem k5:segTo Try.prog (orcP tabO) 10000 flK shK [0,0,0,0] shKn [(0,0),(2,0)] hAk=some (.ret,[Zex,Zew,Zev,Zbn,Zeu,Zer,Zeq,Zbm,Zet,Zbo,Zep,Zes,Zeo,Zen,Zbl,.ok Zdl,Zio,.ok Zh0,Zkc,.ok Zey,.is Zey (.bool false),.ok Zir,.is Zir (.bool false),.fp 27 (ENum 20) z11,.ok (.fn 20 z11 0),.ok (.fn 20 z11 2),.ok (.bin .add Zd3 (.fn 20 z11 0)),.ok (.fn 20 z11 2),Zbn,Zbm,Zbo,Zbl,.ok Zfd,.ok (.bin .add Zd3 (.fn 20 z11 0)),.ok Za6],[.fn 20 z11 1,.fn 20 z11 2,Zdm,Zft,.fn 20 z2 0,Zfs,Zfd,.bin .add Zd3 (.fn 20 z11 0),Za6]):=by kernel_rfl
@[simp] theorem kAk (k:Nat):(EAk k).k=k:=rfl
@[simp] theorem kWo' (k:Nat):(EWo k).k=k:=rfl
@[simp] theorem kWr1' (k:Nat):(EWr1 k).k=k:=rfl
def nmA:Nat->ByteArray
 | 0=>⟨⟨[97]⟩⟩
 | 1=>⟨⟨[98]⟩⟩
 | 2=>⟨⟨[110,111,116,101,115]⟩⟩
 | _=>⟨⟨[99]⟩⟩
def mkA (l:List Nat) (n:Nat):AskM × Nat :=
 let n1:=numN l n;let n2:=numN l n1;let n3:=numN l n2;let n4:=numN l n3
 let k:Int:=1+(numV l n 5:Int);let f:Int:=1+(numV l n1 3:Int);let e:Int:=numV l n2 3;let s:Int:=1+(numV l n3 20:Int)
 if numV l n 5=0 then (⟨k,f,e,s,nmA (numV l n4 4),0,0,[]⟩,numN l n4)
 else if numV l n 5=1 then (⟨k,f,e,s,e0,1+(numV l (numN l n4) 6:Int),1+(numV l n4 2:Int),[]⟩,numN l (numN l n4))
 else if numV l n 5=2 then
  let W:=writes l n4 4;let x:=wr1 l W.2
  (⟨k,f,e,s,e0,1+(numV l x.2 6:Int),0,W.1++[x.1]⟩,numN l x.2)
 else if numV l n 5=3 then
  let W:=writes l n4 5
  (⟨k,f,e,s,e0,1+(numV l W.2 6:Int),0,W.1⟩,numN l W.2)
 else (⟨k,f,e,s,e0,1+(numV l n4 6:Int),0,[]⟩,numN l n4)
theorem writes_ok {l:List Nat} {n most:Nat} (ok:OkP l n):OkP l (writes l n most).2:=by
 have:∀ c n,OkP l n->OkP l (wseq l c n).2:=fun c=>by
  induction c with
  | zero=>intro n h;exact h
  | succ c ih=>intro n h;exact ih _ (okW h)
 exact this _ _ (pck.okN ok)
theorem Zkr (l:List Nat) (n most:Nat):(writes l n most).1.length<=most:=by
 unfold writes
 rw [wseq_len]
 have:=Zbq (l:=l) (n:=n) (m:=most+1) (by omega)
 omega
noncomputable def FG:Fns:=fun k=>match k with | 20=>spec RNum | 21=>spec RWr1 | 23=>spec RWs | _=>fun _=>none
theorem fg20:ToldP 27 (ENum 20) (FG 20):=Zsa 20
theorem fg21:ToldP 29 (EWr1 21) (FG 21):=toldWr1 21
theorem fg23:ToldP 28 (EWo 23) (FG 23):=toldWo 23
theorem FGs {l:List Nat} {n:Nat} (ok:OkP l n) (m:Nat) (z:Int) (hz:z=m) (h1:1<=m) (h2:m<=1000):∃ x n',numV l n m=x/\numN l n=n'/\x < m/\OkP l n'/\IntKind.i64.wrap (1+(x:Int))=1+(x:Int)/\FG 20 [pI z,pRow encU l,pI (n:Int)]=some [pI (x:Int),pRow encU l,pI (n':Int)]:=by
 subst hz
 have:=Zbq (l:=l) (n:=n) (m:=m) (by omega)
 exact ⟨_,_,rfl,rfl,this,okN ok,wrapI _ (by omega) (by omega),Zaf fNum ⟨m,n,l,h1,h2,ok.n,ok.len,ok.u8,rfl,rfl⟩⟩
theorem FGw {l:List Nat} {n:Nat} (ok:OkP l n) (m:Nat) (z:Int) (hz:z=m) (h2:m<=100):∃ ws n',writes l n m=(ws,n')/\ws.length<=m/\OkP l n'/\FG 23 [pI z,pRow encU l,pI (n:Int)]=some [pRow encW ws,pRow encU l,pI (n':Int)]:=by
 subst hz
 exact ⟨_,_,rfl,Zkr l n m,writes_ok ok,Zaf fWs ⟨m,n,l,h2,ok,rfl,rfl⟩⟩
theorem FG1 {l:List Nat} {n:Nat} (ok:OkP l n):∃ o s n',wr1 l n=((o,s),n')/\OkP l n'/\FG 21 [pRow encU l,pI (n:Int)]=some [pI o,pS s,pRow encU l,pI (n':Int)] :=
 ⟨_,_,_,rfl,okW ok,Zaf fWr1 ⟨n,l,ok,rfl,rfl⟩⟩
theorem lit1 (o:Int) (s:ByteArray):PV.row 1 [pI o,pS s]=pRow encW [(o,s)]:=rfl
theorem cat2 (a b:List (Int × ByteArray)):ropPV .cat [pRow encW a,pRow encW b]=some (pRow encW (a++b)):=by simp [ropPV,pRow,Enc.all]
theorem lenW (a:List (Int × ByteArray)):lenPV (pRow encW a)=some (pI (a.length:Int)):=Zar ..
def RAk (ps qs:List PV):Prop:=∃ (n:Nat) (l:List Nat),OkP l n/\ps=[pRow encU l,pI (n:Int)]/\qs=aP (mkA l n).1++[pRow encU l,pI ((mkA l n).2:Int)]
theorem fAk:∀ ps q1 q2,RAk ps q1->RAk ps q2->q1=q2:=by
 rintro ps q1 q2 ⟨n,l,_,rfl,rfl⟩ ⟨n',l',_,h,rfl⟩
 simp only [List.cons.injEq,PV.v.injEq,Value.int.injEq,true_and,and_true,Int.ofNat_inj] at h
 obtain ⟨h,rfl⟩:=h
 rw [fil.pRow_inj Ziy h]
set_option maxHeartbeats 2000000 in
theorem toldAk (k:Nat):ToldP 11 (EAk k) (spec RAk):=by
 refine told_ptrO FG _ (Zam Try.prog 11) Try.func11 (by kernel_rfl) shK (by kernel_rfl) ?_ ?_
 ·intro ps qs h
  obtain ⟨n,l,_,rfl,rfl⟩:=Zag h
  exact Za7 rfl
 ·intro C ps qs hF h a w hsh
  obtain ⟨n,l,ok,rfl,rfl⟩:=Zag h
  clear h
  show wpL Try.prog flK _ a w
  rw [<- List.append_nil flK]
  obtain ⟨x0,n1,e0',f0,b0,o1,v0,c0⟩:=FGs ok 5 5 rfl (by omega) (by omega)
  obtain ⟨x1,n2,e1,f1,b1,o2,v1,c1⟩:=FGs o1 3 3 rfl (by omega) (by omega)
  obtain ⟨x2,n3,e2,f2,b2,o3,v2,c2⟩:=FGs o2 3 3 rfl (by omega) (by omega)
  obtain ⟨x3,n4,e3,f3,b3,o4,v3,c3⟩:=FGs o3 20 20 rfl (by omega) (by omega)
  have w2:IntKind.i64.wrap 2=2:=rfl
  have w3:IntKind.i64.wrap 3=3:=rfl
  have w4:IntKind.i64.wrap 4=4:=rfl
  have w5:IntKind.i64.wrap 5=5:=rfl
  have w1:IntKind.i64.wrap 1=1:=rfl
  by_cases k0:x0=0
  ·subst k0
   obtain ⟨x4,n5,e4,f4,b4,o5,v4,c4⟩:=FGs o4 4 4 rfl (by omega) (by omega)
   have hm:mkA l n=(⟨1,1+(x1:Int),x2,1+(x3:Int),nmA x4,0,0,[]⟩,n5):=by
    unfold mkA
    simp only [e0',f0,e1,f1,e2,f2,e3,f3,e4,f4]
    rfl
   rw [hm]
   clear hm e0' f0 e1 f1 e2 f2 e3 f3 e4 f4 o1 o2 o3 ok
   simp only [Int.natCast_zero] at c0
   have hx:x4=0 \/ x4=1 \/ x4=2 \/ x4=3:=by omega
   rcases hx with rfl | rfl | rfl | rfl
   ·refine Zad names_ok mixed_ok (Zbp _) k10 hsh ?_ ?_
    ·simp [-Zac,Zab,Zaa,Base.ev,SX.ev,evs,Value.oneCell',hF,binPV,Zay,z1,z2,z3,z4,z5,z6,z7,z8,z9,z10,z11,lit1,cat2,lenW,w1,w2,w3,w4,w5,v1,v3,c0,c1,c2,c3,c4,fg20,fg21,fg23]
     all_goals first | omega | skip
    ·intro qs a1 w1' hq h1'
     refine ⟨nofun,fun _=>⟨.inr rfl,shKn,qs,[SX.var 2,SX.var 3,SX.var 4,SX.var 5,SX.var 6,SX.var 7,SX.var 8,SX.lit 0 [],SX.var 0,SX.var 1],[],h1',by kernel_rfl,?_,fun i hi=>by simp at hi⟩⟩
     ·simp [evs,SX.ev,hF,binPV,Zay,z1,z2,z3,z4,z5,z6,z7,z8,z9,z10,z11,lit1,cat2,lenW,w1,w2,w3,w4,w5,v1,v3,c0,c1,c2,c3,c4] at hq ⊢
      subst hq
      rfl
   ·refine Zad names_ok mixed_ok (Zbp _) k11 hsh ?_ ?_
    ·simp [-Zac,Zab,Zaa,Base.ev,SX.ev,evs,Value.oneCell',hF,binPV,Zay,z1,z2,z3,z4,z5,z6,z7,z8,z9,z10,z11,lit1,cat2,lenW,w1,w2,w3,w4,w5,v1,v3,c0,c1,c2,c3,c4,fg20,fg21,fg23]
     all_goals first | omega | skip
    ·intro qs a1 w1' hq h1'
     refine ⟨nofun,fun _=>⟨.inr rfl,shKn,qs,[SX.var 2,SX.var 3,SX.var 4,SX.var 5,SX.var 6,SX.var 7,SX.var 8,SX.lit 0 [],SX.var 0,SX.var 1],[],h1',by kernel_rfl,?_,fun i hi=>by simp at hi⟩⟩
     ·simp [evs,SX.ev,hF,binPV,Zay,z1,z2,z3,z4,z5,z6,z7,z8,z9,z10,z11,lit1,cat2,lenW,w1,w2,w3,w4,w5,v1,v3,c0,c1,c2,c3,c4] at hq ⊢
      subst hq
      rfl
   ·refine Zad names_ok mixed_ok (Zbp _) k12 hsh ?_ ?_
    ·simp [-Zac,Zab,Zaa,Base.ev,SX.ev,evs,Value.oneCell',hF,binPV,Zay,z1,z2,z3,z4,z5,z6,z7,z8,z9,z10,z11,lit1,cat2,lenW,w1,w2,w3,w4,w5,v1,v3,c0,c1,c2,c3,c4,fg20,fg21,fg23]
     all_goals first | omega | skip
    ·intro qs a1 w1' hq h1'
     refine ⟨nofun,fun _=>⟨.inr rfl,shKn,qs,[SX.var 2,SX.var 3,SX.var 4,SX.var 5,SX.var 6,SX.var 7,SX.var 8,SX.lit 0 [],SX.var 0,SX.var 1],[],h1',by kernel_rfl,?_,fun i hi=>by simp at hi⟩⟩
     ·simp [evs,SX.ev,hF,binPV,Zay,z1,z2,z3,z4,z5,z6,z7,z8,z9,z10,z11,lit1,cat2,lenW,w1,w2,w3,w4,w5,v1,v3,c0,c1,c2,c3,c4] at hq ⊢
      subst hq
      rfl
   ·refine Zad names_ok mixed_ok (Zbp _) k13 hsh ?_ ?_
    ·simp [-Zac,Zab,Zaa,Base.ev,SX.ev,evs,Value.oneCell',hF,binPV,Zay,z1,z2,z3,z4,z5,z6,z7,z8,z9,z10,z11,lit1,cat2,lenW,w1,w2,w3,w4,w5,v1,v3,c0,c1,c2,c3,c4,fg20,fg21,fg23]
     all_goals first | omega | skip
    ·intro qs a1 w1' hq h1'
     refine ⟨nofun,fun _=>⟨.inr rfl,shKn,qs,[SX.var 2,SX.var 3,SX.var 4,SX.var 5,SX.var 6,SX.var 7,SX.var 8,SX.lit 0 [],SX.var 0,SX.var 1],[],h1',by kernel_rfl,?_,fun i hi=>by simp at hi⟩⟩
     ·simp [evs,SX.ev,hF,binPV,Zay,z1,z2,z3,z4,z5,z6,z7,z8,z9,z10,z11,lit1,cat2,lenW,w1,w2,w3,w4,w5,v1,v3,c0,c1,c2,c3,c4] at hq ⊢
      subst hq
      rfl
  by_cases k1:x0=1
  ·subst k1
   obtain ⟨x4,n5,e4,f4,b4,o5,v4,c4⟩:=FGs o4 2 2 rfl (by omega) (by omega)
   obtain ⟨x5,n6,e5,f5,b5,o6,v5,c5⟩:=FGs o5 6 6 rfl (by omega) (by omega)
   have hm:mkA l n=(⟨2,1+(x1:Int),x2,1+(x3:Int),e0,1+(x5:Int),1+(x4:Int),[]⟩,n6):=by
    unfold mkA
    simp only [e0',f0,e1,f1,e2,f2,e3,f3,e4,f4,e5,f5]
    rfl
   rw [hm]
   clear hm e0' f0 e1 f1 e2 f2 e3 f3 e4 f4 e5 f5 o1 o2 o3 ok
   simp only [Int.natCast_one] at c0
   refine Zad names_ok mixed_ok (Zbp _) k2 hsh ?_ ?_
   ·simp [-Zac,Zab,Zaa,Base.ev,SX.ev,evs,Value.oneCell',hF,binPV,Zay,z1,z2,z3,z4,z5,z6,z7,z8,z9,z10,z11,lit1,cat2,lenW,w1,w2,w3,w4,w5,v1,v3,c0,c1,c2,c3,c4,c5,v4,v5,fg20,fg21,fg23]
    all_goals first | omega | skip
   ·intro qs a1 w1' hq h1'
    refine ⟨nofun,fun _=>⟨.inr rfl,shKn,qs,[SX.var 2,SX.var 3,SX.var 4,SX.var 5,SX.var 6,SX.var 7,SX.var 8,SX.lit 0 [],SX.var 0,SX.var 1],[],h1',by kernel_rfl,?_,fun i hi=>by simp at hi⟩⟩
    ·simp [evs,SX.ev,hF,binPV,Zay,z1,z2,z3,z4,z5,z6,z7,z8,z9,z10,z11,lit1,cat2,lenW,w1,w2,w3,w4,w5,v1,v3,c0,c1,c2,c3,c4,c5,v4,v5] at hq ⊢
     subst hq
     rfl
  by_cases k2':x0=2
  ·subst k2'
   obtain ⟨ws,n5,e4,lw,o5,c4⟩:=FGw o4 4 4 rfl (by omega)
   obtain ⟨wo,wb,n6,e5,o6,c5⟩:=FG1 o5
   obtain ⟨x6,n7,e6,f6,b6,o7,v6,c6⟩:=FGs o6 6 6 rfl (by omega) (by omega)
   have hm:mkA l n=(⟨3,1+(x1:Int),x2,1+(x3:Int),e0,1+(x6:Int),0,ws++[(wo,wb)]⟩,n7):=by
    unfold mkA
    simp only [e0',f0,e1,f1,e2,f2,e3,f3,e4,e5,e6,f6]
    rfl
   rw [hm]
   clear hm e0' f0 e1 f1 e2 f2 e3 f3 e4 e5 e6 f6 o1 o2 o3 ok
   by_cases hw:ws=[]
   ·subst hw
    refine Zad names_ok mixed_ok (Zbp _) k30 hsh ?_ ?_
    ·simp [-Zac,Zab,Zaa,Base.ev,SX.ev,evs,Value.oneCell',hF,binPV,Zay,z1,z2,z3,z4,z5,z6,z7,z8,z9,z10,z11,lit1,cat2,lenW,w1,w2,w3,w4,w5,v1,v3,c0,c1,c2,c3,c4,c5,c6,v6,fg20,fg21,fg23]
     all_goals first | omega | skip
    ·intro qs a1 w1' hq h1'
     refine ⟨nofun,fun _=>⟨.inr rfl,shKo,qs,[SX.var 2,SX.var 3,SX.var 4,SX.var 5,SX.var 6,SX.var 7,SX.var 8,SX.var 9,SX.var 0,SX.var 1],[7],h1',by kernel_rfl,?_,?_⟩⟩
     ·simp [evs,SX.ev,hF,binPV,Zay,z1,z2,z3,z4,z5,z6,z7,z8,z9,z10,z11,lit1,cat2,lenW,w1,w2,w3,w4,w5,v1,v3,c0,c1,c2,c3,c4,c5,c6,v6] at hq ⊢
      subst hq
      rfl
     ·intro i hi
      simp only [List.mem_singleton] at hi
      subst hi
      exact ⟨0,_,rfl⟩
   ·have hw1:0 < ws.length:=List.length_pos_iff.2 hw
    refine Zad names_ok mixed_ok (Zbp _) k31 hsh ?_ ?_
    ·simp [-Zac,Zab,Zaa,Base.ev,SX.ev,evs,Value.oneCell',hF,binPV,Zay,z1,z2,z3,z4,z5,z6,z7,z8,z9,z10,z11,lit1,cat2,lenW,w1,w2,w3,w4,w5,v1,v3,c0,c1,c2,c3,c4,c5,c6,v6,fg20,fg21,fg23]
     all_goals exact ⟨hw1,⟨ws.length+1,by omega,by omega⟩,⟨ws.length+1,by omega⟩⟩
    ·intro qs a1 w1' hq h1'
     refine ⟨nofun,fun _=>⟨.inr rfl,shKo,qs,[SX.var 2,SX.var 3,SX.var 4,SX.var 5,SX.var 6,SX.var 7,SX.var 8,SX.var 9,SX.var 0,SX.var 1],[7],h1',by kernel_rfl,?_,?_⟩⟩
     ·simp [evs,SX.ev,hF,binPV,Zay,z1,z2,z3,z4,z5,z6,z7,z8,z9,z10,z11,lit1,cat2,lenW,w1,w2,w3,w4,w5,v1,v3,c0,c1,c2,c3,c4,c5,c6,v6] at hq ⊢
      subst hq
      rfl
     ·intro i hi
      simp only [List.mem_singleton] at hi
      subst hi
      exact ⟨ws.length,_,by simp [aP,pRow];rfl⟩
  by_cases k3':x0=3
  ·subst k3'
   obtain ⟨ws,n5,e4,lw,o5,c4⟩:=FGw o4 5 5 rfl (by omega)
   obtain ⟨x6,n7,e6,f6,b6,o7,v6,c6⟩:=FGs o5 6 6 rfl (by omega) (by omega)
   have hm:mkA l n=(⟨4,1+(x1:Int),x2,1+(x3:Int),e0,1+(x6:Int),0,ws⟩,n7):=by
    unfold mkA
    simp only [e0',f0,e1,f1,e2,f2,e3,f3,e4,e6,f6]
    rfl
   rw [hm]
   clear hm e0' f0 e1 f1 e2 f2 e3 f3 e4 e6 f6 o1 o2 o3 ok
   by_cases hw:ws=[]
   ·subst hw
    refine Zad names_ok mixed_ok (Zbp _) k40 hsh ?_ ?_
    ·simp [-Zac,Zab,Zaa,Base.ev,SX.ev,evs,Value.oneCell',hF,binPV,Zay,z1,z2,z3,z4,z5,z6,z7,z8,z9,z10,z11,lit1,cat2,lenW,w1,w2,w3,w4,w5,v1,v3,c0,c1,c2,c3,c4,c6,v6,fg20,fg21,fg23]
     all_goals first | omega | skip
    ·intro qs a1 w1' hq h1'
     refine ⟨nofun,fun _=>⟨.inr rfl,shKn,qs,[SX.var 2,SX.var 3,SX.var 4,SX.var 5,SX.var 6,SX.var 7,SX.var 8,SX.lit 0 [],SX.var 0,SX.var 1],[],h1',by kernel_rfl,?_,fun i hi=>by simp at hi⟩⟩
     ·simp [evs,SX.ev,hF,binPV,Zay,z1,z2,z3,z4,z5,z6,z7,z8,z9,z10,z11,lit1,cat2,lenW,w1,w2,w3,w4,w5,v1,v3,c0,c1,c2,c3,c4,c6,v6] at hq ⊢
      subst hq
      rfl
   ·have hw1:0 < ws.length:=List.length_pos_iff.2 hw
    refine Zad names_ok mixed_ok (Zbp _) k41 hsh ?_ ?_
    ·simp [-Zac,Zab,Zaa,Base.ev,SX.ev,evs,Value.oneCell',hF,binPV,Zay,z1,z2,z3,z4,z5,z6,z7,z8,z9,z10,z11,lit1,cat2,lenW,w1,w2,w3,w4,w5,v1,v3,c0,c1,c2,c3,c4,c6,v6,fg20,fg21,fg23]
     all_goals first | omega | skip
    ·intro qs a1 w1' hq h1'
     refine ⟨nofun,fun _=>⟨.inr rfl,shKo,qs,[SX.var 2,SX.var 3,SX.var 4,SX.var 5,SX.var 6,SX.var 7,SX.var 8,SX.var 9,SX.var 0,SX.var 1],[7],h1',by kernel_rfl,?_,?_⟩⟩
     ·simp [evs,SX.ev,hF,binPV,Zay,z1,z2,z3,z4,z5,z6,z7,z8,z9,z10,z11,lit1,cat2,lenW,w1,w2,w3,w4,w5,v1,v3,c0,c1,c2,c3,c4,c6,v6] at hq ⊢
      subst hq
      rfl
     ·intro i hi
      simp only [List.mem_singleton] at hi
      subst hi
      obtain ⟨x,xs,hx⟩:=List.exists_cons_of_ne_nil hw;rw [hx];exact ⟨xs.length,_,rfl⟩
  have k4':x0=4:=by omega
  subst k4'
  obtain ⟨x4,n5,e4,f4,b4,o5,v4,c4⟩:=FGs o4 6 6 rfl (by omega) (by omega)
  have hm:mkA l n=(⟨5,1+(x1:Int),x2,1+(x3:Int),e0,1+(x4:Int),0,[]⟩,n5):=by
   unfold mkA
   simp only [e0',f0,e1,f1,e2,f2,e3,f3,e4,f4]
   rfl
  rw [hm]
  clear hm e0' f0 e1 f1 e2 f2 e3 f3 e4 f4 o1 o2 o3 ok
  refine Zad names_ok mixed_ok (Zbp _) k5 hsh ?_ ?_
  ·simp [-Zac,Zab,Zaa,Base.ev,SX.ev,evs,Value.oneCell',hF,binPV,Zay,z1,z2,z3,z4,z5,z6,z7,z8,z9,z10,z11,lit1,cat2,lenW,w1,w2,w3,w4,w5,v1,v3,c0,c1,c2,c3,c4,v4,fg20,fg21,fg23]
   all_goals first | omega | skip
  ·intro qs a1 w1' hq h1'
   refine ⟨nofun,fun _=>⟨.inr rfl,shKn,qs,[SX.var 2,SX.var 3,SX.var 4,SX.var 5,SX.var 6,SX.var 7,SX.var 8,SX.lit 0 [],SX.var 0,SX.var 1],[],h1',by kernel_rfl,?_,fun i hi=>by simp at hi⟩⟩
   ·simp [evs,SX.ev,hF,binPV,Zay,z1,z2,z3,z4,z5,z6,z7,z8,z9,z10,z11,lit1,cat2,lenW,w1,w2,w3,w4,w5,v1,v3,c0,c1,c2,c3,c4,v4] at hq ⊢
    subst hq
    rfl
end Go.Proofs.Ytnomiffghidmbaa.mka2
end
section
/- Made asks and tells may be. -/
namespace Go.Proofs.Ytnomiffghidmbaa.mkm
open Go Go.RowKit eng SX Fact fil ima msm pck
open myt (TOk i64)
open mas (AOk)
open mkt (mkT Zup)
open mka2 (mkA nmA Zkr)
set_option linter.unusedVariables false
set_option linter.unusedSimpArgs false
set_option maxRecDepth 1000000
theorem tbl_sz (k:Nat):1<=(tbl k).size/\(tbl k).size<=14:=by
 match k with
 | 0=>decide
 | 1=>decide
 | 2=>decide
 | 3=>decide
 | 4=>decide
 | 5=>decide
 | _+6=>show 1<=(⟨⟨[UInt8.ofNat 120]⟩⟩:ByteArray).size/\(⟨⟨[UInt8.ofNat 120]⟩⟩:ByteArray).size<=14;decide
theorem wr1_ok (l:List Nat) (n:Nat):okWr (wr1 l n).1=true:=by
 have h:=tbl_sz (numV l (numN l n) 6)
 have h1:=Zbq (l:=l) (n:=n) (m:=10) (by omega)
 unfold okWr wr1
 simp only [decide_eq_true_eq]
 omega
theorem Znj (l:List Nat):∀ c n,∀ w ∈ (wseq l c n).1,okWr w=true
 | 0,n,w,h=>by simp [wseq] at h
 | c+1,n,w,h=>by
  simp only [wseq,List.mem_cons] at h
  rcases h with rfl | h
  ·exact wr1_ok l n
  ·exact Znj l c _ w h
theorem Zsg {t:TellM} (h:mayT t=true):TOk t:=by
 simp only [mayT,numB,Bool.and_eq_true,decide_eq_true_eq] at h
 obtain ⟨⟨⟨h1,h2,h3,h4⟩,h5,h6⟩,h⟩:=h
 split at h
 ·simp only [Bool.and_eq_true,decide_eq_true_eq] at h
  obtain ⟨⟨⟨⟨a1,a2⟩,a3,a4,a5,a6,a7,a8⟩,a9,a10⟩,a11⟩:=h
  constructor <;> first | exact ⟨by omega,by omega⟩ | omega
 ·simp only [Bool.and_eq_true,decide_eq_true_eq] at h
  obtain ⟨⟨a1,a2,a3,a4,a5⟩,h⟩:=h
  have hb:t.body.size<=9223372036854775807:=by rw [a5];decide
  have hf:0<=t.file/\t.file<=6:=by
   split at h
   ·simp only [decide_eq_true_eq] at h;omega
   ·simp only [decide_eq_true_eq] at h;omega
  constructor <;> first | exact hb | exact ⟨by omega,by omega⟩
theorem Zp2 {a:AskM} (h:mayA a=true):AOk a:=by
 obtain ⟨_,_,h3,h4,hn,_,_,h5,hws⟩:=Zp1 h
 refine ⟨⟨by omega,by omega⟩,⟨by omega,by omega⟩,by omega,by omega,fun w hw=>?_⟩
 have:=Zmu (hws w hw)
 exact ⟨by omega,by omega,by omega⟩
theorem nm_ok (k:Nat):Zia (nmA k)=true:=by
 match k with
 | 0=>decide
 | 1=>decide
 | 2=>decide
 | _+3=>show Zia ⟨⟨[99]⟩⟩=true;decide
theorem Zsf (l:List Nat) (n:Nat):mayA (mkA l n).1=true:=by
 have b0:numV l n 5 < 5:=Zbq (by omega)
 have b1:=Zbq (l:=l) (n:=numN l n) (m:=3) (by omega)
 have b2:=Zbq (l:=l) (n:=numN l (numN l n)) (m:=3) (by omega)
 have b3:=Zbq (l:=l) (n:=numN l (numN l (numN l n))) (m:=20) (by omega)
 unfold mkA
 dsimp only
 generalize numN l (numN l (numN l (numN l n)))=n4 at *
 split
 ·rename_i h
  have:=nm_ok (numV l n4 4)
  simp [mayA,numB,h,this]
  omega
 split
 ·rename_i h0 h
  have b5:=Zbq (l:=l) (n:=n4) (m:=2) (by omega)
  have b6:=Zbq (l:=l) (n:=numN l n4) (m:=6) (by omega)
  simp [mayA,numB,h]
  omega
 split
 ·rename_i h0 h1 h
  have b5:=Zbq (l:=l) (n:=(wr1 l (writes l n4 4).2).2) (m:=6) (by omega)
  have hl:=Zkr l n4 4
  have hw:(writes l n4 4).1.all okWr=true:=List.all_eq_true.2 fun w hw=>Znj l _ _ w hw
  have hx:=wr1_ok l (writes l n4 4).2
  generalize writes l n4 4=W at *
  generalize wr1 l W.2=X at *
  simp [mayA,numB,h,hx,-List.all_eq_true,hw]
  omega
 split
 ·rename_i h0 h1 h2 h
  have b5:=Zbq (l:=l) (n:=(writes l n4 5).2) (m:=6) (by omega)
  have hl:=Zkr l n4 5
  have hw:(writes l n4 5).1.all okWr=true:=List.all_eq_true.2 fun w hw=>Znj l _ _ w hw
  generalize writes l n4 5=W at *
  simp [mayA,numB,h,-List.all_eq_true,hw]
  omega
 ·have h:numV l n 5=4:=by omega
  have b5:=Zbq (l:=l) (n:=n4) (m:=6) (by omega)
  simp [mayA,numB,h]
  omega
end Go.Proofs.Ytnomiffghidmbaa.mkm
end
