/- Texts joined. -/
import Derived.Test.YtgdegpifjljnoaaMyt
import Derived.Test.YtgdegpifjljnoaaFroA
import Derived.Test.YtgdegpifjljnoaaEng31
section
/- Picks: an ask, told. -/
namespace Go.Proofs.Ytgdegpifjljnoaa.mka2
open Go Go.RowKit eng SX Fact fil fileFronts ima msm pck
open mws (aP Zpv)
set_option linter.unusedVariables false
set_option linter.unusedSimpArgs false
set_option maxRecDepth 1000000
def EAk (k:Nat):PtrE:={ k:=k,elem:=54,cells:=2,ins:=[],outs:=[some 8],kinds:=[.num,.num,.num,.num,.num,.num,.num,.own 59 2 true,.row,.num] }
def tabO (f:FuncId):Option PtrE:=cond (Nat.beq f 14) (some (ENum 20)) (cond (Nat.beq f 15) (some (EWo 23)) (cond (Nat.beq f 16) (some (EWr1 21)) none))
def isApp (o:Op):Bool:=match o with | .call c=>(match c.callee with | .builtin .append=>true | _=>false) | _=>false
def hAk (_:FuncId) (o:Oper):Option Hint:=cond (isApp o.op) (some .own) none
noncomputable def flK:=flat (Zdy Try.prog 9)
def aknil:BoxT:=⟨26,0,false,[.leaf,.leaf,.leaf,.leaf,.leaf,.leaf,.leaf,.nil],none,false⟩
def akown:BoxT:=⟨26,0,false,[.leaf,.leaf,.leaf,.leaf,.leaf,.leaf,.leaf,.own 2 9 2],none,false⟩
def shK:Shape:=⟨[(0,.ptr 0 0 0 0)],[pbox],[some true,none],52,9⟩
def shKn:Shape:=⟨[(2,.ptr 1 0 0 0)],[pbox,aknil],[some true,none,none,none,none,none,none,none,none],52,9⟩
def shKo:Shape:=⟨[(2,.ptr 1 0 0 0)],[pbox,akown,wbox 9],[some true,none,none,none,none,none,none,none,none],52,9⟩
def z1:List SX:=[.con (.int .i64 3),.fn 20 [.con (.int .i64 5),.var 0,.var 1] 1,.fn 20 [.con (.int .i64 5),.var 0,.var 1] 2]
def z2:List SX:=[.con (.int .i64 3),.fn 20 z1 1,.fn 20 z1 2]
def z3:List SX:=[.con (.int .i64 20),.fn 20 z2 1,.fn 20 z2 2]
def z4:List SX:=[.con (.int .i64 4),.fn 20 z3 1,.fn 20 z3 2]
def z5:List SX:=[.con (.int .i64 2),.fn 20 z3 1,.fn 20 z3 2]
def z6:List SX:=[.con (.int .i64 6),.fn 20 z5 1,.fn 20 z5 2]
def z7:List SX:=[.fn 23 z4 1,.fn 23 z4 2]
def z8:List SX:=[.con (.int .i64 6),.fn 21 z7 2,.fn 21 z7 3]
def z9:List SX:=[.con (.int .i64 5),.fn 20 z3 1,.fn 20 z3 2]
def z10:List SX:=[.con (.int .i64 6),.fn 23 z9 1,.fn 23 z9 2]
def z11:List SX:=[.con (.int .i64 6),.fn 20 z3 1,.fn 20 z3 2]
@[simp] def Zb3:SX:=.bin .add (.con (.int .i64 1)) (.fn 20 [.con (.int .i64 5),.var 0,.var 1] 0)
@[simp] def Zca:SX:=.con (.int .i64 1)
@[simp] def Zm4:List SX:=[.con (.int .i64 5),.var 0,.var 1]
@[simp] def Zdj:SX:=.bin .add Zca (.fn 20 z1 0)
@[simp] def Zdi:SX:=.bin .add Zca (.fn 20 z3 0)
@[simp] def Zc2:SX:=.con (.string { data:={ toList:=[] } })
@[simp] def Zb2:SX:=.bin .eql Zb3 Zca
@[simp] def Ze0:SX:=.bin .eql Zb3 (.con (.int .i64 2))
@[simp] def Zau:SX:=.con (.int .i64 0)
@[simp] def Zcx:SX:=.bin .eql Zb3 (.con (.int .i64 3))
@[simp] def Zfk:SX:=.lit 1 [.fn 21 z7 0,.fn 21 z7 1]
@[simp] def Za6:Fact:=.ok (.fn 20 z2 0)
@[simp] def Zfj:SX:=.bin .eql Zb3 (.con (.int .i64 4))
@[simp] def Zcw:Fact:=.fp 14 (ENum 20) Zm4
@[simp] def Zcv:Fact:=.ok (.fn 20 Zm4 0)
@[simp] def Zcu:Fact:=.ok (.fn 20 Zm4 2)
@[simp] def Zfi:SX:=.bin .add Zca (.fn 20 z10 0)
@[simp] def zMka2_18:SX:=.con (.string { data:={ toList:=[UInt8.ofNat 110,UInt8.ofNat 111,UInt8.ofNat 116,UInt8.ofNat 101,UInt8.ofNat 115] } })
@[simp] def Zfh:SX:=.bin .add Zca (.fn 20 z8 0)
@[simp] def Zct:Fact:=.fp 14 (ENum 20) z1
@[simp] def Zcs:Fact:=.fp 14 (ENum 20) z2
@[simp] def Zcr:Fact:=.fp 14 (ENum 20) z3
@[simp] def Zfg:Fact:=.is Zb2 (.bool false)
@[simp] def Zcq:Fact:=.ok (.fn 20 z1 0)
@[simp] def Zcp:Fact:=.ok (.fn 20 z1 2)
@[simp] def Zco:Fact:=.ok (.fn 20 z2 2)
@[simp] def Zcn:Fact:=.ok (.fn 20 z3 0)
@[simp] def Zcm:Fact:=.ok (.fn 20 z3 2)
@[simp] def Zie:SX:=rop ROp.cat [.fn 23 z4 0,Zfk]
@[simp] def Zgu:Fact:=.is Ze0 (.bool false)
@[simp] def Zdv:Fact:=.ok (.fn 20 z4 2)
@[simp] def Za5:Fact:=.ok Zb3
@[simp] def Za4:Fact:=.ok Zdj
@[simp] def Za3:Fact:=.ok Zdi
theorem k10:segTo Try.prog (orcP tabO) 10000 flK shK [1,0] shKn [(0,0),(2,0)] hAk=some (.ret,[Zcw,Zcv,Zcu,Za5,Zct,Zcq,Zcp,Za4,Zcs,Za6,Zco,Zcr,Zcn,Zcm,Za3,.ok Zb2,.is Zb2 (.bool true),.fp 14 (ENum 20) z4,.ok (.fn 20 z4 0),Zdv,Fact.at (.fn 20 z4 0) 0,Zdv,Za5,Za4,Za6,Za3,.ok (.con (.string { data:={ toList:=[UInt8.ofNat 97] } })),.ok Zau,.ok Zau],[.fn 20 z4 1,.fn 20 z4 2,Zb3,Zdj,.fn 20 z2 0,Zdi,.con (.string { data:={ toList:=[UInt8.ofNat 97] } }),Zau,Zau]):=by kernel_rfl
theorem k11:segTo Try.prog (orcP tabO) 10000 flK shK [1,1] shKn [(0,0),(2,0)] hAk=some (.ret,[Zcw,Zcv,Zcu,Za5,Zct,Zcq,Zcp,Za4,Zcs,Za6,Zco,Zcr,Zcn,Zcm,Za3,.ok Zb2,.is Zb2 (.bool true),.fp 14 (ENum 20) z4,.ok (.fn 20 z4 0),Zdv,Fact.at (.fn 20 z4 0) 1,Zdv,Za5,Za4,Za6,Za3,.ok (.con (.string { data:={ toList:=[UInt8.ofNat 98] } })),.ok Zau,.ok Zau],[.fn 20 z4 1,.fn 20 z4 2,Zb3,Zdj,.fn 20 z2 0,Zdi,.con (.string { data:={ toList:=[UInt8.ofNat 98] } }),Zau,Zau]):=by kernel_rfl
theorem k12:segTo Try.prog (orcP tabO) 10000 flK shK [1,2] shKn [(0,0),(2,0)] hAk=some (.ret,[Zcw,Zcv,Zcu,Za5,Zct,Zcq,Zcp,Za4,Zcs,Za6,Zco,Zcr,Zcn,Zcm,Za3,.ok Zb2,.is Zb2 (.bool true),.fp 14 (ENum 20) z4,.ok (.fn 20 z4 0),Zdv,Fact.at (.fn 20 z4 0) 2,Zdv,Za5,Za4,Za6,Za3,.ok zMka2_18,.ok Zau,.ok Zau],[.fn 20 z4 1,.fn 20 z4 2,Zb3,Zdj,.fn 20 z2 0,Zdi,zMka2_18,Zau,Zau]):=by kernel_rfl
theorem k13:segTo Try.prog (orcP tabO) 10000 flK shK [1,3] shKn [(0,0),(2,0)] hAk=some (.ret,[Zcw,Zcv,Zcu,Za5,Zct,Zcq,Zcp,Za4,Zcs,Za6,Zco,Zcr,Zcn,Zcm,Za3,.ok Zb2,.is Zb2 (.bool true),.fp 14 (ENum 20) z4,.ok (.fn 20 z4 0),Zdv,Fact.at (.fn 20 z4 0) 3,Zdv,Za5,Za4,Za6,Za3,.ok (.con (.string { data:={ toList:=[UInt8.ofNat 99] } })),.ok Zau,.ok Zau],[.fn 20 z4 1,.fn 20 z4 2,Zb3,Zdj,.fn 20 z2 0,Zdi,.con (.string { data:={ toList:=[UInt8.ofNat 99] } }),Zau,Zau]):=by kernel_rfl
theorem k2:segTo Try.prog (orcP tabO) 10000 flK shK [0,1] shKn [(0,0),(2,0)] hAk=some (.ret,[Zcw,Zcv,Zcu,Za5,Zct,Zcq,Zcp,Za4,Zcs,Za6,Zco,Zcr,Zcn,Zcm,Za3,.ok Zb2,Zfg,.ok Ze0,.is Ze0 (.bool true),.fp 14 (ENum 20) z5,.ok (.fn 20 z5 0),.ok (.fn 20 z5 2),.ok (.bin .add Zca (.fn 20 z5 0)),.fp 14 (ENum 20) z6,.ok (.fn 20 z6 0),.ok (.fn 20 z6 2),.ok (.bin .add Zca (.fn 20 z6 0)),.ok (.fn 20 z6 2),Za5,Za4,Za6,Za3,.ok Zc2,.ok (.bin .add Zca (.fn 20 z6 0)),.ok (.bin .add Zca (.fn 20 z5 0))],[.fn 20 z6 1,.fn 20 z6 2,Zb3,Zdj,.fn 20 z2 0,Zdi,Zc2,.bin .add Zca (.fn 20 z6 0),.bin .add Zca (.fn 20 z5 0)]):=by kernel_rfl
theorem k30:segTo Try.prog (orcP tabO) 10000 flK shK [0,0,1,0] shKo [(0,0),(2,0),(11,0)] hAk=some (.ret,[Zcw,Zcv,Zcu,Za5,Zct,Zcq,Zcp,Za4,Zcs,Za6,Zco,Zcr,Zcn,Zcm,Za3,.ok Zb2,Zfg,.ok Ze0,Zgu,.ok Zcx,.is Zcx (.bool true),.fp 15 (EWo 23) z4,.is (.len (.fn 23 z4 0)) (.int .i64 0),.ok (.fn 23 z4 2),.fp 16 (EWr1 21) z7,.ok (.fn 21 z7 0),.ok (.fn 21 z7 1),.ok (.fn 21 z7 3),rng Zau (.len Zfk),upto (.len Zfk) 4294967296,.fp 14 (ENum 20) z8,.ok (.fn 20 z8 0),.ok (.fn 20 z8 2),.ok Zfh,.ok (.fn 20 z8 2),Za5,Za4,Za6,Za3,.ok Zc2,.ok Zfh,.ok Zau,same (.len Zfk) (.len Zfk)],[.fn 20 z8 1,.fn 20 z8 2,Zb3,Zdj,.fn 20 z2 0,Zdi,Zc2,Zfh,Zau,Zfk]):=by kernel_rfl
theorem k31:segTo Try.prog (orcP tabO) 10000 flK shK [0,0,1,1] shKo [(0,0),(2,0),(9,1)] hAk=some (.ret,[Zcw,Zcv,Zcu,Za5,Zct,Zcq,Zcp,Za4,Zcs,Za6,Zco,Zcr,Zcn,Zcm,Za3,.ok Zb2,Zfg,.ok Ze0,Zgu,.ok Zcx,.is Zcx (.bool true),.fp 15 (EWo 23) z4,rng Zau (.len (.fn 23 z4 0)),.ok (.fn 23 z4 2),.fp 16 (EWr1 21) z7,.ok (.fn 21 z7 0),.ok (.fn 21 z7 1),.ok (.fn 21 z7 3),same (.len (.fn 23 z4 0)) (.len (.fn 23 z4 0)),upto (.len Zie) 4294967296,.fp 14 (ENum 20) z8,.ok (.fn 20 z8 0),.ok (.fn 20 z8 2),.ok Zfh,.ok (.fn 20 z8 2),Za5,Za4,Za6,Za3,.ok Zc2,.ok Zfh,.ok Zau,same (.len Zie) (.len Zie)],[.fn 20 z8 1,.fn 20 z8 2,Zb3,Zdj,.fn 20 z2 0,Zdi,Zc2,Zfh,Zau,Zie]):=by kernel_rfl
theorem k40:segTo Try.prog (orcP tabO) 10000 flK shK [0,0,0,1,0] shKn [(0,0),(2,0)] hAk=some (.ret,[Zcw,Zcv,Zcu,Za5,Zct,Zcq,Zcp,Za4,Zcs,Za6,Zco,Zcr,Zcn,Zcm,Za3,.ok Zb2,Zfg,.ok Ze0,Zgu,.ok Zcx,.is Zcx (.bool false),.ok Zfj,.is Zfj (.bool true),.fp 15 (EWo 23) z9,.is (.len (.fn 23 z9 0)) (.int .i64 0),.ok (.fn 23 z9 2),.fp 14 (ENum 20) z10,.ok (.fn 20 z10 0),.ok (.fn 20 z10 2),.ok Zfi,.ok (.fn 20 z10 2),Za5,Za4,Za6,Za3,.ok Zc2,.ok Zfi,.ok Zau],[.fn 20 z10 1,.fn 20 z10 2,Zb3,Zdj,.fn 20 z2 0,Zdi,Zc2,Zfi,Zau]):=by kernel_rfl
theorem k41:segTo Try.prog (orcP tabO) 10000 flK shK [0,0,0,1,1] shKo [(0,0),(2,0),(9,0)] hAk=some (.ret,[Zcw,Zcv,Zcu,Za5,Zct,Zcq,Zcp,Za4,Zcs,Za6,Zco,Zcr,Zcn,Zcm,Za3,.ok Zb2,Zfg,.ok Ze0,Zgu,.ok Zcx,.is Zcx (.bool false),.ok Zfj,.is Zfj (.bool true),.fp 15 (EWo 23) z9,rng Zau (.len (.fn 23 z9 0)),.ok (.fn 23 z9 2),.fp 14 (ENum 20) z10,.ok (.fn 20 z10 0),.ok (.fn 20 z10 2),.ok Zfi,.ok (.fn 20 z10 2),Za5,Za4,Za6,Za3,.ok Zc2,.ok Zfi,.ok Zau,same (.len (.fn 23 z9 0)) (.len (.fn 23 z9 0))],[.fn 20 z10 1,.fn 20 z10 2,Zb3,Zdj,.fn 20 z2 0,Zdi,Zc2,Zfi,Zau,.fn 23 z9 0]):=by kernel_rfl
theorem k5:segTo Try.prog (orcP tabO) 10000 flK shK [0,0,0,0] shKn [(0,0),(2,0)] hAk=some (.ret,[Zcw,Zcv,Zcu,Za5,Zct,Zcq,Zcp,Za4,Zcs,Za6,Zco,Zcr,Zcn,Zcm,Za3,.ok Zb2,Zfg,.ok Ze0,Zgu,.ok Zcx,.is Zcx (.bool false),.ok Zfj,.is Zfj (.bool false),.fp 14 (ENum 20) z11,.ok (.fn 20 z11 0),.ok (.fn 20 z11 2),.ok (.bin .add Zca (.fn 20 z11 0)),.ok (.fn 20 z11 2),Za5,Za4,Za6,Za3,.ok Zc2,.ok (.bin .add Zca (.fn 20 z11 0)),.ok Zau],[.fn 20 z11 1,.fn 20 z11 2,Zb3,Zdj,.fn 20 z2 0,Zdi,Zc2,.bin .add Zca (.fn 20 z11 0),Zau]):=by kernel_rfl
@[simp] theorem kAk (k:Nat):(EAk k).k=k:=rfl
@[simp] theorem kWo' (k:Nat):(EWo k).k=k:=rfl
@[simp] theorem kWr1' (k:Nat):(EWr1 k).k=k:=rfl
def nmA:Nat->ByteArray
 | 0=>⟨⟨[97]⟩⟩
 | 1=>⟨⟨[98]⟩⟩
 | 2=>⟨⟨[110,111,116,101,115]⟩⟩
 | _=>⟨⟨[99]⟩⟩
def mkA (l:List Nat) (n:Nat):AskM × Nat :=
 let n1:=numN l n;let n2:=numN l n1;let n3:=numN l n2;let n4:=numN l n3
 let k:Int:=1+(numV l n 5:Int);let f:Int:=1+(numV l n1 3:Int);let e:Int:=numV l n2 3;let s:Int:=1+(numV l n3 20:Int)
 if numV l n 5=0 then (⟨k,f,e,s,nmA (numV l n4 4),0,0,[]⟩,numN l n4)
 else if numV l n 5=1 then (⟨k,f,e,s,e0,1+(numV l (numN l n4) 6:Int),1+(numV l n4 2:Int),[]⟩,numN l (numN l n4))
 else if numV l n 5=2 then
  let W:=writes l n4 4;let x:=wr1 l W.2
  (⟨k,f,e,s,e0,1+(numV l x.2 6:Int),0,W.1++[x.1]⟩,numN l x.2)
 else if numV l n 5=3 then
  let W:=writes l n4 5
  (⟨k,f,e,s,e0,1+(numV l W.2 6:Int),0,W.1⟩,numN l W.2)
 else (⟨k,f,e,s,e0,1+(numV l n4 6:Int),0,[]⟩,numN l n4)
theorem writes_ok {l:List Nat} {n most:Nat} (ok:OkP l n):OkP l (writes l n most).2:=by
 have:∀ c n,OkP l n->OkP l (wseq l c n).2:=fun c=>by
  induction c with
  | zero=>intro n h;exact h
  | succ c ih=>intro n h;exact ih _ (okW h)
 exact this _ _ (pck.okN ok)
theorem writes_le (l:List Nat) (n most:Nat):(writes l n most).1.length<=most:=by
 unfold writes
 rw [wseq_len]
 have:=numV_lt (l:=l) (n:=n) (m:=most+1) (by omega)
 omega
noncomputable def FG:Fns:=fun k=>match k with | 20=>spec RNum | 21=>spec RWr1 | 23=>spec RWs | _=>fun _=>none
theorem fg20:ToldP 14 (ENum 20) (FG 20):=toldNum 20
theorem fg21:ToldP 16 (EWr1 21) (FG 21):=toldWr1 21
theorem fg23:ToldP 15 (EWo 23) (FG 23):=toldWo 23
theorem FGs {l:List Nat} {n:Nat} (ok:OkP l n) (m:Nat) (z:Int) (hz:z=m) (h1:1<=m) (h2:m<=1000):∃ x n',numV l n m=x/\numN l n=n'/\x < m/\OkP l n'/\IntKind.i64.wrap (1+(x:Int))=1+(x:Int)/\FG 20 [pI z,pRow encU l,pI (n:Int)]=some [pI (x:Int),pRow encU l,pI (n':Int)]:=by
 subst hz
 have:=numV_lt (l:=l) (n:=n) (m:=m) (by omega)
 exact ⟨_,_,rfl,rfl,this,okN ok,wrapI _ (by omega) (by omega),Zbv fNum ⟨m,n,l,h1,h2,ok.n,ok.len,ok.u8,rfl,rfl⟩⟩
theorem FGw {l:List Nat} {n:Nat} (ok:OkP l n) (m:Nat) (z:Int) (hz:z=m) (h2:m<=100):∃ ws n',writes l n m=(ws,n')/\ws.length<=m/\OkP l n'/\FG 23 [pI z,pRow encU l,pI (n:Int)]=some [pRow encW ws,pRow encU l,pI (n':Int)]:=by
 subst hz
 exact ⟨_,_,rfl,writes_le l n m,writes_ok ok,Zbv fWs ⟨m,n,l,h2,ok,rfl,rfl⟩⟩
theorem FG1 {l:List Nat} {n:Nat} (ok:OkP l n):∃ o s n',wr1 l n=((o,s),n')/\OkP l n'/\FG 21 [pRow encU l,pI (n:Int)]=some [pI o,pS s,pRow encU l,pI (n':Int)] :=
 ⟨_,_,_,rfl,okW ok,Zbv fWr1 ⟨n,l,ok,rfl,rfl⟩⟩
theorem lit1 (o:Int) (s:ByteArray):PV.row 1 [pI o,pS s]=pRow encW [(o,s)]:=rfl
theorem cat2 (a b:List (Int × ByteArray)):ropPV .cat [pRow encW a,pRow encW b]=some (pRow encW (a++b)):=by simp [ropPV,pRow,Enc.all]
theorem lenW (a:List (Int × ByteArray)):lenPV (pRow encW a)=some (pI (a.length:Int)):=Zaf ..
def RAk (ps qs:List PV):Prop:=∃ (n:Nat) (l:List Nat),OkP l n/\ps=[pRow encU l,pI (n:Int)]/\qs=aP (mkA l n).1++[pRow encU l,pI ((mkA l n).2:Int)]
theorem fAk:∀ ps q1 q2,RAk ps q1->RAk ps q2->q1=q2:=by
 rintro ps q1 q2 ⟨n,l,_,rfl,rfl⟩ ⟨n',l',_,h,rfl⟩
 simp only [List.cons.injEq,PV.v.injEq,Value.int.injEq,true_and,and_true,Int.ofNat_inj] at h
 obtain ⟨h,rfl⟩:=h
 rw [fil.pRow_inj Zg9 h]
set_option maxHeartbeats 2000000 in
theorem toldAk (k:Nat):ToldP 9 (EAk k) (spec RAk):=by
 refine told_ptrO FG _ (Zdy Try.prog 9) Try.func9 (by kernel_rfl) shK (by kernel_rfl) ?_ ?_
 ·intro ps qs h
  obtain ⟨n,l,_,rfl,rfl⟩:=Zbk h
  exact Zg1 rfl
 ·intro C ps qs hF h a w hsh
  obtain ⟨n,l,ok,rfl,rfl⟩:=Zbk h
  clear h
  show wpL Try.prog flK _ a w
  rw [<- List.append_nil flK]
  obtain ⟨x0,n1,e0',f0,b0,o1,v0,c0⟩:=FGs ok 5 5 rfl (by omega) (by omega)
  obtain ⟨x1,n2,e1,f1,b1,o2,v1,c1⟩:=FGs o1 3 3 rfl (by omega) (by omega)
  obtain ⟨x2,n3,e2,f2,b2,o3,v2,c2⟩:=FGs o2 3 3 rfl (by omega) (by omega)
  obtain ⟨x3,n4,e3,f3,b3,o4,v3,c3⟩:=FGs o3 20 20 rfl (by omega) (by omega)
  have w2:IntKind.i64.wrap 2=2:=rfl
  have w3:IntKind.i64.wrap 3=3:=rfl
  have w4:IntKind.i64.wrap 4=4:=rfl
  have w5:IntKind.i64.wrap 5=5:=rfl
  have w1:IntKind.i64.wrap 1=1:=rfl
  by_cases k0:x0=0
  ·subst k0
   obtain ⟨x4,n5,e4,f4,b4,o5,v4,c4⟩:=FGs o4 4 4 rfl (by omega) (by omega)
   have hm:mkA l n=(⟨1,1+(x1:Int),x2,1+(x3:Int),nmA x4,0,0,[]⟩,n5):=by
    unfold mkA
    simp only [e0',f0,e1,f1,e2,f2,e3,f3,e4,f4]
    rfl
   rw [hm]
   clear hm e0' f0 e1 f1 e2 f2 e3 f3 e4 f4 o1 o2 o3 ok
   simp only [Int.natCast_zero] at c0
   have hx:x4=0 \/ x4=1 \/ x4=2 \/ x4=3:=by omega
   rcases hx with rfl | rfl | rfl | rfl
   ·refine Zan names_ok mixed_ok (Zc4 _) k10 hsh ?_ ?_
    ·simp [-Zac,Zab,Zaa,Base.ev,SX.ev,evs,Value.oneCell',hF,binPV,Zaj,z1,z2,z3,z4,z5,z6,z7,z8,z9,z10,z11,lit1,cat2,lenW,w1,w2,w3,w4,w5,v1,v3,c0,c1,c2,c3,c4,fg20,fg21,fg23]
     all_goals first | omega | skip
    ·intro qs a1 w1' hq h1'
     refine ⟨nofun,fun _=>⟨.inr rfl,shKn,qs,[SX.var 2,SX.var 3,SX.var 4,SX.var 5,SX.var 6,SX.var 7,SX.var 8,SX.lit 0 [],SX.var 0,SX.var 1],[],h1',by kernel_rfl,?_,fun i hi=>by simp at hi⟩⟩
     ·simp [evs,SX.ev,hF,binPV,Zaj,z1,z2,z3,z4,z5,z6,z7,z8,z9,z10,z11,lit1,cat2,lenW,w1,w2,w3,w4,w5,v1,v3,c0,c1,c2,c3,c4] at hq ⊢
      subst hq
      rfl
   ·refine Zan names_ok mixed_ok (Zc4 _) k11 hsh ?_ ?_
    ·simp [-Zac,Zab,Zaa,Base.ev,SX.ev,evs,Value.oneCell',hF,binPV,Zaj,z1,z2,z3,z4,z5,z6,z7,z8,z9,z10,z11,lit1,cat2,lenW,w1,w2,w3,w4,w5,v1,v3,c0,c1,c2,c3,c4,fg20,fg21,fg23]
     all_goals first | omega | skip
    ·intro qs a1 w1' hq h1'
     refine ⟨nofun,fun _=>⟨.inr rfl,shKn,qs,[SX.var 2,SX.var 3,SX.var 4,SX.var 5,SX.var 6,SX.var 7,SX.var 8,SX.lit 0 [],SX.var 0,SX.var 1],[],h1',by kernel_rfl,?_,fun i hi=>by simp at hi⟩⟩
     ·simp [evs,SX.ev,hF,binPV,Zaj,z1,z2,z3,z4,z5,z6,z7,z8,z9,z10,z11,lit1,cat2,lenW,w1,w2,w3,w4,w5,v1,v3,c0,c1,c2,c3,c4] at hq ⊢
      subst hq
      rfl
   ·refine Zan names_ok mixed_ok (Zc4 _) k12 hsh ?_ ?_
    ·simp [-Zac,Zab,Zaa,Base.ev,SX.ev,evs,Value.oneCell',hF,binPV,Zaj,z1,z2,z3,z4,z5,z6,z7,z8,z9,z10,z11,lit1,cat2,lenW,w1,w2,w3,w4,w5,v1,v3,c0,c1,c2,c3,c4,fg20,fg21,fg23]
     all_goals first | omega | skip
    ·intro qs a1 w1' hq h1'
     refine ⟨nofun,fun _=>⟨.inr rfl,shKn,qs,[SX.var 2,SX.var 3,SX.var 4,SX.var 5,SX.var 6,SX.var 7,SX.var 8,SX.lit 0 [],SX.var 0,SX.var 1],[],h1',by kernel_rfl,?_,fun i hi=>by simp at hi⟩⟩
     ·simp [evs,SX.ev,hF,binPV,Zaj,z1,z2,z3,z4,z5,z6,z7,z8,z9,z10,z11,lit1,cat2,lenW,w1,w2,w3,w4,w5,v1,v3,c0,c1,c2,c3,c4] at hq ⊢
      subst hq
      rfl
   ·refine Zan names_ok mixed_ok (Zc4 _) k13 hsh ?_ ?_
    ·simp [-Zac,Zab,Zaa,Base.ev,SX.ev,evs,Value.oneCell',hF,binPV,Zaj,z1,z2,z3,z4,z5,z6,z7,z8,z9,z10,z11,lit1,cat2,lenW,w1,w2,w3,w4,w5,v1,v3,c0,c1,c2,c3,c4,fg20,fg21,fg23]
     all_goals first | omega | skip
    ·intro qs a1 w1' hq h1'
     refine ⟨nofun,fun _=>⟨.inr rfl,shKn,qs,[SX.var 2,SX.var 3,SX.var 4,SX.var 5,SX.var 6,SX.var 7,SX.var 8,SX.lit 0 [],SX.var 0,SX.var 1],[],h1',by kernel_rfl,?_,fun i hi=>by simp at hi⟩⟩
     ·simp [evs,SX.ev,hF,binPV,Zaj,z1,z2,z3,z4,z5,z6,z7,z8,z9,z10,z11,lit1,cat2,lenW,w1,w2,w3,w4,w5,v1,v3,c0,c1,c2,c3,c4] at hq ⊢
      subst hq
      rfl
  by_cases k1:x0=1
  ·subst k1
   obtain ⟨x4,n5,e4,f4,b4,o5,v4,c4⟩:=FGs o4 2 2 rfl (by omega) (by omega)
   obtain ⟨x5,n6,e5,f5,b5,o6,v5,c5⟩:=FGs o5 6 6 rfl (by omega) (by omega)
   have hm:mkA l n=(⟨2,1+(x1:Int),x2,1+(x3:Int),e0,1+(x5:Int),1+(x4:Int),[]⟩,n6):=by
    unfold mkA
    simp only [e0',f0,e1,f1,e2,f2,e3,f3,e4,f4,e5,f5]
    rfl
   rw [hm]
   clear hm e0' f0 e1 f1 e2 f2 e3 f3 e4 f4 e5 f5 o1 o2 o3 ok
   simp only [Int.natCast_one] at c0
   refine Zan names_ok mixed_ok (Zc4 _) k2 hsh ?_ ?_
   ·simp [-Zac,Zab,Zaa,Base.ev,SX.ev,evs,Value.oneCell',hF,binPV,Zaj,z1,z2,z3,z4,z5,z6,z7,z8,z9,z10,z11,lit1,cat2,lenW,w1,w2,w3,w4,w5,v1,v3,c0,c1,c2,c3,c4,c5,v4,v5,fg20,fg21,fg23]
    all_goals first | omega | skip
   ·intro qs a1 w1' hq h1'
    refine ⟨nofun,fun _=>⟨.inr rfl,shKn,qs,[SX.var 2,SX.var 3,SX.var 4,SX.var 5,SX.var 6,SX.var 7,SX.var 8,SX.lit 0 [],SX.var 0,SX.var 1],[],h1',by kernel_rfl,?_,fun i hi=>by simp at hi⟩⟩
    ·simp [evs,SX.ev,hF,binPV,Zaj,z1,z2,z3,z4,z5,z6,z7,z8,z9,z10,z11,lit1,cat2,lenW,w1,w2,w3,w4,w5,v1,v3,c0,c1,c2,c3,c4,c5,v4,v5] at hq ⊢
     subst hq
     rfl
  by_cases k2':x0=2
  ·subst k2'
   obtain ⟨ws,n5,e4,lw,o5,c4⟩:=FGw o4 4 4 rfl (by omega)
   obtain ⟨wo,wb,n6,e5,o6,c5⟩:=FG1 o5
   obtain ⟨x6,n7,e6,f6,b6,o7,v6,c6⟩:=FGs o6 6 6 rfl (by omega) (by omega)
   have hm:mkA l n=(⟨3,1+(x1:Int),x2,1+(x3:Int),e0,1+(x6:Int),0,ws++[(wo,wb)]⟩,n7):=by
    unfold mkA
    simp only [e0',f0,e1,f1,e2,f2,e3,f3,e4,e5,e6,f6]
    rfl
   rw [hm]
   clear hm e0' f0 e1 f1 e2 f2 e3 f3 e4 e5 e6 f6 o1 o2 o3 ok
   by_cases hw:ws=[]
   ·subst hw
    refine Zan names_ok mixed_ok (Zc4 _) k30 hsh ?_ ?_
    ·simp [-Zac,Zab,Zaa,Base.ev,SX.ev,evs,Value.oneCell',hF,binPV,Zaj,z1,z2,z3,z4,z5,z6,z7,z8,z9,z10,z11,lit1,cat2,lenW,w1,w2,w3,w4,w5,v1,v3,c0,c1,c2,c3,c4,c5,c6,v6,fg20,fg21,fg23]
     all_goals first | omega | skip
    ·intro qs a1 w1' hq h1'
     refine ⟨nofun,fun _=>⟨.inr rfl,shKo,qs,[SX.var 2,SX.var 3,SX.var 4,SX.var 5,SX.var 6,SX.var 7,SX.var 8,SX.var 9,SX.var 0,SX.var 1],[7],h1',by kernel_rfl,?_,?_⟩⟩
     ·simp [evs,SX.ev,hF,binPV,Zaj,z1,z2,z3,z4,z5,z6,z7,z8,z9,z10,z11,lit1,cat2,lenW,w1,w2,w3,w4,w5,v1,v3,c0,c1,c2,c3,c4,c5,c6,v6] at hq ⊢
      subst hq
      rfl
     ·intro i hi
      simp only [List.mem_singleton] at hi
      subst hi
      exact ⟨0,_,rfl⟩
   ·have hw1:0 < ws.length:=List.length_pos_iff.2 hw
    refine Zan names_ok mixed_ok (Zc4 _) k31 hsh ?_ ?_
    ·simp [-Zac,Zab,Zaa,Base.ev,SX.ev,evs,Value.oneCell',hF,binPV,Zaj,z1,z2,z3,z4,z5,z6,z7,z8,z9,z10,z11,lit1,cat2,lenW,w1,w2,w3,w4,w5,v1,v3,c0,c1,c2,c3,c4,c5,c6,v6,fg20,fg21,fg23]
     all_goals exact ⟨hw1,⟨ws.length+1,by omega,by omega⟩,⟨ws.length+1,by omega⟩⟩
    ·intro qs a1 w1' hq h1'
     refine ⟨nofun,fun _=>⟨.inr rfl,shKo,qs,[SX.var 2,SX.var 3,SX.var 4,SX.var 5,SX.var 6,SX.var 7,SX.var 8,SX.var 9,SX.var 0,SX.var 1],[7],h1',by kernel_rfl,?_,?_⟩⟩
     ·simp [evs,SX.ev,hF,binPV,Zaj,z1,z2,z3,z4,z5,z6,z7,z8,z9,z10,z11,lit1,cat2,lenW,w1,w2,w3,w4,w5,v1,v3,c0,c1,c2,c3,c4,c5,c6,v6] at hq ⊢
      subst hq
      rfl
     ·intro i hi
      simp only [List.mem_singleton] at hi
      subst hi
      exact ⟨ws.length,_,by simp [aP,pRow];rfl⟩
  by_cases k3':x0=3
  ·subst k3'
   obtain ⟨ws,n5,e4,lw,o5,c4⟩:=FGw o4 5 5 rfl (by omega)
   obtain ⟨x6,n7,e6,f6,b6,o7,v6,c6⟩:=FGs o5 6 6 rfl (by omega) (by omega)
   have hm:mkA l n=(⟨4,1+(x1:Int),x2,1+(x3:Int),e0,1+(x6:Int),0,ws⟩,n7):=by
    unfold mkA
    simp only [e0',f0,e1,f1,e2,f2,e3,f3,e4,e6,f6]
    rfl
   rw [hm]
   clear hm e0' f0 e1 f1 e2 f2 e3 f3 e4 e6 f6 o1 o2 o3 ok
   by_cases hw:ws=[]
   ·subst hw
    refine Zan names_ok mixed_ok (Zc4 _) k40 hsh ?_ ?_
    ·simp [-Zac,Zab,Zaa,Base.ev,SX.ev,evs,Value.oneCell',hF,binPV,Zaj,z1,z2,z3,z4,z5,z6,z7,z8,z9,z10,z11,lit1,cat2,lenW,w1,w2,w3,w4,w5,v1,v3,c0,c1,c2,c3,c4,c6,v6,fg20,fg21,fg23]
     all_goals first | omega | skip
    ·intro qs a1 w1' hq h1'
     refine ⟨nofun,fun _=>⟨.inr rfl,shKn,qs,[SX.var 2,SX.var 3,SX.var 4,SX.var 5,SX.var 6,SX.var 7,SX.var 8,SX.lit 0 [],SX.var 0,SX.var 1],[],h1',by kernel_rfl,?_,fun i hi=>by simp at hi⟩⟩
     ·simp [evs,SX.ev,hF,binPV,Zaj,z1,z2,z3,z4,z5,z6,z7,z8,z9,z10,z11,lit1,cat2,lenW,w1,w2,w3,w4,w5,v1,v3,c0,c1,c2,c3,c4,c6,v6] at hq ⊢
      subst hq
      rfl
   ·have hw1:0 < ws.length:=List.length_pos_iff.2 hw
    refine Zan names_ok mixed_ok (Zc4 _) k41 hsh ?_ ?_
    ·simp [-Zac,Zab,Zaa,Base.ev,SX.ev,evs,Value.oneCell',hF,binPV,Zaj,z1,z2,z3,z4,z5,z6,z7,z8,z9,z10,z11,lit1,cat2,lenW,w1,w2,w3,w4,w5,v1,v3,c0,c1,c2,c3,c4,c6,v6,fg20,fg21,fg23]
     all_goals first | omega | skip
    ·intro qs a1 w1' hq h1'
     refine ⟨nofun,fun _=>⟨.inr rfl,shKo,qs,[SX.var 2,SX.var 3,SX.var 4,SX.var 5,SX.var 6,SX.var 7,SX.var 8,SX.var 9,SX.var 0,SX.var 1],[7],h1',by kernel_rfl,?_,?_⟩⟩
     ·simp [evs,SX.ev,hF,binPV,Zaj,z1,z2,z3,z4,z5,z6,z7,z8,z9,z10,z11,lit1,cat2,lenW,w1,w2,w3,w4,w5,v1,v3,c0,c1,c2,c3,c4,c6,v6] at hq ⊢
      subst hq
      rfl
     ·intro i hi
      simp only [List.mem_singleton] at hi
      subst hi
      obtain ⟨x,xs,hx⟩:=List.exists_cons_of_ne_nil hw;rw [hx];exact ⟨xs.length,_,rfl⟩
  have k4':x0=4:=by omega
  subst k4'
  obtain ⟨x4,n5,e4,f4,b4,o5,v4,c4⟩:=FGs o4 6 6 rfl (by omega) (by omega)
  have hm:mkA l n=(⟨5,1+(x1:Int),x2,1+(x3:Int),e0,1+(x4:Int),0,[]⟩,n5):=by
   unfold mkA
   simp only [e0',f0,e1,f1,e2,f2,e3,f3,e4,f4]
   rfl
  rw [hm]
  clear hm e0' f0 e1 f1 e2 f2 e3 f3 e4 f4 o1 o2 o3 ok
  refine Zan names_ok mixed_ok (Zc4 _) k5 hsh ?_ ?_
  ·simp [-Zac,Zab,Zaa,Base.ev,SX.ev,evs,Value.oneCell',hF,binPV,Zaj,z1,z2,z3,z4,z5,z6,z7,z8,z9,z10,z11,lit1,cat2,lenW,w1,w2,w3,w4,w5,v1,v3,c0,c1,c2,c3,c4,v4,fg20,fg21,fg23]
   all_goals first | omega | skip
  ·intro qs a1 w1' hq h1'
   refine ⟨nofun,fun _=>⟨.inr rfl,shKn,qs,[SX.var 2,SX.var 3,SX.var 4,SX.var 5,SX.var 6,SX.var 7,SX.var 8,SX.lit 0 [],SX.var 0,SX.var 1],[],h1',by kernel_rfl,?_,fun i hi=>by simp at hi⟩⟩
   ·simp [evs,SX.ev,hF,binPV,Zaj,z1,z2,z3,z4,z5,z6,z7,z8,z9,z10,z11,lit1,cat2,lenW,w1,w2,w3,w4,w5,v1,v3,c0,c1,c2,c3,c4,v4] at hq ⊢
    subst hq
    rfl
end Go.Proofs.Ytgdegpifjljnoaa.mka2
end
section
/- An ask out of numbers, its writes as a row that is anybody's. -/
namespace Go.Proofs.Ytgdegpifjljnoaa.mkr
open Go Go.RowKit eng SX Fact fil ima msm
open pck (OkP encU)
open mws (aP)
open mka2 (EAk RAk fAk toldAk mkA)
set_option linter.unusedVariables false
set_option maxRecDepth 1000000
theorem told_rowQ {f:FuncId} {E E':PtrE} {R:List PV->Option (List PV)} (h:ToldP f E R) (h1:E'.ins=E.ins) (h2:E'.elem=E.elem) (h3:E'.outs=E.outs) (h4:E'.cells=E.cells) (h5:E'.kinds.all CK.plain=true):ToldP f E' R:=by
 obtain ⟨k,el,ce,i,o,ks⟩:=E
 obtain ⟨k',el',ce',i',o',ks'⟩:=E'
 simp only at h1 h2 h3 h4 h5
 subst h1 h2 h3 h4
 intro w FP b c fz us ps qs a1 a2 a3 a4 a5 a6 a7 a8
 refine (h w FP b c fz us ps qs a1 a2 a3 a4 a5 a6 a7 a8).mono ?_
 rintro e w' ⟨us',c',fz',ow,g1,g2,g3,g4,g5,how,g6,g7⟩
 exact ⟨us',c',fz',fun _=>none,g1,g2,g3,g4,g5,Zd8 h5,fun i q u hq hu w2 hw2=>g6 i q u hq hu w2 (fun k hk _=>hw2 k hk (fun _ _=>by simp)),g7⟩
def EAkS (k:Nat):PtrE:={ k:=k,elem:=54,cells:=2,ins:=[],outs:=[some 8],kinds:=[.num,.num,.num,.num,.num,.num,.num,.row,.row,.num] }
theorem toldAkS (k:Nat):ToldP 9 (EAkS k) (spec RAk):=told_rowQ (toldAk k) rfl rfl rfl rfl rfl
end Go.Proofs.Ytgdegpifjljnoaa.mkr
end
