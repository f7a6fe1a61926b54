/- Texts joined. -/
import Derived.Test.YtpnegheknjeljaaGreatMrg4
import Derived.Test.YtpnegheknjeljaaGreatFrame
section
/- Texts joined. -/
section
/- What is Zgg into a file: file.All. -/
namespace Go.Proofs.YtpnegheknjeljaaGreat.fil
open Go Go.RowKit eng SX Fact
set_option linter.unusedVariables false
set_option linter.unusedSimpArgs false
set_option maxRecDepth 1000000

def encW:Enc (Int × ByteArray):={ sz:=2,enc:=fun p=>[.int .i64 p.1,.string p.2],len:=fun _=>rfl,one:=fun _ u hu=>by simp at hu;rcases hu with rfl | rfl <;> rfl,pos:=by decide }
def mayW (w:Int × ByteArray):Bool:=decide (1<=w.2.size) && decide (0<=w.1) && decide (w.1<=24 - (w.2.size:Int))
def grown (l:List UInt8) (n:Nat):List UInt8:=l++List.replicate (n - l.length) 0
def over (m x:List UInt8) (o:Nat):List UInt8:=m.take o++x++m.drop (o+x.length)
def putW (l:List UInt8) (w:Int × ByteArray):List UInt8:=cond (mayW w) (over (grown l (w.1.toNat+w.2.size)) w.2.data.toList w.1.toNat) l
def allW (l:List UInt8) (ws:List (Int × ByteArray)):List UInt8:=ws.foldl putW l
def RAll (ps qs:List PV):Prop:=∃ (b:ByteArray) (ws:List (Int × ByteArray)),b.size<=1000/\ws.length<=1000/\(∀ w ∈ ws,-9223372036854775808<=w.1/\w.1<=9223372036854775807/\w.2.size<=1000000)/\ps=[pS b,pRow encW ws]/\qs=[pS ⟨(allW b.data.toList ws).toArray⟩]
def EAll (k:Nat):FnE:={ k:=k,ins:=[none,none],leaks:=[false,false],outs:=[none],kinds:=[.num] }
end Go.Proofs.YtpnegheknjeljaaGreat.fil
end
section
/- Picks: numbers out of which choices are made; Zm8. -/
namespace Go.Proofs.YtpnegheknjeljaaGreat.pck
open Go Go.RowKit eng SX Fact fil
set_option linter.unusedVariables false
set_option linter.unusedSimpArgs false
set_option maxRecDepth 1000000

def encU:Enc Nat:={ sz:=1,enc:=fun z=>[.int .u8 (z:Int)],len:=fun _=>rfl,one:=fun _ u hu=>by simp at hu;subst hu;rfl,pos:=by decide }
def pbox:BoxT:=⟨60,0,false,[.leaf,.leaf],none,true⟩
def ENum (k:Nat):PtrE:={ k:=k,elem:=60,cells:=2,ins:=[none],outs:=[none],kinds:=[.num,.row,.num] }
noncomputable def flW:=flat (Zat Tryz.prog 60)
def shW:Shape:=⟨[(0,.ptr 0 0 0 0)],[pbox],[some true,none],11,60⟩
def shWR:Shape:=⟨[(2,.ptr 1 0 0 0)],[pbox,⟨96,0,false,[.leaf,.leaf],none,false⟩],[some true,none,none,none],11,60⟩
def EWs (k:Nat):PtrE:={ k:=k,elem:=60,cells:=2,ins:=[none],outs:=[none],kinds:=[.row,.row,.num] }
def EWr1 (k:Nat):PtrE:={ k:=k,elem:=60,cells:=2,ins:=[],outs:=[some 2],kinds:=[.num,.num,.row,.num] }
def tabW (f:FuncId):Option PtrE:=cond (Nat.beq f 25) (some (ENum 20)) (cond (Nat.beq f 60) (some (EWr1 21)) none)
def isApp:Op->Bool | .call { callee:=.builtin .append,.. }=>true | _=>false
def hApp (_:FuncId) (o:Oper):Option Hint:=cond (isApp o.op) (some .own) none
theorem w1:segTo Tryz.prog (orcP tabW) 10000 flW shW [1] shWR [(0,0),(2,0)]=some (.ret,[.fp 25 (ENum 20) [.con (.int .i64 10),.var 0,.var 1],.ok (.fn 20 [.con (.int .i64 10),.var 0,.var 1] 0),.ok (.fn 20 [.con (.int .i64 10),.var 0,.var 1] 2),.fp 25 (ENum 20) [.con (.int .i64 6),.fn 20 [.con (.int .i64 10),.var 0,.var 1] 1,.fn 20 [.con (.int .i64 10),.var 0,.var 1] 2],.ok (.fn 20 [.con (.int .i64 6),.fn 20 [.con (.int .i64 10),.var 0,.var 1] 1,.fn 20 [.con (.int .i64 10),.var 0,.var 1] 2] 0),.ok (.fn 20 [.con (.int .i64 6),.fn 20 [.con (.int .i64 10),.var 0,.var 1] 1,.fn 20 [.con (.int .i64 10),.var 0,.var 1] 2] 2),Fact.at (.fn 20 [.con (.int .i64 6),.fn 20 [.con (.int .i64 10),.var 0,.var 1] 1,.fn 20 [.con (.int .i64 10),.var 0,.var 1] 2] 0) 1,.ok (.fn 20 [.con (.int .i64 6),.fn 20 [.con (.int .i64 10),.var 0,.var 1] 1,.fn 20 [.con (.int .i64 10),.var 0,.var 1] 2] 2),.ok (.fn 20 [.con (.int .i64 10),.var 0,.var 1] 0),.ok (.con (.string { data:={ toList:=[UInt8.ofNat 121,UInt8.ofNat 122] } }))],[.fn 20 [.con (.int .i64 6),.fn 20 [.con (.int .i64 10),.var 0,.var 1] 1,.fn 20 [.con (.int .i64 10),.var 0,.var 1] 2] 1,.fn 20 [.con (.int .i64 6),.fn 20 [.con (.int .i64 10),.var 0,.var 1] 1,.fn 20 [.con (.int .i64 10),.var 0,.var 1] 2] 2,.fn 20 [.con (.int .i64 10),.var 0,.var 1] 0,.con (.string { data:={ toList:=[UInt8.ofNat 121,UInt8.ofNat 122] } })]):=by kernel_rfl
@[simp] theorem holds_fp (B:Base) (f:FuncId) (E:PtrE) (es:List SX):(Fact.fp f E es).holds B ↔ ToldP f E (B.F E.k)/\∃ ps qs,evs B.s B.F es=some ps/\B.F E.k ps=some qs:=Iff.rfl
@[simp] theorem kNum (k:Nat):(ENum k).k=k:=rfl
@[simp] theorem kWr1 (k:Nat):(EWr1 k).k=k:=rfl
theorem Zo8:∀ xs ys:List Nat,encU.all xs=encU.all ys->xs=ys
 | [],[],_=>rfl
 | [],_ :: _,h=>by simp [Enc.all,encU] at h
 | _ :: _,[],h=>by simp [Enc.all,encU] at h
 | x :: xs,y :: ys,h=>by
  rw [Enc.all_cons,Enc.all_cons] at h
  obtain ⟨h1,h2⟩:=List.append_inj h (by rw [encU.len,encU.len])
  simp only [encU,List.cons.injEq,Value.int.injEq,true_and,and_true,Int.ofNat_inj] at h1
  rw [h1,Zo8 xs ys h2]

def numV (l:List Nat) (n m:Nat):Nat:=if n < l.length then l.getD n 0 % m else 0
def numN (l:List Nat) (n:Nat):Nat:=if n < l.length then n+1 else n
theorem numN_le {l:List Nat} {n:Nat} (h:n<=l.length):numN l n<=l.length:=by unfold numN;split <;> omega
def RNum (ps qs:List PV):Prop:=∃ (m n:Nat) (l:List Nat),1<=m/\m<=1000/\n<=l.length/\l.length<=1000000/\(∀ z ∈ l,z < 256)/\ps=[pI (m:Int),pRow encU l,pI (n:Int)]/\qs=[pI (numV l n m:Int),pRow encU l,pI (numN l n:Int)]
theorem fNum:∀ ps q1 q2,RNum ps q1->RNum ps q2->q1=q2:=by
 rintro ps q1 q2 ⟨m,n,l,_,_,_,_,_,rfl,rfl⟩ ⟨m',n',l',_,_,_,_,_,h,rfl⟩
 simp only [List.cons.injEq,PV.v.injEq,Value.int.injEq,true_and,and_true,Int.ofNat_inj] at h
 obtain ⟨rfl,h,rfl⟩:=h
 rw [fil.pRow_inj Zo8 h]
def tbl:Nat->ByteArray
 | 0=>⟨⟨[UInt8.ofNat 120]⟩⟩
 | 1=>⟨⟨[UInt8.ofNat 121,UInt8.ofNat 122]⟩⟩
 | 2=>⟨⟨[UInt8.ofNat 104,UInt8.ofNat 101,UInt8.ofNat 108,UInt8.ofNat 108,UInt8.ofNat 111]⟩⟩
 | 3=>⟨⟨[UInt8.ofNat 48]⟩⟩
 | 4=>⟨⟨[UInt8.ofNat 97,UInt8.ofNat 98,UInt8.ofNat 0,UInt8.ofNat 99,UInt8.ofNat 100]⟩⟩
 | 5=>⟨⟨[UInt8.ofNat 102,UInt8.ofNat 111,UInt8.ofNat 117,UInt8.ofNat 114,UInt8.ofNat 116,UInt8.ofNat 101,UInt8.ofNat 101,UInt8.ofNat 110,UInt8.ofNat 32,UInt8.ofNat 98,UInt8.ofNat 121,UInt8.ofNat 116,UInt8.ofNat 101,UInt8.ofNat 115]⟩⟩
 | _=>⟨⟨[UInt8.ofNat 120]⟩⟩
def wr1 (l:List Nat) (n:Nat):(Int × ByteArray) × Nat:=(((numV l n 10:Nat),tbl (numV l (numN l n) 6)),numN l (numN l n))
structure OkP (l:List Nat) (n:Nat):Prop where
 n:n<=l.length
 len:l.length<=1000000
 u8:∀ z ∈ l,z < 256
def RWr1 (ps qs:List PV):Prop:=∃ (n:Nat) (l:List Nat),OkP l n/\ps=[pRow encU l,pI (n:Int)]/\qs=[pI (wr1 l n).1.1,pS (wr1 l n).1.2,pRow encU l,pI ((wr1 l n).2:Int)]
theorem fWr1:∀ ps q1 q2,RWr1 ps q1->RWr1 ps q2->q1=q2:=by
 rintro ps q1 q2 ⟨n,l,_,rfl,rfl⟩ ⟨n',l',_,h,rfl⟩
 simp only [List.cons.injEq,PV.v.injEq,Value.int.injEq,true_and,and_true,Int.ofNat_inj] at h
 obtain ⟨h,rfl⟩:=h
 rw [fil.pRow_inj Zo8 h]
noncomputable def F:Fns:=fun k=>match k with | 20=>spec RNum | 21=>spec RWr1 | _=>fun _=>none
theorem F20 {m n:Nat} {l:List Nat} (h1:1<=m) (h2:m<=1000) (ok:OkP l n):F 20 [pI (m:Int),pRow encU l,pI (n:Int)]=some [pI (numV l n m:Int),pRow encU l,pI (numN l n:Int)]:=Zap fNum ⟨m,n,l,h1,h2,ok.n,ok.len,ok.u8,rfl,rfl⟩
theorem okN {l:List Nat} {n:Nat} (ok:OkP l n):OkP l (numN l n):=⟨numN_le ok.n,ok.len,ok.u8⟩
def wseq (l:List Nat):Nat->Nat->List (Int × ByteArray) × Nat
 | 0,n=>([],n)
 | c+1,n=>((wr1 l n).1 :: (wseq l c (wr1 l n).2).1,(wseq l c (wr1 l n).2).2)
def Zm8 (l:List Nat) (n most:Nat):List (Int × ByteArray) × Nat:=wseq l (numV l n (most+1)) (numN l n)
def RWs (ps qs:List PV):Prop:=∃ (most n:Nat) (l:List Nat),most<=100/\OkP l n/\ps=[pI (most:Int),pRow encU l,pI (n:Int)]/\qs=[pRow encW (Zm8 l n most).1,pRow encU l,pI ((Zm8 l n most).2:Int)]
theorem F21 {n:Nat} {l:List Nat} (ok:OkP l n):F 21 [pRow encU l,pI (n:Int)]=some [pI (wr1 l n).1.1,pS (wr1 l n).1.2,pRow encU l,pI ((wr1 l n).2:Int)]:=Zap fWr1 ⟨n,l,ok,rfl,rfl⟩
def EWo (k:Nat):PtrE:={ k:=k,elem:=60,cells:=2,ins:=[none],outs:=[none],kinds:=[.own 96 2 true,.row,.num] }
@[simp] theorem kWo (k:Nat):(EWo k).k=k:=rfl
end Go.Proofs.YtpnegheknjeljaaGreat.pck
end
end
section
/- Texts joined. -/
section
/- What is Zgg into files: what the laws of Zm8 reckon with. -/
namespace Go.Proofs.YtpnegheknjeljaaGreat.fileFronts
open Go Go.RowKit eng SX Fact fil pck
set_option linter.unusedVariables false
set_option linter.unusedSimpArgs false
set_option maxRecDepth 1000000

def bs (l:List UInt8):ByteArray:=⟨l.toArray⟩
def EPut (k:Nat):FnE:={ k:=k,ins:=[none,some 2],leaks:=[false,false,false],outs:=[none],kinds:=[.num] }
@[simp] theorem kPut (k:Nat):(EPut k).k=k:=rfl
@[simp] theorem holds_fn (B:Base) (f:FuncId) (E:FnE) (es:List SX):(Fact.fn f E es).holds B ↔ ToldF f E (B.F E.k)/\∃ ps qs,evs B.s B.F es=some ps/\B.F E.k ps=some qs:=Iff.rfl
@[simp] theorem kAll (k:Nat):(EAll k).k=k:=rfl
@[simp] theorem kWs (k:Nat):(EWs k).k=k:=rfl
@[simp] theorem ex_cast0 (p:Nat->Prop):(∃ a:Nat,(0:Int)=(a:Int)/\p a) ↔ p 0:=by
 constructor
 ·rintro ⟨a,h,hp⟩
  have:a=0:=by omega
  rw [this] at hp
  exact hp
 ·exact fun h=>⟨0,rfl,h⟩
@[simp] theorem Zac (B:Base) (e i:SX) (sz q:Nat):(Fact.idx e i sz q).holds B ↔ ∃ n cs k z,B.ev e=some (.row n cs)/\B.ev i=some (.v (.int k z))/\0<=z/\z < (n:Int)/\z.toNat * sz+q<=cs.length:=Iff.rfl
end Go.Proofs.YtpnegheknjeljaaGreat.fileFronts
end
section
/- Texts joined. -/
section
/- What the document's Zcn Zm8 into a file: tenancyref7.PutWrite. -/
namespace Go.Proofs.YtpnegheknjeljaaGreat.rpw
open Go Go.RowKit eng SX Fact fil fileFronts
set_option linter.unusedVariables false
set_option linter.unusedSimpArgs false
set_option maxRecDepth 1000000

noncomputable def flP:=flat (Zat Tryz.prog 97)
def wvar:BoxT:=⟨96,0,false,[.leaf,.leaf],none,false⟩
def shPR:Shape:=⟨[(4,.leaf)],[],[none],42,97⟩
def shPo:Shape:=⟨[(3,.ptr 0 0 0 0),(5,.own 1 3 1),(6,.leaf)],[wvar,brow 3],[none,none,none],42,97⟩
noncomputable def lpP:=flat (Zaq (nth flP 5))
theorem on:segTo Tryz.prog fil.noOrc 10000 (lpP.take 2) shPo [1] shPo [(0,0),(1,0)]=some (.normal,[.ok (.slen (.var 2)),.ok (.bin .lss (.var 0) (.slen (.var 2))),.is (.bin .lss (.var 0) (.slen (.var 2))) (.bool true),.ok (.var 0),.ok (.var 1),.ok (.var 2),same (.len (.var 3)) (.len (.var 3))],[.var 0,.var 1,.var 2,.var 3]):=by kernel_rfl
theorem ex:segTo Tryz.prog fil.noOrc 10000 (lpP.take 2) shPo [0] shPo [(0,0),(1,0)]=some (.exit 0,[.ok (.slen (.var 2)),.ok (.bin .lss (.var 0) (.slen (.var 2))),.is (.bin .lss (.var 0) (.slen (.var 2))) (.bool false),.ok (.var 0),.ok (.var 1),.ok (.var 2),same (.len (.var 3)) (.len (.var 3))],[.var 0,.var 1,.var 2,.var 3]):=by kernel_rfl
theorem post:segTo Tryz.prog fil.noOrc 10000 (flP.drop 6) shPo [] shPR []=some (.ret,[same (.len (.var 3)) (.len (.var 3)),.ok (rop ROp.toStr [.var 3]),.ok (rop ROp.toStr [.var 3])],[rop ROp.toStr [.var 3]]):=by kernel_rfl

end Go.Proofs.YtpnegheknjeljaaGreat.rpw
end
section
/- What the document's Zcn Zm8 into a file, all of it: tenancyref7.All. -/
namespace Go.Proofs.YtpnegheknjeljaaGreat.ral
open Go Go.RowKit eng SX Fact fil fileFronts
set_option linter.unusedVariables false
set_option linter.unusedSimpArgs false
set_option maxRecDepth 1000000

end Go.Proofs.YtpnegheknjeljaaGreat.ral
end
end
end
