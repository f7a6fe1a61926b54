/- Texts joined. -/
import Derived.Test.YtcaclmdkhffegaaMrg4
section
/- What is written into a file: file.All. -/
namespace Go.Proofs.Ytcaclmdkhffegaa.fil
open Go Go.RowKit eng SX Fact
set_option linter.unusedVariables false
set_option linter.unusedSimpArgs false
set_option maxRecDepth 1000000

def grown (l:List UInt8) (n:Nat):List UInt8:=l++List.replicate (n - l.length) 0
def over (m x:List UInt8) (o:Nat):List UInt8:=m.take o++x++m.drop (o+x.length)

def EAll (k:Nat):FnE:={ k:=k,ins:=[none,none],leaks:=[false,false],outs:=[none],kinds:=[.num] }
end Go.Proofs.Ytcaclmdkhffegaa.fil
end
section
/- Picks: numbers out of which choices are made; writes. -/
namespace Go.Proofs.Ytcaclmdkhffegaa.pck
open Go Go.RowKit eng SX Fact fil
set_option linter.unusedVariables false
set_option linter.unusedSimpArgs false
set_option maxRecDepth 1000000

def encU:Enc Nat:={ sz:=1,enc:=fun z=>[.int .u8 (z:Int)],len:=fun _=>rfl,one:=fun _ u hu=>by simp at hu;subst hu;rfl,pos:=by decide }
def pbox:BoxT:=⟨61,0,false,[.leaf,.leaf],none,true⟩
def shN:Shape:=⟨[(0,.ptr 0 0 0 0),(1,.leaf)],[pbox],[none,some true,none],40,25⟩
def ENum (k:Nat):PtrE:={ k:=k,elem:=61,cells:=2,ins:=[none],outs:=[none],kinds:=[.num,.row,.num] }
def EWs (k:Nat):PtrE:={ k:=k,elem:=61,cells:=2,ins:=[none],outs:=[none],kinds:=[.row,.row,.num] }
def EWr1 (k:Nat):PtrE:={ k:=k,elem:=61,cells:=2,ins:=[],outs:=[some 2],kinds:=[.num,.num,.row,.num] }
def isApp:Op->Bool | .call { callee:=.builtin .append,.. }=>true | _=>false
def hApp (_:FuncId) (o:Oper):Option Hint:=cond (isApp o.op) (some .own) none
@[simp] theorem holds_fp (B:Base) (f:FuncId) (E:PtrE) (es:List SX):(Fact.fp f E es).holds B ↔ ToldP f E (B.F E.k)/\∃ ps qs,evs B.s B.F es=some ps/\B.F E.k ps=some qs:=Iff.rfl
@[simp] theorem kNum (k:Nat):(ENum k).k=k:=rfl
@[simp] theorem kWr1 (k:Nat):(EWr1 k).k=k:=rfl
theorem Zmt:∀ xs ys:List Nat,encU.all xs=encU.all ys->xs=ys
 | [],[],_=>rfl
 | [],_ :: _,h=>by simp [Enc.all,encU] at h
 | _ :: _,[],h=>by simp [Enc.all,encU] at h
 | x :: xs,y :: ys,h=>by
  rw [Enc.all_cons,Enc.all_cons] at h
  obtain ⟨h1,h2⟩:=List.append_inj h (by rw [encU.len,encU.len])
  simp only [encU,List.cons.injEq,Value.int.injEq,true_and,and_true,Int.ofNat_inj] at h1
  rw [h1,Zmt xs ys h2]

def numV (l:List Nat) (n m:Nat):Nat:=if n < l.length then l.getD n 0 % m else 0
def numN (l:List Nat) (n:Nat):Nat:=if n < l.length then n+1 else n
theorem numN_le {l:List Nat} {n:Nat} (h:n<=l.length):numN l n<=l.length:=by unfold numN;split <;> omega
theorem Zft {l:List Nat} {n m:Nat} (h:0 < m):numV l n m < m:=by unfold numV;split;exact Nat.mod_lt _ h;exact h
def RNum (ps qs:List PV):Prop:=∃ (m n:Nat) (l:List Nat),1<=m/\m<=1000/\n<=l.length/\l.length<=1000000/\(∀ z ∈ l,z < 256)/\ps=[pI (m:Int),pRow encU l,pI (n:Int)]/\qs=[pI (numV l n m:Int),pRow encU l,pI (numN l n:Int)]
theorem fNum:∀ ps q1 q2,RNum ps q1->RNum ps q2->q1=q2:=by
 rintro ps q1 q2 ⟨m,n,l,_,_,_,_,_,rfl,rfl⟩ ⟨m',n',l',_,_,_,_,_,h,rfl⟩
 simp only [List.cons.injEq,PV.v.injEq,Value.int.injEq,true_and,and_true,Int.ofNat_inj] at h
 obtain ⟨rfl,h,rfl⟩:=h
 rw [fil.pRow_inj Zmt h]
theorem cellU (l:List Nat) (i:Nat) (h:i < l.length):Zd3 (pRow encU l) (pI (i:Int)) 1 0=some (pU ((l.getD i 0:Nat):Int)):=by
 rw [Zca encU l i .i64 1 0 rfl h,Zdp encU l i 0 l[i] (List.getElem?_eq_getElem h) (by decide)]
 simp [encU,List.getD,h]
def tbl:Nat->ByteArray
 | 0=>⟨⟨[UInt8.ofNat 120]⟩⟩
 | 1=>⟨⟨[UInt8.ofNat 121,UInt8.ofNat 122]⟩⟩
 | 2=>⟨⟨[UInt8.ofNat 104,UInt8.ofNat 101,UInt8.ofNat 108,UInt8.ofNat 108,UInt8.ofNat 111]⟩⟩
 | 3=>⟨⟨[UInt8.ofNat 48]⟩⟩
 | 4=>⟨⟨[UInt8.ofNat 97,UInt8.ofNat 98,UInt8.ofNat 0,UInt8.ofNat 99,UInt8.ofNat 100]⟩⟩
 | 5=>⟨⟨[UInt8.ofNat 102,UInt8.ofNat 111,UInt8.ofNat 117,UInt8.ofNat 114,UInt8.ofNat 116,UInt8.ofNat 101,UInt8.ofNat 101,UInt8.ofNat 110,UInt8.ofNat 32,UInt8.ofNat 98,UInt8.ofNat 121,UInt8.ofNat 116,UInt8.ofNat 101,UInt8.ofNat 115]⟩⟩
 | _=>⟨⟨[UInt8.ofNat 120]⟩⟩
def wr1 (l:List Nat) (n:Nat):(Int × ByteArray) × Nat:=(((numV l n 10:Nat),tbl (numV l (numN l n) 6)),numN l (numN l n))
structure OkP (l:List Nat) (n:Nat):Prop where
 n:n<=l.length
 len:l.length<=1000000
 u8:∀ z ∈ l,z < 256
def RWr1 (ps qs:List PV):Prop:=∃ (n:Nat) (l:List Nat),OkP l n/\ps=[pRow encU l,pI (n:Int)]/\qs=[pI (wr1 l n).1.1,pS (wr1 l n).1.2,pRow encU l,pI ((wr1 l n).2:Int)]
noncomputable def F:Fns:=fun k=>match k with | 20=>spec RNum | 21=>spec RWr1 | _=>fun _=>none
theorem okN {l:List Nat} {n:Nat} (ok:OkP l n):OkP l (numN l n):=⟨numN_le ok.n,ok.len,ok.u8⟩
theorem okW {l:List Nat} {n:Nat} (ok:OkP l n):OkP l (wr1 l n).2:=okN (okN ok)
end Go.Proofs.Ytcaclmdkhffegaa.pck
end
