/- Which sectors are unlike (package image): told. -/
import Derived.Test.YtpnegheknjeljaaGreatIse
namespace Go.Proofs.YtpnegheknjeljaaGreat.idf
open Go Go.RowKit eng SX Fact fil ima symD sta
open fileFronts (Zac)
set_option linter.unusedVariables false
set_option linter.unusedSimpArgs false
set_option maxRecDepth 1000000

def EUn (k:Nat):FnE:={ k:=k,ins:=[none,none],leaks:=[false,false],outs:=[none],kinds:=[.row] }
noncomputable def flU:=flat (Zat Tryz.prog 67)
def shUn:Shape:=⟨[(0,.leaf),(5,.nil),(14,.leaf),(15,.leaf),(16,.leaf)],[],[some false,some false,none,none],35,67⟩
def shUN:Shape:=⟨[(4,.nil)],[],[],35,67⟩
def pvUn:Value:=(.iface 9 (.string { data:={ toList:=[UInt8.ofNat 105,UInt8.ofNat 109,UInt8.ofNat 97,UInt8.ofNat 103,UInt8.ofNat 101,UInt8.ofNat 58,UInt8.ofNat 32,UInt8.ofNat 110,UInt8.ofNat 111,UInt8.ofNat 116,UInt8.ofNat 32,UInt8.ofNat 97,UInt8.ofNat 115,UInt8.ofNat 32,UInt8.ofNat 109,UInt8.ofNat 97,UInt8.ofNat 110,UInt8.ofNat 121] } }))
@[simp] def zGreatIdf1:SX:=.bin .neq (.cell (.var 1) (.var 3) 1 0) (.cell (.var 0) (.var 3) 1 0)
@[simp] def zGreatIdf2:SX:=.bin .add (.var 3) (.con (.int .i64 1))
@[simp] def zGreatIdf3:SX:=.lit 1 [.var 3,.cell (.var 1) (.var 3) 1 0]
@[simp] def zGreatIdf4:SX:=.bin .lss (.var 3) (.var 2)
@[simp] def zGreatIdf5:Fact:=.idx (.var 1) (.var 3) 1 1
@[simp] def zGreatIdf6:Fact:=.idx (.var 0) (.var 3) 1 1
@[simp] def zGreatIdf7:SX:=.bin .neq (.len (.var 0)) (.len (.var 1))
@[simp] def zGreatIdf8:Fact:=same (.len (.var 4)) (.len (.var 4))
@[simp] def zGreatIdf9:Fact:=.ok (.cell (.var 1) (.var 3) 1 0)
@[simp] def zGreatIdf10:Fact:=.ok (.cell (.var 0) (.var 3) 1 0)
@[simp] def zGreatIdf11:SX:=rop ROp.cat [.var 4,zGreatIdf3]
theorem fn:segTo Tryz.prog fil.noOrc 10000 (flU.drop 6) shUn [] shUN []=some (.ret,[],[]):=by kernel_rfl
def encQ:Enc (Int × ByteArray):={ sz:=2,enc:=fun p=>[.int .i64 p.1,.string p.2],len:=fun _=>rfl,one:=fun _ u hu=>by simp at hu;rcases hu with rfl | rfl <;> rfl,pos:=by decide }
theorem Zg6:∀ xs ys:List ByteArray,encS.all xs=encS.all ys->xs=ys
 | [],[],_=>rfl
 | [],_ :: _,h=>by simp [Enc.all,encS] at h
 | _ :: _,[],h=>by simp [Enc.all,encS] at h
 | x :: xs,y :: ys,h=>by
  rw [Enc.all_cons,Enc.all_cons] at h
  obtain ⟨h1,h2⟩:=List.append_inj h (by rw [encS.len,encS.len])
  simp only [encS,List.cons.injEq,Value.string.injEq,and_true] at h1
  rw [h1,Zg6 xs ys h2]
theorem cellS (l:List ByteArray) (i:Nat) (h:i < l.length):Zc1 (pRow encS l) (pI (i:Int)) 1 0=some (pS l[i]):=by
 rw [Zbe encS l i .i64 1 0 rfl h,Zco encS l i 0 _ (List.getElem?_eq_getElem h) (by decide)];rfl
@[simp] theorem kUn (k:Nat):(EUn k).k=k:=rfl
def RUn (ps qs:List PV):Prop:=∃ a b:List ByteArray,a.length<=1000000/\b.length<=1000000/\ps=[pRow encS a,pRow encS b]/\qs=if a.length=b.length then [pI 0,pRow encQ (diffI a b)] else [pI 1]
end Go.Proofs.YtpnegheknjeljaaGreat.idf
