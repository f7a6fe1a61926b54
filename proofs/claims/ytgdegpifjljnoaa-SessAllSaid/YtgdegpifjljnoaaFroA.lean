/- Texts joined. -/
import Derived.Test.YtgdegpifjljnoaaSsf
import Derived.Test.YtgdegpifjljnoaaFrame
section
/- Picks: numbers out of which choices are made; writes. -/
namespace Go.Proofs.Ytgdegpifjljnoaa.pck
open Go Go.RowKit eng SX Fact fil
set_option linter.unusedVariables false
set_option linter.unusedSimpArgs false
set_option maxRecDepth 1000000

def encU:Enc Nat:={ sz:=1,enc:=fun z=>[.int .u8 (z:Int)],len:=fun _=>rfl,one:=fun _ u hu=>by simp at hu;subst hu;rfl,pos:=by decide }
def pbox:BoxT:=⟨54,0,false,[.leaf,.leaf],none,true⟩
noncomputable def flN:=flat (Zdy Try.prog 14)
def shN:Shape:=⟨[(0,.ptr 0 0 0 0),(1,.leaf)],[pbox],[none,some true,none],40,14⟩
def shNR:Shape:=⟨[(4,.leaf)],[pbox],[none,some true,none],40,14⟩
def ENum (k:Nat):PtrE:={ k:=k,elem:=54,cells:=2,ins:=[none],outs:=[none],kinds:=[.num,.row,.num] }
def tabN (f:FuncId):Option PtrE:=cond (Nat.beq f 14) (some { k:=20,elem:=54,cells:=2,ins:=[none],outs:=[none],kinds:=[.num,.row,.num] }) none
noncomputable def flW:=flat (Zdy Try.prog 16)
def shW:Shape:=⟨[(0,.ptr 0 0 0 0)],[pbox],[some true,none],11,16⟩
def shWR:Shape:=⟨[(2,.ptr 1 0 0 0)],[pbox,⟨59,0,false,[.leaf,.leaf],none,false⟩],[some true,none,none,none],11,16⟩
def EWs (k:Nat):PtrE:={ k:=k,elem:=54,cells:=2,ins:=[none],outs:=[none],kinds:=[.row,.row,.num] }
def EWr1 (k:Nat):PtrE:={ k:=k,elem:=54,cells:=2,ins:=[],outs:=[some 2],kinds:=[.num,.num,.row,.num] }
def tabW (f:FuncId):Option PtrE:=cond (Nat.beq f 14) (some (ENum 20)) (cond (Nat.beq f 16) (some (EWr1 21)) none)
noncomputable def flS:=flat (Zdy Try.prog 15)
noncomputable def lpS:=flat (Zfn (nth flS 3))
def wbox (k:Nat):BoxT:=⟨59,2,true,[],some k,false⟩
def shS:Shape:=⟨[(0,.ptr 0 0 0 0),(1,.leaf)],[pbox],[none,some true,none],21,15⟩
def shSn:Shape:=⟨[(0,.ptr 0 0 0 0),(5,.nil),(6,.leaf)],[pbox],[none,some true,none],21,15⟩
def shSo:Shape:=⟨[(0,.ptr 0 0 0 0),(5,.own 1 3 2),(6,.leaf)],[pbox,wbox 3],[none,some true,none],21,15⟩
def shRn:Shape:=⟨[(4,.nil)],[pbox],[some true,none],21,15⟩
def shRo:Shape:=⟨[(4,.own 1 2 2)],[pbox,wbox 2],[some true,none],21,15⟩
def isApp:Op->Bool | .call { callee:=.builtin .append,.. }=>true | _=>false
def hApp (_:FuncId) (o:Oper):Option Hint:=cond (isApp o.op) (some .own) none
theorem nOver:segTo Try.prog (orcP tabW) 10000 flN shN [1] shNR [(0,0)]=some (.ret,[.ok (.len (.var 1)),.ok (.bin .geq (.var 2) (.len (.var 1))),.is (.bin .geq (.var 2) (.len (.var 1))) (.bool true),.ok (.con (.int .i64 0)),.ok (.var 2)],[.con (.int .i64 0),.var 1,.var 2]):=by kernel_rfl
theorem nIn:segTo Try.prog (orcP tabW) 10000 flN shN [0,0] shNR [(0,0)]=some (.ret,[.ok (.len (.var 1)),.ok (.bin .geq (.var 2) (.len (.var 1))),.is (.bin .geq (.var 2) (.len (.var 1))) (.bool false),.ok (.bin .lss (.var 0) (.con (.int .i64 1))),.is (.bin .lss (.var 0) (.con (.int .i64 1))) (.bool false),.ok (.bin .add (.var 2) (.con (.int .i64 1))),.ok (.bin .sub (.bin .add (.var 2) (.con (.int .i64 1))) (.con (.int .i64 1))),.idx (.var 1) (.bin .sub (.bin .add (.var 2) (.con (.int .i64 1))) (.con (.int .i64 1))) 1 1,.idx (.var 1) (.bin .sub (.bin .add (.var 2) (.con (.int .i64 1))) (.con (.int .i64 1))) 1 1,.ok (.cell (.var 1) (.bin .sub (.bin .add (.var 2) (.con (.int .i64 1))) (.con (.int .i64 1))) 1 0),.ok (.conv .i64 (.cell (.var 1) (.bin .sub (.bin .add (.var 2) (.con (.int .i64 1))) (.con (.int .i64 1))) 1 0)),.ok (.bin .rem (.conv .i64 (.cell (.var 1) (.bin .sub (.bin .add (.var 2) (.con (.int .i64 1))) (.con (.int .i64 1))) 1 0)) (.var 0)),.ok (.bin .rem (.conv .i64 (.cell (.var 1) (.bin .sub (.bin .add (.var 2) (.con (.int .i64 1))) (.con (.int .i64 1))) 1 0)) (.var 0)),.ok (.bin .add (.var 2) (.con (.int .i64 1)))],[.bin .rem (.conv .i64 (.cell (.var 1) (.bin .sub (.bin .add (.var 2) (.con (.int .i64 1))) (.con (.int .i64 1))) 1 0)) (.var 0),.var 1,.bin .add (.var 2) (.con (.int .i64 1))]):=by kernel_rfl
theorem w0:segTo Try.prog (orcP tabW) 10000 flW shW [0] shWR [(0,0),(2,0)]=some (.ret,[.fp 14 (ENum 20) [.con (.int .i64 10),.var 0,.var 1],.ok (.fn 20 [.con (.int .i64 10),.var 0,.var 1] 0),.ok (.fn 20 [.con (.int .i64 10),.var 0,.var 1] 2),.fp 14 (ENum 20) [.con (.int .i64 6),.fn 20 [.con (.int .i64 10),.var 0,.var 1] 1,.fn 20 [.con (.int .i64 10),.var 0,.var 1] 2],.ok (.fn 20 [.con (.int .i64 6),.fn 20 [.con (.int .i64 10),.var 0,.var 1] 1,.fn 20 [.con (.int .i64 10),.var 0,.var 1] 2] 0),.ok (.fn 20 [.con (.int .i64 6),.fn 20 [.con (.int .i64 10),.var 0,.var 1] 1,.fn 20 [.con (.int .i64 10),.var 0,.var 1] 2] 2),Fact.at (.fn 20 [.con (.int .i64 6),.fn 20 [.con (.int .i64 10),.var 0,.var 1] 1,.fn 20 [.con (.int .i64 10),.var 0,.var 1] 2] 0) 0,.ok (.fn 20 [.con (.int .i64 6),.fn 20 [.con (.int .i64 10),.var 0,.var 1] 1,.fn 20 [.con (.int .i64 10),.var 0,.var 1] 2] 2),.ok (.fn 20 [.con (.int .i64 10),.var 0,.var 1] 0),.ok (.con (.string { data:={ toList:=[UInt8.ofNat 120] } }))],[.fn 20 [.con (.int .i64 6),.fn 20 [.con (.int .i64 10),.var 0,.var 1] 1,.fn 20 [.con (.int .i64 10),.var 0,.var 1] 2] 1,.fn 20 [.con (.int .i64 6),.fn 20 [.con (.int .i64 10),.var 0,.var 1] 1,.fn 20 [.con (.int .i64 10),.var 0,.var 1] 2] 2,.fn 20 [.con (.int .i64 10),.var 0,.var 1] 0,.con (.string { data:={ toList:=[UInt8.ofNat 120] } })]):=by kernel_rfl
theorem w1:segTo Try.prog (orcP tabW) 10000 flW shW [1] shWR [(0,0),(2,0)]=some (.ret,[.fp 14 (ENum 20) [.con (.int .i64 10),.var 0,.var 1],.ok (.fn 20 [.con (.int .i64 10),.var 0,.var 1] 0),.ok (.fn 20 [.con (.int .i64 10),.var 0,.var 1] 2),.fp 14 (ENum 20) [.con (.int .i64 6),.fn 20 [.con (.int .i64 10),.var 0,.var 1] 1,.fn 20 [.con (.int .i64 10),.var 0,.var 1] 2],.ok (.fn 20 [.con (.int .i64 6),.fn 20 [.con (.int .i64 10),.var 0,.var 1] 1,.fn 20 [.con (.int .i64 10),.var 0,.var 1] 2] 0),.ok (.fn 20 [.con (.int .i64 6),.fn 20 [.con (.int .i64 10),.var 0,.var 1] 1,.fn 20 [.con (.int .i64 10),.var 0,.var 1] 2] 2),Fact.at (.fn 20 [.con (.int .i64 6),.fn 20 [.con (.int .i64 10),.var 0,.var 1] 1,.fn 20 [.con (.int .i64 10),.var 0,.var 1] 2] 0) 1,.ok (.fn 20 [.con (.int .i64 6),.fn 20 [.con (.int .i64 10),.var 0,.var 1] 1,.fn 20 [.con (.int .i64 10),.var 0,.var 1] 2] 2),.ok (.fn 20 [.con (.int .i64 10),.var 0,.var 1] 0),.ok (.con (.string { data:={ toList:=[UInt8.ofNat 121,UInt8.ofNat 122] } }))],[.fn 20 [.con (.int .i64 6),.fn 20 [.con (.int .i64 10),.var 0,.var 1] 1,.fn 20 [.con (.int .i64 10),.var 0,.var 1] 2] 1,.fn 20 [.con (.int .i64 6),.fn 20 [.con (.int .i64 10),.var 0,.var 1] 1,.fn 20 [.con (.int .i64 10),.var 0,.var 1] 2] 2,.fn 20 [.con (.int .i64 10),.var 0,.var 1] 0,.con (.string { data:={ toList:=[UInt8.ofNat 121,UInt8.ofNat 122] } })]):=by kernel_rfl
theorem w2:segTo Try.prog (orcP tabW) 10000 flW shW [2] shWR [(0,0),(2,0)]=some (.ret,[.fp 14 (ENum 20) [.con (.int .i64 10),.var 0,.var 1],.ok (.fn 20 [.con (.int .i64 10),.var 0,.var 1] 0),.ok (.fn 20 [.con (.int .i64 10),.var 0,.var 1] 2),.fp 14 (ENum 20) [.con (.int .i64 6),.fn 20 [.con (.int .i64 10),.var 0,.var 1] 1,.fn 20 [.con (.int .i64 10),.var 0,.var 1] 2],.ok (.fn 20 [.con (.int .i64 6),.fn 20 [.con (.int .i64 10),.var 0,.var 1] 1,.fn 20 [.con (.int .i64 10),.var 0,.var 1] 2] 0),.ok (.fn 20 [.con (.int .i64 6),.fn 20 [.con (.int .i64 10),.var 0,.var 1] 1,.fn 20 [.con (.int .i64 10),.var 0,.var 1] 2] 2),Fact.at (.fn 20 [.con (.int .i64 6),.fn 20 [.con (.int .i64 10),.var 0,.var 1] 1,.fn 20 [.con (.int .i64 10),.var 0,.var 1] 2] 0) 2,.ok (.fn 20 [.con (.int .i64 6),.fn 20 [.con (.int .i64 10),.var 0,.var 1] 1,.fn 20 [.con (.int .i64 10),.var 0,.var 1] 2] 2),.ok (.fn 20 [.con (.int .i64 10),.var 0,.var 1] 0),.ok (.con (.string { data:={ toList:=[UInt8.ofNat 104,UInt8.ofNat 101,UInt8.ofNat 108,UInt8.ofNat 108,UInt8.ofNat 111] } }))],[.fn 20 [.con (.int .i64 6),.fn 20 [.con (.int .i64 10),.var 0,.var 1] 1,.fn 20 [.con (.int .i64 10),.var 0,.var 1] 2] 1,.fn 20 [.con (.int .i64 6),.fn 20 [.con (.int .i64 10),.var 0,.var 1] 1,.fn 20 [.con (.int .i64 10),.var 0,.var 1] 2] 2,.fn 20 [.con (.int .i64 10),.var 0,.var 1] 0,.con (.string { data:={ toList:=[UInt8.ofNat 104,UInt8.ofNat 101,UInt8.ofNat 108,UInt8.ofNat 108,UInt8.ofNat 111] } })]):=by kernel_rfl
theorem w3:segTo Try.prog (orcP tabW) 10000 flW shW [3] shWR [(0,0),(2,0)]=some (.ret,[.fp 14 (ENum 20) [.con (.int .i64 10),.var 0,.var 1],.ok (.fn 20 [.con (.int .i64 10),.var 0,.var 1] 0),.ok (.fn 20 [.con (.int .i64 10),.var 0,.var 1] 2),.fp 14 (ENum 20) [.con (.int .i64 6),.fn 20 [.con (.int .i64 10),.var 0,.var 1] 1,.fn 20 [.con (.int .i64 10),.var 0,.var 1] 2],.ok (.fn 20 [.con (.int .i64 6),.fn 20 [.con (.int .i64 10),.var 0,.var 1] 1,.fn 20 [.con (.int .i64 10),.var 0,.var 1] 2] 0),.ok (.fn 20 [.con (.int .i64 6),.fn 20 [.con (.int .i64 10),.var 0,.var 1] 1,.fn 20 [.con (.int .i64 10),.var 0,.var 1] 2] 2),Fact.at (.fn 20 [.con (.int .i64 6),.fn 20 [.con (.int .i64 10),.var 0,.var 1] 1,.fn 20 [.con (.int .i64 10),.var 0,.var 1] 2] 0) 3,.ok (.fn 20 [.con (.int .i64 6),.fn 20 [.con (.int .i64 10),.var 0,.var 1] 1,.fn 20 [.con (.int .i64 10),.var 0,.var 1] 2] 2),.ok (.fn 20 [.con (.int .i64 10),.var 0,.var 1] 0),.ok (.con (.string { data:={ toList:=[UInt8.ofNat 48] } }))],[.fn 20 [.con (.int .i64 6),.fn 20 [.con (.int .i64 10),.var 0,.var 1] 1,.fn 20 [.con (.int .i64 10),.var 0,.var 1] 2] 1,.fn 20 [.con (.int .i64 6),.fn 20 [.con (.int .i64 10),.var 0,.var 1] 1,.fn 20 [.con (.int .i64 10),.var 0,.var 1] 2] 2,.fn 20 [.con (.int .i64 10),.var 0,.var 1] 0,.con (.string { data:={ toList:=[UInt8.ofNat 48] } })]):=by kernel_rfl
theorem w4:segTo Try.prog (orcP tabW) 10000 flW shW [4] shWR [(0,0),(2,0)]=some (.ret,[.fp 14 (ENum 20) [.con (.int .i64 10),.var 0,.var 1],.ok (.fn 20 [.con (.int .i64 10),.var 0,.var 1] 0),.ok (.fn 20 [.con (.int .i64 10),.var 0,.var 1] 2),.fp 14 (ENum 20) [.con (.int .i64 6),.fn 20 [.con (.int .i64 10),.var 0,.var 1] 1,.fn 20 [.con (.int .i64 10),.var 0,.var 1] 2],.ok (.fn 20 [.con (.int .i64 6),.fn 20 [.con (.int .i64 10),.var 0,.var 1] 1,.fn 20 [.con (.int .i64 10),.var 0,.var 1] 2] 0),.ok (.fn 20 [.con (.int .i64 6),.fn 20 [.con (.int .i64 10),.var 0,.var 1] 1,.fn 20 [.con (.int .i64 10),.var 0,.var 1] 2] 2),Fact.at (.fn 20 [.con (.int .i64 6),.fn 20 [.con (.int .i64 10),.var 0,.var 1] 1,.fn 20 [.con (.int .i64 10),.var 0,.var 1] 2] 0) 4,.ok (.fn 20 [.con (.int .i64 6),.fn 20 [.con (.int .i64 10),.var 0,.var 1] 1,.fn 20 [.con (.int .i64 10),.var 0,.var 1] 2] 2),.ok (.fn 20 [.con (.int .i64 10),.var 0,.var 1] 0),.ok (.con (.string { data:={ toList:=[UInt8.ofNat 97,UInt8.ofNat 98,UInt8.ofNat 0,UInt8.ofNat 99,UInt8.ofNat 100] } }))],[.fn 20 [.con (.int .i64 6),.fn 20 [.con (.int .i64 10),.var 0,.var 1] 1,.fn 20 [.con (.int .i64 10),.var 0,.var 1] 2] 1,.fn 20 [.con (.int .i64 6),.fn 20 [.con (.int .i64 10),.var 0,.var 1] 1,.fn 20 [.con (.int .i64 10),.var 0,.var 1] 2] 2,.fn 20 [.con (.int .i64 10),.var 0,.var 1] 0,.con (.string { data:={ toList:=[UInt8.ofNat 97,UInt8.ofNat 98,UInt8.ofNat 0,UInt8.ofNat 99,UInt8.ofNat 100] } })]):=by kernel_rfl
theorem w5:segTo Try.prog (orcP tabW) 10000 flW shW [5] shWR [(0,0),(2,0)]=some (.ret,[.fp 14 (ENum 20) [.con (.int .i64 10),.var 0,.var 1],.ok (.fn 20 [.con (.int .i64 10),.var 0,.var 1] 0),.ok (.fn 20 [.con (.int .i64 10),.var 0,.var 1] 2),.fp 14 (ENum 20) [.con (.int .i64 6),.fn 20 [.con (.int .i64 10),.var 0,.var 1] 1,.fn 20 [.con (.int .i64 10),.var 0,.var 1] 2],.ok (.fn 20 [.con (.int .i64 6),.fn 20 [.con (.int .i64 10),.var 0,.var 1] 1,.fn 20 [.con (.int .i64 10),.var 0,.var 1] 2] 0),.ok (.fn 20 [.con (.int .i64 6),.fn 20 [.con (.int .i64 10),.var 0,.var 1] 1,.fn 20 [.con (.int .i64 10),.var 0,.var 1] 2] 2),Fact.at (.fn 20 [.con (.int .i64 6),.fn 20 [.con (.int .i64 10),.var 0,.var 1] 1,.fn 20 [.con (.int .i64 10),.var 0,.var 1] 2] 0) 5,.ok (.fn 20 [.con (.int .i64 6),.fn 20 [.con (.int .i64 10),.var 0,.var 1] 1,.fn 20 [.con (.int .i64 10),.var 0,.var 1] 2] 2),.ok (.fn 20 [.con (.int .i64 10),.var 0,.var 1] 0),.ok (.con (.string { data:={ toList:=[UInt8.ofNat 102,UInt8.ofNat 111,UInt8.ofNat 117,UInt8.ofNat 114,UInt8.ofNat 116,UInt8.ofNat 101,UInt8.ofNat 101,UInt8.ofNat 110,UInt8.ofNat 32,UInt8.ofNat 98,UInt8.ofNat 121,UInt8.ofNat 116,UInt8.ofNat 101,UInt8.ofNat 115] } }))],[.fn 20 [.con (.int .i64 6),.fn 20 [.con (.int .i64 10),.var 0,.var 1] 1,.fn 20 [.con (.int .i64 10),.var 0,.var 1] 2] 1,.fn 20 [.con (.int .i64 6),.fn 20 [.con (.int .i64 10),.var 0,.var 1] 1,.fn 20 [.con (.int .i64 10),.var 0,.var 1] 2] 2,.fn 20 [.con (.int .i64 10),.var 0,.var 1] 0,.con (.string { data:={ toList:=[UInt8.ofNat 102,UInt8.ofNat 111,UInt8.ofNat 117,UInt8.ofNat 114,UInt8.ofNat 116,UInt8.ofNat 101,UInt8.ofNat 101,UInt8.ofNat 110,UInt8.ofNat 32,UInt8.ofNat 98,UInt8.ofNat 121,UInt8.ofNat 116,UInt8.ofNat 101,UInt8.ofNat 115] } })]):=by kernel_rfl
theorem preS:segTo Try.prog (orcP tabW) 10000 (flS.take 3) shS [] shSn [(0,0)]=some (.normal,[.ok (.bin .add (.var 0) (.con (.int .i64 1))),.fp 14 (ENum 20) [.bin .add (.var 0) (.con (.int .i64 1)),.var 1,.var 2],.ok (.fn 20 [.bin .add (.var 0) (.con (.int .i64 1)),.var 1,.var 2] 0),.ok (.fn 20 [.bin .add (.var 0) (.con (.int .i64 1)),.var 1,.var 2] 2),.ok (.fn 20 [.bin .add (.var 0) (.con (.int .i64 1)),.var 1,.var 2] 0),.ok (.fn 20 [.bin .add (.var 0) (.con (.int .i64 1)),.var 1,.var 2] 2)],[.fn 20 [.bin .add (.var 0) (.con (.int .i64 1)),.var 1,.var 2] 0,.fn 20 [.bin .add (.var 0) (.con (.int .i64 1)),.var 1,.var 2] 1,.fn 20 [.bin .add (.var 0) (.con (.int .i64 1)),.var 1,.var 2] 2]):=by kernel_rfl
theorem onN:segTo Try.prog (orcP tabW) 10000 lpS shSn [1] shSo [(0,0),(4,0)] hApp=some (.normal,[.ok (.bin .gtr (.var 0) (.con (.int .i64 0))),.is (.bin .gtr (.var 0) (.con (.int .i64 0))) (.bool true),.fp 16 (EWr1 21) [.var 1,.var 2],.ok (.fn 21 [.var 1,.var 2] 0),.ok (.fn 21 [.var 1,.var 2] 1),.ok (.fn 21 [.var 1,.var 2] 3),rng (.con (.int .i64 0)) (.len (.lit 1 [.fn 21 [.var 1,.var 2] 0,.fn 21 [.var 1,.var 2] 1])),upto (.len (.lit 1 [.fn 21 [.var 1,.var 2] 0,.fn 21 [.var 1,.var 2] 1])) 4294967296,.ok (.bin .sub (.var 0) (.con (.int .i64 1))),.ok (.bin .sub (.var 0) (.con (.int .i64 1))),.ok (.fn 21 [.var 1,.var 2] 3),same (.len (.lit 1 [.fn 21 [.var 1,.var 2] 0,.fn 21 [.var 1,.var 2] 1])) (.len (.lit 1 [.fn 21 [.var 1,.var 2] 0,.fn 21 [.var 1,.var 2] 1]))],[.bin .sub (.var 0) (.con (.int .i64 1)),.fn 21 [.var 1,.var 2] 2,.fn 21 [.var 1,.var 2] 3,.lit 1 [.fn 21 [.var 1,.var 2] 0,.fn 21 [.var 1,.var 2] 1]]):=by kernel_rfl
theorem onO:segTo Try.prog (orcP tabW) 10000 lpS shSo [1] shSo [(0,0),(1,1)] hApp=some (.normal,[.ok (.bin .gtr (.var 0) (.con (.int .i64 0))),.is (.bin .gtr (.var 0) (.con (.int .i64 0))) (.bool true),.fp 16 (EWr1 21) [.var 1,.var 2],.ok (.fn 21 [.var 1,.var 2] 0),.ok (.fn 21 [.var 1,.var 2] 1),.ok (.fn 21 [.var 1,.var 2] 3),same (.len (.var 3)) (.len (.var 3)),upto (.len (rop ROp.cat [.var 3,.lit 1 [.fn 21 [.var 1,.var 2] 0,.fn 21 [.var 1,.var 2] 1]])) 4294967296,.ok (.bin .sub (.var 0) (.con (.int .i64 1))),.ok (.bin .sub (.var 0) (.con (.int .i64 1))),.ok (.fn 21 [.var 1,.var 2] 3),same (.len (rop ROp.cat [.var 3,.lit 1 [.fn 21 [.var 1,.var 2] 0,.fn 21 [.var 1,.var 2] 1]])) (.len (rop ROp.cat [.var 3,.lit 1 [.fn 21 [.var 1,.var 2] 0,.fn 21 [.var 1,.var 2] 1]]))],[.bin .sub (.var 0) (.con (.int .i64 1)),.fn 21 [.var 1,.var 2] 2,.fn 21 [.var 1,.var 2] 3,rop ROp.cat [.var 3,.lit 1 [.fn 21 [.var 1,.var 2] 0,.fn 21 [.var 1,.var 2] 1]]]):=by kernel_rfl
theorem exO:segTo Try.prog (orcP tabW) 10000 lpS shSo [0] shSo [(0,0),(1,0)] hApp=some (.exit 0,[.ok (.bin .gtr (.var 0) (.con (.int .i64 0))),.is (.bin .gtr (.var 0) (.con (.int .i64 0))) (.bool false),.ok (.var 0),.ok (.var 2),same (.len (.var 3)) (.len (.var 3))],[.var 0,.var 1,.var 2,.var 3]):=by kernel_rfl
theorem exN:segTo Try.prog (orcP tabW) 10000 lpS shSn [0] shSn [(0,0)] hApp=some (.exit 0,[.ok (.bin .gtr (.var 0) (.con (.int .i64 0))),.is (.bin .gtr (.var 0) (.con (.int .i64 0))) (.bool false),.ok (.var 0),.ok (.var 2)],[.var 0,.var 1,.var 2]):=by kernel_rfl
theorem postO:segTo Try.prog (orcP tabW) 10000 (flS.drop 4) shSo [] shRo [(0,0),(1,0)] hApp=some (.ret,[.ok (.var 2),same (.len (.var 3)) (.len (.var 3))],[.var 1,.var 2,.var 3]):=by kernel_rfl
theorem postN:segTo Try.prog (orcP tabW) 10000 (flS.drop 4) shSn [] shRn [(0,0)] hApp=some (.ret,[.ok (.var 2)],[.var 1,.var 2]):=by kernel_rfl

theorem cutS:flS=flS.take 3++.block (Zgi (nth flS 3)) (.loop (Zfn (nth flS 3))) :: flS.drop 4:=by kernel_rfl
@[simp] theorem Zl0 (B:Base) (f:FuncId) (E:PtrE) (es:List SX):(Fact.fp f E es).holds B ↔ ToldP f E (B.F E.k)/\∃ ps qs,evs B.s B.F es=some ps/\B.F E.k ps=some qs:=Iff.rfl
@[simp] theorem kNum (k:Nat):(ENum k).k=k:=rfl
@[simp] theorem kWr1 (k:Nat):(EWr1 k).k=k:=rfl
theorem Zg9:∀ xs ys:List Nat,encU.all xs=encU.all ys->xs=ys
 | [],[],_=>rfl
 | [],_ :: _,h=>by simp [Enc.all,encU] at h
 | _ :: _,[],h=>by simp [Enc.all,encU] at h
 | x :: xs,y :: ys,h=>by
  rw [Enc.all_cons,Enc.all_cons] at h
  obtain ⟨h1,h2⟩:=List.append_inj h (by rw [encU.len,encU.len])
  simp only [encU,List.cons.injEq,Value.int.injEq,true_and,and_true,Int.ofNat_inj] at h1
  rw [h1,Zg9 xs ys h2]

def numV (l:List Nat) (n m:Nat):Nat:=if n < l.length then l.getD n 0 % m else 0
def numN (l:List Nat) (n:Nat):Nat:=if n < l.length then n+1 else n
theorem numN_le {l:List Nat} {n:Nat} (h:n<=l.length):numN l n<=l.length:=by unfold numN;split <;> omega
theorem numV_lt {l:List Nat} {n m:Nat} (h:0 < m):numV l n m < m:=by unfold numV;split;exact Nat.mod_lt _ h;exact h
def RNum (ps qs:List PV):Prop:=∃ (m n:Nat) (l:List Nat),1<=m/\m<=1000/\n<=l.length/\l.length<=1000000/\(∀ z ∈ l,z < 256)/\ps=[pI (m:Int),pRow encU l,pI (n:Int)]/\qs=[pI (numV l n m:Int),pRow encU l,pI (numN l n:Int)]
theorem fNum:∀ ps q1 q2,RNum ps q1->RNum ps q2->q1=q2:=by
 rintro ps q1 q2 ⟨m,n,l,_,_,_,_,_,rfl,rfl⟩ ⟨m',n',l',_,_,_,_,_,h,rfl⟩
 simp only [List.cons.injEq,PV.v.injEq,Value.int.injEq,true_and,and_true,Int.ofNat_inj] at h
 obtain ⟨rfl,h,rfl⟩:=h
 rw [fil.pRow_inj Zg9 h]
theorem cellU (l:List Nat) (i:Nat) (h:i < l.length):Zbm (pRow encU l) (pI (i:Int)) 1 0=some (pU ((l.getD i 0:Nat):Int)):=by
 rw [Zav encU l i .i64 1 0 rfl h,Zbf encU l i 0 l[i] (List.getElem?_eq_getElem h) (by decide)]
 simp [encU,List.getD,h]
theorem Zb5:OrcOk Try.prog (orcP tabW):=Zc4 tabW
theorem toldNum (k:Nat):ToldP 14 (ENum k) (spec RNum):=by
 refine told_ptr (fun _ _=>none) _ (Zdy Try.prog 14) Try.func14 (by kernel_rfl) shN (by kernel_rfl) ?_ ?_
 ·intro ps qs h
  obtain ⟨m,n,l,_,_,_,_,_,rfl,rfl⟩:=Zbk h
  exact Zg1 rfl
 ·intro C ps qs hF h a w hsh
  obtain ⟨m,n,l,h1,h2,h3,h4,h5,rfl,rfl⟩:=Zbk h
  show wpL Try.prog flN _ a w
  rw [<- List.append_nil flN]
  by_cases hlt:n < l.length
  ·have w1:IntKind.i64.wrap ((n:Int)+1)=(n:Int)+1:=wrapI _ (by omega) (by omega)
   have w2:IntKind.i64.wrap ((n:Int)+1 - 1)=(n:Int):=by rw [wrapI _ (by omega) (by omega)];omega
   have w3:IntKind.i64.wrap (n:Int)=(n:Int):=wrapI _ (by omega) (by omega)
   have hc:=cellU l n hlt
   have hz:l.getD n 0 < 256:=by
    have:l.getD n 0=l[n]:=by simp [List.getD,hlt]
    rw [this];exact h5 _ (List.getElem_mem hlt)
   have hV:numV l n m=l.getD n 0 % m:=by simp [numV,hlt]
   have hN:numN l n=n+1:=by simp [numN,hlt]
   generalize l.getD n 0=z at hc hz hV
   have w4:IntKind.i64.wrap (z:Int)=(z:Int):=wrapI _ (by omega) (by omega)
   have w5:((z:Int).tmod (m:Int))=((z % m:Nat):Int):=rfl
   have hm0:¬ (m=0):=by omega
   have ix:∀ B:Base,B.ev (.bin .sub (.bin .add (.var 2) (.con (.int .i64 1))) (.con (.int .i64 1)))=some (pI (n:Int))->B.ev (.var 1)=some (pRow encU l)->(Fact.idx (var 1) (.bin .sub (.bin .add (.var 2) (.con (.int .i64 1))) (.con (.int .i64 1))) 1 1).holds B:=fun B e1 e2=>by
    obtain ⟨a,b,c,d,q1,q2,q3⟩:=idx_row encU l n 1 1 rfl hlt (by decide)
    exact ⟨a,b,c,d,by rw [e2];exact q1,by rw [e1];exact q2,q3⟩
   refine Zan names_ok mixed_ok Zb5 nIn hsh ?_ ?_
   ·have ix1:=ix (C.with [pI (m:Int),pRow encU l,pI (n:Int)]) (by simp [Base.ev,SX.ev,binPV,w1,w2,w3]) (by simp [Base.ev,SX.ev])
    simp [Base.ev,SX.ev,evs,Zaf,binPV,Zaj,Value.oneCell',w1,w2,w3,w4,w5,hm0,hc,ix1]
    all_goals omega
   ·intro qs a1 w1' hq h1'
    refine ⟨nofun,fun _=>⟨.inr rfl,shNR,qs,[SX.var 0,SX.var 1,SX.var 2],h1',by kernel_rfl,?_⟩⟩
    simp [evs,SX.ev,binPV,Zaj,w1,w2,w3,w4,w5,hm0,hc] at hq ⊢
    subst hq
    simp [hV,hN]
  ·refine Zan names_ok mixed_ok Zb5 nOver hsh ?_ ?_
   ·simp [Base.ev,SX.ev,evs,Zaf,binPV,Value.oneCell']
    all_goals omega
   ·intro qs a1 w1' hq h1'
    refine ⟨nofun,fun _=>⟨.inr rfl,shNR,qs,[SX.var 0,SX.var 1,SX.var 2],h1',by kernel_rfl,?_⟩⟩
    simp [evs,SX.ev] at hq ⊢
    subst hq
    simp [numV,numN,hlt]

def tbl:Nat->ByteArray
 | 0=>⟨⟨[UInt8.ofNat 120]⟩⟩
 | 1=>⟨⟨[UInt8.ofNat 121,UInt8.ofNat 122]⟩⟩
 | 2=>⟨⟨[UInt8.ofNat 104,UInt8.ofNat 101,UInt8.ofNat 108,UInt8.ofNat 108,UInt8.ofNat 111]⟩⟩
 | 3=>⟨⟨[UInt8.ofNat 48]⟩⟩
 | 4=>⟨⟨[UInt8.ofNat 97,UInt8.ofNat 98,UInt8.ofNat 0,UInt8.ofNat 99,UInt8.ofNat 100]⟩⟩
 | 5=>⟨⟨[UInt8.ofNat 102,UInt8.ofNat 111,UInt8.ofNat 117,UInt8.ofNat 114,UInt8.ofNat 116,UInt8.ofNat 101,UInt8.ofNat 101,UInt8.ofNat 110,UInt8.ofNat 32,UInt8.ofNat 98,UInt8.ofNat 121,UInt8.ofNat 116,UInt8.ofNat 101,UInt8.ofNat 115]⟩⟩
 | _=>⟨⟨[UInt8.ofNat 120]⟩⟩
def wr1 (l:List Nat) (n:Nat):(Int × ByteArray) × Nat:=(((numV l n 10:Nat),tbl (numV l (numN l n) 6)),numN l (numN l n))
structure OkP (l:List Nat) (n:Nat):Prop where
 n:n<=l.length
 len:l.length<=1000000
 u8:∀ z ∈ l,z < 256
def RWr1 (ps qs:List PV):Prop:=∃ (n:Nat) (l:List Nat),OkP l n/\ps=[pRow encU l,pI (n:Int)]/\qs=[pI (wr1 l n).1.1,pS (wr1 l n).1.2,pRow encU l,pI ((wr1 l n).2:Int)]
theorem fWr1:∀ ps q1 q2,RWr1 ps q1->RWr1 ps q2->q1=q2:=by
 rintro ps q1 q2 ⟨n,l,_,rfl,rfl⟩ ⟨n',l',_,h,rfl⟩
 simp only [List.cons.injEq,PV.v.injEq,Value.int.injEq,true_and,and_true,Int.ofNat_inj] at h
 obtain ⟨h,rfl⟩:=h
 rw [fil.pRow_inj Zg9 h]
noncomputable def F:Fns:=fun k=>match k with | 20=>spec RNum | 21=>spec RWr1 | _=>fun _=>none
theorem F20 {m n:Nat} {l:List Nat} (h1:1<=m) (h2:m<=1000) (ok:OkP l n):F 20 [pI (m:Int),pRow encU l,pI (n:Int)]=some [pI (numV l n m:Int),pRow encU l,pI (numN l n:Int)]:=Zbv fNum ⟨m,n,l,h1,h2,ok.n,ok.len,ok.u8,rfl,rfl⟩
theorem okN {l:List Nat} {n:Nat} (ok:OkP l n):OkP l (numN l n):=⟨numN_le ok.n,ok.len,ok.u8⟩
theorem t20:ToldP 14 (ENum 20) (F 20):=toldNum 20
theorem toldWr1 (k:Nat):ToldP 16 (EWr1 k) (spec RWr1):=by
 refine told_ptr F _ (Zdy Try.prog 16) Try.func16 (by kernel_rfl) shW (by kernel_rfl) ?_ ?_
 ·intro ps qs h
  obtain ⟨n,l,_,rfl,rfl⟩:=Zbk h
  exact Zg1 rfl
 ·intro C ps qs hF h a w hsh
  obtain ⟨n,l,ok,rfl,rfl⟩:=Zbk h
  show wpL Try.prog flW _ a w
  rw [<- List.append_nil flW]
  have e1:F 20 [pI 10,pRow encU l,pI (n:Int)]=some [pI (numV l n 10:Int),pRow encU l,pI (numN l n:Int)]:=F20 (m:=10) (by omega) (by omega) ok
  have e2:F 20 [pI 6,pRow encU l,pI (numN l n:Int)]=some [pI (numV l (numN l n) 6:Int),pRow encU l,pI (numN l (numN l n):Int)]:=F20 (m:=6) (by omega) (by omega) (okN ok)
  have hw1:(wr1 l n).1.1=(numV l n 10:Int):=rfl
  have hw2:(wr1 l n).2=numN l (numN l n):=rfl
  have hlt:numV l (numN l n) 6 < 6:=numV_lt (by omega)
  have hw3:(wr1 l n).1.2=tbl (numV l (numN l n) 6):=rfl
  rw [hw1,hw2,hw3] at *
  generalize numV l (numN l n) 6=j at *
  match j,hlt with
  | 0,_ =>
   refine Zan names_ok mixed_ok Zb5 w0 hsh ?_ ?_
   ·simp [Base.ev,SX.ev,evs,hF,e1,e2,t20,Value.oneCell']
   ·intro qs a1 w1' hq h1'
    refine ⟨nofun,fun _=>⟨.inr rfl,shWR,qs,[SX.var 2,SX.var 3,SX.var 0,SX.var 1],h1',by kernel_rfl,?_⟩⟩
    simp [evs,SX.ev,hF,e1,e2] at hq ⊢
    subst hq
    simp [tbl]
  | 1,_ =>
   refine Zan names_ok mixed_ok Zb5 w1 hsh ?_ ?_
   ·simp [Base.ev,SX.ev,evs,hF,e1,e2,t20,Value.oneCell']
   ·intro qs a1 w1' hq h1'
    refine ⟨nofun,fun _=>⟨.inr rfl,shWR,qs,[SX.var 2,SX.var 3,SX.var 0,SX.var 1],h1',by kernel_rfl,?_⟩⟩
    simp [evs,SX.ev,hF,e1,e2] at hq ⊢
    subst hq
    simp [tbl]
  | 2,_ =>
   refine Zan names_ok mixed_ok Zb5 w2 hsh ?_ ?_
   ·simp [Base.ev,SX.ev,evs,hF,e1,e2,t20,Value.oneCell']
   ·intro qs a1 w1' hq h1'
    refine ⟨nofun,fun _=>⟨.inr rfl,shWR,qs,[SX.var 2,SX.var 3,SX.var 0,SX.var 1],h1',by kernel_rfl,?_⟩⟩
    simp [evs,SX.ev,hF,e1,e2] at hq ⊢
    subst hq
    simp [tbl]
  | 3,_ =>
   refine Zan names_ok mixed_ok Zb5 w3 hsh ?_ ?_
   ·simp [Base.ev,SX.ev,evs,hF,e1,e2,t20,Value.oneCell']
   ·intro qs a1 w1' hq h1'
    refine ⟨nofun,fun _=>⟨.inr rfl,shWR,qs,[SX.var 2,SX.var 3,SX.var 0,SX.var 1],h1',by kernel_rfl,?_⟩⟩
    simp [evs,SX.ev,hF,e1,e2] at hq ⊢
    subst hq
    simp [tbl]
  | 4,_ =>
   refine Zan names_ok mixed_ok Zb5 w4 hsh ?_ ?_
   ·simp [Base.ev,SX.ev,evs,hF,e1,e2,t20,Value.oneCell']
   ·intro qs a1 w1' hq h1'
    refine ⟨nofun,fun _=>⟨.inr rfl,shWR,qs,[SX.var 2,SX.var 3,SX.var 0,SX.var 1],h1',by kernel_rfl,?_⟩⟩
    simp [evs,SX.ev,hF,e1,e2] at hq ⊢
    subst hq
    simp [tbl]
  | 5,_ =>
   refine Zan names_ok mixed_ok Zb5 w5 hsh ?_ ?_
   ·simp [Base.ev,SX.ev,evs,hF,e1,e2,t20,Value.oneCell']
   ·intro qs a1 w1' hq h1'
    refine ⟨nofun,fun _=>⟨.inr rfl,shWR,qs,[SX.var 2,SX.var 3,SX.var 0,SX.var 1],h1',by kernel_rfl,?_⟩⟩
    simp [evs,SX.ev,hF,e1,e2] at hq ⊢
    subst hq
    simp [tbl]
  | j+6,h=>omega

def wseq (l:List Nat):Nat->Nat->List (Int × ByteArray) × Nat
 | 0,n=>([],n)
 | c+1,n=>((wr1 l n).1 :: (wseq l c (wr1 l n).2).1,(wseq l c (wr1 l n).2).2)
def writes (l:List Nat) (n most:Nat):List (Int × ByteArray) × Nat:=wseq l (numV l n (most+1)) (numN l n)
theorem wseq_len (l:List Nat):∀ c n,(wseq l c n).1.length=c
 | 0,n=>rfl
 | c+1,n=>by simp [wseq,wseq_len l c]
theorem okW {l:List Nat} {n:Nat} (ok:OkP l n):OkP l (wr1 l n).2:=okN (okN ok)
def RWs (ps qs:List PV):Prop:=∃ (most n:Nat) (l:List Nat),most<=100/\OkP l n/\ps=[pI (most:Int),pRow encU l,pI (n:Int)]/\qs=[pRow encW (writes l n most).1,pRow encU l,pI ((writes l n most).2:Int)]
theorem fWs:∀ ps q1 q2,RWs ps q1->RWs ps q2->q1=q2:=by
 rintro ps q1 q2 ⟨m,n,l,_,_,rfl,rfl⟩ ⟨m',n',l',_,_,h,rfl⟩
 simp only [List.cons.injEq,PV.v.injEq,Value.int.injEq,true_and,and_true,Int.ofNat_inj] at h
 obtain ⟨rfl,h,rfl⟩:=h
 rw [fil.pRow_inj Zg9 h]
theorem r_catW (acc:List (Int × ByteArray)) (o:Int) (s:ByteArray):ropPV .cat [pRow encW acc,.row 1 [pI o,pS s]]=some (pRow encW (acc++[(o,s)])):=by
 simp [ropPV,pRow,Enc.all,encW]
theorem row1 (o:Int) (s:ByteArray):(PV.row 1 [pI o,pS s])=pRow encW [(o,s)]:=by simp [pRow,Enc.all,encW]
theorem F21 {n:Nat} {l:List Nat} (ok:OkP l n):F 21 [pRow encU l,pI (n:Int)]=some [pI (wr1 l n).1.1,pS (wr1 l n).1.2,pRow encU l,pI ((wr1 l n).2:Int)]:=Zbv fWr1 ⟨n,l,ok,rfl,rfl⟩
theorem t21:ToldP 16 (EWr1 21) (F 21):=toldWr1 21
def QWs (C:Base) (W:List (Int × ByteArray) × Nat) (l:List Nat) (e:Exit) (a':Act) (w':World):Prop:=e=.ret/\((W.1=[]/\Zao C shRn [pRow encU l,pI (W.2:Int)] a' w') \/ (W.1 ≠ []/\Zao C shRo [pRow encU l,pI (W.2:Int),pRow encW W.1] a' w'))
set_option maxHeartbeats 1000000 in
theorem coreWs {C:Base} (hF:C.F=F) {most n:Nat} {l:List Nat} (hm:most<=100) (ok:OkP l n) {a:Act} {w:World} (hsh:Zao C shS [pI (most:Int),pRow encU l,pI (n:Int)] a w):wpL Try.prog flS (QWs C (writes l n most) l) a w:=by
  show wpL Try.prog flS _ a w
  rw [cutS]
  have w1:IntKind.i64.wrap ((most:Int)+1)=((most+1:Nat):Int):=by rw [wrapI _ (by omega) (by omega)];rfl
  have e1:F 20 [pI ((most+1:Nat):Int),pRow encU l,pI (n:Int)]=some [pI (numV l n (most+1):Int),pRow encU l,pI (numN l n:Int)]:=F20 (by omega) (by omega) ok
  have hc:numV l n (most+1) < most+1:=numV_lt (by omega)
  generalize ((most+1:Nat):Int)=M at w1 e1
  obtain ⟨W,hW⟩:∃ W,W=writes l n most:=⟨_,rfl⟩
  rw [<- hW]
  have hW':W=wseq l (numV l n (most+1)) (numN l n):=hW
  clear hW
  refine Zan names_ok mixed_ok Zb5 preS hsh ?_ ?_
  ·simp only [fmC,fmN]
   simp only [Base.ev,SX.ev,evs,Zlz,Zl0,Zpa,Zpb,hF,binPV,decide_true,cond_true,Option.bind_some,Option.map_some,List.getElem?_cons_zero,List.getElem?_cons_succ,w1,e1,kNum]
   simp [t20,Value.oneCell',e1]
  ·intro qs a1 w1' hq h1
   refine ⟨fun _=>?_,fun h=>absurd rfl h⟩
   simp only [evs,SX.ev,hF,binPV,decide_true,cond_true,Option.bind_some,Option.map_some,List.getElem?_cons_zero,List.getElem?_cons_succ,w1,e1,Option.some.injEq] at hq
   subst hq
   refine Zhq (fun q a w=>∃ acc c n',OkP l n'/\q=c/\acc.length+c<=1000/\acc++(wseq l c n').1=W.1/\(wseq l c n').2=W.2/\((acc=[]/\Zao C shSn [pI (c:Int),pRow encU l,pI (n':Int)] a w) \/ acc ≠ []/\Zao C shSo [pI (c:Int),pRow encU l,pI (n':Int),pRow encW acc] a w)) ?_ (n:=numV l n (most+1)) ⟨[],numV l n (most+1),numN l n,okN ok,rfl,by simp;omega,by rw [hW'];rfl,by rw [hW'],.inl ⟨rfl,h1⟩⟩
   rintro c a w ⟨acc,_,n',ok',rfl,hac,hw1,hw2,hin⟩
   show wpL Try.prog lpS _ a w
   rw [<- List.append_nil lpS]
   have hex:∀ a w,((acc=[]/\Zao C shSn [pI 0,pRow encU l,pI (n':Int)] a w) \/ acc ≠ []/\Zao C shSo [pI 0,pRow encU l,pI (n':Int),pRow encW acc] a w)->acc=W.1->n'=W.2->wpL Try.prog (flS.drop 4) (QWs C W l) a w:=by
    intro a w hin2 ha hn
    rw [<- List.append_nil (flS.drop 4)]
    rcases hin2 with ⟨h0,hin2⟩ | ⟨h0,hin2⟩
    ·refine Zan names_ok mixed_ok Zb5 postN hin2 ?_ ?_
     ·simp [Base.ev,SX.ev,Value.oneCell']
     ·intro qs a2 w2 hq h2
      refine ⟨nofun,fun _=>⟨rfl,.inl ⟨by rw [<- ha,h0],?_⟩⟩⟩
      simp [evs,SX.ev] at hq
      subst hq
      rw [<- hn];exact h2
    ·refine Zan names_ok mixed_ok Zb5 postO hin2 ?_ ?_
     ·simp [Base.ev,SX.ev,Zaf,Value.oneCell']
     ·intro qs a2 w2 hq h2
      refine ⟨nofun,fun _=>⟨rfl,.inr ⟨by rw [<- ha];exact h0,?_⟩⟩⟩
      simp [evs,SX.ev] at hq
      subst hq
      rw [<- ha,<- hn];exact h2
   by_cases h0:c=0
   ·subst h0
    simp only [wseq,List.append_nil] at hw1 hw2
    rcases hin with ⟨ha,hin⟩ | ⟨ha,hin⟩
    ·refine Zan names_ok mixed_ok Zb5 exN hin ?_ ?_
     ·simp [Base.ev,SX.ev,binPV,Value.oneCell']
     ·intro qs a2 w2 hq h2
      refine ⟨nofun,fun _=>.inr (.inl ⟨by rw [show Zgi (nth flS 3)=0 by kernel_rfl];rfl,?_⟩)⟩
      simp [evs,SX.ev] at hq
      subst hq
      exact hex a2 w2 (.inl ⟨ha,h2⟩) hw1 hw2
    ·refine Zan names_ok mixed_ok Zb5 exO hin ?_ ?_
     ·simp [Base.ev,SX.ev,binPV,Zaf,Value.oneCell']
     ·intro qs a2 w2 hq h2
      refine ⟨nofun,fun _=>.inr (.inl ⟨by rw [show Zgi (nth flS 3)=0 by kernel_rfl];rfl,?_⟩)⟩
      simp [evs,SX.ev] at hq
      subst hq
      exact hex a2 w2 (.inr ⟨ha,h2⟩) hw1 hw2
   ·obtain ⟨c,rfl⟩:∃ d,c=d+1:=⟨c - 1,by omega⟩
    have e3:=F21 ok'
    have wc:IntKind.i64.wrap (((c+1:Nat):Int) - 1)=(c:Int):=by rw [wrapI _ (by omega) (by omega)];omega
    have hpos:decide (((c+1:Nat):Int) > 0)=true:=by simp only [decide_eq_true_eq];omega
    have hnext:∀ acc',acc'=acc++[(wr1 l n').1]->∀ a w,Zao C shSo [pI (c:Int),pRow encU l,pI ((wr1 l n').2:Int),pRow encW acc'] a w->∃ q',q' < c+1/\∃ acc c' n',OkP l n'/\q'=c'/\acc.length+c'<=1000/\acc++(wseq l c' n').1=W.1/\(wseq l c' n').2=W.2/\((acc=[]/\Zao C shSn [pI (c':Int),pRow encU l,pI (n':Int)] a w) \/ acc ≠ []/\Zao C shSo [pI (c':Int),pRow encU l,pI (n':Int),pRow encW acc] a w):=fun acc' ha a w h =>
     ⟨c,by omega,acc',c,_,okW ok',rfl,by rw [ha,List.length_append];simp only [List.length_singleton];omega,by rw [ha,<- hw1];simp [wseq],by rw [<- hw2];rfl,.inr ⟨by rw [ha];simp,h⟩⟩
    generalize (wr1 l n').2=n2 at *
    obtain ⟨⟨o,s⟩,hos⟩:∃ x:Int × ByteArray,x=(wr1 l n').1:=⟨_,rfl⟩
    rw [<- hos] at e3 hnext
    simp only at e3
    rcases hin with ⟨ha,hin⟩ | ⟨ha,hin⟩
    ·refine Zan names_ok mixed_ok Zb5 onN hin ?_ ?_
     ·simp only [fmC,fmN]
      simp only [Base.ev,SX.ev,evs,Zlz,holds_is,Zl0,fil.holds_rng,fil.holds_upto,fil.holds_same,Zpa,Zpb,hF,binPV,decide_true,cond_true,Option.bind_some,Option.map_some,List.getElem?_cons_zero,List.getElem?_cons_succ,wc,e3,kWr1,hpos,lenPV]
      simp [t21,Value.oneCell',e3]
      all_goals exact ⟨⟨_,_,⟨rfl,rfl⟩,by omega,by omega⟩,⟨1,rfl,by omega⟩,⟨1,rfl⟩⟩
     ·intro qs a2 w2 hq h2
      refine ⟨fun _=>.inl ⟨rfl,?_⟩,fun h=>absurd rfl h⟩
      simp only [evs,SX.ev,hF,binPV,decide_true,cond_true,Option.bind_some,Option.map_some,List.getElem?_cons_zero,List.getElem?_cons_succ,wc,e3,Option.some.injEq] at hq
      subst hq
      rw [row1] at h2
      exact hnext [(o,s)] (by rw [ha];rfl) a2 w2 h2
    ·refine Zan names_ok mixed_ok Zb5 onO hin ?_ ?_
     ·simp only [fmC,fmN]
      simp only [Base.ev,SX.ev,evs,Zlz,holds_is,Zl0,fil.holds_rng,fil.holds_upto,fil.holds_same,Zpa,Zpb,hF,binPV,decide_true,cond_true,Option.bind_some,Option.map_some,List.getElem?_cons_zero,List.getElem?_cons_succ,wc,e3,kWr1,hpos,Zaf,r_catW]
      simp [t21,Value.oneCell',e3]
      exact ⟨⟨acc.length+1,by omega,by omega⟩,⟨acc.length+1,by omega⟩⟩
     ·intro qs a2 w2 hq h2
      refine ⟨fun _=>.inl ⟨rfl,?_⟩,fun h=>absurd rfl h⟩
      simp only [evs,SX.ev,hF,binPV,decide_true,cond_true,Option.bind_some,Option.map_some,List.getElem?_cons_zero,List.getElem?_cons_succ,wc,e3,r_catW,Option.some.injEq] at hq
      subst hq
      exact hnext (acc++[(o,s)]) rfl a2 w2 h2
def EWo (k:Nat):PtrE:={ k:=k,elem:=54,cells:=2,ins:=[none],outs:=[none],kinds:=[.own 59 2 true,.row,.num] }
theorem toldWo (k:Nat):ToldP 15 (EWo k) (spec RWs):=by
 refine told_ptrO F _ (Zdy Try.prog 15) Try.func15 (by kernel_rfl) shS (by kernel_rfl) ?_ ?_
 ·intro ps qs h
  obtain ⟨m,n,l,_,_,rfl,rfl⟩:=Zbk h
  exact Zg1 rfl
 ·intro C ps qs hF h a w hsh
  obtain ⟨most,n,l,hm,ok,rfl,rfl⟩:=Zbk h
  refine wpL_mono _ ?_ (coreWs hF hm ok hsh)
  rintro e a' w' ⟨rfl,⟨h0,hin⟩ | ⟨h0,hin⟩⟩
  ·exact ⟨.inr rfl,shRn,_,[SX.lit 0 [],SX.var 0,SX.var 1],[],hin,by kernel_rfl,by rw [h0];rfl,fun i hi=>by simp at hi⟩
  ·refine ⟨.inr rfl,shRo,_,[SX.var 2,SX.var 0,SX.var 1],[0],hin,by kernel_rfl,rfl,fun i hi=>?_⟩
   simp only [List.mem_singleton] at hi
   subst hi
   obtain ⟨x,xs,hx⟩:=List.exists_cons_of_ne_nil h0
   rw [hx]
   exact ⟨xs.length,_,rfl⟩
@[simp] theorem kWo (k:Nat):(EWo k).k=k:=rfl
end Go.Proofs.Ytgdegpifjljnoaa.pck
end
section
/- What is written into files: what the laws of writes reckon with. -/
namespace Go.Proofs.Ytgdegpifjljnoaa.fileFronts
open Go Go.RowKit eng SX Fact fil pck
set_option linter.unusedVariables false
set_option linter.unusedSimpArgs false
set_option maxRecDepth 1000000

def bs (l:List UInt8):ByteArray:=⟨l.toArray⟩
def EPut (k:Nat):FnE:={ k:=k,ins:=[none,some 2],leaks:=[false,false,false],outs:=[none],kinds:=[.num] }
@[simp] theorem kPut (k:Nat):(EPut k).k=k:=rfl
@[simp] theorem holds_fn (B:Base) (f:FuncId) (E:FnE) (es:List SX):(Fact.fn f E es).holds B ↔ ToldF f E (B.F E.k)/\∃ ps qs,evs B.s B.F es=some ps/\B.F E.k ps=some qs:=Iff.rfl
@[simp] theorem kAll (k:Nat):(EAll k).k=k:=rfl
@[simp] theorem kWs (k:Nat):(EWs k).k=k:=rfl

@[simp] theorem ex_cast0 (p:Nat->Prop):(∃ a:Nat,(0:Int)=(a:Int)/\p a) ↔ p 0:=by
 constructor
 ·rintro ⟨a,h,hp⟩
  have:a=0:=by omega
  rw [this] at hp
  exact hp
 ·exact fun h=>⟨0,rfl,h⟩
@[simp] theorem Zac (B:Base) (e i:SX) (sz q:Nat):(Fact.idx e i sz q).holds B ↔ ∃ n cs k z,B.ev e=some (.row n cs)/\B.ev i=some (.v (.int k z))/\0<=z/\z < (n:Int)/\z.toNat * sz+q<=cs.length:=Iff.rfl
set_option maxHeartbeats 4000000 in
theorem encU_all:∀ zs:List Nat,encU.all zs=u8s zs
 | []=>rfl
 | z :: zs=>by
  rw [Enc.all_cons,encU_all zs]
  rfl
theorem rowU {w:World} {v:Value} {len:Nat} {Z:Nat->Int} (h:IsRow .u8 w v len Z):∃ l:List Nat,(∀ z ∈ l,z < 256)/\l.length<=9223372036854775807/\Reads w (pRow encU l) v:=by
 obtain ⟨zs,hzl,hz,hr⟩:=row_u8 h
 have hall:=encU_all zs
 obtain ⟨a,cap,rfl,h1,h2,h3⟩:=hr
 rw [u8s_length] at h1 h3
 have hm:=Zd9 h2
 refine ⟨zs,hz,by omega,(Zg2 encU).2 ⟨a,cap,by rw [u8s_length],h1,h2,fun h0=>?_⟩⟩
 obtain ⟨b,off,rfl,h4⟩:=h3 h0
 have hlt:0 < (u8s zs).length:=by rw [u8s_length];exact h0
 refine ⟨b,off,rfl,World.block_lt_of_cell? w ⟨b,off+0,none⟩ (h4 0 _ (List.getElem?_eq_getElem hlt)),fun i u hu=>?_⟩
 rw [hall] at hu
 exact h4 i u hu
end Go.Proofs.Ytgdegpifjljnoaa.fileFronts
end
