/- ImageAll by the symbolic engine. -/
import Derived.Test.YtefkakjegdjojaaGreatIlw
import Derived.Test.YtefkakjegdjojaaGreatFrameB
import Derived.OpenShut
import Derived.Test.YtefkakjegdjojaaGreatEng30
import Derived.Test.YtefkakjegdjojaaGreatItk
import Derived.Test.YtefkakjegdjojaaGreatIdd
namespace Go.Proofs.YtefkakjegdjojaaGreat.imageAll
open Go Go.RowKit eng SX Fact fil ima symD sta ise ieq
open ilw (ESmT made30)
open ipd (EPuI EDfI RPuI RDfI fPuI fDfI difI)
open itc (ETj RTj fTj)
open itk (RTi7 fTi7)
open idd (ESP RDf7 RSPq fDf7 fSPq)
open iti (ETi ansT)
open idf (encQ Zfj cellS)
open dirs (encF cellF FileM)
open fileFronts (Zae rowU)
open pck hiding F F20 F21
set_option linter.unusedVariables false
set_option linter.unusedSimpArgs false
set_option maxRecDepth 1000000

def EN4 (E:FnE):FnE:={ E with kinds:=[.row,.row,.num,.num] }
def tabA (f:FuncId):Option FnE:=cond (Nat.beq f 22) (some (EPuI 1)) (cond (Nat.beq f 23) (some (EN4 (ETj 2))) (cond (Nat.beq f 26) (some (EDfI 3)) (cond (Nat.beq f 20) (some (ESmT 5)) (cond (Nat.beq f 21) (some (ETrue 7)) (cond (Nat.beq f 17) (some (ESq 8)) (cond (Nat.beq f 18) (some (EPuI 9)) (cond (Nat.beq f 24) (some (EN4 (ETi 10))) (cond (Nat.beq f 27) (some (EDfI 11)) (cond (Nat.beq f 25) (some (ESP 12)) none)))))))))
def tabAP (f:FuncId):Option PtrE:=cond (Nat.beq f 16) (some (sta.ESt 24)) none
def orcA:Orc:=orcOr (orcFn tabA) (orcP tabAP)
def isOw (o:Oper):Bool:=match o.op with | .call { callee:=.builtin .append,.. }=>true | .indexAddr ..=>true | _=>false
def isLz (o:Oper):Bool:=match o.op with | .binOp ..=>false | .unOp ..=>false | _=>true
def hA (f:FuncId) (o:Oper):Option Hint:=cond (Nat.beq f 7) (cond (isOw o) (some .own) (cond (isLz o) (some .lazy) none)) none
noncomputable def flA:=flat (Zaq Tryz.prog 7)
noncomputable def lpA:=flat (Zaj (nth flA 6))
noncomputable def lpB:=flat (Zaj (nth flA 18))
def sh0:Shape:=⟨[(0,.leaf),(1,.leaf),(2,.leaf),(3,.leaf),(4,.leaf),(5,.leaf)],[],[some true,none,none,none,some true,none],148,7⟩
def shA:Shape:=⟨[(0,.leaf),(1,.leaf),(2,.leaf),(3,.leaf),(4,.leaf),(5,.leaf),(13,.leaf)],[],[some true,none,none,none,some true,none,none],148,7⟩
def shL:Shape:=⟨[(1,.leaf),(2,.leaf),(3,.leaf),(4,.leaf),(5,.leaf),(15,.leaf)],[],[none,none,none,some true,none,some true],148,7⟩
def shM:Shape:=⟨[(4,.leaf),(5,.leaf),(15,.leaf),(16,.leaf)],[],[some true,none,some true,some true],148,7⟩
def shE:Shape:=⟨[(12,.leaf)],[],[none],148,7⟩
def bitsN:Nat->Nat->List Nat
 | 0,_=>[]
 | n+1,k=>k % 2 :: bitsN n (k / 2)
@[simp] def Zd9:List SX:=[.fn 24 [.con (.int .i64 30),.var 0,.con (.int .i64 0)] 0,.fn 24 [.con (.int .i64 30),.var 0,.con (.int .i64 0)] 1,.fn 24 [.con (.int .i64 30),.var 0,.con (.int .i64 0)] 2]
@[simp] def Zd8:SX:=.bin .sub (.len (.var 2)) (rop ROp.min2 [.len (.var 2),.conv .i64 (.bin .rem (.var 1) (.con (.int .u8 3)))])
@[simp] def Zfa:SX:=rop ROp.min2 [.con (.int .i64 0),.con (.int .i64 0)]
@[simp] def Zi3:SX:=.bin .gtr (.len (.var 0)) (.con (.int .i64 60))
@[simp] def Zo6:SX:=.bin .gtr (.len (.var 4)) (.con (.int .i64 12))
@[simp] def zGreatIal6:SX:=rop ROp.neB [.fn 2 [SX.sub (.var 2) Zfa Zd8 1] 3,.fn 10 [SX.sub (.var 2) Zfa Zd8 1] 3]
@[simp] def Ze9:SX:=.con (.int .i64 0)
@[simp] def Zr2:SX:=.len (.fn 1 [.lit 0 [],.lit 0 [],Ze9] 0)
@[simp] def Zr1:List SX:=[.con (.int .i64 30),.var 0,Ze9]
theorem q1:segTo Tryz.prog orcA 10000 flA sh0 [1,1] shE []=some (.ret,[.fn 21 (ETrue 7) [],.is (.fn 7 [] 0) (.bool true),.ok (.len (.var 0)),.ok Zi3,.is Zi3 (.bool true),.ok (.con (.bool true))],[.con (.bool true)]):=by kernel_rfl
theorem q2:segTo Tryz.prog orcA 10000 flA sh0 [1,0,1] shE []=some (.ret,[.fn 21 (ETrue 7) [],.is (.fn 7 [] 0) (.bool true),.ok (.len (.var 0)),.ok Zi3,.is Zi3 (.bool false),.ok (.len (.var 4)),.ok Zo6,.is Zo6 (.bool true),.ok (.con (.bool true))],[.con (.bool true)]):=by kernel_rfl
theorem pre:segTo Tryz.prog orcA 10000 (flA.take 6) sh0 [1,0,0] shA [] hA=some (.normal,[.fn 21 (ETrue 7) [],.is (.fn 7 [] 0) (.bool true),.ok (.len (.var 0)),.ok Zi3,.is Zi3 (.bool false),.ok (.len (.var 4)),.ok Zo6,.is Zo6 (.bool false),.ok (.var 1),.ok (.var 2),.ok (.var 3),.ok (.var 5),.ok Ze9],[.var 0,.var 1,.var 2,.var 3,.var 4,.var 5,Ze9]):=by kernel_rfl
theorem mk1:segTo Tryz.prog orcA 10000 ((flA.drop 7).take 4) shA [1,0] shL [] hA=some (.normal,[.fp 16 (sta.ESt 24) Zr1,.ok (.fn 24 Zr1 2),.ok (.fn 24 Zr1 4),.fn 22 (EPuI 1) Zd9,.fn 18 (EPuI 9) Zd9,.fn 17 (ESq 8) [.fn 1 Zd9 0,.fn 9 Zd9 0],.is (.fn 8 [.fn 1 Zd9 0,.fn 9 Zd9 0] 0) (.bool true),.ok (.len (.fn 1 Zd9 0)),.ok (.bin .eql (.len (.fn 1 Zd9 0)) Ze9),.is (.bin .eql (.len (.fn 1 Zd9 0)) Ze9) (.bool false),.ok (.var 1),.ok (.var 2),.ok (.var 3),.ok (.var 5)],[.var 1,.var 2,.var 3,.var 4,.var 5,.fn 1 Zd9 0]):=by kernel_rfl
theorem mk2:segZ Tryz.prog orcA 10000 ((flA.drop 11).take 5) shL [] [16] shM [] hA=some ([cells (.var 5) 1,same (.len (.lit 0 [])) (.len (.lit 0 [])),upto (.len (rop ROp.cat [.lit 0 [],.var 5])) 4294967296,.ok (.conv .i64 (.var 0)),.ok (.bin .rem (.conv .i64 (.var 0)) (.len (rop ROp.cat [.lit 0 [],.var 5]))),rng (.bin .rem (.conv .i64 (.var 0)) (.len (rop ROp.cat [.lit 0 [],.var 5]))) (.len (rop ROp.cat [.lit 0 [],.var 5])),.idx (rop ROp.cat [.lit 0 [],.var 5]) (.bin .rem (.conv .i64 (.var 0)) (.len (rop ROp.cat [.lit 0 [],.var 5]))) 1 1,upto (.slen (.cell (rop ROp.cat [.lit 0 [],.var 5]) (.bin .rem (.conv .i64 (.var 0)) (.len (rop ROp.cat [.lit 0 [],.var 5]))) 1 0)) 4294967296,.ok (.conv .i64 (.var 1)),.ok (.bin .rem (.conv .i64 (.var 1)) (.len (rop ROp.ofStr [.cell (rop ROp.cat [.lit 0 [],.var 5]) (.bin .rem (.conv .i64 (.var 0)) (.len (rop ROp.cat [.lit 0 [],.var 5]))) 1 0]))),rng (.bin .rem (.conv .i64 (.var 1)) (.len (rop ROp.ofStr [.cell (rop ROp.cat [.lit 0 [],.var 5]) (.bin .rem (.conv .i64 (.var 0)) (.len (rop ROp.cat [.lit 0 [],.var 5]))) 1 0]))) (.len (rop ROp.ofStr [.cell (rop ROp.cat [.lit 0 [],.var 5]) (.bin .rem (.conv .i64 (.var 0)) (.len (rop ROp.cat [.lit 0 [],.var 5]))) 1 0])),.idx (rop ROp.ofStr [.cell (rop ROp.cat [.lit 0 [],.var 5]) (.bin .rem (.conv .i64 (.var 0)) (.len (rop ROp.cat [.lit 0 [],.var 5]))) 1 0]) (.bin .rem (.conv .i64 (.var 1)) (.len (rop ROp.ofStr [.cell (rop ROp.cat [.lit 0 [],.var 5]) (.bin .rem (.conv .i64 (.var 0)) (.len (rop ROp.cat [.lit 0 [],.var 5]))) 1 0]))) 1 1,.ok (.op (Op.binOp .xor 5 (Operand.tmp 82) (Operand.tmp 83) 5) 5 [82,83] [.cell (rop ROp.ofStr [.cell (rop ROp.cat [.lit 0 [],.var 5]) (.bin .rem (.conv .i64 (.var 0)) (.len (rop ROp.cat [.lit 0 [],.var 5]))) 1 0]) (.bin .rem (.conv .i64 (.var 1)) (.len (rop ROp.ofStr [.cell (rop ROp.cat [.lit 0 [],.var 5]) (.bin .rem (.conv .i64 (.var 0)) (.len (rop ROp.cat [.lit 0 [],.var 5]))) 1 0]))) 1 0,.var 2]),rng (.bin .rem (.conv .i64 (.var 1)) (.len (rop ROp.ofStr [.cell (rop ROp.cat [.lit 0 [],.var 5]) (.bin .rem (.conv .i64 (.var 0)) (.len (rop ROp.cat [.lit 0 [],.var 5]))) 1 0]))) (.len (rop ROp.ofStr [.cell (rop ROp.cat [.lit 0 [],.var 5]) (.bin .rem (.conv .i64 (.var 0)) (.len (rop ROp.cat [.lit 0 [],.var 5]))) 1 0])),.idx (rop ROp.ofStr [.cell (rop ROp.cat [.lit 0 [],.var 5]) (.bin .rem (.conv .i64 (.var 0)) (.len (rop ROp.cat [.lit 0 [],.var 5]))) 1 0]) (.bin .rem (.conv .i64 (.var 1)) (.len (rop ROp.ofStr [.cell (rop ROp.cat [.lit 0 [],.var 5]) (.bin .rem (.conv .i64 (.var 0)) (.len (rop ROp.cat [.lit 0 [],.var 5]))) 1 0]))) 1 1,same (.len (rop ROp.ofStr [.cell (rop ROp.cat [.lit 0 [],.var 5]) (.bin .rem (.conv .i64 (.var 0)) (.len (rop ROp.cat [.lit 0 [],.var 5]))) 1 0])) (.len (rop (ROp.upd 1 0) [rop ROp.ofStr [.cell (rop ROp.cat [.lit 0 [],.var 5]) (.bin .rem (.conv .i64 (.var 0)) (.len (rop ROp.cat [.lit 0 [],.var 5]))) 1 0],.bin .rem (.conv .i64 (.var 1)) (.len (rop ROp.ofStr [.cell (rop ROp.cat [.lit 0 [],.var 5]) (.bin .rem (.conv .i64 (.var 0)) (.len (rop ROp.cat [.lit 0 [],.var 5]))) 1 0])),.op (Op.binOp .xor 5 (Operand.tmp 82) (Operand.tmp 83) 5) 5 [82,83] [.cell (rop ROp.ofStr [.cell (rop ROp.cat [.lit 0 [],.var 5]) (.bin .rem (.conv .i64 (.var 0)) (.len (rop ROp.cat [.lit 0 [],.var 5]))) 1 0]) (.bin .rem (.conv .i64 (.var 1)) (.len (rop ROp.ofStr [.cell (rop ROp.cat [.lit 0 [],.var 5]) (.bin .rem (.conv .i64 (.var 0)) (.len (rop ROp.cat [.lit 0 [],.var 5]))) 1 0]))) 1 0,.var 2]])),.ok (rop ROp.toStr [rop (ROp.upd 1 0) [rop ROp.ofStr [.cell (rop ROp.cat [.lit 0 [],.var 5]) (.bin .rem (.conv .i64 (.var 0)) (.len (rop ROp.cat [.lit 0 [],.var 5]))) 1 0],.bin .rem (.conv .i64 (.var 1)) (.len (rop ROp.ofStr [.cell (rop ROp.cat [.lit 0 [],.var 5]) (.bin .rem (.conv .i64 (.var 0)) (.len (rop ROp.cat [.lit 0 [],.var 5]))) 1 0])),.op (Op.binOp .xor 5 (Operand.tmp 82) (Operand.tmp 83) 5) 5 [82,83] [.cell (rop ROp.ofStr [.cell (rop ROp.cat [.lit 0 [],.var 5]) (.bin .rem (.conv .i64 (.var 0)) (.len (rop ROp.cat [.lit 0 [],.var 5]))) 1 0]) (.bin .rem (.conv .i64 (.var 1)) (.len (rop ROp.ofStr [.cell (rop ROp.cat [.lit 0 [],.var 5]) (.bin .rem (.conv .i64 (.var 0)) (.len (rop ROp.cat [.lit 0 [],.var 5]))) 1 0]))) 1 0,.var 2]]]),rng (.bin .rem (.conv .i64 (.var 0)) (.len (rop ROp.cat [.lit 0 [],.var 5]))) (.len (rop ROp.cat [.lit 0 [],.var 5])),.idx (rop ROp.cat [.lit 0 [],.var 5]) (.bin .rem (.conv .i64 (.var 0)) (.len (rop ROp.cat [.lit 0 [],.var 5]))) 1 1,same (.len (rop ROp.cat [.lit 0 [],.var 5])) (.len (rop (ROp.upd 1 0) [rop ROp.cat [.lit 0 [],.var 5],.bin .rem (.conv .i64 (.var 0)) (.len (rop ROp.cat [.lit 0 [],.var 5])),rop ROp.toStr [rop (ROp.upd 1 0) [rop ROp.ofStr [.cell (rop ROp.cat [.lit 0 [],.var 5]) (.bin .rem (.conv .i64 (.var 0)) (.len (rop ROp.cat [.lit 0 [],.var 5]))) 1 0],.bin .rem (.conv .i64 (.var 1)) (.len (rop ROp.ofStr [.cell (rop ROp.cat [.lit 0 [],.var 5]) (.bin .rem (.conv .i64 (.var 0)) (.len (rop ROp.cat [.lit 0 [],.var 5]))) 1 0])),.op (Op.binOp .xor 5 (Operand.tmp 82) (Operand.tmp 83) 5) 5 [82,83] [.cell (rop ROp.ofStr [.cell (rop ROp.cat [.lit 0 [],.var 5]) (.bin .rem (.conv .i64 (.var 0)) (.len (rop ROp.cat [.lit 0 [],.var 5]))) 1 0]) (.bin .rem (.conv .i64 (.var 1)) (.len (rop ROp.ofStr [.cell (rop ROp.cat [.lit 0 [],.var 5]) (.bin .rem (.conv .i64 (.var 0)) (.len (rop ROp.cat [.lit 0 [],.var 5]))) 1 0]))) 1 0,.var 2]]]])),.ok (.var 4)],[.var 3,.var 4,.var 5,rop (ROp.upd 1 0) [rop ROp.cat [.lit 0 [],.var 5],.bin .rem (.conv .i64 (.var 0)) (.len (rop ROp.cat [.lit 0 [],.var 5])),rop ROp.toStr [rop (ROp.upd 1 0) [rop ROp.ofStr [.cell (rop ROp.cat [.lit 0 [],.var 5]) (.bin .rem (.conv .i64 (.var 0)) (.len (rop ROp.cat [.lit 0 [],.var 5]))) 1 0],.bin .rem (.conv .i64 (.var 1)) (.len (rop ROp.ofStr [.cell (rop ROp.cat [.lit 0 [],.var 5]) (.bin .rem (.conv .i64 (.var 0)) (.len (rop ROp.cat [.lit 0 [],.var 5]))) 1 0])),.op (Op.binOp .xor 5 (Operand.tmp 82) (Operand.tmp 83) 5) 5 [82,83] [.cell (rop ROp.ofStr [.cell (rop ROp.cat [.lit 0 [],.var 5]) (.bin .rem (.conv .i64 (.var 0)) (.len (rop ROp.cat [.lit 0 [],.var 5]))) 1 0]) (.bin .rem (.conv .i64 (.var 1)) (.len (rop ROp.ofStr [.cell (rop ROp.cat [.lit 0 [],.var 5]) (.bin .rem (.conv .i64 (.var 0)) (.len (rop ROp.cat [.lit 0 [],.var 5]))) 1 0]))) 1 0,.var 2]]]]]):=by kernel_rfl
def z1:List SX:=[.fn 2 [.var 2] 0,.fn 2 [.var 2] 1,.fn 2 [.var 2] 2,.fn 10 [.var 2] 0,.fn 10 [.var 2] 1,.fn 10 [.var 2] 2]
def z2:List SX:=[.fn 2 [.var 3] 0,.fn 2 [.var 3] 1,.fn 2 [.var 3] 2,.fn 10 [.var 3] 0,.fn 10 [.var 3] 1,.fn 10 [.var 3] 2]
def z3:List SX:=[.fn 2 [.var 0] 0,.fn 2 [.var 0] 1,.fn 2 [.var 0] 2,.fn 10 [.var 0] 0,.fn 10 [.var 0] 1,.fn 10 [.var 0] 2]
def z4:List SX:=[.fn 2 [SX.sub (.var 2) (rop ROp.min2 [.con (.int .i64 0),.con (.int .i64 0)]) (.bin .sub (.len (.var 2)) (rop ROp.min2 [.len (.var 2),.conv .i64 (.bin .rem (.var 1) (.con (.int .u8 3)))])) 1] 0,.fn 2 [SX.sub (.var 2) (rop ROp.min2 [.con (.int .i64 0),.con (.int .i64 0)]) (.bin .sub (.len (.var 2)) (rop ROp.min2 [.len (.var 2),.conv .i64 (.bin .rem (.var 1) (.con (.int .u8 3)))])) 1] 1,.fn 2 [SX.sub (.var 2) (rop ROp.min2 [.con (.int .i64 0),.con (.int .i64 0)]) (.bin .sub (.len (.var 2)) (rop ROp.min2 [.len (.var 2),.conv .i64 (.bin .rem (.var 1) (.con (.int .u8 3)))])) 1] 2,.fn 10 [SX.sub (.var 2) (rop ROp.min2 [.con (.int .i64 0),.con (.int .i64 0)]) (.bin .sub (.len (.var 2)) (rop ROp.min2 [.len (.var 2),.conv .i64 (.bin .rem (.var 1) (.con (.int .u8 3)))])) 1] 0,.fn 10 [SX.sub (.var 2) (rop ROp.min2 [.con (.int .i64 0),.con (.int .i64 0)]) (.bin .sub (.len (.var 2)) (rop ROp.min2 [.len (.var 2),.conv .i64 (.bin .rem (.var 1) (.con (.int .u8 3)))])) 1] 1,.fn 10 [SX.sub (.var 2) (rop ROp.min2 [.con (.int .i64 0),.con (.int .i64 0)]) (.bin .sub (.len (.var 2)) (rop ROp.min2 [.len (.var 2),.conv .i64 (.bin .rem (.var 1) (.con (.int .u8 3)))])) 1] 2]
def z5:List SX:=[.fn 3 [.var 2,.var 3] 0,.fn 11 [.var 2,.var 3] 0]
theorem en:segTo Tryz.prog orcA 10000 (flA.drop 16) shM [0,1,0,1,0,1,0,1,1,1] shE [] hA=some (.ret,[.ok (.len (.var 2)),.ok (.len (.var 2)),.ok (.bin .rem (.var 1) (.con (.int .u8 3))),.ok (.conv .i64 (.bin .rem (.var 1) (.con (.int .u8 3)))),.ok (rop ROp.min2 [.len (.var 2),.conv .i64 (.bin .rem (.var 1) (.con (.int .u8 3)))]),.ok Zd8,le3 Zfa Zd8 (.len (.var 2)),.fn 23 (EN4 (ETj 2)) [.var 2],.ok (.fn 2 [.var 2] 2),.ok (.fn 2 [.var 2] 3),.fn 24 (EN4 (ETi 10)) [.var 2],.ok (.fn 10 [.var 2] 2),.ok (.fn 10 [.var 2] 3),.ok (rop ROp.neB [.fn 2 [.var 2] 3,.fn 10 [.var 2] 3]),.is (rop ROp.neB [.fn 2 [.var 2] 3,.fn 10 [.var 2] 3]) (.bool false),.fn 20 (ESmT 5) z1,.is (.fn 5 z1 0) (.bool true),.fn 23 (EN4 (ETj 2)) [.var 3],.ok (.fn 2 [.var 3] 2),.ok (.fn 2 [.var 3] 3),.fn 24 (EN4 (ETi 10)) [.var 3],.ok (.fn 10 [.var 3] 2),.ok (.fn 10 [.var 3] 3),.ok (rop ROp.neB [.fn 2 [.var 3] 3,.fn 10 [.var 3] 3]),.is (rop ROp.neB [.fn 2 [.var 3] 3,.fn 10 [.var 3] 3]) (.bool false),.fn 20 (ESmT 5) z2,.is (.fn 5 z2 0) (.bool true),.fn 23 (EN4 (ETj 2)) [.var 0],.ok (.fn 2 [.var 0] 2),.ok (.fn 2 [.var 0] 3),.fn 24 (EN4 (ETi 10)) [.var 0],.ok (.fn 10 [.var 0] 2),.ok (.fn 10 [.var 0] 3),.ok (rop ROp.neB [.fn 2 [.var 0] 3,.fn 10 [.var 0] 3]),.is (rop ROp.neB [.fn 2 [.var 0] 3,.fn 10 [.var 0] 3]) (.bool false),.fn 20 (ESmT 5) z3,.is (.fn 5 z3 0) (.bool true),.fn 23 (EN4 (ETj 2)) [SX.sub (.var 2) Zfa Zd8 1],.ok (.fn 2 [SX.sub (.var 2) Zfa Zd8 1] 2),.ok (.fn 2 [SX.sub (.var 2) Zfa Zd8 1] 3),.fn 24 (EN4 (ETi 10)) [SX.sub (.var 2) Zfa Zd8 1],.ok (.fn 10 [SX.sub (.var 2) Zfa Zd8 1] 2),.ok (.fn 10 [SX.sub (.var 2) Zfa Zd8 1] 3),.ok zGreatIal6,.is zGreatIal6 (.bool false),.fn 20 (ESmT 5) z4,.is (.fn 5 z4 0) (.bool true),.fn 26 (EDfI 3) [.var 2,.var 3],.fn 27 (EDfI 11) [.var 2,.var 3],.fn 25 (ESP 12) z5,.is (.fn 12 z5 0) (.bool true),.fn 22 (EPuI 1) [.lit 0 [],.lit 0 [],Ze9],.ok Zr2,.ok (.bin .eql Zr2 Ze9),.is (.bin .eql Zr2 Ze9) (.bool true),.ok (.con (.bool true))],[.con (.bool true)]):=by kernel_rfl

noncomputable def G:Fns:=fun k=>match k with | 1=>spec RPuI | 2=>spec RTj | 3=>spec RDfI | 5=>spec RSmS | 7=>spec RTrue | 8=>spec RSq | 9=>spec RPuI | 10=>spec RTi7 | 11=>spec RDf7 | 12=>spec RSPq | 24=>spec RSt | _=>fun _=>none
theorem u1:ToldF 22 (EPuI 1) (G 1):=ipd.toldPuI 1
theorem u2:ToldF 23 (EN4 (ETj 2)) (G 2):=Zlb (itc.toldTj 2) rfl rfl rfl rfl rfl
theorem u3:ToldF 26 (EDfI 3) (G 3):=ipd.toldDfI 3
theorem u8:ToldF 17 (ESq 8) (G 8):=ist.toldSt5 8
theorem u9:ToldF 18 (EPuI 9) (G 9):=imp.toldPuID 9
theorem u10:ToldF 24 (EN4 (ETi 10)) (G 10):=Zlb (itk.toldTi7 10) rfl rfl rfl rfl rfl
theorem u11:ToldF 27 (EDfI 11) (G 11):=idd.toldDf7 11
theorem u12:ToldF 25 (ESP 12) (G 12):=idd.toldSPq 12
@[simp] theorem kN4 (E:FnE):(EN4 E).k=E.k:=rfl
@[simp] theorem kTj (k:Nat):(ETj k).k=k:=rfl
@[simp] theorem kESP (k:Nat):(ESP k).k=k:=rfl
@[simp] theorem kSt24 (k:Nat):(sta.ESt k).k=k:=rfl
theorem cutA:flA=flA.take 6++.block (Zao (nth flA 6)) (.loop (Zaj (nth flA 6))) :: ((flA.drop 7).take 4++((flA.drop 11).take 5++flA.drop 16)):=by kernel_rfl
def s00:StM:=⟨[],[],0⟩
def ansS (o:Option StM):StM:=o.getD s00
theorem ans_eq (o:Option StM):ansT o=[pRow encF (ansS o).files,pRow encM (ansS o).marks,pI (ansS o).epoch,pB o.isSome]:=by cases o <;> rfl
theorem ans_small (l:List ByteArray):(ansS (takeI l)).files.length<=1000000/\(ansS (takeI l)).marks.length<=1000000:=by
 cases h:takeI l with
 | none=>exact ⟨by simp [ansS,s00],by simp [ansS,s00]⟩
 | some s =>
  have:=(Zjc.1 h).1
  exact ⟨by show s.files.length<=_;rw [this.fl];omega,by show s.marks.length<=_;rw [this.ml];omega⟩
theorem both (l:List ByteArray) (hl:l.length<=1000) (hs:∀ a ∈ l,a.size<=1000):∃ (x y:PV) (e:Int) (b:Bool),G 2 [pRow encS l]=some [x,y,pI e,pB b]/\G 10 [pRow encS l]=some [x,y,pI e,pB b]/\G 5 [x,y,pI e,x,y,pI e]=some [pB true]/\ropPV .neB [pB b,pB b]=some (pB false):=by
 obtain ⟨h1,h2⟩:=ans_small l
 refine ⟨_,_,_,_,Zap fTj ⟨l,by omega,rfl,(ans_eq (takeI l)).symm⟩,Zap fTi7 ⟨l,hl,hs,rfl,(ans_eq (takeI l)).symm⟩,Zap fSmS ⟨ansS (takeI l),ansS (takeI l),h1,h2,h1,h2,rfl,by rw [sameS_iff.2 rfl]⟩,by cases (takeI l).isSome <;> rfl⟩

end Go.Proofs.YtefkakjegdjojaaGreat.imageAll
