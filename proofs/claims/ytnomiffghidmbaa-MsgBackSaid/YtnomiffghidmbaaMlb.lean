/- MsgBack by the symbolic engine. -/
import Derived.Test.YtnomiffghidmbaaMlf
import Derived.Test.YtnomiffghidmbaaEng31
namespace Go.Proofs.Ytnomiffghidmbaa.msgBack
open Go Go.RowKit eng SX Fact fil ima symD msm mlw mlf
open fileFronts (Zac rowU)
open pck (OkP encU)
open mws (aP ESa)
open myt (tP eqI_v eqS_v)
open mpa (EPa)
open mpt (EPt)
open mtk (EKa EKt qbx tbx)
open mka2 (mkA)
open mkt (EMk mkT Znq)
open mkm (Zlo)
set_option linter.unusedVariables false
set_option linter.unusedSimpArgs false
set_option maxRecDepth 1000000
def isAp (o:Op):Bool:=match o with | .call c=>(match c.callee with | .builtin .append=>true | _=>false) | _=>false
def hB (_:FuncId) (o:Oper):Option Hint:=match o.op with | .binOp .neq 27 _ _ _=>some .parts | x=>cond (isAp x) (some .own) none
def tabB (f:FuncId):Option FnE:=cond (Nat.beq f 23) (some (EKaF 14)) (cond (Nat.beq f 25) (some (EKtF 15)) (cond (Nat.beq f 18) (some (ESa 7)) none))
noncomputable def flB:=flat (Zam Try.prog 4)
def shB:Shape:=⟨[(0,.leaf),(1,.leaf),(2,.leaf),(3,.leaf),(4,.leaf)],[],[some true,some true,none,none,none],188,4⟩
def shM:Shape:=⟨[(2,.leaf),(3,.leaf),(4,.leaf),(11,.ptr 0 0 0 0),(12,.ptr 1 0 0 0),(13,.leaf),(14,.leaf),(15,.ptr 2 0 0 0),(16,.leaf),(17,.ptr 3 0 0 0),(18,.leaf)],[qbx,tbx,qbx,tbx],[none,none,none,some false,some false,none,none,none,none,none,none,none,none,none,some false,none,none,none,none,none,none,none,none,none,none,none,none,none,none,none,none,some false,none,none,none,none,none,none,none,none,none],188,4⟩
def shBR:Shape:=⟨[(10,.leaf)],[],[none],188,4⟩
def z1:List SX:=[.fn 8 [.var 0,.con (.int .i64 0)] 0,.fn 8 [.var 0,.con (.int .i64 0)] 1,.fn 8 [.var 0,.con (.int .i64 0)] 2,.fn 8 [.var 0,.con (.int .i64 0)] 3,.fn 8 [.var 0,.con (.int .i64 0)] 4,.fn 8 [.var 0,.con (.int .i64 0)] 5,.fn 8 [.var 0,.con (.int .i64 0)] 6,.fn 8 [.var 0,.con (.int .i64 0)] 7]
def z2:List SX:=[.fn 9 [.var 1,.con (.int .i64 0)] 0,.fn 9 [.var 1,.con (.int .i64 0)] 1,.fn 9 [.var 1,.con (.int .i64 0)] 2,.fn 9 [.var 1,.con (.int .i64 0)] 3,.fn 9 [.var 1,.con (.int .i64 0)] 4,.fn 9 [.var 1,.con (.int .i64 0)] 5,.fn 9 [.var 1,.con (.int .i64 0)] 6,.fn 9 [.var 1,.con (.int .i64 0)] 7,.fn 9 [.var 1,.con (.int .i64 0)] 8]
def z3:List SX:=[.fn 2 z1 0]
def z4:List SX:=[.fn 3 z2 0]
@[simp] def zMlb1:SX:=rop (ROp.upd 1 0) [rop ROp.cat [.lit 0 [],.var 4],.bin .rem (.conv .i64 (.var 0)) (.len (rop ROp.cat [.lit 0 [],.var 4])),.op (Op.binOp .xor 5 (Operand.tmp 168) (Operand.tmp 169) 5) 5 [168,169] [.cell (rop ROp.cat [.lit 0 [],.var 4]) (.bin .rem (.conv .i64 (.var 0)) (.len (rop ROp.cat [.lit 0 [],.var 4]))) 1 0,.var 1]]
@[simp] def zMlb2:SX:=rop (ROp.upd 1 0) [rop ROp.cat [.lit 0 [],.var 3],.bin .rem (.conv .i64 (.var 0)) (.len (rop ROp.cat [.lit 0 [],.var 3])),.op (Op.binOp .xor 5 (Operand.tmp 157) (Operand.tmp 158) 5) 5 [157,158] [.cell (rop ROp.cat [.lit 0 [],.var 3]) (.bin .rem (.conv .i64 (.var 0)) (.len (rop ROp.cat [.lit 0 [],.var 3]))) 1 0,.var 1]]
@[simp] def zMlb3:SX:=rop ROp.min2 [.con (.int .i64 0),.con (.int .i64 0)]
@[simp] def zMlb4:SX:=rop ROp.cat [rop ROp.cat [.lit 0 [],.var 4],.lit 1 [.var 2]]
@[simp] def zMlb5:SX:=rop ROp.cat [rop ROp.cat [.lit 0 [],.var 3],.lit 1 [.var 2]]
@[simp] def zMlb6:SX:=.bin .rem (.conv .i64 (.var 0)) (.len (.var 4))
@[simp] def zMlb7:SX:=rop ROp.notB [rop ROp.allB [rop ROp.eqI [.var 32,.var 15],rop ROp.eqI [.var 33,.var 16],rop ROp.eqI [.var 34,.var 17],rop ROp.eqI [.var 35,.var 18],rop ROp.eqI [.var 36,.var 19],rop ROp.eqI [.var 37,.var 20],rop ROp.eqI [.var 38,.var 21],rop ROp.eqI [.var 39,.var 22],rop ROp.eqS [.var 40,.var 23]]]
@[simp] def zMlb8:SX:=.bin .rem (.conv .i64 (.var 0)) (.len (.var 3))
@[simp] def zMlb9:SX:=.con (.int .i64 0)
@[simp] def Zh0:SX:=.len (rop ROp.cat [.lit 0 [],.var 3])
@[simp] def Zhz:SX:=.len (rop ROp.cat [.lit 0 [],.var 4])
@[simp] def Ztk:List SX:=[.var 24,.var 25,.var 26,.var 27,.var 28,.var 29,.var 30,.var 31,.var 7,.var 8,.var 9,.var 10,.var 11,.var 12,.var 13,.var 14]
@[simp] def Zbv:List SX:=[.var 1,zMlb9]
@[simp] def Zmg:SX:=.conv .i64 (.var 0)
@[simp] def Zck:List SX:=[.var 0,zMlb9]
@[simp] def Zou:SX:=.bin .gtr (.len (.var 0)) (.con (.int .i64 20))
@[simp] def Zot:Fact:=same (.len (.lit 0 [])) (.len (.lit 0 []))
@[simp] def Ztj:SX:=.bin .gtr (.len (.var 1)) (.con (.int .i64 20))
@[simp] def Zhl:SX:=.con (.bool true)
@[simp] def Zti:SX:=.bin .eql (.var 1) (.con (.int .u8 0))
@[simp] def Zos:SX:=.bin .rem Zmg Zh0
@[simp] def Zor:SX:=.bin .rem Zmg Zhz
@[simp] def zMlb23:Fact:=.is (.fn 14 [SX.sub (.var 3) zMlb3 zMlb8 1] 8) (.bool false)
@[simp] def zMlb24:Fact:=.is (.fn 15 [SX.sub (.var 4) zMlb3 zMlb6 1] 9) (.bool false)
@[simp] def Zvi:SX:=rop ROp.cat [.lit 0 [],.var 3]
@[simp] def Zvh:SX:=rop ROp.cat [.lit 0 [],.var 4]
theorem q1:segTo Try.prog orcL 10000 flB shB [1,1] shBR []=some (.ret,[.fn 8 (ETrue 1) [],.is (.fn 1 [] 0) (.bool true),.ok (.len (.var 0)),.ok Zou,.is Zou (.bool true),.ok Zhl],[Zhl]):=by kernel_rfl
theorem q2:segTo Try.prog orcL 10000 flB shB [1,0,1] shBR []=some (.ret,[.fn 8 (ETrue 1) [],.is (.fn 1 [] 0) (.bool true),.ok (.len (.var 0)),.ok Zou,.is Zou (.bool false),.ok (.len (.var 1)),.ok Ztj,.is Ztj (.bool true),.ok Zhl],[Zhl]):=by kernel_rfl
theorem pre:segTo Try.prog orcL 10000 (flB.take 11) shB [1,0,0,0,0,1,1] shM [(7,0),(8,0),(12,0),(13,0)] hB=some (.normal,[.fn 8 (ETrue 1) [],.is (.fn 1 [] 0) (.bool true),.ok (.len (.var 0)),.ok Zou,.is Zou (.bool false),.ok (.len (.var 1)),.ok Ztj,.is Ztj (.bool false),.fp 11 (EAkR 8) Zck,.ok (.fn 8 Zck 0),.ok (.fn 8 Zck 1),.ok (.fn 8 Zck 2),.ok (.fn 8 Zck 3),.ok (.fn 8 Zck 4),.ok (.fn 8 Zck 5),.ok (.fn 8 Zck 6),.ok (.fn 8 Zck 9),.fp 12 (EMk 9) Zbv,.ok (.fn 9 Zbv 0),.ok (.fn 9 Zbv 1),.ok (.fn 9 Zbv 2),.ok (.fn 9 Zbv 3),.ok (.fn 9 Zbv 4),.ok (.fn 9 Zbv 5),.ok (.fn 9 Zbv 6),.ok (.fn 9 Zbv 7),.ok (.fn 9 Zbv 8),.ok (.fn 9 Zbv 10),.fn 15 (EPa 2) z1,.fn 21 (EPt 3) z2,.ok (.len (.fn 2 z1 0)),.ok (.bin .lss (.len (.fn 2 z1 0)) (.con (.int .i64 10))),.is (.bin .lss (.len (.fn 2 z1 0)) (.con (.int .i64 10))) (.bool false),.ok (.len (.fn 3 z2 0)),.ok (.bin .lss (.len (.fn 3 z2 0)) (.con (.int .i64 10))),.is (.bin .lss (.len (.fn 3 z2 0)) (.con (.int .i64 10))) (.bool false),.fn 23 (EKa 4) z3,.ok (.fn 4 z3 0),.ok (.fn 4 z3 1),.ok (.fn 4 z3 2),.ok (.fn 4 z3 3),.ok (.fn 4 z3 4),.ok (.fn 4 z3 5),.ok (.fn 4 z3 6),.is (.fn 4 z3 8) (.bool true),.fn 25 (EKt 5) z4,.ok (.fn 5 z4 0),.ok (.fn 5 z4 1),.ok (.fn 5 z4 2),.ok (.fn 5 z4 3),.ok (.fn 5 z4 4),.ok (.fn 5 z4 5),.ok (.fn 5 z4 6),.ok (.fn 5 z4 7),.ok (.fn 5 z4 8),.is (.fn 5 z4 9) (.bool true),.ok (.var 2),.ok (.var 3),.ok (.var 4),.ok Zhl,.ok Zhl,.ok (.fn 8 Zck 0),.ok (.fn 8 Zck 1),.ok (.fn 8 Zck 2),.ok (.fn 8 Zck 3),.ok (.fn 8 Zck 4),.ok (.fn 8 Zck 5),.ok (.fn 8 Zck 6),.ok (.fn 9 Zbv 0),.ok (.fn 9 Zbv 1),.ok (.fn 9 Zbv 2),.ok (.fn 9 Zbv 3),.ok (.fn 9 Zbv 4),.ok (.fn 9 Zbv 5),.ok (.fn 9 Zbv 6),.ok (.fn 9 Zbv 7),.ok (.fn 9 Zbv 8),.ok (.fn 4 z3 0),.ok (.fn 4 z3 1),.ok (.fn 4 z3 2),.ok (.fn 4 z3 3),.ok (.fn 4 z3 4),.ok (.fn 4 z3 5),.ok (.fn 4 z3 6),.ok (.fn 5 z4 0),.ok (.fn 5 z4 1),.ok (.fn 5 z4 2),.ok (.fn 5 z4 3),.ok (.fn 5 z4 4),.ok (.fn 5 z4 5),.ok (.fn 5 z4 6),.ok (.fn 5 z4 7),.ok (.fn 5 z4 8)],[.var 2,.var 3,.var 4,.fn 2 z1 0,.fn 3 z2 0,Zhl,Zhl,.fn 8 Zck 0,.fn 8 Zck 1,.fn 8 Zck 2,.fn 8 Zck 3,.fn 8 Zck 4,.fn 8 Zck 5,.fn 8 Zck 6,.fn 8 Zck 7,.fn 9 Zbv 0,.fn 9 Zbv 1,.fn 9 Zbv 2,.fn 9 Zbv 3,.fn 9 Zbv 4,.fn 9 Zbv 5,.fn 9 Zbv 6,.fn 9 Zbv 7,.fn 9 Zbv 8,.fn 4 z3 0,.fn 4 z3 1,.fn 4 z3 2,.fn 4 z3 3,.fn 4 z3 4,.fn 4 z3 5,.fn 4 z3 6,.fn 4 z3 7,.fn 5 z4 0,.fn 5 z4 1,.fn 5 z4 2,.fn 5 z4 3,.fn 5 z4 4,.fn 5 z4 5,.fn 5 z4 6,.fn 5 z4 7,.fn 5 z4 8]):=by kernel_rfl
theorem b0:segTo Try.prog (orcFn tabB) 10000 (flB.drop 11) shM [0,0,0,0,1,1,1,0,1] shBR [] hB=some (.ret,[.ok Zmg,.ok (.len (.var 3)),.ok zMlb8,le3 zMlb3 zMlb8 (.len (.var 3)),.fn 23 (EKaF 14) [SX.sub (.var 3) zMlb3 zMlb8 1],.ok (.fn 14 [SX.sub (.var 3) zMlb3 zMlb8 1] 0),.ok (.fn 14 [SX.sub (.var 3) zMlb3 zMlb8 1] 1),.ok (.fn 14 [SX.sub (.var 3) zMlb3 zMlb8 1] 2),.ok (.fn 14 [SX.sub (.var 3) zMlb3 zMlb8 1] 3),.ok (.fn 14 [SX.sub (.var 3) zMlb3 zMlb8 1] 4),.ok (.fn 14 [SX.sub (.var 3) zMlb3 zMlb8 1] 5),.ok (.fn 14 [SX.sub (.var 3) zMlb3 zMlb8 1] 6),zMlb23,.ok Zmg,.ok (.len (.var 4)),.ok zMlb6,le3 zMlb3 zMlb6 (.len (.var 4)),.fn 25 (EKtF 15) [SX.sub (.var 4) zMlb3 zMlb6 1],.ok (.fn 15 [SX.sub (.var 4) zMlb3 zMlb6 1] 0),.ok (.fn 15 [SX.sub (.var 4) zMlb3 zMlb6 1] 1),.ok (.fn 15 [SX.sub (.var 4) zMlb3 zMlb6 1] 2),.ok (.fn 15 [SX.sub (.var 4) zMlb3 zMlb6 1] 3),.ok (.fn 15 [SX.sub (.var 4) zMlb3 zMlb6 1] 4),.ok (.fn 15 [SX.sub (.var 4) zMlb3 zMlb6 1] 5),.ok (.fn 15 [SX.sub (.var 4) zMlb3 zMlb6 1] 6),.ok (.fn 15 [SX.sub (.var 4) zMlb3 zMlb6 1] 7),.ok (.fn 15 [SX.sub (.var 4) zMlb3 zMlb6 1] 8),zMlb24,cells (.var 3) 1,Zot,upto Zh0 4294967296,same Zh0 Zh0,upto (.len zMlb5) 4294967296,.fn 23 (EKaF 14) [zMlb5],same (.len zMlb5) (.len zMlb5),.ok (.fn 14 [zMlb5] 0),.ok (.fn 14 [zMlb5] 1),.ok (.fn 14 [zMlb5] 2),.ok (.fn 14 [zMlb5] 3),.ok (.fn 14 [zMlb5] 4),.ok (.fn 14 [zMlb5] 5),.ok (.fn 14 [zMlb5] 6),.is (.fn 14 [zMlb5] 8) (.bool false),cells (.var 4) 1,Zot,upto Zhz 4294967296,same Zhz Zhz,upto (.len zMlb4) 4294967296,.fn 25 (EKtF 15) [zMlb4],same (.len zMlb4) (.len zMlb4),.ok (.fn 15 [zMlb4] 0),.ok (.fn 15 [zMlb4] 1),.ok (.fn 15 [zMlb4] 2),.ok (.fn 15 [zMlb4] 3),.ok (.fn 15 [zMlb4] 4),.ok (.fn 15 [zMlb4] 5),.ok (.fn 15 [zMlb4] 6),.ok (.fn 15 [zMlb4] 7),.ok (.fn 15 [zMlb4] 8),.is (.fn 15 [zMlb4] 9) (.bool false),.is (.var 5) (.bool true),.fn 18 (ESa 7) Ztk,.is (.fn 7 Ztk 0) (.bool true),.is (.var 6) (.bool true),.ok zMlb7,.is zMlb7 (.bool false),.ok Zti,.is Zti (.bool true),.ok Zhl],[Zhl]):=by kernel_rfl
theorem b1:segTo Try.prog (orcFn tabB) 10000 (flB.drop 11) shM [0,0,0,0,1,1,1,0,0,0,0] shBR [] hB=some (.ret,[.ok Zmg,.ok (.len (.var 3)),.ok zMlb8,le3 zMlb3 zMlb8 (.len (.var 3)),.fn 23 (EKaF 14) [SX.sub (.var 3) zMlb3 zMlb8 1],.ok (.fn 14 [SX.sub (.var 3) zMlb3 zMlb8 1] 0),.ok (.fn 14 [SX.sub (.var 3) zMlb3 zMlb8 1] 1),.ok (.fn 14 [SX.sub (.var 3) zMlb3 zMlb8 1] 2),.ok (.fn 14 [SX.sub (.var 3) zMlb3 zMlb8 1] 3),.ok (.fn 14 [SX.sub (.var 3) zMlb3 zMlb8 1] 4),.ok (.fn 14 [SX.sub (.var 3) zMlb3 zMlb8 1] 5),.ok (.fn 14 [SX.sub (.var 3) zMlb3 zMlb8 1] 6),zMlb23,.ok Zmg,.ok (.len (.var 4)),.ok zMlb6,le3 zMlb3 zMlb6 (.len (.var 4)),.fn 25 (EKtF 15) [SX.sub (.var 4) zMlb3 zMlb6 1],.ok (.fn 15 [SX.sub (.var 4) zMlb3 zMlb6 1] 0),.ok (.fn 15 [SX.sub (.var 4) zMlb3 zMlb6 1] 1),.ok (.fn 15 [SX.sub (.var 4) zMlb3 zMlb6 1] 2),.ok (.fn 15 [SX.sub (.var 4) zMlb3 zMlb6 1] 3),.ok (.fn 15 [SX.sub (.var 4) zMlb3 zMlb6 1] 4),.ok (.fn 15 [SX.sub (.var 4) zMlb3 zMlb6 1] 5),.ok (.fn 15 [SX.sub (.var 4) zMlb3 zMlb6 1] 6),.ok (.fn 15 [SX.sub (.var 4) zMlb3 zMlb6 1] 7),.ok (.fn 15 [SX.sub (.var 4) zMlb3 zMlb6 1] 8),zMlb24,cells (.var 3) 1,Zot,upto Zh0 4294967296,same Zh0 Zh0,upto (.len zMlb5) 4294967296,.fn 23 (EKaF 14) [zMlb5],same (.len zMlb5) (.len zMlb5),.ok (.fn 14 [zMlb5] 0),.ok (.fn 14 [zMlb5] 1),.ok (.fn 14 [zMlb5] 2),.ok (.fn 14 [zMlb5] 3),.ok (.fn 14 [zMlb5] 4),.ok (.fn 14 [zMlb5] 5),.ok (.fn 14 [zMlb5] 6),.is (.fn 14 [zMlb5] 8) (.bool false),cells (.var 4) 1,Zot,upto Zhz 4294967296,same Zhz Zhz,upto (.len zMlb4) 4294967296,.fn 25 (EKtF 15) [zMlb4],same (.len zMlb4) (.len zMlb4),.ok (.fn 15 [zMlb4] 0),.ok (.fn 15 [zMlb4] 1),.ok (.fn 15 [zMlb4] 2),.ok (.fn 15 [zMlb4] 3),.ok (.fn 15 [zMlb4] 4),.ok (.fn 15 [zMlb4] 5),.ok (.fn 15 [zMlb4] 6),.ok (.fn 15 [zMlb4] 7),.ok (.fn 15 [zMlb4] 8),.is (.fn 15 [zMlb4] 9) (.bool false),.is (.var 5) (.bool true),.fn 18 (ESa 7) Ztk,.is (.fn 7 Ztk 0) (.bool true),.is (.var 6) (.bool true),.ok zMlb7,.is zMlb7 (.bool false),.ok Zti,.is Zti (.bool false),cells (.var 3) 1,Zot,upto Zh0 4294967296,cells (.var 4) 1,Zot,upto Zhz 4294967296,.ok Zmg,.ok Zos,rng Zos Zh0,.idx Zvi Zos 1 1,.ok (.op (Op.binOp .xor 5 (Operand.tmp 157) (Operand.tmp 158) 5) 5 [157,158] [.cell Zvi Zos 1 0,.var 1]),rng Zos Zh0,.idx Zvi Zos 1 1,.ok Zmg,.ok Zor,rng Zor Zhz,.idx Zvh Zor 1 1,.ok (.op (Op.binOp .xor 5 (Operand.tmp 168) (Operand.tmp 169) 5) 5 [168,169] [.cell Zvh Zor 1 0,.var 1]),rng Zor Zhz,.idx Zvh Zor 1 1,.fn 23 (EKaF 14) [zMlb2],same Zh0 (.len zMlb2),.ok (.fn 14 [zMlb2] 0),.ok (.fn 14 [zMlb2] 1),.ok (.fn 14 [zMlb2] 2),.ok (.fn 14 [zMlb2] 3),.ok (.fn 14 [zMlb2] 4),.ok (.fn 14 [zMlb2] 5),.ok (.fn 14 [zMlb2] 6),.is (.fn 14 [zMlb2] 8) (.bool false),.fn 25 (EKtF 15) [zMlb1],same Zhz (.len zMlb1),.ok (.fn 15 [zMlb1] 0),.ok (.fn 15 [zMlb1] 1),.ok (.fn 15 [zMlb1] 2),.ok (.fn 15 [zMlb1] 3),.ok (.fn 15 [zMlb1] 4),.ok (.fn 15 [zMlb1] 5),.ok (.fn 15 [zMlb1] 6),.ok (.fn 15 [zMlb1] 7),.ok (.fn 15 [zMlb1] 8),.is (.fn 15 [zMlb1] 9) (.bool false),.ok Zhl],[Zhl]):=by kernel_rfl
noncomputable def GB:Fns:=fun k=>match k with | 14=>spec RKaF | 15=>spec RKtF | k=>G k
theorem b1':ToldF 8 (ETrue 1) (GB 1):=mlw.u1
theorem b2':ToldF 15 (EPa 2) (GB 2):=mlw.u2
theorem b3':ToldF 21 (EPt 3) (GB 3):=mlw.u3
theorem b4':ToldF 23 (EKa 4) (GB 4):=mlw.u4
theorem b5':ToldF 25 (EKt 5) (GB 5):=mlw.u5
theorem b7':ToldF 18 (ESa 7) (GB 7):=mlw.u7
theorem b8':ToldP 11 (EAkR 8) (GB 8):=mlw.u8
theorem b9':ToldP 12 (EMk 9) (GB 9):=mlw.u9
theorem b14':ToldF 23 (EKaF 14) (GB 14):=toldKaF 14
theorem b15':ToldF 25 (EKtF 15) (GB 15):=toldKtF 15
@[simp] theorem kKaF (k:Nat):(EKaF k).k=k:=rfl
@[simp] theorem kKtF (k:Nat):(EKtF k).k=k:=rfl
theorem op_xor8 (x y:Nat) (t t':TypeId) (a b:Nat) (hab:Nat.beq a b=false) (hx:x < 256) (hy:y < 256):opVal Try.prog (Op.binOp .xor t (Operand.tmp a) (Operand.tmp b) t) t' [a,b] [.int .u8 (x:Int),.int .u8 (y:Int)]=some (.int .u8 ((x ^^^ y:Nat):Int)):=by
 have hb:Nat.beq b b=true:=Nat.beq_refl b
 have ha:Nat.beq a a=true:=Nat.beq_refl a
 have h2:IntKind.u8.wrap ((x % 2 ^ IntKind.u8.bits ^^^ y % 2 ^ IntKind.u8.bits:Nat):Int)=((x ^^^ y:Nat):Int):=by
  have e1:x % 2 ^ IntKind.u8.bits=x:=Nat.mod_eq_of_lt (by show x < 2 ^ 8;omega)
  have e2:y % 2 ^ IntKind.u8.bits=y:=Nat.mod_eq_of_lt (by show y < 2 ^ 8;omega)
  have e3:x ^^^ y < 256:=Nat.xor_lt_two_pow (n:=8) hx hy
  rw [e1,e2]
  show ((x ^^^ y:Nat):Int) % 256=_
  omega
 simp only [opVal,Op.isSelect,cond_false,execOp,envR,lookT,ha,hab,hb,cond_true,eqGuard,binOp]
 simp [Zjk,Zjj,Zgl,Zgn,Op.intBits]
 exact h2
def ELaw (k:Nat):FnE:={ k:=k,ins:=[none,none,none,none,none],leaks:=[true,true,false,false,false],outs:=[none],kinds:=[.truth] }
def RL (ps qs:List PV):Prop:=∃ (p r:List Nat) (at':Nat) (by' more:UInt8),(∀ b ∈ p,b < 256)/\(∀ b ∈ r,b < 256)/\p.length<=9223372036854775807/\r.length<=9223372036854775807/\at' < 65536/\ps=[pRow encU p,pRow encU r,.v (.int .u16 (at':Int)),pU (by'.toNat:Int),pU (more.toNat:Int)]/\qs=[pB true]
theorem fL:∀ ps q1 q2,RL ps q1->RL ps q2->q1=q2:=by
 rintro ps q1 q2 ⟨_,_,_,_,_,_,_,_,_,_,_,rfl⟩ ⟨_,_,_,_,_,_,_,_,_,_,_,rfl⟩;rfl
theorem lenU (a:List Nat):lenPV (pRow encU a)=some (pI (a.length:Int)):=Zaq ..
theorem nilW:PV.row 0 []=pRow encW []:=rfl
theorem Zak:PV.v (Value.string ⟨⟨[]⟩⟩)=pS e0:=rfl
theorem GA {b:List UInt8} (h:b.length<=1000000) (hn:takeA b=none):GB 14 [pBy b]=some [pI 0,pI 0,pI 0,pI 0,pS e0,pI 0,pI 0,pRow encW [],pB false]:=Zah fKaF ⟨b,h,hn,rfl,rfl⟩
theorem GT {b:List UInt8} (h:b.length<=1000000) (hn:takeT b=none):GB 15 [pBy b]=some [pI 0,pI 0,pI 0,pI 0,pI 0,pI 0,pI 0,pI 0,pS e0,pB false]:=Zah fKtF ⟨b,h,hn,rfl,rfl⟩
structure Byt (l:List UInt8) (at':Nat) (d more:UInt8) (k:Nat) (L:Int):Prop where
 len:lenPV (pBy l)=some (pI L)
 small:L<=1000000
 pos:0 < L
 rem:((at':Int)).tmod L=(k:Int)
 lt:k < l.length
 ltL:(k:Int) < L
 sub:subPV (pBy l) (pI 0) (pI (k:Int)) 1=some (pBy (l.take k))
 cat:ropPV .cat [pBy l,.row 1 [pU (more.toNat:Int)]]=some (pBy (l++[more]))
 len2:lenPV (pBy (l++[more]))=some (pI (L+1))
 upd:ropPV (.upd 1 0) [pBy l,pI (k:Int),pU ((l[k].toNat ^^^ d.toNat:Nat):Int)]=some (pBy (l.set k (l[k] ^^^ d)))
 len3:lenPV (pBy (l.set k (l[k] ^^^ d)))=some (pI L)
 cell:Zf5 (pBy l) (pI (k:Int)) 1 0=some (pU (l[k].toNat:Int))
 ix:IdxP (some (pBy l)) (some (pI (k:Int))) 1 1
 cells:Zuw (some (pBy l)) 1
theorem byt (l:List UInt8) (at':Nat) (d more:UInt8) (h0:0 < l.length) (h1:l.length<=100000):Byt l at' d more (at' % l.length) (l.length:Int):=by
 have hk:at' % l.length < l.length:=Nat.mod_lt _ h0
 refine ⟨r_len l,by omega,by omega,rfl,hk,by omega,?_,rbt.r_cat1R l more _ rfl,?_,bip.r_updY l _ .i64 _ _ (by rw [UInt8.toNat_xor]) hk,?_,bip.cellY l _ hk,bip.idxP_by l _ 1 .i64 hk (by decide),bip.cellsP_by l (by omega)⟩
 ·have:=bip.r_subY l 0 (at' % l.length) (by omega) (by omega)
  simpa using this
 ·rw [r_len];simp
 ·rw [r_len];simp
set_option maxHeartbeats 8000000 in
theorem told (k:Nat):ToldF 4 (ELaw k) (spec RL):=by
 refine Zfv GB _ (Zam Try.prog 4) Try.func4 (by kernel_rfl) shB (by kernel_rfl) ?_ ?_
 ·intro ps qs h
  obtain ⟨p,r,_,_,_,_,_,_,_,_,rfl,rfl⟩:=Zaf h
  exact Za6 rfl
 ·intro C ps qs hF h a w hsh
  obtain ⟨p,r,at',d,more,hp,hr,hpl,hrl,hat,rfl,rfl⟩:=Zaf h
  clear h
  show wpL Try.prog flB _ a w
  have g1:GB 1 []=some [pB true]:=G1
  have l1:=lenU p
  have l2:=lenU r
  by_cases c1:20 < p.length
  ·have d1:(20:Int) < (p.length:Int):=by omega
   rw [<- List.append_nil flB]
   refine Zad names_ok mixed_ok Zg5 q1 hsh ?_ (fun qs a1 wd hq hx=>⟨nofun,fun _=>⟨.inr rfl,shBR,_,[SX.var 0],hx,by kernel_rfl,by simp [evs,SX.ev] at hq;subst hq;rfl⟩⟩)
   simp [-Zac,Zab,Zaa,Base.ev,SX.ev,evs,Value.oneCell',hF,binPV,g1,l1,l2,d1,msgBack.b1']
  have d1:¬ (20:Int) < (p.length:Int):=by omega
  by_cases c2:20 < r.length
  ·have d2:(20:Int) < (r.length:Int):=by omega
   rw [<- List.append_nil flB]
   refine Zad names_ok mixed_ok Zg5 q2 hsh ?_ (fun qs a1 wd hq hx=>⟨nofun,fun _=>⟨.inr rfl,shBR,_,[SX.var 0],hx,by kernel_rfl,by simp [evs,SX.ev] at hq;subst hq;rfl⟩⟩)
   simp [-Zac,Zab,Zaa,Base.ev,SX.ev,evs,Value.oneCell',hF,binPV,g1,l1,l2,d1,d2,msgBack.b1']
  have d2:¬ (20:Int) < (r.length:Int):=by omega
  have g8:GB 8 [pRow encU p,pI 0]=_:=G8z (ok0 (by omega) hp)
  have g9:GB 9 [pRow encU r,pI 0]=_:=G9z (ok0 (by omega) hr)
  have hx:=Zlo p 0
  have hy:=Znq r 0
  generalize (mkA p 0).2=n8 at *
  generalize (mkT r 0).2=n9 at *
  generalize (mkA p 0).1=x at *
  generalize (mkT r 0).1=y at *
  have n2:=putA_len hx
  have n3:=putT_len hy
  obtain ⟨_,_,_,_,hn,_,_,h5,hws⟩:=Znr hx
  have hyb:=(Zp2 hy).body
  have hsm:=sumW_small hws
  have nA0:16<=(putA x).length/\(putA x).length<=100000:=by omega
  have nT0:20<=(putT y).length/\(putT y).length<=100000:=by omega
  have g2:GB 2 (aP x)=_:=G2 hx
  have g3:GB 3 (tP y)=_:=G3 hy
  have g4:GB 4 [pBy (putA x)]=_:=(G4 (by omega)).trans (congrArg some (tkA_some (Ziv.2 ⟨hx,rfl⟩)))
  have g5:GB 5 [pBy (putT y)]=_:=(G5 (by omega)).trans (congrArg some (tkT_some (Ziu.2 ⟨hy,rfl⟩)))
  have g7:GB 7 (aP x++aP x)=_:=G7 hx hx
  rw [decide_eq_true rfl] at g7
  have A:=byt (putA x) at' d more (by omega) nA0.2
  have T:=byt (putT y) at' d more (by omega) nT0.2
  have m1:=GA (b:=(putA x).take (at' % (putA x).length)) (by rw [List.length_take];omega) (cutA hx A.lt)
  have m2:=GT (b:=(putT y).take (at' % (putT y).length)) (by rw [List.length_take];omega) (cutT hy T.lt)
  have m3:=GA (b:=putA x++[more]) (by rw [List.length_append];simp only [List.length_singleton];omega) (longA hx more)
  have m4:=GT (b:=putT y++[more]) (by rw [List.length_append];simp only [List.length_singleton];omega) (longT hy more)
  have m5:d ≠ 0->GB 14 [pBy ((putA x).set (at' % (putA x).length) ((putA x)[at' % (putA x).length]'A.lt ^^^ d))]=_:=fun hd=>GA (by rw [List.length_set];omega) (turnA hx A.lt hd)
  have m6:d ≠ 0->GB 15 [pBy ((putT y).set (at' % (putT y).length) ((putT y)[at' % (putT y).length]'T.lt ^^^ d))]=_:=fun hd=>GT (by rw [List.length_set];omega) (turnT hy T.lt hd)
  have A0:=A.len
  have T0:=T.len
  have eA:¬ ((putA x).length:Int) < 10:=by omega
  have eT:¬ ((putT y).length:Int) < 10:=by omega
  clear n2 n3 nA0 nT0 hx hy hsm hyb hws h5 hn
  generalize hkA:at' % (putA x).length=kA at *
  generalize hkT:at' % (putT y).length=kT at *
  generalize hLA:((putA x).length:Int)=LA at *
  generalize hLT:((putT y).length:Int)=LT at *
  generalize putA x=PA at *
  generalize putT y=PT at *
  clear hkA hkT hLA hLT
  obtain ⟨x1,x2,x3,x4,x5,x6,x7,x8⟩:=x
  obtain ⟨y1,y2,y3,y4,y5,y6,y7,y8,y9⟩:=y
  simp only [aP,tP,List.cons_append,List.nil_append] at *
  rw [<- List.take_append_drop 11 flB]
  refine Zad names_ok mixed_ok Zg5 pre hsh ?_ (fun qs a1 w1 hq h1=>⟨fun _=>?_,fun h=>absurd rfl h⟩)
  ·simp [-Zac,Zab,Zaa,Base.ev,SX.ev,evs,Value.oneCell',z1,z2,z3,z4,hF,binPV,g1,l1,l2,d1,d2,g8,g9,g2,g3,g4,g5,A0,T0,eA,eT,msgBack.b1',msgBack.b2',msgBack.b3',msgBack.b4',msgBack.b5',msgBack.b8',msgBack.b9']
  simp [z1,z2,z3,z4,evs,SX.ev,hF,g8,g9,g2,g3,g4,g5] at hq
  subst hq
  clear g1 g2 g3 g4 g5 g8 g9 hsh A0 T0 eA eT
  rw [<- List.append_nil (flB.drop 11)]
  obtain ⟨A1,A2,A3,A4,A5,A6,A7,A8,A9,A10,A11,A12,A13,A14⟩:=A
  obtain ⟨T1,T2,T3,T4,T5,T6,T7,T8,T9,T10,T11,T12,T13,T14⟩:=T
  obtain ⟨nA,rfl⟩:∃ n:Nat,LA=(n:Int):=⟨LA.toNat,by omega⟩
  obtain ⟨nT,rfl⟩:∃ n:Nat,LT=(n:Int):=⟨LT.toNat,by omega⟩
  have mn:ropPV .min2 [pI 0,pI 0]=some (pI 0):=rfl
  have cA:=bip.r_cat0Y PA
  have cT:=bip.r_cat0Y PT
  have l0:lenPV (PV.row 0 [])=some (pI 0):=rfl
  have va:IntKind.i64.wrap (at':Int)=(at':Int):=wrapI _ (by omega) (by omega)
  have wA:¬ nA=0:=by omega
  have wT:¬ nT=0:=by omega
  have e3:ropPV .allB [pB true,pB true,pB true,pB true,pB true,pB true,pB true,pB true,pB true]=some (pB true):=rfl
  have rn:ropPV .notB [pB true]=some (pB false):=rfl
  have db:=d.toNat_lt
  by_cases hd:d=0
  ·have hd0:(d.toNat:Int)=0:=by subst hd;rfl
   refine Zad names_ok mixed_ok (Zae tabB) b0 h1 ?_ (fun qs a1 wd hq hx=>⟨nofun,fun _=>⟨.inr rfl,shBR,_,[SX.var 0],hx,by kernel_rfl,by simp [evs,SX.ev] at hq;subst hq;rfl⟩⟩)
   simp [-Zac,Zab,Zaa,Base.ev,SX.ev,evs,Value.oneCell',z1,z2,z3,z4,hF,binPV,Zau,va,mn,cA,cT,l0,e3,rn,eqI_v,eqS_v,hd0,wA,wT,A1,A4,A7,A8,A9,A14,T1,T4,T7,T8,T9,T14,m1,m2,m3,m4,g7,msgBack.b7',msgBack.b14',msgBack.b15']
   exact ⟨by omega,by omega,by omega,⟨nA+1,by omega,by omega⟩,⟨nA+1,by omega⟩,by omega,⟨nT+1,by omega,by omega⟩,⟨nT+1,by omega⟩⟩
  ·have hd0:¬ (d.toNat:Int)=0:=fun h=>hd (UInt8.toNat_inj.1 (by simp only [UInt8.toNat_zero];omega))
   replace m5:=m5 hd
   replace m6:=m6 hd
   have bA:=PA[kA].toNat_lt
   have bT:=PT[kT].toNat_lt
   have oA:=op_xor8 PA[kA].toNat d.toNat 5 5 157 158 rfl (by omega) (by omega)
   have oT:=op_xor8 PT[kT].toNat d.toNat 5 5 168 169 rfl (by omega) (by omega)
   obtain ⟨SA,hSA⟩:∃ S,S=PA.set kA (PA[kA] ^^^ d):=⟨_,rfl⟩
   obtain ⟨ST,hST⟩:∃ S,S=PT.set kT (PT[kT] ^^^ d):=⟨_,rfl⟩
   obtain ⟨oa,hoa⟩:∃ o:Nat,o=PA[kA].toNat ^^^ d.toNat:=⟨_,rfl⟩
   obtain ⟨ot,hot⟩:∃ o:Nat,o=PT[kT].toNat ^^^ d.toNat:=⟨_,rfl⟩
   rw [<- hSA] at A10 A11 m5
   rw [<- hST] at T10 T11 m6
   rw [<- hoa] at A10 oA
   rw [<- hot] at T10 oT
   clear hSA hST hoa hot
   refine Zad names_ok mixed_ok (Zae tabB) b1 h1 ?_ (fun qs a1 wd hq hx=>⟨nofun,fun _=>⟨.inr rfl,shBR,_,[SX.var 0],hx,by kernel_rfl,by simp [evs,SX.ev] at hq;subst hq;rfl⟩⟩)
   simp [-Zac,Zab,Zaa,Base.ev,SX.ev,evs,Value.oneCell',z1,z2,z3,z4,hF,binPV,Zau,va,mn,cA,cT,l0,e3,rn,eqI_v,eqS_v,hd0,wA,wT,A1,A4,A7,A8,A9,A10,A11,A12,A13,A14,T1,T4,T7,T8,T9,T10,T11,T12,T13,T14,oA,oT,Za4,PV.plain,m1,m2,m3,m4,m5,m6,g7,msgBack.b7',msgBack.b14',msgBack.b15']
   exact ⟨by omega,by omega,by omega,⟨nA+1,by omega,by omega⟩,⟨nA+1,by omega⟩,by omega,⟨nT+1,by omega,by omega⟩,⟨nT+1,by omega⟩,by omega,by omega,by omega,by omega,by omega⟩
theorem walk (w:World) (v1:Value) (len1:Nat) (Z1:Nat->Int) (hg1:IsRow .u8 w v1 len1 Z1) (v2:Value) (len2:Nat) (Z2:Nat->Int) (hg2:IsRow .u8 w v2 len2 Z2) (a:Int) (wa:(Lit.int .u16 a).wf=true) (b:Int) (wb:(Lit.int .u8 b).wf=true) (c:Int) (wc:(Lit.int .u8 c).wf=true) :
  Calls Try.prog 4 #[v1,v2,.int .u16 a,.int .u8 b,.int .u8 c] w fun e w'=>e=.returned (.bool true)/\Ex w w':=by
 obtain ⟨p,hp,hpl,hr1⟩:=rowU hg1
 obtain ⟨r,hr,hrl,hr2⟩:=rowU hg2
 obtain ⟨a0,a1⟩:=bounds_u16 wa
 obtain ⟨b0,b1⟩:=bounds_u8 wb
 obtain ⟨c0,c1⟩:=bounds_u8 wc
 obtain ⟨a,rfl⟩:∃ n:Nat,a=(n:Int):=⟨a.toNat,by omega⟩
 obtain ⟨b,rfl⟩:∃ n:UInt8,b=(n.toNat:Int):=⟨UInt8.ofNat b.toNat,by rw [UInt8.toNat_ofNat'];omega⟩
 obtain ⟨c,rfl⟩:∃ n:UInt8,c=(n.toNat:Int):=⟨UInt8.ofNat c.toNat,by rw [UInt8.toNat_ofNat'];omega⟩
 refine told_true (told 0) rfl (us:=[v1,v2,.int .u16 (a:Int),.int .u8 (b.toNat:Int),.int .u8 (c.toNat:Int)]) (ps:=[pRow encU p,pRow encU r,.v (.int .u16 (a:Int)),pU (b.toNat:Int),pU (c.toNat:Int)]) (Zah fL ⟨p,r,a,b,c,hp,hr,hpl,hrl,by omega,rfl,rfl⟩) rfl rfl (fun i p u hp hu=>?_)
 match i,hp,hu with
 | 0,hp,hu=>simp at hp hu;subst hp;subst hu;exact hr1
 | 1,hp,hu=>simp at hp hu;subst hp;subst hu;exact hr2
 | 2,hp,hu=>simp at hp hu;subst hp;subst hu;exact Zlj rfl
 | 3,hp,hu=>simp at hp hu;subst hp;subst hu;exact Zlj rfl
 | 4,hp,hu=>simp at hp hu;subst hp;subst hu;exact Zlj rfl
 | i+5,hp,hu=>simp at hp
end Go.Proofs.Ytnomiffghidmbaa.msgBack
