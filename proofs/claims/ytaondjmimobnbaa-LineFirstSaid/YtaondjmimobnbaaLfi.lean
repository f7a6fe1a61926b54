/- LineFirst by the symbolic engine. -/
import Derived.Test.YtaondjmimobnbaaWbg
import Derived.Test.YtaondjmimobnbaaGrd
import Derived.Test.YtaondjmimobnbaaWfm
import Derived.Test.YtaondjmimobnbaaWfi
namespace Go.Proofs.Ytaondjmimobnbaa.lineFirst
open Go Go.RowKit eng SX Fact fil lem lea wlm wdr wwi wto wpu wah wli grd wfm wfi
set_option linter.unusedVariables false
set_option linter.unusedSimpArgs false
set_option maxRecDepth 1000000

def hM (_:FuncId) (o:Oper):Option Hint:=match o.op with
 | .makeMap ..=>some .mp
 | .lookup ..=>some .mp
 | .mapUpdate ..=>some .mp
 | .call { callee:=.builtin .delete,.. }=>some .mp
 | .call { callee:=.builtin .len,args:=#[.tmp 94],.. }=>some .mp
 | .binOp ..=>none
 | .pick ..=>none
 | .move ..=>match o.dst with | some d=>cond (Nat.ble 121 d && Nat.ble d 152) none (some .lazy) | none=>some .lazy
 | .unOp ..=>some .parts
 | _=>some .lazy
def tabL (f:FuncId):Option FnE:=cond (Nat.beq f 8) (some (EPuT 1)) (cond (Nat.beq f 10) (some (EDw 2)) (cond (Nat.beq f 13) (some (EAh 6)) (cond (Nat.beq f 7) (some (ETrue 8)) none)))
noncomputable def flA:=flat (Zhe Try.prog 4)
noncomputable def lpA:=flat (Zbh (nth flA 8))
noncomputable def bdA:=flat (Zda (nth lpA 2))
noncomputable def lpC:=flat (Zbh (nth bdA 6))
noncomputable def bdC:=flat (Zda (nth lpC 2))
noncomputable def lpF:=flat (Zbh (nth bdC 1))
noncomputable def bdF:=flat (Zda (nth lpF 2))
noncomputable def lpB:=flat (Zbh (nth bdF 3))
def mbox (k:Nat):BoxT:=⟨34,0,true,[],some k,false⟩
def pbox:BoxT:=⟨35,0,false,[.leaf,.leaf],none,false⟩
def sh0:Shape:=⟨[(0,.leaf)],[],[some false],159,4⟩
def shA:Shape:=⟨[(0,.leaf),(3,.leaf),(4,.map 0),(5,.leaf)],[mbox 3],[some false,some true,none],159,4⟩
def shC:Shape:=⟨[(0,.leaf),(3,.leaf),(4,.map 0),(5,.leaf),(12,.leaf)],[mbox 4],[some false,some true,none,none],159,4⟩
def shF:Shape:=⟨[(0,.leaf),(3,.leaf),(4,.map 0),(5,.leaf),(12,.leaf),(13,.leaf)],[mbox 5],[some false,some true,none,none,none],159,4⟩
def shB:Shape:=⟨[(0,.leaf),(3,.leaf),(4,.map 0),(5,.leaf),(12,.leaf),(13,.leaf),(14,.leaf),(15,.ptr 1 0 0 0),(16,.leaf),(17,.leaf)],[mbox 10,pbox],[some false,some true,none,none,none,none,none,none,none,none],159,4⟩
def shR:Shape:=⟨[(2,.leaf)],[],[none],159,4⟩
@[simp] def zLfi1:SX:=.bin .add (.con (.int .i64 1)) (.conv .i64 (.bin .rem (.cell (.var 0) (.var 2) 3 1) (.con (.int .u8 3))))
@[simp] def zLfi2:SX:=.bin .add (.con (.int .i64 1)) (.conv .i64 (.bin .rem (.cell (.var 0) (.var 2) 3 2) (.con (.int .u8 2))))
@[simp] def zLfi3:List SX:=[.var 1,zLfi1,.bin .add (.con (.int .i64 1)) (.var 2),zLfi2,.con (.int .i64 1)]
@[simp] def zLfi4:SX:=.bin .add (.var 7) (.con (.int .i64 1))
@[simp] def zLfi5:SX:=.bin .eql (rop (ROp.part 0) [rop (ROp.mget z2) [.var 10,.var 7]]) (.var 4)
@[simp] def zLfi6:SX:=.bin .gtr (.bin .rem (.cell (.var 0) (.var 2) 3 0) (.con (.int .u8 4))) (.con (.int .u8 0))
@[simp] def zLfi7:SX:=.bin .leq (.var 7) (.con (.int .i64 3))
@[simp] def zLfi8:SX:=.bin .rem (.cell (.var 0) (.var 2) 3 1) (.con (.int .u8 3))
@[simp] def zLfi9:SX:=.bin .rem (.cell (.var 0) (.var 2) 3 2) (.con (.int .u8 2))
@[simp] def Zcc:Fact:=.idx (.var 0) (.var 2) 3 3
@[simp] def Zjq:SX:=.bin .neq (.len (.fn 1 zLfi3 0)) (.len (rop ROp.mput [.var 3,zLfi1,rop ROp.pack [zLfi2,.var 2]]))
@[simp] def Zjp:List SX:=[.var 0,.var 1,.var 2,.var 3,.var 4,.con (.bool false),.var 6,zLfi4,.var 8,.var 9,.var 10]
@[simp] def Zjo:List SX:=[.var 0,.var 1,.var 2,.var 3,.var 4,.con (.bool true),.var 6,zLfi4,.var 8,.var 9,.var 10]
@[simp] def Zbn:SX:=.con (.int .i64 1)
@[simp] def Zex:SX:=.bin .neq (.var 7) (.var 3)
@[simp] def Zjn:SX:=.bin .lss (rop (ROp.part 1) [rop (ROp.mget z2) [.var 10,.var 7]]) (.var 9)
@[simp] def Zjm:SX:=.bin .neq (rop (ROp.part 0) [rop (ROp.mget z2) [.var 3,zLfi1]]) zLfi2
@[simp] def Zg7:SX:=rop ROp.notB [rop ROp.mhas [.var 3,zLfi1]]
@[simp] def Zjl:Fact:=.ok (.bin .rem (.cell (.var 0) (.var 2) 3 0) (.con (.int .u8 4)))
@[simp] def Zic:Fact:=.is (rop ROp.mhas [.var 10,.var 7]) (.bool true)
@[simp] def Zbd:Fact:=.ok (.var 2)
@[simp] def Zf1:Fact:=upto (.var 7) 4294967296
@[simp] def Zjk:SX:=.bin .gtr (.len (.var 0)) (.con (.int .i64 30))
@[simp] def Zgg:Fact:=.is (.var 5) (.bool false)
@[simp] def Zf0:Fact:=.is zLfi7 (.bool true)
@[simp] def Zg6:SX:=.bin .neq (.var 8) (.var 4)
@[simp] def Zjj:SX:=.bin .leq (.var 3) (.con (.int .i64 3))
@[simp] def Zji:SX:=.bin .leq (.var 4) (.con (.int .i64 2))
@[simp] def Zb4:Fact:=.ok (.var 3)
@[simp] def zLfi30:List SX:=[.var 0,.fn 1 zLfi3 0,.var 2,Zbn,rop ROp.mput [.var 3,zLfi1,rop ROp.pack [zLfi2,.var 2]]]
@[simp] def Zg5:Fact:=.ok (.con (.bool true))
@[simp] def Zg4:Fact:=.is Zex (.bool true)
@[simp] def Zjh:SX:=.bin .lss (.var 2) (.len (.var 0))
@[simp] def Zjg:SX:=rop (ROp.mget z2) [.var 5,.var 3]
@[simp] def Zjf:Fact:=.ok (.cell (.var 0) (.var 2) 3 1)
@[simp] def Zje:Fact:=.ok (.cell (.var 0) (.var 2) 3 2)
@[simp] def Zjd:Fact:=.ok (.cell (.var 0) (.var 2) 3 0)
@[simp] def Zg3:Fact:=upto zLfi1 4294967296
@[simp] def zLfi39:SX:=.bin .neq (.len (.fn 2 [.var 1,zLfi1] 0)) (.len (rop ROp.mdel [.var 3,zLfi1]))
@[simp] def Zc5:Fact:=.ok (.var 4)
@[simp] def Zib:Fact:=.ok (.con (.bool false))
@[simp] def Zjc:Fact:=.idx (.var 0) (.var 2) 3 2
@[simp] def Zjb:Fact:=.idx (.var 0) (.var 2) 3 1
@[simp] def Zia:SX:=.len (.fn 1 zLfi3 0)
@[simp] def Zja:List SX:=[.var 1,.var 3,.var 4]
@[simp] def Zj9:Fact:=.is (.fn 1 zLfi3 1) (.bool true)
@[simp] def Zj8:Fact:=.ok (.bin .add Zbn (.var 2))
@[simp] def Zi9:Fact:=.ok (.conv .i64 zLfi8)
@[simp] def Zi8:Fact:=.ok (.conv .i64 zLfi9)
@[simp] def Zew:Fact:=.ok (.var 6)
@[simp] def Zev:Fact:=.ok (.var 8)
@[simp] def Zeu:Fact:=.ok (.var 9)
@[simp] def Zi7:Fact:=.is zLfi5 (.bool true)
theorem q1:segTo Try.prog (orcFn tabL) 10000 flA sh0 [1,1] shR [] hM=some (.ret,[.fn 7 (ETrue 8) [],.is (.fn 8 [] 0) (.bool true),.ok (.len (.var 0)),.ok Zjk,.is Zjk (.bool true),Zg5],[.con (.bool true)]):=by kernel_rfl
theorem pre:segTo Try.prog (orcFn tabL) 10000 (flA.take 8) sh0 [1,0] shA [(1,0)] hM=some (.normal,[.fn 7 (ETrue 8) [],.is (.fn 8 [] 0) (.bool true),.ok (.len (.var 0)),.ok Zjk,.is Zjk (.bool false),.ok (.con (.int .i64 0))],[.var 0,.lit 0 [],.con (.int .i64 0),.lit 0 []]):=by kernel_rfl
theorem hd:segTo Try.prog (orcFn tabL) 10000 (lpA.take 2) shA [1] shA [(0,0)] hM=some (.normal,[.ok (.len (.var 0)),.ok Zjh,.is Zjh (.bool true),Zbd],[.var 0,.var 1,.var 2,.var 3]):=by kernel_rfl
theorem ex:segTo Try.prog (orcFn tabL) 10000 lpA shA [0] shA [(0,0)] hM=some (.exit 0,[.ok (.len (.var 0)),.ok Zjh,.is Zjh (.bool false),Zbd],[.var 0,.var 1,.var 2,.var 3]):=by kernel_rfl
theorem pN:segTo Try.prog (orcFn tabL) 10000 (bdA.take 6) shA [1,1,1,0] shC [(0,0)] hM=some (.normal,[Zcc,Zjc,Zjf,.ok zLfi8,Zi9,.ok zLfi1,Zcc,Zcc,Zje,.ok zLfi9,Zi8,.ok zLfi2,Zcc,Zjb,Zjd,Zjl,.ok zLfi6,.is zLfi6 (.bool true),Zj8,.fn 8 (EPuT 1) zLfi3,Zj9,Zg3,.ok Zg7,.is Zg7 (.bool true),Zg3,.ok Zia,.ok Zjq,.is Zjq (.bool false),Zbd,.ok Zbn],zLfi30):=by kernel_rfl
theorem pD:segTo Try.prog (orcFn tabL) 10000 (bdA.take 6) shA [1,1,0,1,0] shC [(0,0)] hM=some (.normal,[Zcc,Zjc,Zjf,.ok zLfi8,Zi9,.ok zLfi1,Zcc,Zcc,Zje,.ok zLfi9,Zi8,.ok zLfi2,Zcc,Zjb,Zjd,Zjl,.ok zLfi6,.is zLfi6 (.bool true),Zj8,.fn 8 (EPuT 1) zLfi3,Zj9,Zg3,.ok Zg7,.is Zg7 (.bool false),.ok Zjm,.is Zjm (.bool true),Zg3,.ok Zia,.ok Zjq,.is Zjq (.bool false),Zbd,.ok Zbn],zLfi30):=by kernel_rfl
theorem pS:segTo Try.prog (orcFn tabL) 10000 (bdA.take 6) shA [1,1,0,0,0] shC [(0,0)] hM=some (.normal,[Zcc,Zjc,Zjf,.ok zLfi8,Zi9,.ok zLfi1,Zcc,Zcc,Zje,.ok zLfi9,Zi8,.ok zLfi2,Zcc,Zjb,Zjd,Zjl,.ok zLfi6,.is zLfi6 (.bool true),Zj8,.fn 8 (EPuT 1) zLfi3,Zj9,Zg3,.ok Zg7,.is Zg7 (.bool false),.ok Zjm,.is Zjm (.bool false),.ok Zia,.ok (.bin .neq Zia (.len (.var 3))),.is (.bin .neq Zia (.len (.var 3))) (.bool false),Zbd,.ok Zbn],[.var 0,.fn 1 zLfi3 0,.var 2,Zbn,.var 3]):=by kernel_rfl
theorem dl:segTo Try.prog (orcFn tabL) 10000 (bdA.take 6) shA [0,0] shC [(0,0)] hM=some (.normal,[Zcc,Zjc,Zjf,.ok zLfi8,Zi9,.ok zLfi1,Zcc,Zcc,Zje,.ok zLfi9,Zi8,.ok zLfi2,Zcc,Zjb,Zjd,Zjl,.ok zLfi6,.is zLfi6 (.bool false),.fn 10 (EDw 2) [.var 1,zLfi1],Zg3,.ok (.len (.fn 2 [.var 1,zLfi1] 0)),.ok zLfi39,.is zLfi39 (.bool false),Zbd,.ok Zbn],[.var 0,.fn 2 [.var 1,zLfi1] 0,.var 2,Zbn,rop ROp.mdel [.var 3,zLfi1]]):=by kernel_rfl
theorem c0:segTo Try.prog (orcFn tabL) 10000 (lpC.take 2) shC [1] shC [(0,0)] hM=some (.normal,[.ok Zjj,.is Zjj (.bool true),Zbd,Zb4],[.var 0,.var 1,.var 2,.var 3,.var 4]):=by kernel_rfl
theorem cex:segTo Try.prog (orcFn tabL) 10000 lpC shC [0] shC [(0,0)] hM=some (.exit 2,[.ok Zjj,.is Zjj (.bool false),Zbd,Zb4],[.var 0,.var 1,.var 2,.var 3,.var 4]):=by kernel_rfl
theorem c1:segTo Try.prog (orcFn tabL) 10000 (bdC.take 1) shC [] shF [(0,0)] hM=some (.normal,[Zbd,Zb4,.ok Zbn],[.var 0,.var 1,.var 2,.var 3,Zbn,.var 4]):=by kernel_rfl
theorem f0:segTo Try.prog (orcFn tabL) 10000 (lpF.take 2) shF [1] shF [(0,0)] hM=some (.normal,[.ok Zji,.is Zji (.bool true),Zbd,Zb4,Zc5],[.var 0,.var 1,.var 2,.var 3,.var 4,.var 5]):=by kernel_rfl
theorem fex:segTo Try.prog (orcFn tabL) 10000 lpF shF [0] shF [(0,0)] hM=some (.exit 4,[.ok Zji,.is Zji (.bool false),Zbd,Zb4,Zc5],[.var 0,.var 1,.var 2,.var 3,.var 4,.var 5]):=by kernel_rfl
theorem f1:segTo Try.prog (orcFn tabL) 10000 (bdF.take 3) shF [] shB [(0,0),(3,0)] hM=some (.normal,[upto (.var 3) 4294967296,Zbd,Zb4,Zc5,Zib,.ok (rop ROp.mhas [.var 5,.var 3]),.ok Zbn,.ok (rop (ROp.part 0) [Zjg]),.ok (rop (ROp.part 1) [Zjg])],[.var 0,.var 1,.var 2,.var 3,.var 4,.con (.bool false),rop ROp.mhas [.var 5,.var 3],Zbn,rop (ROp.part 0) [Zjg],rop (ROp.part 1) [Zjg],.var 5]):=by kernel_rfl
theorem bex:segTo Try.prog (orcFn tabL) 10000 lpB shB [0] shB [(0,0),(1,0)] hM=some (.exit 6,[.ok zLfi7,.is zLfi7 (.bool false),Zbd,Zb4,Zc5,.ok (.var 5),Zew,.ok (.var 7),Zev,Zeu],[.var 0,.var 1,.var 2,.var 3,.var 4,.var 5,.var 6,.var 7,.var 8,.var 9,.var 10]):=by kernel_rfl
theorem b1:segTo Try.prog (orcFn tabL) 10000 lpB shB [1,1] shB [(0,0),(1,0)] hM=some (.normal,[.ok zLfi7,Zf0,Zf1,.is (.var 5) (.bool true),.ok zLfi4,Zbd,Zb4,Zc5,Zg5,Zew,.ok zLfi4,Zev,Zeu],Zjo):=by kernel_rfl
theorem b2':segTo Try.prog (orcFn tabL) 10000 lpB shB [1,0,0] shB [(0,0),(1,0)] hM=some (.normal,[.ok zLfi7,Zf0,Zf1,Zgg,.ok Zex,.is Zex (.bool false),.ok zLfi4,Zbd,Zb4,Zc5,Zib,Zew,.ok zLfi4,Zev,Zeu],Zjp):=by kernel_rfl
theorem b3:segTo Try.prog (orcFn tabL) 10000 lpB shB [1,0,1,0] shB [(0,0),(1,0)] hM=some (.normal,[.ok zLfi7,Zf0,Zf1,Zgg,.ok Zex,Zg4,.is (rop ROp.mhas [.var 10,.var 7]) (.bool false),.ok zLfi4,Zbd,Zb4,Zc5,Zib,Zew,.ok zLfi4,Zev,Zeu],Zjp):=by kernel_rfl
theorem b4:segTo Try.prog (orcFn tabL) 10000 lpB shB [1,0,1,1,0] shB [(0,0),(1,0)] hM=some (.normal,[.ok zLfi7,Zf0,Zf1,Zgg,.ok Zex,Zg4,Zic,.ok zLfi5,.is zLfi5 (.bool false),.ok zLfi4,Zbd,Zb4,Zc5,Zib,Zew,.ok zLfi4,Zev,Zeu],Zjp):=by kernel_rfl
theorem b5:segTo Try.prog (orcFn tabL) 10000 lpB shB [1,0,1,1,1,0] shB [(0,0),(1,0)] hM=some (.normal,[.ok zLfi7,Zf0,Zf1,Zgg,.ok Zex,Zg4,Zic,.ok zLfi5,Zi7,.is (.var 6) (.bool false),.ok zLfi4,Zbd,Zb4,Zc5,Zg5,Zew,.ok zLfi4,Zev,Zeu],Zjo):=by kernel_rfl
theorem b6:segTo Try.prog (orcFn tabL) 10000 lpB shB [1,0,1,1,1,1,1] shB [(0,0),(1,0)] hM=some (.normal,[.ok zLfi7,Zf0,Zf1,Zgg,.ok Zex,Zg4,Zic,.ok zLfi5,Zi7,.is (.var 6) (.bool true),.ok Zg6,.is Zg6 (.bool true),.ok zLfi4,Zbd,Zb4,Zc5,Zg5,Zew,.ok zLfi4,Zev,Zeu],Zjo):=by kernel_rfl
theorem b7:segTo Try.prog (orcFn tabL) 10000 lpB shB [1,0,1,1,1,1,0,1] shB [(0,0),(1,0)] hM=some (.normal,[.ok zLfi7,Zf0,Zf1,Zgg,.ok Zex,Zg4,Zic,.ok zLfi5,Zi7,.is (.var 6) (.bool true),.ok Zg6,.is Zg6 (.bool false),.ok Zjn,.is Zjn (.bool true),.ok zLfi4,Zbd,Zb4,Zc5,Zg5,Zew,.ok zLfi4,Zev,Zeu],Zjo):=by kernel_rfl
theorem b8:segTo Try.prog (orcFn tabL) 10000 lpB shB [1,0,1,1,1,1,0,0] shB [(0,0),(1,0)] hM=some (.normal,[.ok zLfi7,Zf0,Zf1,Zgg,.ok Zex,Zg4,Zic,.ok zLfi5,Zi7,.is (.var 6) (.bool true),.ok Zg6,.is Zg6 (.bool false),.ok Zjn,.is Zjn (.bool false),.ok zLfi4,Zbd,Zb4,Zc5,Zib,Zew,.ok zLfi4,Zev,Zeu],Zjp):=by kernel_rfl
theorem fend:segTo Try.prog (orcFn tabL) 10000 (bdF.drop 4) shB [0] shF [(0,0)] hM=some (.normal,[.fn 13 (EAh 6) Zja,.ok (.fn 6 Zja 0),.ok (rop ROp.neB [.fn 6 Zja 0,.var 5]),.is (rop ROp.neB [.fn 6 Zja 0,.var 5]) (.bool false),Zbd,Zb4,Zc5],[.var 0,.var 1,.var 2,.var 3,.var 4,.var 10]):=by kernel_rfl
theorem fst:segTo Try.prog (orcFn tabL) 10000 (lpF.drop 3) shF [] shF [(0,0)] hM=some (.normal,[.ok (.bin .add (.var 4) Zbn),Zbd,Zb4,.ok (.bin .add (.var 4) Zbn)],[.var 0,.var 1,.var 2,.var 3,.bin .add (.var 4) Zbn,.var 5]):=by kernel_rfl
theorem cst:segTo Try.prog (orcFn tabL) 10000 (lpC.drop 3) shF [] shC [(0,0)] hM=some (.normal,[.ok (.bin .add (.var 3) Zbn),Zbd,.ok (.bin .add (.var 3) Zbn)],[.var 0,.var 1,.var 2,.bin .add (.var 3) Zbn,.var 5]):=by kernel_rfl
theorem ast:segTo Try.prog (orcFn tabL) 10000 (lpA.drop 3) shC [] shA [(0,0)] hM=some (.normal,[.ok (.bin .add (.var 2) Zbn),.ok (.bin .add (.var 2) Zbn)],[.var 0,.var 1,.bin .add (.var 2) Zbn,.var 4]):=by kernel_rfl
theorem post:segTo Try.prog (orcFn tabL) 10000 (flA.drop 9) shA [] shR [] hM=some (.ret,[Zg5],[.con (.bool true)]):=by kernel_rfl
theorem pos3:0 < 3:=by decide
abbrev E3:=encK 3 pos3
theorem cutA:flA=flA.take 8++.block (Zbm (nth flA 8)) (.loop (Zbh (nth flA 8))) :: flA.drop 9:=by kernel_rfl
theorem cutL:lpA=lpA.take 2++.block (Zbm (nth lpA 2)) (Zda (nth lpA 2)) :: lpA.drop 3:=by kernel_rfl
theorem cutB:bdA=bdA.take 6++.block (Zbm (nth bdA 6)) (.loop (Zbh (nth bdA 6))) :: []:=by kernel_rfl
theorem cutC:lpC=lpC.take 2++.block (Zbm (nth lpC 2)) (Zda (nth lpC 2)) :: lpC.drop 3:=by kernel_rfl
theorem cutD:bdC=bdC.take 1++.block (Zbm (nth bdC 1)) (.loop (Zbh (nth bdC 1))) :: []:=by kernel_rfl
theorem cutF:lpF=lpF.take 2++.block (Zbm (nth lpF 2)) (Zda (nth lpF 2)) :: lpF.drop 3:=by kernel_rfl
theorem cutG:bdF=bdF.take 3++.block (Zbm (nth bdF 3)) (.loop (Zbh (nth bdF 3))) :: bdF.drop 4:=by kernel_rfl
def ELaw (k:Nat):FnE:={ k:=k,ins:=[none],leaks:=[],outs:=[none],kinds:=[.truth] }
def RL (ps qs:List PV):Prop:=∃ l:List (Nat->Nat),(∀ f ∈ l,∀ j,f j < 256)/\l.length<=9223372036854775807/\ps=[pRow E3 l]/\qs=[pB true]
theorem fL:∀ ps q1 q2,RL ps q1->RL ps q2->q1=q2:=by
 rintro ps q1 q2 ⟨_,_,_,_,rfl⟩ ⟨_,_,_,_,rfl⟩;rfl
noncomputable def G:Fns:=fun k=>match k with | 1=>spec RPu | 2=>spec RDw | 6=>spec RAh | 8=>spec RTrue | _=>fun _=>none
theorem u1:ToldF 8 (EPuT 1) (G 1):=toldPuT 1
theorem u2:ToldF 10 (EDw 2) (G 2):=Zkb 2
theorem u6:ToldF 13 (EAh 6) (G 6):=toldAh 6
theorem u8:ToldF 7 (ETrue 8) (G 8):=wbg.begunLit 8
theorem G1 {M:List LeM} {c s f m:Int} (h:M.length<=999999):G 1 [pRow encL M,pI c,pI s,pI f,pI m]=some [pRow encL (putB M (c,s,f,m)).1,pB (putB M (c,s,f,m)).2]:=Zbk fPu ⟨M,(c,s,f,m),h,rfl,rfl⟩
theorem G2 {M:List LeM} {c:Int} (h:M.length<=1000000):G 2 [pRow encL M,pI c]=some [pRow encL (dropW M c)]:=Zbk fDw ⟨M,c,h,rfl,rfl⟩
theorem G6 {M:List LeM} {c f:Int} (h:M.length<=1000000):G 6 [pRow encL M,pI c,pI f]=some [pB (Zek M c f)]:=Zbk fAh ⟨M,c,f,h,rfl,rfl⟩
theorem G8:G 8 []=some [pB true]:=Zbk fTrue ⟨rfl,rfl⟩
theorem rnot (b:Bool):ropPV .notB [pB b]=some (pB (!b)):=rfl
theorem r_neB (b:Bool):ropPV .neB [pB b,pB b]=some (pB false):=by simp [ropPV]
theorem k1:(EPuT 1).k=1:=rfl
theorem k2:(EDw 2).k=2:=rfl
theorem k6:(EAh 6).k=6:=rfl
theorem Zjz {M:List LeM} {L:List Ent} {i:Int} (h:Inv M (getM L) i) (hk:Keys L):M.length=L.length:=by
 have hp:(M.map (·.1)).Perm (L.map (·.1)):=(List.perm_ext_iff_of_nodup h.u hk).2 fun c=>by
  rw [Zf9]
  constructor
  ·intro hc
   obtain ⟨x,hx,rfl⟩:=List.mem_map.1 hc
   obtain ⟨t,ht,_⟩:=h.f x hx
   simp [ht]
  ·intro hc
   obtain ⟨p,hp⟩:=Option.isSome_iff_exists.1 hc
   obtain ⟨x,hx,rfl⟩:=h.c c p hp
   exact List.mem_map_of_mem hx
 simpa using hp.length_eq
abbrev stA (l:List (Nat->Nat)) (M:List LeM) (L:List Ent) (i:Nat):List PV:=[pRow E3 l,pRow encL M,pI (i:Int),pM L]
abbrev stC (l:List (Nat->Nat)) (M:List LeM) (L:List Ent) (i a:Nat):List PV:=[pRow E3 l,pRow encL M,pI (i:Int),pI (a:Int),pM L]
abbrev stF (l:List (Nat->Nat)) (M:List LeM) (L:List Ent) (i a f:Nat):List PV:=[pRow E3 l,pRow encL M,pI (i:Int),pI (a:Int),pI (f:Int),pM L]
abbrev stB (l:List (Nat->Nat)) (M:List LeM) (L:List Ent) (i a f:Nat) (W:Bool) (b:Nat):List PV:=[pRow E3 l,pRow encL M,pI (i:Int),pI (a:Int),pI (f:Int),pB W,pB (getM L (a:Int)).isSome,pI (b:Int),pI (gv L (a:Int)).1,pI (gv L (a:Int)).2,pM L]
set_option maxHeartbeats 2000000 in
theorem loopB {C:Base} (hF:C.F=G) {l:List (Nat->Nat)} {M:List LeM} {L:List Ent} {i a f:Nat} (ha:a<=3) {k:List Code} {Q:Exit->Act->World->Prop} {ac:Act} {w:World} (hin:Zao C shB (stB l M L i a f false 1) ac w)
  (hQ:∀ ac w,Zao C shB (stB l M L i a f (wantB (getM L) a f 3) 4) ac w->wpL Try.prog k Q ac w):wpL Try.prog (.block (Zbm (nth bdF 3)) (.loop (Zbh (nth bdF 3))) :: k) Q ac w:=by
 refine Zee (fun q ac w=>∃ n:Nat,n<=3/\q=3 - n/\Zao C shB (stB l M L i a f (wantB (getM L) a f n) (n+1)) ac w) ?_ (n:=3) ⟨0,by omega,by omega,hin⟩
 rintro q ac w ⟨n,hn,rfl,hin⟩
 show wpL Try.prog lpB _ ac w
 rw [<- List.append_nil lpB]
 by_cases hlt:n < 3
 ·have vb:IntKind.i64.wrap (((n+1:Nat):Int)+1)=((n+1+1:Nat):Int):=wrapI _ (by omega) (by omega)
  have hle:((n+1:Nat):Int)<=3:=by omega
  have mh:=m_has L ((n+1:Nat):Int)
  have mg:=m_get L ((n+1:Nat):Int)
  have hup:∃ z:Nat,((n+1:Nat):Int)=(z:Int)/\z<=4294967296:=⟨n+1,rfl,by omega⟩
  have next:∀ (W:Bool) qs a' w',W=wantB (getM L) a f (n+1)->qs=[pRow E3 l,pRow encL M,pI (i:Int),pI (a:Int),pI (f:Int),pB W,pB (getM L (a:Int)).isSome,pI ((n+1+1:Nat):Int),pI (gv L (a:Int)).1,pI (gv L (a:Int)).2,pM L]->Zao C shB qs a' w'->∃ n',n' < 3 - n/\∃ m:Nat,m<=3/\n'=3 - m/\Zao C shB (stB l M L i a f (wantB (getM L) a f m) (m+1)) a' w':=by
   rintro W qs a' w' rfl rfl h
   exact ⟨3 - (n+1),by omega,n+1,by omega,rfl,h⟩
  have hW:wantB (getM L) a f (n+1)=(wantB (getM L) a f n || condB (getM L) a f ((n+1:Nat):Int)):=rfl
  rw [hW] at next
  have hin:Zao C shB [pRow E3 l,pRow encL M,pI (i:Int),pI (a:Int),pI (f:Int),pB (wantB (getM L) a f n),pB (getM L (a:Int)).isSome,pI ((n+1:Nat):Int),pI (gv L (a:Int)).1,pI (gv L (a:Int)).2,pM L] ac w:=hin
  generalize wantB (getM L) a f n=W at *
  generalize hb:((n+1:Nat):Int)=b at *
  generalize hb2:((n+1+1:Nat):Int)=b2 at *
  clear hW
  have go:∀ (W':Bool) qs a1 w1,W'=(W || condB (getM L) (a:Int) (f:Int) b)->[pRow E3 l,pRow encL M,pI (i:Int),pI (a:Int),pI (f:Int),pB W',pB (getM L (a:Int)).isSome,pI b2,pI (gv L (a:Int)).1,pI (gv L (a:Int)).2,pM L]=qs->Zao C shB qs a1 w1->_:=fun W' qs a1 w1 h1 h2 h3=>next W' qs a1 w1 h1 h2.symm h3
  cases W with
  | true =>
   refine Zav names_ok mixed_ok (Zak _) b1 hin ?_ (fun qs a1 w1 hq h1=>⟨fun _=>.inl ⟨rfl,go true qs a1 w1 (by simp) (by simp [evs,SX.ev,binPV,vb] at hq;exact hq) h1⟩,fun h=>absurd rfl h⟩)
   simp only [fmC,fmN]
   simp [Zaf,Zac,Base.ev,SX.ev,evs,Value.oneCell',binPV,hle,vb,hup]
  | false =>
   by_cases e:b=(a:Int)
   ·refine Zav names_ok mixed_ok (Zak _) b2' hin ?_ (fun qs a1 w1 hq h1=>⟨fun _=>.inl ⟨rfl,go false qs a1 w1 (by simp [condB,e]) (by simp [evs,SX.ev,binPV,vb] at hq;exact hq) h1⟩,fun h=>absurd rfl h⟩)
    simp only [fmC,fmN]
    simp [Zaf,Zac,Base.ev,SX.ev,evs,Value.oneCell',binPV,hle,vb,hup,e]
    all_goals omega
   cases hg:getM L b with
   | none =>
    rw [hg] at mh
    refine Zav names_ok mixed_ok (Zak _) b3 hin ?_ (fun qs a1 w1 hq h1=>⟨fun _=>.inl ⟨rfl,go false qs a1 w1 (by simp [condB,hg]) (by simp [evs,SX.ev,binPV,vb] at hq;exact hq) h1⟩,fun h=>absurd rfl h⟩)
    simp only [fmC,fmN]
    simp [Zaf,Zac,Base.ev,SX.ev,evs,Value.oneCell',binPV,hle,vb,hup,e,mh]
   | some p =>
    rw [hg] at mh
    rw [show gv L b=p by simp [gv,hg]] at mg
    by_cases e1:p.1=(f:Int)
    ·cases hga:getM L (a:Int) with
     | none =>
      rw [hga] at hin go
      refine Zav names_ok mixed_ok (Zak _) b5 hin ?_ (fun qs a1 w1 hq h1=>⟨fun _=>.inl ⟨rfl,go true qs a1 w1 (by simp [condB,hg,hga,e,e1]) (by simp [evs,SX.ev,binPV,vb] at hq;exact hq) h1⟩,fun h=>absurd rfl h⟩)
      simp only [fmC,fmN]
      simp [Zaf,Zac,Base.ev,SX.ev,evs,Value.oneCell',binPV,hle,vb,hup,e,mh,mg,part0,part1,e1]
     | some q =>
      rw [hga] at hin go
      rw [show gv L (a:Int)=q by simp [gv,hga]] at hin go
      by_cases e2:q.1=(f:Int)
      ·by_cases e3:p.2 < q.2
       ·refine Zav names_ok mixed_ok (Zak _) b7 hin ?_ (fun qs a1 w1 hq h1=>⟨fun _=>.inl ⟨rfl,go true qs a1 w1 (by simp [condB,hg,hga,e,e1,e2,e3]) (by simp [evs,SX.ev,binPV,vb] at hq;exact hq) h1⟩,fun h=>absurd rfl h⟩)
        simp only [fmC,fmN]
        simp [Zaf,Zac,Base.ev,SX.ev,evs,Value.oneCell',binPV,hle,vb,hup,e,mh,mg,part0,part1,e1,e2,e3]
       ·refine Zav names_ok mixed_ok (Zak _) b8 hin ?_ (fun qs a1 w1 hq h1=>⟨fun _=>.inl ⟨rfl,go false qs a1 w1 (by simp [condB,hg,hga,e,e1,e2,e3]) (by simp [evs,SX.ev,binPV,vb] at hq;exact hq) h1⟩,fun h=>absurd rfl h⟩)
        simp only [fmC,fmN]
        simp [Zaf,Zac,Base.ev,SX.ev,evs,Value.oneCell',binPV,hle,vb,hup,e,mh,mg,part0,part1,e1,e2,e3]
      ·refine Zav names_ok mixed_ok (Zak _) b6 hin ?_ (fun qs a1 w1 hq h1=>⟨fun _=>.inl ⟨rfl,go true qs a1 w1 (by simp [condB,hg,hga,e,e1,e2]) (by simp [evs,SX.ev,binPV,vb] at hq;exact hq) h1⟩,fun h=>absurd rfl h⟩)
       simp only [fmC,fmN]
       simp [Zaf,Zac,Base.ev,SX.ev,evs,Value.oneCell',binPV,hle,vb,hup,e,mh,mg,part0,part1,e1,e2]
    ·refine Zav names_ok mixed_ok (Zak _) b4 hin ?_ (fun qs a1 w1 hq h1=>⟨fun _=>.inl ⟨rfl,go false qs a1 w1 (by simp [condB,hg,e1]) (by simp [evs,SX.ev,binPV,vb] at hq;exact hq) h1⟩,fun h=>absurd rfl h⟩)
     simp only [fmC,fmN]
     simp [Zaf,Zac,Base.ev,SX.ev,evs,Value.oneCell',binPV,hle,vb,hup,e,mh,mg,part0,part1,e1]
 ·obtain rfl:n=3:=by omega
  refine Zav names_ok mixed_ok (Zak _) bex hin ?_ (fun qs a1 w1 hq h1=>⟨fun h=>(by cases h),fun _=>.inr (.inl ⟨by rw [show Zbm (nth bdF 3)=6 by kernel_rfl];rfl,hQ a1 w1 (by simp [evs,SX.ev] at hq;subst hq;exact h1)⟩)⟩)
  simp only [fmC,fmN]
  simp [Zaf,Zac,Base.ev,SX.ev,evs,Value.oneCell',binPV]
set_option maxHeartbeats 2000000 in
theorem loopF {C:Base} (hF:C.F=G) {l:List (Nat->Nat)} {M:List LeM} {L:List Ent} {i a:Nat} {t:Int} (hI:Inv M (getM L) t) (ha:a<=3) {k:List Code} {Q:Exit->Act->World->Prop} {ac:Act} {w:World} (hin:Zao C shF (stF l M L i a 1) ac w)
  (hQ:∀ ac w,Zao C shF (stF l M L i a 3) ac w->wpL Try.prog k Q ac w):wpL Try.prog (.block (Zbm (nth bdC 1)) (.loop (Zbh (nth bdC 1))) :: k) Q ac w:=by
 have hl:=Ziz hI
 refine Zee (fun q ac w=>∃ f:Nat,1<=f/\f<=3/\q=3 - f/\Zao C shF (stF l M L i a f) ac w) ?_ (n:=2) ⟨1,by omega,by omega,by omega,hin⟩
 rintro q ac w ⟨f,hf1,hf3,rfl,hin⟩
 show wpL Try.prog lpF _ ac w
 by_cases hlt:f<=2
 ·rw [cutF]
  refine Zav names_ok mixed_ok (Zak _) f0 hin ?_ ?_
  ·simp only [fmC,fmN]
   simp [Zaf,Zac,Base.ev,SX.ev,evs,Value.oneCell',binPV]
   all_goals omega
  intro qs a2 w2 hq h2
  refine ⟨fun _=>?_,fun h=>absurd rfl h⟩
  simp [evs,SX.ev] at hq
  subst hq
  refine Zh3 ?_
  show wpL Try.prog bdF _ a2 w2
  rw [cutG]
  have mh:=m_has L (a:Int)
  have mg:=m_get L (a:Int)
  refine Zav names_ok mixed_ok (Zak _) f1 h2 ?_ ?_
  ·simp only [fmC,fmN]
   simp [Zaf,Zac,Base.ev,SX.ev,evs,Value.oneCell',binPV,mh,mg,part0,part1]
   all_goals omega
  intro qs a3 w3 hq h3
  refine ⟨fun _=>?_,fun h=>absurd rfl h⟩
  simp [evs,SX.ev,mh,mg,part0,part1] at hq
  subst hq
  refine loopB hF ha h3 fun a4 w4 h4=>?_
  have e6:=G6 (M:=M) (c:=(a:Int)) (f:=(f:Int)) (by omega)
  rw [ahead_want hI] at e6
  have vf:IntKind.i64.wrap ((f:Int)+1)=(f:Int)+1:=wrapI _ (by omega) (by omega)
  generalize wantB (getM L) (a:Int) (f:Int) 3=W at *
  rw [<- List.append_nil (bdF.drop 4)]
  refine Zav names_ok mixed_ok (Zak _) fend h4 ?_ ?_
  ·simp only [fmC,fmN]
   simp [Zaf,Zac,Base.ev,SX.ev,evs,Value.oneCell',hF,binPV,e6,u6,lineFirst.k6,r_neB]
  intro qs a5 w5 hq h5
  refine ⟨fun _=>.inl ⟨rfl,?_⟩,fun h=>absurd rfl h⟩
  simp [evs,SX.ev] at hq
  subst hq
  rw [<- List.append_nil (lpF.drop 3)]
  refine Zav names_ok mixed_ok (Zak _) fst h5 ?_ ?_
  ·simp only [fmC,fmN]
   simp [Zaf,Zac,Base.ev,SX.ev,evs,Value.oneCell',binPV,vf]
  intro qs a6 w6 hq h6
  refine ⟨fun _=>.inl ⟨rfl,3 - (f+1),by omega,f+1,by omega,by omega,rfl,?_⟩,fun h=>absurd rfl h⟩
  simp [evs,SX.ev,binPV,vf] at hq
  subst hq
  exact h6
 ·obtain rfl:f=3:=by omega
  rw [<- List.append_nil lpF]
  refine Zav names_ok mixed_ok (Zak _) fex hin ?_ (fun qs a1 w1 hq h1=>⟨fun h=>(by cases h),fun _=>.inr (.inl ⟨by rw [show Zbm (nth bdC 1)=4 by kernel_rfl];rfl,hQ a1 w1 (by simp [evs,SX.ev] at hq;subst hq;exact h1)⟩)⟩)
  simp only [fmC,fmN]
  simp [Zaf,Zac,Base.ev,SX.ev,evs,Value.oneCell',binPV]
set_option maxHeartbeats 2000000 in
theorem loopC {C:Base} (hF:C.F=G) {l:List (Nat->Nat)} {M:List LeM} {L:List Ent} {i:Nat} {t:Int} (hI:Inv M (getM L) t) {k:List Code} {Q:Exit->Act->World->Prop} {ac:Act} {w:World} (hin:Zao C shC (stC l M L i 1) ac w)
  (hQ:∀ ac w,Zao C shC (stC l M L i 4) ac w->wpL Try.prog k Q ac w):wpL Try.prog (.block (Zbm (nth bdA 6)) (.loop (Zbh (nth bdA 6))) :: k) Q ac w:=by
 refine Zee (fun q ac w=>∃ a:Nat,1<=a/\a<=4/\q=4 - a/\Zao C shC (stC l M L i a) ac w) ?_ (n:=3) ⟨1,by omega,by omega,by omega,hin⟩
 rintro q ac w ⟨a,ha1,ha4,rfl,hin⟩
 show wpL Try.prog lpC _ ac w
 by_cases hlt:a<=3
 ·rw [cutC]
  refine Zav names_ok mixed_ok (Zak _) c0 hin ?_ ?_
  ·simp only [fmC,fmN]
   simp [Zaf,Zac,Base.ev,SX.ev,evs,Value.oneCell',binPV]
   all_goals omega
  intro qs a2 w2 hq h2
  refine ⟨fun _=>?_,fun h=>absurd rfl h⟩
  simp [evs,SX.ev] at hq
  subst hq
  refine Zh3 ?_
  show wpL Try.prog bdC _ a2 w2
  rw [cutD]
  refine Zav names_ok mixed_ok (Zak _) c1 h2 (by simp [Base.ev,SX.ev,Value.oneCell']) ?_
  intro qs a3 w3 hq h3
  refine ⟨fun _=>?_,fun h=>absurd rfl h⟩
  simp [evs,SX.ev] at hq
  subst hq
  have va:IntKind.i64.wrap ((a:Int)+1)=(a:Int)+1:=wrapI _ (by omega) (by omega)
  refine loopF hF hI hlt h3 fun a4 w4 h4=>?_
  refine .inl ⟨rfl,?_⟩
  rw [<- List.append_nil (lpC.drop 3)]
  refine Zav names_ok mixed_ok (Zak _) cst h4 ?_ ?_
  ·simp only [fmC,fmN]
   simp [Zaf,Zac,Base.ev,SX.ev,evs,Value.oneCell',binPV,va]
  intro qs a6 w6 hq h6
  refine ⟨fun _=>.inl ⟨rfl,4 - (a+1),by omega,a+1,by omega,by omega,rfl,?_⟩,fun h=>absurd rfl h⟩
  simp [evs,SX.ev,binPV,va] at hq
  subst hq
  exact h6
 ·obtain rfl:a=4:=by omega
  rw [<- List.append_nil lpC]
  refine Zav names_ok mixed_ok (Zak _) cex hin ?_ (fun qs a1 w1 hq h1=>⟨fun h=>(by cases h),fun _=>.inr (.inl ⟨by rw [show Zbm (nth bdA 6)=2 by kernel_rfl];rfl,hQ a1 w1 (by simp [evs,SX.ev] at hq;subst hq;exact h1)⟩)⟩)
  simp only [fmC,fmN]
  simp [Zaf,Zac,Base.ev,SX.ev,evs,Value.oneCell',binPV]
set_option maxHeartbeats 4000000 in
theorem told (k0:Nat):ToldF 4 (ELaw k0) (spec RL):=by
 refine told_by G _ (Zhe Try.prog 4) Try.func4 (by kernel_rfl) sh0 (by kernel_rfl) ?_ ?_
 ·intro ps qs h i hi
  obtain ⟨l,_,_,rfl,rfl⟩:=Zbv h
  simp [sh0] at hi
  match i,hi with
  | 0,hi=>simp at hi
  | i+1,hi=>simp at hi
 ·intro C ps qs hF h a w hsh
  obtain ⟨l,hz,hl,rfl,rfl⟩:=Zbv h
  show wpL Try.prog flA _ a w
  have fin:∀ qs a1 w1,qs=[pB true]->Zao C shR qs a1 w1->(AX.ret=.normal->wpL Try.prog [] (fun e a' w'=>(e=.normal \/ e=.ret)/\∃ sh' ps' es,Zao C sh' ps' a' w'/\resTo Try.prog Try.f4 sh' (ELaw k0)=some es/\evs (fun i=>ps'[i]?) G es=some [pB true]) a1 w1)/\(AX.ret ≠ .normal->(AX.ret.to=.normal \/ AX.ret.to=.ret)/\∃ sh' ps' es,Zao C sh' ps' a1 w1/\resTo Try.prog Try.f4 sh' (ELaw k0)=some es/\evs (fun i=>ps'[i]?) G es=some [pB true]):=by
   rintro qs a1 w1 rfl h1
   exact ⟨fun h=>(by cases h),fun _=>⟨.inr rfl,shR,_,[SX.var 0],h1,by kernel_rfl,rfl⟩⟩
  by_cases hl1:30 < l.length
  ·rw [<- List.append_nil flA]
   refine Zav names_ok mixed_ok (Zak _) q1 hsh ?_ (fun qs a1 w1 hq h1=>fin qs a1 w1 (by simp [evs,SX.ev] at hq;exact hq.symm) h1)
   simp only [fmC,fmN]
   simp [Zaf,Zac,Base.ev,SX.ev,evs,Value.oneCell',hF,Zaw,binPV,G8,u8]
   all_goals omega
  rw [cutA]
  refine Zav names_ok mixed_ok (Zak _) pre hsh ?_ ?_
  ·simp only [fmC,fmN]
   simp [Zaf,Zac,Base.ev,SX.ev,evs,Value.oneCell',hF,Zaw,binPV,G8,u8]
   all_goals omega
  intro qs a1 w1 hq h1
  refine ⟨fun _=>?_,fun h=>absurd rfl h⟩
  simp [evs,SX.ev] at hq
  subst hq
  refine Zee (fun q' a w=>∃ (i:Nat) (M:List LeM) (L:List Ent),i<=l.length/\q'=l.length - i/\Inv M (getM L) (i:Int)/\Keys L/\Zao C shA (stA l M L i) a w) ?_ (n:=l.length) ⟨0,[],[],by omega,by omega,inv_nil.ext fun _=>rfl,List.nodup_nil,h1⟩
  rintro q' a w ⟨i,M,L,hi,rfl,hI,hK,hin⟩
  show wpL Try.prog lpA _ a w
  by_cases hlt:i < l.length
  ·have hzi:=hz _ (List.getElem_mem hlt)
   have c0':Zc0 (pRow E3 l) (pI (i:Int)) 3 0=some (pU (l[i] 0:Int)):=cellK 3 _ l i hlt 0 (by omega)
   have c1':Zc0 (pRow E3 l) (pI (i:Int)) 3 1=some (pU (l[i] 1:Int)):=cellK 3 _ l i hlt 1 (by omega)
   have c2':Zc0 (pRow E3 l) (pI (i:Int)) 3 2=some (pU (l[i] 2:Int)):=cellK 3 _ l i hlt 2 (by omega)
   have i1:=Zgc E3 l i 3 1 .i64 rfl hlt (by decide)
   have i2:=Zgc E3 l i 3 2 .i64 rfl hlt (by decide)
   have i3:=Zgc E3 l i 3 3 .i64 rfl hlt (by decide)
   have v3:IntKind.i64.wrap ((i:Int)+1)=(i:Int)+1:=wrapI _ (by omega) (by omega)
   have v4:IntKind.i64.wrap (1+(i:Int))=1+(i:Int):=wrapI _ (by omega) (by omega)
   generalize l[i]=g at *
   obtain ⟨x0,h0⟩:∃ x0:Nat,g 0 % 4=x0:=⟨_,rfl⟩
   obtain ⟨x1,h1'⟩:∃ x1:Nat,g 1 % 3=x1:=⟨_,rfl⟩
   obtain ⟨x2,h2'⟩:∃ x2:Nat,g 2 % 2=x2:=⟨_,rfl⟩
   have t0:(g 0:Int).tmod 4=(x0:Int):=by rw [<- h0];rfl
   have t1:(g 1:Int).tmod 3=(x1:Int):=by rw [<- h1'];rfl
   have t2:(g 2:Int).tmod 2=(x2:Int):=by rw [<- h2'];rfl
   have w1':IntKind.i64.wrap (x1:Int)=(x1:Int):=wrapI _ (by omega) (by omega)
   have w2':IntKind.i64.wrap (x2:Int)=(x2:Int):=wrapI _ (by omega) (by omega)
   have hc1:1<=1+(x1:Int)/\1+(x1:Int)<=3:=by omega
   have hup:∃ z:Nat,1+(x1:Int)=(z:Int)/\z<=4294967296:=⟨1+x1,by omega,by omega⟩
   have wc:IntKind.i64.wrap (1+(x1:Int))=1+(x1:Int):=wrapI _ (by omega) (by omega)
   have wf:IntKind.i64.wrap (1+(x2:Int))=1+(x2:Int):=wrapI _ (by omega) (by omega)
   have hl3:=Ziz hI
   rw [cutL]
   refine Zav names_ok mixed_ok (Zak _) hd hin ?_ ?_
   ·simp only [fmC,fmN]
    simp [Zaf,Zac,Base.ev,SX.ev,evs,Value.oneCell',Zaw,binPV]
    all_goals omega
   intro qs a2 w2 hq h2
   refine ⟨fun _=>?_,fun h=>absurd rfl h⟩
   simp [evs,SX.ev] at hq
   subst hq
   refine Zh3 ?_
   show wpL Try.prog bdA _ a2 w2
   rw [cutB]
   generalize hcc:1+(x1:Int)=c at *
   generalize hff:1+(x2:Int)=f at *
   have body:∀ (k:List Code) (QB:Exit->Act->World->Prop),(∀ (M2:List LeM) (L2:List Ent),Inv M2 (getM L2) ((i:Int)+1)->Keys L2->∀ a3 w3,Zao C shC (stC l M2 L2 i 1) a3 w3->wpL Try.prog k QB a3 w3)->wpL Try.prog (bdA.take 6++k) QB a2 w2:=by
    intro k QB rest
    have mh:=m_has L c
    have mg:=m_get L c
    by_cases d0:0 < x0
    ·have e1:=G1 (c:=c) (s:=1+(i:Int)) (f:=f) (m:=1) (show M.length<=999999 by omega)
     have pk:=pack2 (.int .i64 f) (.int .i64 (i:Int))
     obtain ⟨L',hp,hg,hK'⟩:=m_put L hK c f (i:Int)
     cases hgc:getM L c with
     | none =>
      rw [hgc] at mh
      obtain ⟨ok,hI2⟩:=inv_new (g':=getM L') hI (c,1+(i:Int),f,1) hc1 (by simp [hgc]) hg
      have hln:=Zjz hI2 hK'
      generalize putB M (c,1+(i:Int),f,1)=MB at *
      obtain ⟨M2,ok'⟩:=MB
      simp only at ok hI2 hln e1
      subst ok
      refine Zav names_ok mixed_ok (Zak _) pN h2 ?_ (fun qs a3 w3 hq h3=>⟨fun _=>rest M2 L' hI2 hK' a3 w3 (by simp [evs,SX.ev,hF,binPV,Zcz,c0',c1',c2',t0,t1,t2,w1',w2',hcc,hff,wc,wf,v4,e1,pk,hp] at hq;subst hq;exact h3),fun h=>absurd rfl h⟩)
      simp only [fmC,fmN]
      simp [Zaf,Zac,Base.ev,SX.ev,evs,Value.oneCell',hF,Zaw,lenM,binPV,Zcz,c0',c1',c2',i1,i2,i3,t0,t1,t2,w1',w2',hcc,hff,wc,wf,v4,e1,u1,lineFirst.k1,d0,hup,mh,mg,part0,part1,pk,hp,hln,lineFirst.rnot]
     | some p =>
      rw [hgc] at mh
      rw [show gv L c=p by simp [gv,hgc]] at mg
      by_cases d1:p.1=f
      ·obtain ⟨ok,hI2⟩:=inv_same hI (c,1+(i:Int),f,1) (t:=p.2) (by rw [hgc,<- d1])
       have hI3:=hI2.mono (j:=(i:Int)+1) (by omega)
       have hln:=Zjz hI3 hK
       generalize putB M (c,1+(i:Int),f,1)=MB at *
       obtain ⟨M2,ok'⟩:=MB
       simp only at ok hI3 hln e1
       subst ok
       refine Zav names_ok mixed_ok (Zak _) pS h2 ?_ (fun qs a3 w3 hq h3=>⟨fun _=>rest M2 L hI3 hK a3 w3 (by simp [evs,SX.ev,hF,binPV,Zcz,c0',c1',c2',t0,t1,t2,w1',w2',hcc,hff,wc,wf,v4,e1] at hq;subst hq;exact h3),fun h=>absurd rfl h⟩)
       simp only [fmC,fmN]
       simp [Zaf,Zac,Base.ev,SX.ev,evs,Value.oneCell',hF,Zaw,lenM,binPV,Zcz,c0',c1',c2',i1,i2,i3,t0,t1,t2,w1',w2',hcc,hff,wc,wf,v4,e1,u1,lineFirst.k1,d0,hup,mh,mg,part0,part1,d1,hln,lineFirst.rnot]
      ·obtain ⟨ok,hI2⟩:=inv_new (g':=getM L') hI (c,1+(i:Int),f,1) hc1 (by intro q hq;rw [hgc] at hq;cases hq;exact d1) hg
       have hln:=Zjz hI2 hK'
       generalize putB M (c,1+(i:Int),f,1)=MB at *
       obtain ⟨M2,ok'⟩:=MB
       simp only at ok hI2 hln e1
       subst ok
       refine Zav names_ok mixed_ok (Zak _) pD h2 ?_ (fun qs a3 w3 hq h3=>⟨fun _=>rest M2 L' hI2 hK' a3 w3 (by simp [evs,SX.ev,hF,binPV,Zcz,c0',c1',c2',t0,t1,t2,w1',w2',hcc,hff,wc,wf,v4,e1,pk,hp] at hq;subst hq;exact h3),fun h=>absurd rfl h⟩)
       simp only [fmC,fmN]
       simp [Zaf,Zac,Base.ev,SX.ev,evs,Value.oneCell',hF,Zaw,lenM,binPV,Zcz,c0',c1',c2',i1,i2,i3,t0,t1,t2,w1',w2',hcc,hff,wc,wf,v4,e1,u1,lineFirst.k1,d0,hup,mh,mg,part0,part1,pk,hp,d1,hln,lineFirst.rnot]
    ·have d0':x0=0:=by omega
     have e2:=G2 (M:=M) (c:=c) (by omega)
     obtain ⟨L',hp,hg,hK'⟩:=m_del L hK c
     have hI2:=(inv_drop (g':=getM L') hI c hg).mono (j:=(i:Int)+1) (by omega)
     have hln:=Zjz hI2 hK'
     generalize dropW M c=M2 at *
     refine Zav names_ok mixed_ok (Zak _) dl h2 ?_ (fun qs a3 w3 hq h3=>⟨fun _=>rest M2 L' hI2 hK' a3 w3 (by simp [evs,SX.ev,hF,binPV,Zcz,c0',c1',c2',t0,t1,t2,w1',w2',hcc,hff,wc,wf,e2,hp] at hq;subst hq;exact h3),fun h=>absurd rfl h⟩)
     simp only [fmC,fmN]
     simp [Zaf,Zac,Base.ev,SX.ev,evs,Value.oneCell',hF,Zaw,lenM,binPV,Zcz,c0',c1',c2',i1,i2,i3,t0,t1,t2,w1',w2',hcc,hff,wc,wf,e2,u2,lineFirst.k2,d0',hup,hp,hln]
   refine body _ _ fun M2 L2 hI2 hK2 a3 w3 h3=>?_
   refine loopC hF hI2 h3 fun a4 w4 h4=>.inl ⟨rfl,?_⟩
   rw [<- List.append_nil (lpA.drop 3)]
   refine Zav names_ok mixed_ok (Zak _) ast h4 ?_ ?_
   ·simp only [fmC,fmN]
    simp [Zaf,Zac,Base.ev,SX.ev,evs,Value.oneCell',binPV,v3]
   intro qs a6 w6 hq h6
   refine ⟨fun _=>.inl ⟨rfl,l.length - (i+1),by omega,i+1,M2,L2,by omega,rfl,hI2,hK2,?_⟩,fun h=>absurd rfl h⟩
   simp [evs,SX.ev,binPV,v3] at hq
   subst hq
   exact h6
  ·have hie:i=l.length:=by omega
   subst hie
   rw [<- List.append_nil lpA]
   refine Zav names_ok mixed_ok (Zak _) ex hin ?_ ?_
   ·simp only [fmC,fmN]
    simp [Zaf,Zac,Base.ev,SX.ev,evs,Value.oneCell',Zaw,binPV]
   ·intro qs a1' w1 hq h1
    refine ⟨fun h=>(by cases h),fun _=>.inr (.inl ⟨by rw [show Zbm (nth flA 8)=0 by kernel_rfl];rfl,?_⟩)⟩
    simp [evs,SX.ev] at hq
    subst hq
    rw [<- List.append_nil (flA.drop 9)]
    refine Zav names_ok mixed_ok (Zak _) post h1 ?_ (fun qs a1 w1 hq h1=>fin qs a1 w1 (by simp [evs,SX.ev] at hq;exact hq.symm) h1)
    simp only [fmC,fmN]
    simp [Zaf,Zac,Base.ev,SX.ev,evs,Value.oneCell',Zaw,binPV]
theorem walk (w:World) (v:Value) (len:Nat) (Z:Nat->Nat->Int) (h:IsGrid 3 w v len Z) :
  Calls Try.prog 4 #[v] w fun e w'=>e=.returned (.bool true)/\Ex w w':=by
 obtain ⟨l,hb,hr⟩:=gridK pos3 h
 refine told_true (told 0) rfl (us:=[v]) (ps:=[pRow E3 l]) (Zbk fL ⟨l,hb,reads_len hr,rfl,rfl⟩) rfl rfl (fun i p u hp hu=>?_)
 match i,hp,hu with
 | 0,hp,hu=>simp at hp hu;subst hp;subst hu;exact hr
 | i+1,hp,hu=>simp at hp
end Go.Proofs.Ytaondjmimobnbaa.lineFirst
