/- SessNext by the symbolic engine. -/
import Derived.Test.YtgdegpifjljnoaaSjp
import Derived.Test.YtgdegpifjljnoaaSsf
import Derived.Test.YtgdegpifjljnoaaGrd
import Derived.Test.YtgdegpifjljnoaaRbt
namespace Go.Proofs.Ytgdegpifjljnoaa.sessNext
open Go Go.RowKit eng SX Fact fil msm sjm sjd sjp grd
open sta (MarkM encM)
open mws (aP)
open myt (tP)
open fileFronts (Zac)
set_option linter.unusedVariables false
set_option linter.unusedSimpArgs false
set_option maxRecDepth 1000000
def hN (_:FuncId) (o:Oper):Option Hint:=match o.op with | .makeSlice ..=>some .own | .assign ..=>(match o.dst with | some 3=>some .own | _=>none) | .binOp .neq 34 _ _ _=>some .parts | _=>none
def tabN (f:FuncId):Option FnE:=cond (Nat.beq f 7) (some (ETrue 1)) (cond (Nat.beq f 10) (some (EJu 2)) none)
noncomputable def flN:=flat (Zdy Try.prog 6)
noncomputable def lpN:=flat (Zfn (nth flN 8))
def nbx:BoxT:=⟨50,0,false,[.leaf,.leaf,.leaf],none,false⟩
def ibx (k:Nat):BoxT:=⟨3,1,true,[],some k,false⟩
def tbk (k:Nat):BoxT:=⟨34,9,true,[],some k,false⟩
def mbk (k:Nat):BoxT:=⟨36,4,true,[],some k,false⟩
def shN:Shape:=⟨[(0,.leaf)],[],[some false],95,6⟩
def shNl:Shape:=⟨[(0,.leaf),(3,.own 1 5 1),(4,.own 2 6 9),(5,.own 3 7 4),(6,.ptr 0 0 0 0),(7,.leaf)],[nbx,ibx 5,tbk 6,mbk 7],[some false,none,none,none,none],95,6⟩
def shNR:Shape:=⟨[(2,.leaf)],[],[none],95,6⟩
@[simp] def zSne1:List SX:=[.con (.int .i64 7),.var 5,.var 6,.var 7,.con (.int .i64 5),.bin .add (.conv .i64 (.bin .rem (.cell (.var 0) (.var 1) 2 0) (.con (.int .u8 3)))) (.con (.int .i64 1)),.con (.int .i64 7),.bin .add (.bin .add (.var 2) (.con (.int .i64 1))) (.conv .i64 (.bin .rem (.cell (.var 0) (.var 1) 2 1) (.con (.int .u8 4)))),.con (.string { data:={ toList:=[] } }),.con (.int .i64 1),.con (.int .i64 0),.lit 0 []]
@[simp] def zSne2:List SX:=[.con (.int .i64 7),.var 5,.var 6,.var 7,.con (.int .i64 5),.bin .add (.conv .i64 (.bin .rem (.cell (.var 0) (.var 1) 2 0) (.con (.int .u8 3)))) (.con (.int .i64 1)),.con (.int .i64 7),.bin .add (.bin .add (.var 3) (.con (.int .i64 1))) (.conv .i64 (.bin .rem (.cell (.var 0) (.var 1) 2 1) (.con (.int .u8 4)))),.con (.string { data:={ toList:=[] } }),.con (.int .i64 1),.con (.int .i64 0),.lit 0 []]
@[simp] def zSne3:List SX:=[.con (.int .i64 7),.var 5,.var 6,.var 7,.con (.int .i64 5),.bin .add (.conv .i64 (.bin .rem (.cell (.var 0) (.var 1) 2 0) (.con (.int .u8 3)))) (.con (.int .i64 1)),.con (.int .i64 7),.bin .add (.bin .add (.var 4) (.con (.int .i64 1))) (.conv .i64 (.bin .rem (.cell (.var 0) (.var 1) 2 1) (.con (.int .u8 4)))),.con (.string { data:={ toList:=[] } }),.con (.int .i64 1),.con (.int .i64 0),.lit 0 []]
@[simp] def zSne4:SX:=.conv .i64 (.bin .rem (.cell (.var 0) (.var 1) 2 0) (.con (.int .u8 3)))
@[simp] def zSne5:SX:=.conv .i64 (.bin .rem (.cell (.var 0) (.var 1) 2 1) (.con (.int .u8 4)))
@[simp] def zSne6:SX:=.con (.int .i64 0)
@[simp] def zSne7:SX:=.con (.int .i64 1)
@[simp] def zSne8:SX:=rop ROp.notB [rop ROp.allB [rop ROp.eqI [.fn 2 zSne1 1,zSne6],rop ROp.eqI [.fn 2 zSne1 2,zSne6],rop ROp.eqI [.fn 2 zSne1 3,zSne6],rop ROp.eqI [.fn 2 zSne1 4,zSne6],rop ROp.eqI [.fn 2 zSne1 5,zSne6],rop ROp.eqI [.fn 2 zSne1 6,zSne6],rop ROp.eqI [.fn 2 zSne1 7,zSne6],rop ROp.eqI [.fn 2 zSne1 8,zSne6],rop ROp.eqS [.fn 2 zSne1 9,.con (.string { data:={ toList:=[] } })]]]
@[simp] def zSne9:SX:=rop ROp.notB [rop ROp.allB [rop ROp.eqI [.fn 2 zSne2 1,zSne6],rop ROp.eqI [.fn 2 zSne2 2,zSne6],rop ROp.eqI [.fn 2 zSne2 3,zSne6],rop ROp.eqI [.fn 2 zSne2 4,zSne6],rop ROp.eqI [.fn 2 zSne2 5,zSne6],rop ROp.eqI [.fn 2 zSne2 6,zSne6],rop ROp.eqI [.fn 2 zSne2 7,zSne6],rop ROp.eqI [.fn 2 zSne2 8,zSne6],rop ROp.eqS [.fn 2 zSne2 9,.con (.string { data:={ toList:=[] } })]]]
@[simp] def Zn1:SX:=rop ROp.notB [rop ROp.allB [rop ROp.eqI [.fn 2 zSne3 1,zSne6],rop ROp.eqI [.fn 2 zSne3 2,zSne6],rop ROp.eqI [.fn 2 zSne3 3,zSne6],rop ROp.eqI [.fn 2 zSne3 4,zSne6],rop ROp.eqI [.fn 2 zSne3 5,zSne6],rop ROp.eqI [.fn 2 zSne3 6,zSne6],rop ROp.eqI [.fn 2 zSne3 7,zSne6],rop ROp.eqI [.fn 2 zSne3 8,zSne6],rop ROp.eqS [.fn 2 zSne3 9,.con (.string { data:={ toList:=[] } })]]]
@[simp] def Zeq:SX:=.bin .eql (.bin .rem (.cell (.var 0) (.var 1) 2 1) (.con (.int .u8 2))) (.con (.int .u8 0))
@[simp] def Zn0:SX:=rop (ROp.upd 9 0) [.var 6,zSne4,zSne7,.bin .add zSne4 zSne7,.con (.int .i64 7),.bin .add (.bin .add (.var 2) zSne7) zSne5,zSne6,zSne6,zSne6,zSne6,.con (.string { data:={ toList:=[] } })]
@[simp] def Znz:SX:=rop (ROp.upd 9 0) [.var 6,zSne4,zSne7,.bin .add zSne4 zSne7,.con (.int .i64 7),.bin .add (.bin .add (.var 3) zSne7) zSne5,zSne6,zSne6,zSne6,zSne6,.con (.string { data:={ toList:=[] } })]
@[simp] def Zny:SX:=rop (ROp.upd 9 0) [.var 6,zSne4,zSne7,.bin .add zSne4 zSne7,.con (.int .i64 7),.bin .add (.bin .add (.var 4) zSne7) zSne5,zSne6,zSne6,zSne6,zSne6,.con (.string { data:={ toList:=[] } })]
@[simp] def Zbc:Fact:=.idx (.var 0) (.var 1) 2 2
@[simp] def Zdu:SX:=.cell (.var 0) (.var 1) 2 1
@[simp] def Zh3:SX:=.bin .add (.bin .add (.var 2) zSne7) zSne5
@[simp] def Zh2:SX:=.bin .add (.bin .add (.var 3) zSne7) zSne5
@[simp] def Zh1:SX:=.bin .add (.bin .add (.var 4) zSne7) zSne5
@[simp] def Zgl:SX:=.bin .lss (.var 1) (.len (.var 0))
@[simp] def Zo1:SX:=rop (ROp.rep [.int .i64 0,.int .i64 0,.int .i64 0,.int .i64 0,.int .i64 0,.int .i64 0,.int .i64 0,.int .i64 0,.string { data:={ toList:=[] } }]) [.con (.int .i64 3)]
@[simp] def Zcg:SX:=.bin .add (.var 1) zSne7
@[simp] def Zkn:Fact:=.ok (.bin .rem (.cell (.var 0) (.var 1) 2 0) (.con (.int .u8 3)))
@[simp] def Zep:Fact:=.ok (.bin .add zSne4 zSne7)
@[simp] def Zkm:Fact:=.ok (.bin .rem Zdu (.con (.int .u8 4)))
@[simp] def Zkl:Fact:=.ok (.bin .rem Zdu (.con (.int .u8 2)))
@[simp] def Zo0:SX:=rop (ROp.rep [.int .i64 0,.int .i64 0,.int .i64 0,.int .i64 0]) [.con (.int .i64 3)]
@[simp] def Zkk:Fact:=.ok (.cell (.var 0) (.var 1) 2 0)
@[simp] def Zoz:SX:=.con (.int .i64 4)
@[simp] def Znx:SX:=.bin .gtr (.len (.var 0)) (.con (.int .i64 25))
@[simp] def Znw:SX:=rop (ROp.upd 1 0) [.var 5,zSne4,Zh3]
@[simp] def Znv:SX:=rop (ROp.upd 1 0) [.var 5,zSne4,Zh2]
@[simp] def Znu:SX:=rop (ROp.upd 1 0) [.var 5,zSne4,Zh1]
@[simp] def Zgk:Fact:=.ok (.len (.var 0))
@[simp] def Zkj:Fact:=.idx (.var 0) (.var 1) 2 1
@[simp] def Zki:Fact:=rng zSne4 (.len (.var 5))
@[simp] def Zkh:Fact:=rng zSne4 (.len (.var 6))
@[simp] def Zdt:SX:=.len (.var 7)
@[simp] def Zex:Fact:=Fact.at zSne4 0
@[simp] def Zew:Fact:=Fact.at zSne4 1
@[simp] def Zev:Fact:=Fact.at zSne4 2
@[simp] def Zkg:Fact:=.is Zgl (.bool true)
@[simp] def Zkf:Fact:=.idx (.var 5) zSne4 1 1
@[simp] def Zke:Fact:=.idx (.var 6) zSne4 9 9
@[simp] def Znt:SX:=.bin .neq (.fn 2 zSne1 0) Zoz
@[simp] def Zns:SX:=.bin .neq (.fn 2 zSne2 0) Zoz
@[simp] def Znr:SX:=.bin .neq (.fn 2 zSne3 0) Zoz
@[simp] def Zkd:SX:=.con (.int .i64 3)
@[simp] def zSne49:SX:=rop (ROp.upd 4 0) [.var 7,zSne4,Zh3,zSne6,zSne7,zSne6]
@[simp] def zSne50:SX:=rop (ROp.upd 4 0) [.var 7,zSne4,Zh2,zSne6,zSne7,zSne6]
@[simp] def zSne51:SX:=rop (ROp.upd 4 0) [.var 7,zSne4,Zh1,zSne6,zSne7,zSne6]
@[simp] def Zh0:SX:=.len (.var 5)
@[simp] def Zhz:SX:=.len (.var 6)
theorem q1:segTo Try.prog (orcFn tabN) 10000 flN shN [1,1] shNR [] hN=some (.ret,[.fn 7 (ETrue 1) [],.is (.fn 1 [] 0) (.bool true),Zgk,.ok Znx,.is Znx (.bool true),.ok (.con (.bool true))],[.con (.bool true)]):=by kernel_rfl
theorem pre:segTo Try.prog (orcFn tabN) 10000 (flN.take 8) shN [1,0] shNl [(4,0),(1,1),(2,0),(3,0)] hN=some (.normal,[.fn 7 (ETrue 1) [],.is (.fn 1 [] 0) (.bool true),Zgk,.ok Znx,.is Znx (.bool false),same Zkd Zkd,upto Zkd 4294967296,same Zkd Zkd,upto Zkd 4294967296,.ok zSne6,.ok zSne6,.ok zSne6,.ok zSne6,same (.len (.lit 3 [zSne6,zSne6,zSne6])) (.len (.lit 3 [zSne6,zSne6,zSne6])),same (.len Zo1) (.len Zo1),same (.len Zo0) (.len Zo0)],[.var 0,zSne6,zSne6,zSne6,zSne6,.lit 3 [zSne6,zSne6,zSne6],Zo1,Zo0]):=by kernel_rfl
theorem ex:segTo Try.prog (orcFn tabN) 10000 lpN shNl [0] shNl [(0,0),(1,0),(2,0),(3,0)] hN=some (.exit 0,[Zgk,.ok Zgl,.is Zgl (.bool false),.ok (.var 1),.ok (.var 2),.ok (.var 3),.ok (.var 4),same Zh0 Zh0,same Zhz Zhz,same Zdt Zdt],[.var 0,.var 1,.var 2,.var 3,.var 4,.var 5,.var 6,.var 7]):=by kernel_rfl
theorem r01:segTo Try.prog (orcFn tabN) 10000 lpN shNl [1,0,0,0,0,0,0,0,1,0] shNl [(0,0),(1,0),(2,0),(3,0)] hN=some (.normal,[Zgk,.ok Zgl,Zkg,Zbc,Zkj,Zkk,Zkn,.ok zSne4,Zex,.ok (.bin .add (.var 2) zSne7),Zbc,Zbc,.ok Zdu,Zkm,.ok zSne5,.ok Zh3,Zex,Zep,Zex,.fn 10 (EJu 2) zSne1,.ok (.fn 2 zSne1 0),.ok (.fn 2 zSne1 1),.ok (.fn 2 zSne1 2),.ok (.fn 2 zSne1 3),.ok (.fn 2 zSne1 4),.ok (.fn 2 zSne1 5),.ok (.fn 2 zSne1 6),.ok (.fn 2 zSne1 7),.ok (.fn 2 zSne1 8),.ok (.fn 2 zSne1 9),.ok Znt,.is Znt (.bool false),.ok zSne8,.is zSne8 (.bool false),Zex,Zki,Zkf,Zep,Zex,Zkh,Zke,Zbc,Zbc,.ok Zdu,Zkl,.ok Zeq,.is Zeq (.bool true),Zex,rng zSne4 Zdt,.idx (.var 7) zSne4 4 4,.ok Zcg,.ok Zcg,.ok Zh3,.ok (.var 3),.ok (.var 4),same Zh0 (.len Znw),same Zhz (.len Zn0),same Zdt (.len zSne49)],[.var 0,Zcg,Zh3,.var 3,.var 4,Znw,Zn0,zSne49]):=by kernel_rfl
theorem r00:segTo Try.prog (orcFn tabN) 10000 lpN shNl [1,0,0,0,0,0,0,0,0] shNl [(0,0),(1,0),(2,0),(3,0)] hN=some (.normal,[Zgk,.ok Zgl,Zkg,Zbc,Zkj,Zkk,Zkn,.ok zSne4,Zex,.ok (.bin .add (.var 2) zSne7),Zbc,Zbc,.ok Zdu,Zkm,.ok zSne5,.ok Zh3,Zex,Zep,Zex,.fn 10 (EJu 2) zSne1,.ok (.fn 2 zSne1 0),.ok (.fn 2 zSne1 1),.ok (.fn 2 zSne1 2),.ok (.fn 2 zSne1 3),.ok (.fn 2 zSne1 4),.ok (.fn 2 zSne1 5),.ok (.fn 2 zSne1 6),.ok (.fn 2 zSne1 7),.ok (.fn 2 zSne1 8),.ok (.fn 2 zSne1 9),.ok Znt,.is Znt (.bool false),.ok zSne8,.is zSne8 (.bool false),Zex,Zki,Zkf,Zep,Zex,Zkh,Zke,Zbc,Zbc,.ok Zdu,Zkl,.ok Zeq,.is Zeq (.bool false),.ok Zcg,.ok Zcg,.ok Zh3,.ok (.var 3),.ok (.var 4),same Zh0 (.len Znw),same Zhz (.len Zn0),same Zdt Zdt],[.var 0,Zcg,Zh3,.var 3,.var 4,Znw,Zn0,.var 7]):=by kernel_rfl
theorem r11:segTo Try.prog (orcFn tabN) 10000 lpN shNl [1,1,1,1,0,0,1,1,1,1] shNl [(0,0),(1,0),(2,0),(3,0)] hN=some (.normal,[Zgk,.ok Zgl,Zkg,Zbc,Zkj,Zkk,Zkn,.ok zSne4,Zew,.ok (.bin .add (.var 3) zSne7),Zbc,Zbc,.ok Zdu,Zkm,.ok zSne5,.ok Zh2,Zew,Zep,Zew,.fn 10 (EJu 2) zSne2,.ok (.fn 2 zSne2 0),.ok (.fn 2 zSne2 1),.ok (.fn 2 zSne2 2),.ok (.fn 2 zSne2 3),.ok (.fn 2 zSne2 4),.ok (.fn 2 zSne2 5),.ok (.fn 2 zSne2 6),.ok (.fn 2 zSne2 7),.ok (.fn 2 zSne2 8),.ok (.fn 2 zSne2 9),.ok Zns,.is Zns (.bool false),.ok zSne9,.is zSne9 (.bool false),Zew,Zki,Zkf,Zep,Zew,Zkh,Zke,Zbc,Zbc,.ok Zdu,Zkl,.ok Zeq,.is Zeq (.bool true),Zew,rng zSne4 Zdt,.idx (.var 7) zSne4 4 4,.ok Zcg,.ok Zcg,.ok (.var 2),.ok Zh2,.ok (.var 4),same Zh0 (.len Znv),same Zhz (.len Znz),same Zdt (.len zSne50)],[.var 0,Zcg,.var 2,Zh2,.var 4,Znv,Znz,zSne50]):=by kernel_rfl
theorem r10:segTo Try.prog (orcFn tabN) 10000 lpN shNl [1,1,1,1,0,0,1,1,0] shNl [(0,0),(1,0),(2,0),(3,0)] hN=some (.normal,[Zgk,.ok Zgl,Zkg,Zbc,Zkj,Zkk,Zkn,.ok zSne4,Zew,.ok (.bin .add (.var 3) zSne7),Zbc,Zbc,.ok Zdu,Zkm,.ok zSne5,.ok Zh2,Zew,Zep,Zew,.fn 10 (EJu 2) zSne2,.ok (.fn 2 zSne2 0),.ok (.fn 2 zSne2 1),.ok (.fn 2 zSne2 2),.ok (.fn 2 zSne2 3),.ok (.fn 2 zSne2 4),.ok (.fn 2 zSne2 5),.ok (.fn 2 zSne2 6),.ok (.fn 2 zSne2 7),.ok (.fn 2 zSne2 8),.ok (.fn 2 zSne2 9),.ok Zns,.is Zns (.bool false),.ok zSne9,.is zSne9 (.bool false),Zew,Zki,Zkf,Zep,Zew,Zkh,Zke,Zbc,Zbc,.ok Zdu,Zkl,.ok Zeq,.is Zeq (.bool false),.ok Zcg,.ok Zcg,.ok (.var 2),.ok Zh2,.ok (.var 4),same Zh0 (.len Znv),same Zhz (.len Znz),same Zdt Zdt],[.var 0,Zcg,.var 2,Zh2,.var 4,Znv,Znz,.var 7]):=by kernel_rfl
theorem r21:segTo Try.prog (orcFn tabN) 10000 lpN shNl [1,2,2,2,0,0,2,2,1,2] shNl [(0,0),(1,0),(2,0),(3,0)] hN=some (.normal,[Zgk,.ok Zgl,Zkg,Zbc,Zkj,Zkk,Zkn,.ok zSne4,Zev,.ok (.bin .add (.var 4) zSne7),Zbc,Zbc,.ok Zdu,Zkm,.ok zSne5,.ok Zh1,Zev,Zep,Zev,.fn 10 (EJu 2) zSne3,.ok (.fn 2 zSne3 0),.ok (.fn 2 zSne3 1),.ok (.fn 2 zSne3 2),.ok (.fn 2 zSne3 3),.ok (.fn 2 zSne3 4),.ok (.fn 2 zSne3 5),.ok (.fn 2 zSne3 6),.ok (.fn 2 zSne3 7),.ok (.fn 2 zSne3 8),.ok (.fn 2 zSne3 9),.ok Znr,.is Znr (.bool false),.ok Zn1,.is Zn1 (.bool false),Zev,Zki,Zkf,Zep,Zev,Zkh,Zke,Zbc,Zbc,.ok Zdu,Zkl,.ok Zeq,.is Zeq (.bool true),Zev,rng zSne4 Zdt,.idx (.var 7) zSne4 4 4,.ok Zcg,.ok Zcg,.ok (.var 2),.ok (.var 3),.ok Zh1,same Zh0 (.len Znu),same Zhz (.len Zny),same Zdt (.len zSne51)],[.var 0,Zcg,.var 2,.var 3,Zh1,Znu,Zny,zSne51]):=by kernel_rfl
theorem r20:segTo Try.prog (orcFn tabN) 10000 lpN shNl [1,2,2,2,0,0,2,2,0] shNl [(0,0),(1,0),(2,0),(3,0)] hN=some (.normal,[Zgk,.ok Zgl,Zkg,Zbc,Zkj,Zkk,Zkn,.ok zSne4,Zev,.ok (.bin .add (.var 4) zSne7),Zbc,Zbc,.ok Zdu,Zkm,.ok zSne5,.ok Zh1,Zev,Zep,Zev,.fn 10 (EJu 2) zSne3,.ok (.fn 2 zSne3 0),.ok (.fn 2 zSne3 1),.ok (.fn 2 zSne3 2),.ok (.fn 2 zSne3 3),.ok (.fn 2 zSne3 4),.ok (.fn 2 zSne3 5),.ok (.fn 2 zSne3 6),.ok (.fn 2 zSne3 7),.ok (.fn 2 zSne3 8),.ok (.fn 2 zSne3 9),.ok Znr,.is Znr (.bool false),.ok Zn1,.is Zn1 (.bool false),Zev,Zki,Zkf,Zep,Zev,Zkh,Zke,Zbc,Zbc,.ok Zdu,Zkl,.ok Zeq,.is Zeq (.bool false),.ok Zcg,.ok Zcg,.ok (.var 2),.ok (.var 3),.ok Zh1,same Zh0 (.len Znu),same Zhz (.len Zny),same Zdt Zdt],[.var 0,Zcg,.var 2,.var 3,Zh1,Znu,Zny,.var 7]):=by kernel_rfl
theorem pz:segTo Try.prog (orcFn tabN) 10000 (flN.drop 9) shNl [] shNR [] hN=some (.ret,[.ok (.con (.bool true))],[.con (.bool true)]):=by kernel_rfl
theorem pos2:0 < 2:=by decide
abbrev E2:=encK 2 pos2
theorem cutN:flN=flN.take 8++.block (Zgi (nth flN 8)) (.loop (Zfn (nth flN 8))) :: flN.drop 9:=by kernel_rfl
def ELaw (k:Nat):FnE:={ k:=k,ins:=[none],leaks:=[false],outs:=[none],kinds:=[.truth] }
def RL (ps qs:List PV):Prop:=∃ (l:List (Nat->Nat)),(∀ f ∈ l,∀ j,f j < 256)/\l.length<=9223372036854775807/\ps=[pRow E2 l]/\qs=[pB true]
theorem fL:∀ ps q1 q2,RL ps q1->RL ps q2->q1=q2:=by
 rintro ps q1 q2 ⟨_,_,_,_,rfl⟩ ⟨_,_,_,_,rfl⟩;rfl
noncomputable def G:Fns:=fun k=>match k with | 1=>spec RTrue | 2=>spec RJu | _=>fun _=>none
theorem u1:ToldF 7 (ETrue 1) (G 1):=sbg.begunLit 1
theorem u2:ToldF 10 (EJu 2) (G 2):=Zpd 2
theorem G1:G 1 []=some [pB true]:=Zbv fTrue ⟨rfl,rfl⟩
theorem k2:(EJu 2).k=2:=rfl
structure Inv (N:Nat->Int) (sn:List Int) (td:List TellM) (mk:List MarkM):Prop where
 l1:sn.length=3
 l2:td.length=3
 l3:mk.length=3
 h1:∀ (j:Nat) (h:j < sn.length),sn[j]<=N j
 h2:∀ (j:Nat) (h:j < td.length),td[j].seq<=N j
 h3:∀ (j:Nat) (h:j < mk.length),mk[j].1<=N j
theorem inv0:Inv (fun _=>0) [0,0,0] (List.replicate 3 tz) (List.replicate 3 mz):=by
 refine ⟨rfl,rfl,rfl,?_,?_,?_⟩
 ·intro j h;match j,h with | 0,_=>exact Int.le_refl 0 | 1,_=>exact Int.le_refl 0 | 2,_=>exact Int.le_refl 0
 ·intro j h;rw [List.getElem_replicate];exact Int.le_refl 0
 ·intro j h;rw [List.getElem_replicate];exact Int.le_refl 0
def up (N:Nat->Int) (c:Nat) (v:Int):Nat->Int:=fun k=>if k=c then v else N k
theorem step {N : Nat -> Int} {sn : List Int} {td : List TellM} {mk : List MarkM} (h : Inv N sn td mk) {c : Nat} {v : Int} (hv : N c <= v) (t : TellM) (ht : t.seq = v) (m : MarkM) (hm : m.1 = v) (b : Bool) :
    Inv (up N c v) (sn.set c v) (td.set c t) (if b then mk.set c m else mk) := by
  have g : ∀ j, N j <= up N c v j := by
    intro j
    unfold up
    split
    · rename_i e
      rw [e]; exact hv
    · exact Int.le_refl _
  refine ⟨by simp [h.l1], by simp [h.l2], by split <;> simp [h.l3], ?_, ?_, ?_⟩
  · intro j hj
    rw [List.getElem_set]; split
    · rename_i e; subst e; simp [up]
    · exact Int.le_trans (h.h1 j (by simpa using hj)) (g j)
  · intro j hj
    rw [List.getElem_set]; split
    · rename_i e; subst e; simp [up, ht]
    · exact Int.le_trans (h.h2 j (by simpa using hj)) (g j)
  · intro j hj
    cases b with
    | false => exact Int.le_trans (h.h3 j hj) (g j)
    | true =>
      simp only [if_true, List.getElem_set]; split
      · rename_i e; subst e; simp [up, hm]
      · exact Int.le_trans (h.h3 j (by simpa using hj)) (g j)
theorem fresh {N:Nat->Int} {sn:List Int} {td:List TellM} {mk:List MarkM} (h:Inv N sn td mk) {c:Nat} (hc:c < 3) {v:Int} (hv:N c < v) (h0:1<=v) :
  Zet 7 sn td mk ⟨5,1+(c:Int),7,v,e0,1,0,[]⟩=(4,tz):=by
 have a1:=h.h1 c (by rw [h.l1];exact hc)
 have a2:=h.h2 c (by rw [h.l2];exact hc)
 have a3:=h.h3 c (by rw [h.l3];exact hc)
 rw [Zil (i:=c) (by rw [h.l1,h.l3]) (by rw [h.l2,h.l3]) (by rw [h.l3];exact hc) (by show 1+(c:Int)=_;omega) h0]
 simp only [ne_eq,not_true_eq_false,if_false]
 rw [if_neg (by omega),if_neg (by omega),if_neg (by omega)]
theorem G2 {N:Nat->Int} {sn:List Int} {td:List TellM} {mk:List MarkM} (h:Inv N sn td mk) {c:Nat} (hc:c < 3) {v:Int} (hv:N c < v) (h0:1<=v) :
  G 2 [pI 7,pRow encI sn,pRow encT td,pRow encM mk,pI 5,pI (1+(c:Int)),pI 7,pI v,pS e0,pI 1,pI 0,.row 0 []]=some [pI 4,pI 0,pI 0,pI 0,pI 0,pI 0,pI 0,pI 0,pI 0,pS e0]:=by
 have:=Zbv fJu (show RJu ([pI 7,pRow encI sn,pRow encT td,pRow encM mk]++aP ⟨5,1+(c:Int),7,v,e0,1,0,[]⟩) _ from ⟨7,sn,td,mk,⟨5,1+(c:Int),7,v,e0,1,0,[]⟩,by rw [h.l1];omega,by rw [h.l2];omega,by rw [h.l3];omega,⟨by show (-9223372036854775808:Int)<=1+(c:Int);omega,by show 1+(c:Int)<=9223372036854775807;omega⟩,rfl,rfl⟩)
 rw [fresh h hc hv h0] at this
 exact this
theorem r9:ropPV .allB [pB true,pB true,pB true,pB true,pB true,pB true,pB true,pB true,pB true]=some (pB true):=rfl
theorem rN:ropPV .notB [pB true]=some (pB false):=rfl
theorem r00':ropPV .eqI [pI 0,pI 0]=some (pB true):=rfl
theorem rSS:ropPV .eqS [pS ⟨⟨[]⟩⟩,pS ⟨⟨[]⟩⟩]=some (pB true):=by simp [ropPV]
abbrev stN (l:List (Nat->Nat)) (i:Nat) (N:Nat->Int) (sn:List Int) (td:List TellM) (mk:List MarkM):List PV:=[pRow E2 l,pI (i:Int),pI (N 0),pI (N 1),pI (N 2),pRow encI sn,pRow encT td,pRow encM mk]
set_option maxHeartbeats 4000000 in
theorem told (k0:Nat):ToldF 6 (ELaw k0) (spec RL):=by
 refine Zm9 G _ (Zdy Try.prog 6) Try.func6 (by kernel_rfl) shN (by kernel_rfl) ?_ ?_
 ·intro ps qs h
  obtain ⟨l,_,_,rfl,rfl⟩:=Zbk h
  exact Zg1 rfl
 ·intro C ps qs hF h a w hsh
  obtain ⟨l,hz,hl,rfl,rfl⟩:=Zbk h
  clear h
  show wpL Try.prog flN _ a w
  have fin:∀ qs a1 w1,qs=[pB true]->Zao C shNR qs a1 w1->(AX.ret=.normal->wpL Try.prog [] (fun e a' w'=>(e=.normal \/ e=.ret)/\∃ sh' ps' es,Zao C sh' ps' a' w'/\resTo Try.prog Try.f6 sh' (ELaw k0)=some es/\evs (fun i=>ps'[i]?) G es=some [pB true]) a1 w1)/\(AX.ret ≠ .normal->(AX.ret.to=.normal \/ AX.ret.to=.ret)/\∃ sh' ps' es,Zao C sh' ps' a1 w1/\resTo Try.prog Try.f6 sh' (ELaw k0)=some es/\evs (fun i=>ps'[i]?) G es=some [pB true]):=by
   rintro qs a1 w1 rfl h1
   exact ⟨nofun,fun _=>⟨.inr rfl,shNR,_,[SX.var 0],h1,by kernel_rfl,rfl⟩⟩
  have g1:=G1
  by_cases c1:25 < l.length
  ·have d1:(25:Int) < (l.length:Int):=by omega
   rw [<- List.append_nil flN]
   refine Zan names_ok mixed_ok (Zax tabN) q1 hsh ?_ (fun qs a1 w1 hq h1=>fin qs a1 w1 (by simp [evs,SX.ev] at hq;exact hq.symm) h1)
   simp [-Zac,Zab,Zaa,Base.ev,SX.ev,evs,Value.oneCell',hF,Zaf,binPV,g1,d1,sessNext.u1]
  have d1:¬ (25:Int) < (l.length:Int):=by omega
  rw [cutN]
  refine Zan names_ok mixed_ok (Zax tabN) pre hsh ?_ ?_
  ·simp [-Zac,Zab,Zaa,Base.ev,SX.ev,evs,Value.oneCell',hF,Zaf,binPV,ropPV,g1,d1,sessNext.u1]
   exact ⟨⟨3,rfl⟩,⟨3,rfl,by decide⟩,⟨3,rfl⟩,⟨3,rfl,by decide⟩,⟨3,rfl⟩,⟨3,rfl⟩,⟨3,rfl⟩⟩
  intro qs a1 w1 hq h1
  refine ⟨fun _=>?_,fun h=>absurd rfl h⟩
  replace h1:Zao C shNl (stN l 0 (fun _=>0) [0,0,0] (List.replicate 3 tz) (List.replicate 3 mz)) a1 w1:=by
   simp [evs,SX.ev,ropPV] at hq
   subst hq
   exact h1
  clear hq
  refine Zhq (fun q' a w=>∃ (i:Nat) (N:Nat->Int) (sn:List Int) (td:List TellM) (mk:List MarkM),i<=l.length/\q'=l.length - i/\Inv N sn td mk/\(∀ j,0<=N j/\N j<=4 * (i:Int))/\Zao C shNl (stN l i N sn td mk) a w) ?_ (n:=l.length) ⟨0,_,_,_,_,by omega,by omega,inv0,fun j=>⟨by simp,by simp⟩,h1⟩
  clear h1
  rintro q' a w ⟨i,N,sn,td,mk,hi,rfl,hI,hN,hin⟩
  show wpL Try.prog lpN _ a w
  rw [<- List.append_nil lpN]
  by_cases hlt:i < l.length
  ·have hzi:=hz _ (List.getElem_mem hlt)
   have c0:Zbm (pRow E2 l) (pI (i:Int)) 2 0=some (pU (l[i] 0:Int)):=cellK 2 _ l i hlt 0 (by omega)
   have c1:Zbm (pRow E2 l) (pI (i:Int)) 2 1=some (pU (l[i] 1:Int)):=cellK 2 _ l i hlt 1 (by omega)
   have i1:=Za1 E2 l i 2 1 .i64 rfl hlt (by decide)
   have i2:=Za1 E2 l i 2 2 .i64 rfl hlt (by decide)
   have v3:IntKind.i64.wrap ((i:Int)+1)=(i:Int)+1:=wrapI _ (by omega) (by omega)
   generalize l[i]=f at *
   obtain ⟨c,hc⟩:∃ c:Nat,f 0 % 3=c:=⟨_,rfl⟩
   obtain ⟨z1,h1'⟩:∃ z1:Nat,f 1 % 4=z1:=⟨_,rfl⟩
   obtain ⟨z2,h2'⟩:∃ z2:Nat,f 1 % 2=z2:=⟨_,rfl⟩
   have t0:(f 0:Int).tmod 3=(c:Int):=by rw [<- hc];rfl
   have t1:(f 1:Int).tmod 4=(z1:Int):=by rw [<- h1'];rfl
   have t2:(f 1:Int).tmod 2=(z2:Int):=by rw [<- h2'];rfl
   have hc3:c < 3:=by omega
   have hz1:z1 < 4:=by omega
   have hz2:z2 < 2:=by omega
   clear hc h1' h2' hzi
   have wc:IntKind.i64.wrap (c:Int)=(c:Int):=wrapI _ (by omega) (by omega)
   have wz:IntKind.i64.wrap (z1:Int)=(z1:Int):=wrapI _ (by omega) (by omega)
   have w1:IntKind.i64.wrap (1+(c:Int))=1+(c:Int):=wrapI _ (by omega) (by omega)
   have w1':IntKind.i64.wrap ((c:Int)+1)=1+(c:Int):=by rw [Int.add_comm];exact w1
   have hNc:=hN c
   have wn:IntKind.i64.wrap (N c+1)=N c+1:=wrapI _ (by omega) (by omega)
   have wv:IntKind.i64.wrap (N c+1+(z1:Int))=N c+1+(z1:Int):=wrapI _ (by omega) (by omega)
   have hvc:N c < N c+1+(z1:Int):=by omega
   have hv1:1<=N c+1+(z1:Int):=by omega
   have g2:=G2 hI hc3 hvc hv1
   have j1:=Za1 encI sn c 1 1 .i64 rfl (by rw [hI.l1];exact hc3) (by decide)
   have j2:=Za1 encT td c 9 9 .i64 rfl (by rw [hI.l2];exact hc3) (by decide)
   have j3:=Za1 encM mk c 4 4 .i64 rfl (by rw [hI.l3];exact hc3) (by decide)
   have s1:ropPV (.upd 1 0) [pRow encI sn,pI (c:Int),pI (N c+1+(z1:Int))]=some (pRow encI (sn.set c (N c+1+(z1:Int)))):=Zlg encI sn c .i64 (N c+1+(z1:Int)) (by rw [hI.l1];exact hc3)
   have s2:ropPV (.upd 9 0) [pRow encT td,pI (c:Int),pI 1,pI (1+(c:Int)),pI 7,pI (N c+1+(z1:Int)),pI 0,pI 0,pI 0,pI 0,pS e0]=some (pRow encT (td.set c ⟨1,1+(c:Int),7,N c+1+(z1:Int),0,0,0,0,e0⟩)):=Zlg encT td c .i64 ⟨1,1+(c:Int),7,N c+1+(z1:Int),0,0,0,0,e0⟩ (by rw [hI.l2];exact hc3)
   have s3:ropPV (.upd 4 0) [pRow encM mk,pI (c:Int),pI (N c+1+(z1:Int)),pI 0,pI 1,pI 0]=some (pRow encM (mk.set c (N c+1+(z1:Int),0,1,0))):=Zlg encM mk c .i64 (N c+1+(z1:Int),0,1,0) (by rw [hI.l3];exact hc3)
   have hI':=step hI (Int.le_of_lt hvc) ⟨1,1+(c:Int),7,N c+1+(z1:Int),0,0,0,0,e0⟩ rfl (N c+1+(z1:Int),0,1,0) rfl (decide (z2=0))
   have hN':∀ j,0<=up N c (N c+1+(z1:Int)) j/\up N c (N c+1+(z1:Int)) j<=4 * ((i+1:Nat):Int):=by
    intro j;have:=hN j;unfold up;split <;> omega
   have len1:=hI.l1
   have len2:=hI.l2
   have len3:=hI.l3
   clear hz
   have hcs:c=0 \/ c=1 \/ c=2:=by omega
   have hzs:z2=0 \/ z2=1:=by omega
   have nxt:∀ N' sn' td' mk' a3 w3,Inv N' sn' td' mk'->(∀ j,0<=N' j/\N' j<=4 * ((i+1:Nat):Int))->Zao C shNl (stN l (i+1) N' sn' td' mk') a3 w3->∃ n':Nat,n' < l.length - i/\∃ (i:Nat) (N:Nat->Int) (sn:List Int) (td:List TellM) (mk:List MarkM),i<=l.length/\n'=l.length - i/\Inv N sn td mk/\(∀ j,0<=N j/\N j<=4 * (i:Int))/\Zao C shNl (stN l i N sn td mk) a3 w3 :=
    fun N' sn' td' mk' a3 w3 h1 h2 h3=>⟨l.length - (i+1),by omega,i+1,N',sn',td',mk',by omega,rfl,h1,h2,h3⟩
   obtain ⟨x,hx⟩:∃ x:Int,x=(c:Int):=⟨_,rfl⟩
   obtain ⟨y,hy⟩:∃ y:Int,y=(z2:Int):=⟨_,rfl⟩
   rw [<- hx] at t0 wc w1 w1' g2 j1 j2 j3 s1 s2 s3 hI'
   rw [<- hy] at t2
   have hcx:(c=0/\x=0) \/ (c=1/\x=1) \/ (c=2/\x=2):=by omega
   have hzy:(z2=0/\y=0) \/ (z2=1/\y=1):=by omega
   clear hcs hzs hx hy
   have lw0:IntKind.i64.wrap 0=0:=rfl
   have lw1:IntKind.i64.wrap 1=1:=rfl
   have lw2:IntKind.i64.wrap 2=2:=rfl
   have lw3:IntKind.i64.wrap 3=3:=rfl
   rcases hcx with ⟨rfl,rfl⟩ | ⟨rfl,rfl⟩ | ⟨rfl,rfl⟩ <;> rcases hzy with ⟨rfl,rfl⟩ | ⟨rfl,rfl⟩ <;> simp only [Int.reduceAdd,e0] at g2 s2
   ·refine Zan names_ok mixed_ok (Zax tabN) r01 hin ?_ ?_
    ·simp [-Zac,Zab,Zaa,Base.ev,SX.ev,evs,Value.oneCell',hF,Zaf,binPV,Zaj,r9,rN,r00',rSS,c0,c1,i1,i2,t0,t1,t2,wz,lw0,lw1,lw2,lw3,wn,wv,v3,g2,sessNext.u2,sessNext.k2,j1,j2,j3,s1,s2,s3,Zaf,List.length_set,hlt,len1,len2,len3]
     exact ⟨3,rfl⟩
    ·intro qs a3 w3 hq h3
     refine ⟨fun _=>.inl ⟨rfl,nxt _ _ _ _ a3 w3 hI' hN' ?_⟩,fun h=>absurd rfl h⟩
     simp [evs,SX.ev,hF,binPV,Zaj,r9,rN,r00',rSS,c0,c1,t0,t1,t2,wz,lw0,lw1,lw2,lw3,wn,wv,v3,g2,s1,s2,s3] at hq
     subst hq
     exact h3
   ·refine Zan names_ok mixed_ok (Zax tabN) r00 hin ?_ ?_
    ·simp [-Zac,Zab,Zaa,Base.ev,SX.ev,evs,Value.oneCell',hF,Zaf,binPV,Zaj,r9,rN,r00',rSS,c0,c1,i1,i2,t0,t1,t2,wz,lw0,lw1,lw2,lw3,wn,wv,v3,g2,sessNext.u2,sessNext.k2,j1,j2,j3,s1,s2,s3,Zaf,List.length_set,hlt,len1,len2,len3]
     exact ⟨3,rfl⟩
    ·intro qs a3 w3 hq h3
     refine ⟨fun _=>.inl ⟨rfl,nxt _ _ _ _ a3 w3 hI' hN' ?_⟩,fun h=>absurd rfl h⟩
     simp [evs,SX.ev,hF,binPV,Zaj,r9,rN,r00',rSS,c0,c1,t0,t1,t2,wz,lw0,lw1,lw2,lw3,wn,wv,v3,g2,s1,s2,s3] at hq
     subst hq
     exact h3
   ·refine Zan names_ok mixed_ok (Zax tabN) r11 hin ?_ ?_
    ·simp [-Zac,Zab,Zaa,Base.ev,SX.ev,evs,Value.oneCell',hF,Zaf,binPV,Zaj,r9,rN,r00',rSS,c0,c1,i1,i2,t0,t1,t2,wz,lw0,lw1,lw2,lw3,wn,wv,v3,g2,sessNext.u2,sessNext.k2,j1,j2,j3,s1,s2,s3,Zaf,List.length_set,hlt,len1,len2,len3]
     exact ⟨3,rfl⟩
    ·intro qs a3 w3 hq h3
     refine ⟨fun _=>.inl ⟨rfl,nxt _ _ _ _ a3 w3 hI' hN' ?_⟩,fun h=>absurd rfl h⟩
     simp [evs,SX.ev,hF,binPV,Zaj,r9,rN,r00',rSS,c0,c1,t0,t1,t2,wz,lw0,lw1,lw2,lw3,wn,wv,v3,g2,s1,s2,s3] at hq
     subst hq
     exact h3
   ·refine Zan names_ok mixed_ok (Zax tabN) r10 hin ?_ ?_
    ·simp [-Zac,Zab,Zaa,Base.ev,SX.ev,evs,Value.oneCell',hF,Zaf,binPV,Zaj,r9,rN,r00',rSS,c0,c1,i1,i2,t0,t1,t2,wz,lw0,lw1,lw2,lw3,wn,wv,v3,g2,sessNext.u2,sessNext.k2,j1,j2,j3,s1,s2,s3,Zaf,List.length_set,hlt,len1,len2,len3]
     exact ⟨3,rfl⟩
    ·intro qs a3 w3 hq h3
     refine ⟨fun _=>.inl ⟨rfl,nxt _ _ _ _ a3 w3 hI' hN' ?_⟩,fun h=>absurd rfl h⟩
     simp [evs,SX.ev,hF,binPV,Zaj,r9,rN,r00',rSS,c0,c1,t0,t1,t2,wz,lw0,lw1,lw2,lw3,wn,wv,v3,g2,s1,s2,s3] at hq
     subst hq
     exact h3
   ·refine Zan names_ok mixed_ok (Zax tabN) r21 hin ?_ ?_
    ·simp [-Zac,Zab,Zaa,Base.ev,SX.ev,evs,Value.oneCell',hF,Zaf,binPV,Zaj,r9,rN,r00',rSS,c0,c1,i1,i2,t0,t1,t2,wz,lw0,lw1,lw2,lw3,wn,wv,v3,g2,sessNext.u2,sessNext.k2,j1,j2,j3,s1,s2,s3,Zaf,List.length_set,hlt,len1,len2,len3]
     exact ⟨3,rfl⟩
    ·intro qs a3 w3 hq h3
     refine ⟨fun _=>.inl ⟨rfl,nxt _ _ _ _ a3 w3 hI' hN' ?_⟩,fun h=>absurd rfl h⟩
     simp [evs,SX.ev,hF,binPV,Zaj,r9,rN,r00',rSS,c0,c1,t0,t1,t2,wz,lw0,lw1,lw2,lw3,wn,wv,v3,g2,s1,s2,s3] at hq
     subst hq
     exact h3
   ·refine Zan names_ok mixed_ok (Zax tabN) r20 hin ?_ ?_
    ·simp [-Zac,Zab,Zaa,Base.ev,SX.ev,evs,Value.oneCell',hF,Zaf,binPV,Zaj,r9,rN,r00',rSS,c0,c1,i1,i2,t0,t1,t2,wz,lw0,lw1,lw2,lw3,wn,wv,v3,g2,sessNext.u2,sessNext.k2,j1,j2,j3,s1,s2,s3,Zaf,List.length_set,hlt,len1,len2,len3]
     exact ⟨3,rfl⟩
    ·intro qs a3 w3 hq h3
     refine ⟨fun _=>.inl ⟨rfl,nxt _ _ _ _ a3 w3 hI' hN' ?_⟩,fun h=>absurd rfl h⟩
     simp [evs,SX.ev,hF,binPV,Zaj,r9,rN,r00',rSS,c0,c1,t0,t1,t2,wz,lw0,lw1,lw2,lw3,wn,wv,v3,g2,s1,s2,s3] at hq
     subst hq
     exact h3
  ·have hie:i=l.length:=by omega
   subst hie
   refine Zan names_ok mixed_ok (Zax tabN) ex hin ?_ ?_
   ·simp [-Zac,Zab,Zaa,Base.ev,SX.ev,evs,Value.oneCell',Zaf,binPV]
   ·intro qs a3 w3 hq h3
    refine ⟨nofun,fun _=>.inr (.inl ⟨by rw [show Zgi (nth flN 8)=0 by kernel_rfl];rfl,?_⟩)⟩
    rw [<- List.append_nil (flN.drop 9)]
    refine Zan names_ok mixed_ok (Zax tabN) pz h3 ?_ (fun qs a6 w6 hq h6=>fin qs a6 w6 (by simp [evs,SX.ev] at hq;exact hq.symm) h6)
    simp [-Zac,Zab,Zaa,Base.ev,SX.ev,evs,Value.oneCell',binPV]
theorem walk (w:World) (v4:Value) (len4:Nat) (Z4:Nat->Nat->Int) (h:IsGrid 2 w v4 len4 Z4) :
  Calls Try.prog 6 #[v4] w fun e w'=>e=.returned (.bool true)/\Ex w w':=by
 obtain ⟨l,hb,hr⟩:=gridK pos2 h
 refine Zgv (told 0) rfl (us:=[v4]) (ps:=[pRow E2 l]) (Zbv fL ⟨l,hb,reads_len hr,rfl,rfl⟩) rfl rfl (fun i p u hp hu=>?_)
 match i,hp,hu with
 | 0,hp,hu=>simp at hp hu;subst hp;subst hu;exact hr
 | i+1,hp,hu=>simp at hp
end Go.Proofs.Ytgdegpifjljnoaa.sessNext
