/- The document's MayAsk, told. -/
import Derived.Test.YtnomiffghidmbaaMtt
import Derived.Test.YtnomiffghidmbaaDir
import Derived.Test.YtnomiffghidmbaaMay
import Derived.Test.YtnomiffghidmbaaEng33
namespace Go.Proofs.Ytnomiffghidmbaa.mas
open Go Go.RowKit eng SX Fact fil ima msm
open fileFronts (Zac Zei)
open mws (ENu RNu fNu Zue tl_injW ESa RSa fSa toldSa aP Zej)
open myt (i64)
open dirs (EName RName fName toldName)
open may (EMay RMay fMay toldRef)
set_option linter.unusedVariables false
set_option linter.unusedSimpArgs false
set_option maxRecDepth 1000000
def EMa (k:Nat):FnE:={ k:=k,ins:=[some 8],leaks:=[false,false,false,false,false,false,false,false],outs:=[none],kinds:=[.truth] }
def tabA (f:FuncId):Option FnE:=cond (Nat.beq f 33) (some (ENu 1)) (cond (Nat.beq f 34) (some (EName 2)) (cond (Nat.beq f 18) (some (ESa 3)) (cond (Nat.beq f 35) (some (EMay 4)) none)))
noncomputable def flA:=flat (Zam Try.prog 14)
noncomputable def bkA:=flat (Zik (nth flA 9))
noncomputable def elA:=flat (elseC (nth bkA 1))
noncomputable def thA:=flat (thenC (nth elA 2))
noncomputable def lpA:=flat (Zaq (nth thA 3))
def abox:BoxT:=⟨24,0,false,[.leaf,.leaf,.leaf,.leaf,.leaf,.leaf,.leaf,.leaf],none,false⟩
def shA:Shape:=⟨[(0,.agg 8)],[],[none,none,none,none,none,none,none,some false],134,14⟩
def shAR:Shape:=⟨[(2,.leaf)],[],[none],134,14⟩
def shS:Shape:=⟨[(1,.ptr 0 0 0 0),(3,.ptr 1 0 0 0),(4,.leaf),(71,.leaf)],[abox,abox],[none,none,none,none,none,none,none,none,none,some false,none,none,none,none,none,none,none,some false],134,14⟩
def shS1:Shape:=⟨[(1,.ptr 0 0 0 0),(3,.ptr 1 0 0 0),(4,.leaf),(71,.leaf),(72,.leaf)],[abox,abox],[none,none,none,none,none,none,none,none,none,none,some false,none,none,none,none,none,none,none,some false],134,14⟩
def shS2:Shape:=⟨[(1,.ptr 0 0 0 0),(3,.ptr 1 0 0 0),(4,.leaf),(88,.leaf)],[abox,abox],[none,none,none,none,none,none,none,none,none,some false,none,none,none,none,none,none,none,some false],134,14⟩
def shL:Shape:=⟨[(1,.ptr 0 0 0 0),(3,.ptr 1 0 0 0),(4,.leaf),(5,.leaf)],[abox,abox],[none,none,none,none,none,none,none,none,none,some false,none,none,none,none,none,none,none,some false],134,14⟩
@[simp] def zMas1:SX:=.con (.int .i64 1)
@[simp] def zMas2:SX:=.bin .gtr (.var 0) (.con (.int .i64 5))
@[simp] def zMas3:SX:=.bin .gtr (.var 1) (.con (.int .i64 3))
@[simp] def zMas4:List SX:=[.var 0,.var 1,.var 2,.var 3,.con (.string { data:={ toList:=[] } }),.var 5,.var 6,.lit 0 [],.var 0,.var 1,.var 2,.var 3,.var 4,.var 5,.var 6,.var 7]
@[simp] def zMas5:SX:=.con (.int .i64 0)
@[simp] def zMas6:SX:=.bin .lss (.var 0) zMas1
@[simp] def zMas7:SX:=.bin .lss (.var 1) zMas1
@[simp] def zMas8:SX:=.bin .eql (.var 0) (.con (.int .i64 2))
@[simp] def zMas9:SX:=.bin .leq (.var 5) (.con (.int .i64 6))
@[simp] def Zco:SX:=.con (.bool false)
@[simp] def Zeh:Fact:=.is (.fn 1 [.var 2,zMas5] 0) (.bool true)
@[simp] def Zrl:SX:=.bin .eql (.var 0) zMas1
@[simp] def Ze4:Fact:=.is (.fn 1 [.var 3,zMas1] 0) (.bool true)
@[simp] def Zrk:SX:=.bin .geq (.var 5) zMas1
@[simp] def Zt3:List SX:=[.var 0,.var 1,.var 2,.var 3,.con (.string { data:={ toList:=[] } }),.var 5,zMas5,.lit 0 [],.var 0,.var 1,.var 2,.var 3,.var 4,.var 5,.var 6,.var 7]
@[simp] def Zd5:Fact:=.fn 33 (ENu 1) [.var 2,zMas5]
@[simp] def Zeg:Fact:=.fn 33 (ENu 1) [.var 3,zMas1]
@[simp] def Zt2:List SX:=[.var 10,.var 11,.var 12,.var 13,.var 14,.var 15,.var 16,.var 17,.var 2,.var 3,.var 4,.var 5,.var 6,.var 7,.var 8,.var 9]
@[simp] def Zt1:List SX:=[.var 0,.var 1,.var 2,.var 3,.var 4,zMas5,zMas5,.lit 0 [],.var 0,.var 1,.var 2,.var 3,.var 4,.var 5,.var 6,.var 7]
@[simp] def Zc0:Fact:=.is zMas6 (.bool false)
@[simp] def Zdh:Fact:=.is zMas2 (.bool false)
@[simp] def Zdx:Fact:=.is zMas7 (.bool false)
@[simp] def Zd4:Fact:=.is zMas3 (.bool false)
@[simp] def Zvk:List SX:=[Zco,zMas5,.var 2,.var 3,.var 4,.var 5,.var 6,.var 7,.var 8,.var 9,.var 10,.var 11,.var 12,.var 13,.var 14,.var 15,.var 16,.var 9]
@[simp] def Zml:SX:=.bin .leq (.len (.var 9)) (.con (.int .i64 5))
@[simp] def Zgc:Fact:=.is Zrl (.bool false)
@[simp] def Zdw:SX:=.con (.bool true)
@[simp] def Zrj:SX:=.bin .eql (.var 0) (.con (.int .i64 3))
@[simp] def Zri:SX:=.bin .eql (.var 0) (.con (.int .i64 4))
@[simp] def Zmk:SX:=.bin .lss (.var 1) (.len (.var 9))
@[simp] def Zrh:SX:=.con (.string { data:={ toList:=[] } })
@[simp] def Zh3:Fact:=.is Zrk (.bool true)
@[simp] def Zo5:SX:=.bin .eql (.var 6) (.con (.int .i64 2))
@[simp] def zMas34:List SX:=[Zco,.bin .add (.var 1) zMas1,.var 2,.var 3,.var 4,.var 5,.var 6,.var 7,.var 8,.var 9,.var 10,.var 11,.var 12,.var 13,.var 14,.var 15,.var 16,.var 17]
@[simp] def Zje:SX:=.bin .eql (.var 6) zMas1
@[simp] def Zt0:List SX:=[.cell (.var 9) (.var 1) 2 0,.cell (.var 9) (.var 1) 2 1]
@[simp] def zMas37:List SX:=[.var 0,Zdw,.var 3,.var 4,.var 5,.var 6,.var 7,.var 8,.var 9,.var 10,.var 11,.var 12,.var 13,.var 14,.var 15,.var 16,.var 17,.var 18]
@[simp] def zMas38:List SX:=[Zdw,zMas5,.var 2,.var 3,.var 4,.var 5,.var 6,.var 7,.var 8,.var 9,.var 10,.var 11,.var 12,.var 13,.var 14,.var 15,.var 16,.var 9]
@[simp] def zMas39:List SX:=[Zco,.var 0,.var 0,.var 1,.var 2,.var 3,.var 4,.var 5,.var 6,.var 7,.var 0,.var 1,.var 2,.var 3,Zrh,.var 5,zMas5,.lit 0 []]
@[simp] def Zmj:Fact:=.is (.var 0) (.bool true)
@[simp] def Zh2:Fact:=.ok (.len (.var 9))
@[simp] def Zo4:SX:=.bin .gtr (.len (.var 9)) zMas5
@[simp] def Zo3:Fact:=.ok (.bin .add (.var 1) zMas1)
@[simp] def Zmi:Fact:=.is zMas9 (.bool true)
@[simp] def Zef:Fact:=.ok (.var 3)
@[simp] def Zee:Fact:=.ok (.var 5)
@[simp] def Zca:Fact:=.ok Zco
@[simp] def Ztz:SX:=.bin .eql (.var 1) (.con (.int .i64 3))
@[simp] def Zty:SX:=.bin .eql (.var 2) (.con (.int .i64 4))
@[simp] def Zni:Fact:=.is zMas8 (.bool true)
@[simp] def Zfi:Fact:=.ok (.var 2)
@[simp] def Zfv:Fact:=.ok (.var 4)
@[simp] def Zfu:Fact:=.ok (.var 6)
@[simp] def Zhu:Fact:=.ok (.var 11)
@[simp] def Zht:Fact:=.ok (.var 12)
@[simp] def Zhs:Fact:=.ok (.var 13)
@[simp] def Zhr:Fact:=.ok (.var 14)
@[simp] def Zhq:Fact:=.ok (.var 15)
@[simp] def Zhp:Fact:=.ok (.var 16)
@[simp] def Zgs:Fact:=.ok (.var 0)
@[simp] def Zcn:Fact:=.ok zMas6
@[simp] def Zho:Fact:=.ok (.var 7)
@[simp] def Zhn:Fact:=.ok (.var 8)
@[simp] def Ze3:Fact:=.ok Zrl
@[simp] def Zcz:Fact:=.ok zMas2
@[simp] def Zjd:Fact:=.ok (.var 10)
@[simp] def Zdg:Fact:=.ok zMas7
@[simp] def Ztx:Fact:=.idx (.var 9) (.var 1) 2 2
@[simp] def Zdv:Fact:=.ok zMas3
@[simp] def Ztw:Fact:=.is Zrj (.bool false)
@[simp] def Ztv:Fact:=.is Zri (.bool false)
@[simp] def Zgb:Fact:=.ok Zrk
@[simp] def Ztu:Fact:=.is zMas8 (.bool false)
theorem ag1:segTo Try.prog (orcFn tabA) 10000 (flA.take 3) shA [1] shAR []=some (.ret,[Zcn,.is zMas6 (.bool true),Zca],[Zco]):=by kernel_rfl
theorem ag2:segTo Try.prog (orcFn tabA) 10000 (flA.take 3) shA [0,1] shAR []=some (.ret,[Zcn,Zc0,Zcz,.is zMas2 (.bool true),Zca],[Zco]):=by kernel_rfl
theorem ag3:segTo Try.prog (orcFn tabA) 10000 (flA.take 3) shA [0,0,1] shAR []=some (.ret,[Zcn,Zc0,Zcz,Zdh,Zdg,.is zMas7 (.bool true),Zca],[Zco]):=by kernel_rfl
theorem ag4:segTo Try.prog (orcFn tabA) 10000 (flA.take 3) shA [0,0,0,1] shAR []=some (.ret,[Zcn,Zc0,Zcz,Zdh,Zdg,Zdx,Zdv,.is zMas3 (.bool true),Zca],[Zco]):=by kernel_rfl
theorem ag5:segTo Try.prog (orcFn tabA) 10000 (flA.take 3) shA [0,0,0,0,0] shAR []=some (.ret,[Zcn,Zc0,Zcz,Zdh,Zdg,Zdx,Zdv,Zd4,Zd5,.is (.fn 1 [.var 2,zMas5] 0) (.bool false),Zca],[Zco]):=by kernel_rfl
theorem ag6:segTo Try.prog (orcFn tabA) 10000 (flA.take 3) shA [0,0,0,0,1,0] shAR []=some (.ret,[Zcn,Zc0,Zcz,Zdh,Zdg,Zdx,Zdv,Zd4,Zd5,Zeh,Zeg,.is (.fn 1 [.var 3,zMas1] 0) (.bool false),Zca],[Zco]):=by kernel_rfl
theorem ao0:segTo Try.prog (orcFn tabA) 10000 flA shA [0,0,0,0,1,1,1,0] shAR []=some (.ret,[Zcn,Zc0,Zcz,Zdh,Zdg,Zdx,Zdv,Zd4,Zd5,Zeh,Zeg,Ze4,Ze3,.is Zrl (.bool true),.fn 34 (EName 2) [.var 4],.is (.fn 2 [.var 4] 0) (.bool false),Zca],[Zco]):=by kernel_rfl
theorem ao10:segTo Try.prog (orcFn tabA) 10000 flA shA [0,0,0,0,1,1,1,1,0] shAR []=some (.ret,[Zcn,Zc0,Zcz,Zdh,Zdg,Zdx,Zdv,Zd4,Zd5,Zeh,Zeg,Ze4,Ze3,.is Zrl (.bool true),.fn 34 (EName 2) [.var 4],.is (.fn 2 [.var 4] 0) (.bool true),.fn 18 (ESa 3) Zt1,.is (.fn 3 Zt1 0) (.bool false),Zca],[Zco]):=by kernel_rfl
theorem ao11:segTo Try.prog (orcFn tabA) 10000 flA shA [0,0,0,0,1,1,1,1,1] shAR []=some (.ret,[Zcn,Zc0,Zcz,Zdh,Zdg,Zdx,Zdv,Zd4,Zd5,Zeh,Zeg,Ze4,Ze3,.is Zrl (.bool true),.fn 34 (EName 2) [.var 4],.is (.fn 2 [.var 4] 0) (.bool true),.fn 18 (ESa 3) Zt1,.is (.fn 3 Zt1 0) (.bool true),.ok Zdw],[Zdw]):=by kernel_rfl
theorem a2a:segTo Try.prog (orcFn tabA) 10000 flA shA [0,0,0,0,1,1,0,0,1] shAR []=some (.ret,[Zcn,Zc0,Zcz,Zdh,Zdg,Zdx,Zdv,Zd4,Zd5,Zeh,Zeg,Ze4,Ze3,Zgc,Zgb,.is Zrk (.bool false),.ok zMas8,Zni,Zca],[Zco]):=by kernel_rfl
theorem a2b:segTo Try.prog (orcFn tabA) 10000 flA shA [0,0,0,0,1,1,0,1,0,1] shAR []=some (.ret,[Zcn,Zc0,Zcz,Zdh,Zdg,Zdx,Zdv,Zd4,Zd5,Zeh,Zeg,Ze4,Ze3,Zgc,Zgb,Zh3,.ok zMas9,.is zMas9 (.bool false),.ok zMas8,Zni,Zca],[Zco]):=by kernel_rfl
theorem a2c0:segTo Try.prog (orcFn tabA) 10000 flA shA [0,0,0,0,1,1,0,1,1,1,1,0] shAR []=some (.ret,[Zcn,Zc0,Zcz,Zdh,Zdg,Zdx,Zdv,Zd4,Zd5,Zeh,Zeg,Ze4,Ze3,Zgc,Zgb,Zh3,.ok zMas9,Zmi,.ok zMas8,Zni,.ok Zje,.is Zje (.bool true),.fn 18 (ESa 3) zMas4,.is (.fn 3 zMas4 0) (.bool false),Zca],[Zco]):=by kernel_rfl
theorem a2d0:segTo Try.prog (orcFn tabA) 10000 flA shA [0,0,0,0,1,1,0,1,1,1,0,1,0] shAR []=some (.ret,[Zcn,Zc0,Zcz,Zdh,Zdg,Zdx,Zdv,Zd4,Zd5,Zeh,Zeg,Ze4,Ze3,Zgc,Zgb,Zh3,.ok zMas9,Zmi,.ok zMas8,Zni,.ok Zje,.is Zje (.bool false),.ok Zo5,.is Zo5 (.bool true),.fn 18 (ESa 3) zMas4,.is (.fn 3 zMas4 0) (.bool false),Zca],[Zco]):=by kernel_rfl
theorem a2c1:segTo Try.prog (orcFn tabA) 10000 flA shA [0,0,0,0,1,1,0,1,1,1,1,1] shAR []=some (.ret,[Zcn,Zc0,Zcz,Zdh,Zdg,Zdx,Zdv,Zd4,Zd5,Zeh,Zeg,Ze4,Ze3,Zgc,Zgb,Zh3,.ok zMas9,Zmi,.ok zMas8,Zni,.ok Zje,.is Zje (.bool true),.fn 18 (ESa 3) zMas4,.is (.fn 3 zMas4 0) (.bool true),.ok Zdw],[Zdw]):=by kernel_rfl
theorem a2d1:segTo Try.prog (orcFn tabA) 10000 flA shA [0,0,0,0,1,1,0,1,1,1,0,1,1] shAR []=some (.ret,[Zcn,Zc0,Zcz,Zdh,Zdg,Zdx,Zdv,Zd4,Zd5,Zeh,Zeg,Ze4,Ze3,Zgc,Zgb,Zh3,.ok zMas9,Zmi,.ok zMas8,Zni,.ok Zje,.is Zje (.bool false),.ok Zo5,.is Zo5 (.bool true),.fn 18 (ESa 3) zMas4,.is (.fn 3 zMas4 0) (.bool true),.ok Zdw],[Zdw]):=by kernel_rfl
theorem a2e:segTo Try.prog (orcFn tabA) 10000 flA shA [0,0,0,0,1,1,0,1,1,1,0,0] shAR []=some (.ret,[Zcn,Zc0,Zcz,Zdh,Zdg,Zdx,Zdv,Zd4,Zd5,Zeh,Zeg,Ze4,Ze3,Zgc,Zgb,Zh3,.ok zMas9,Zmi,.ok zMas8,Zni,.ok Zje,.is Zje (.bool false),.ok Zo5,.is Zo5 (.bool false),Zca],[Zco]):=by kernel_rfl
theorem a5a:segTo Try.prog (orcFn tabA) 10000 flA shA [0,0,0,0,1,1,0,0,0,0,0] shAR []=some (.ret,[Zcn,Zc0,Zcz,Zdh,Zdg,Zdx,Zdv,Zd4,Zd5,Zeh,Zeg,Ze4,Ze3,Zgc,Zgb,.is Zrk (.bool false),.ok zMas8,Ztu,.ok Zrj,Ztw,.ok Zri,Ztv,Zca],[Zco]):=by kernel_rfl
theorem a5b:segTo Try.prog (orcFn tabA) 10000 flA shA [0,0,0,0,1,1,0,1,0,0,0,0] shAR []=some (.ret,[Zcn,Zc0,Zcz,Zdh,Zdg,Zdx,Zdv,Zd4,Zd5,Zeh,Zeg,Ze4,Ze3,Zgc,Zgb,Zh3,.ok zMas9,.is zMas9 (.bool false),.ok zMas8,Ztu,.ok Zrj,Ztw,.ok Zri,Ztv,Zca],[Zco]):=by kernel_rfl
theorem a5s0:segTo Try.prog (orcFn tabA) 10000 flA shA [0,0,0,0,1,1,0,1,1,0,0,0,0] shAR []=some (.ret,[Zcn,Zc0,Zcz,Zdh,Zdg,Zdx,Zdv,Zd4,Zd5,Zeh,Zeg,Ze4,Ze3,Zgc,Zgb,Zh3,.ok zMas9,Zmi,.ok zMas8,Ztu,.ok Zrj,Ztw,.ok Zri,Ztv,.fn 18 (ESa 3) Zt3,.is (.fn 3 Zt3 0) (.bool false),Zca],[Zco]):=by kernel_rfl
theorem a5s1:segTo Try.prog (orcFn tabA) 10000 flA shA [0,0,0,0,1,1,0,1,1,0,0,0,1] shAR []=some (.ret,[Zcn,Zc0,Zcz,Zdh,Zdg,Zdx,Zdv,Zd4,Zd5,Zeh,Zeg,Ze4,Ze3,Zgc,Zgb,Zh3,.ok zMas9,Zmi,.ok zMas8,Ztu,.ok Zrj,Ztw,.ok Zri,Ztv,.fn 18 (ESa 3) Zt3,.is (.fn 3 Zt3 0) (.bool true),.ok Zdw],[Zdw]):=by kernel_rfl
theorem s0:segTo Try.prog (orcFn tabA) 10000 (flA.take 9) shA [0,0,0,0,1,1,0,0] shS [(1,0),(2,0)]=some (.normal,[Zcn,Zc0,Zcz,Zdh,Zdg,Zdx,Zdv,Zd4,Zd5,Zeh,Zeg,Ze4,Ze3,Zgc,Zgb,.is Zrk (.bool false),Zca,Zgs,Zgs,.ok (.var 1),Zfi,Zef,Zfv,Zee,Zfu,Zgs,.ok (.var 1),Zfi,Zef,.ok Zrh,Zee,.ok zMas5],zMas39):=by kernel_rfl
theorem s10:segTo Try.prog (orcFn tabA) 10000 (flA.take 9) shA [0,0,0,0,1,1,0,1,0] shS [(1,0),(2,0)]=some (.normal,[Zcn,Zc0,Zcz,Zdh,Zdg,Zdx,Zdv,Zd4,Zd5,Zeh,Zeg,Ze4,Ze3,Zgc,Zgb,Zh3,.ok zMas9,.is zMas9 (.bool false),Zca,Zgs,Zgs,.ok (.var 1),Zfi,Zef,Zfv,Zee,Zfu,Zgs,.ok (.var 1),Zfi,Zef,.ok Zrh,Zee,.ok zMas5],zMas39):=by kernel_rfl
theorem s11:segTo Try.prog (orcFn tabA) 10000 (flA.take 9) shA [0,0,0,0,1,1,0,1,1] shS [(1,0),(2,0)]=some (.normal,[Zcn,Zc0,Zcz,Zdh,Zdg,Zdx,Zdv,Zd4,Zd5,Zeh,Zeg,Ze4,Ze3,Zgc,Zgb,Zh3,.ok zMas9,Zmi,.ok Zdw,Zgs,Zgs,.ok (.var 1),Zfi,Zef,Zfv,Zee,Zfu,Zgs,.ok (.var 1),Zfi,Zef,.ok Zrh,Zee,.ok zMas5],[Zdw,.var 0,.var 0,.var 1,.var 2,.var 3,.var 4,.var 5,.var 6,.var 7,.var 0,.var 1,.var 2,.var 3,Zrh,.var 5,zMas5,.lit 0 []]):=by kernel_rfl
theorem b0:segTo Try.prog (orcFn tabA) 10000 (bkA.take 1) shS [0] shS1 [(0,0),(1,0)]=some (.normal,[.ok (.bin .eql (.var 1) (.con (.int .i64 2))),.is (.bin .eql (.var 1) (.con (.int .i64 2))) (.bool false),Zgs,.ok (.var 1),Zca,Zfi,Zef,Zfv,Zee,Zfu,Zho,Zhn,Zjd,Zhu,Zht,Zhs,Zhr,Zhq,Zhp],[.var 0,.var 1,Zco,.var 2,.var 3,.var 4,.var 5,.var 6,.var 7,.var 8,.var 9,.var 10,.var 11,.var 12,.var 13,.var 14,.var 15,.var 16,.var 17]):=by kernel_rfl
theorem e3:segTo Try.prog (orcFn tabA) 10000 (elA.take 2) shS1 [1] shS2 [(0,0),(1,0)]=some (.normal,[.ok Ztz,.is Ztz (.bool true),Zgs,.ok Zdw,Zef,Zfv,Zee,Zfu,Zho,Zhn,.ok (.var 9),Zhu,Zht,Zhs,Zhr,Zhq,Zhp,.ok (.var 17)],zMas37):=by kernel_rfl
theorem e4:segTo Try.prog (orcFn tabA) 10000 (elA.take 2) shS1 [0,1] shS2 [(0,0),(1,0)]=some (.normal,[.ok Ztz,.is Ztz (.bool false),.ok (.bin .eql (.var 1) (.con (.int .i64 4))),.is (.bin .eql (.var 1) (.con (.int .i64 4))) (.bool true),Zgs,.ok Zdw,Zef,Zfv,Zee,Zfu,Zho,Zhn,.ok (.var 9),Zhu,Zht,Zhs,Zhr,Zhq,Zhp,.ok (.var 17)],zMas37):=by kernel_rfl
theorem t0:segTo Try.prog (orcFn tabA) 10000 (thA.take 3) shS2 [0] shL [(0,0),(1,0)]=some (.normal,[.is (.var 0) (.bool false),Zca,.ok zMas5,Zfi,Zef,Zfv,Zee,Zfu,Zho,Zhn,Zjd,Zhu,Zht,Zhs,Zhr,Zhq,Zhp],Zvk):=by kernel_rfl
theorem t10:segTo Try.prog (orcFn tabA) 10000 (thA.take 3) shS2 [1,0] shL [(0,0),(1,0)]=some (.normal,[Zmj,Zh2,.ok Zml,.is Zml (.bool false),Zca,.ok zMas5,Zfi,Zef,Zfv,Zee,Zfu,Zho,Zhn,Zjd,Zhu,Zht,Zhs,Zhr,Zhq,Zhp],Zvk):=by kernel_rfl
theorem t111:segTo Try.prog (orcFn tabA) 10000 (thA.take 3) shS2 [1,1,1] shL [(0,0),(1,0)]=some (.normal,[Zmj,Zh2,.ok Zml,.is Zml (.bool true),Zh2,.ok Zo4,.is Zo4 (.bool true),.ok Zdw,.ok zMas5,Zfi,Zef,Zfv,Zee,Zfu,Zho,Zhn,Zjd,Zhu,Zht,Zhs,Zhr,Zhq,Zhp],zMas38):=by kernel_rfl
theorem t1101:segTo Try.prog (orcFn tabA) 10000 (thA.take 3) shS2 [1,1,0,1] shL [(0,0),(1,0)]=some (.normal,[Zmj,Zh2,.ok Zml,.is Zml (.bool true),Zh2,.ok Zo4,.is Zo4 (.bool false),.ok Zty,.is Zty (.bool true),.ok Zdw,.ok zMas5,Zfi,Zef,Zfv,Zee,Zfu,Zho,Zhn,Zjd,Zhu,Zht,Zhs,Zhr,Zhq,Zhp],zMas38):=by kernel_rfl
theorem t1100:segTo Try.prog (orcFn tabA) 10000 (thA.take 3) shS2 [1,1,0,0] shL [(0,0),(1,0)]=some (.normal,[Zmj,Zh2,.ok Zml,.is Zml (.bool true),Zh2,.ok Zo4,.is Zo4 (.bool false),.ok Zty,.is Zty (.bool false),Zca,.ok zMas5,Zfi,Zef,Zfv,Zee,Zfu,Zho,Zhn,Zjd,Zhu,Zht,Zhs,Zhr,Zhq,Zhp],Zvk):=by kernel_rfl
theorem l0:segTo Try.prog (orcFn tabA) 10000 lpA shL [0] shL [(0,0),(1,0)]=some (.exit 1,[Zh2,.ok Zmk,.is Zmk (.bool false),Zgs,.ok (.var 1),Zfi,Zef,Zfv,Zee,Zfu,Zho,Zhn,Zjd,Zhu,Zht,Zhs,Zhr,Zhq,Zhp],[.var 0,.var 1,.var 2,.var 3,.var 4,.var 5,.var 6,.var 7,.var 8,.var 9,.var 10,.var 11,.var 12,.var 13,.var 14,.var 15,.var 16,.var 17]):=by kernel_rfl
theorem l10:segTo Try.prog (orcFn tabA) 10000 lpA shL [1,0] shL [(0,0),(1,0)]=some (.normal,[Zh2,.ok Zmk,.is Zmk (.bool true),.is (.var 0) (.bool false),Zo3,Zca,Zo3,Zfi,Zef,Zfv,Zee,Zfu,Zho,Zhn,Zjd,Zhu,Zht,Zhs,Zhr,Zhq,Zhp],zMas34):=by kernel_rfl
theorem l110:segTo Try.prog (orcFn tabA) 10000 lpA shL [1,1,0] shL [(0,0),(1,0)]=some (.normal,[Zh2,.ok Zmk,.is Zmk (.bool true),Zmj,Ztx,Ztx,.ok (.cell (.var 9) (.var 1) 2 0),.ok (.cell (.var 9) (.var 1) 2 1),.fn 35 (EMay 4) Zt0,.is (.fn 4 Zt0 0) (.bool false),Zo3,Zca,Zo3,Zfi,Zef,Zfv,Zee,Zfu,Zho,Zhn,Zjd,Zhu,Zht,Zhs,Zhr,Zhq,Zhp],zMas34):=by kernel_rfl
theorem l111:segTo Try.prog (orcFn tabA) 10000 lpA shL [1,1,1] shL [(0,0),(1,0)]=some (.normal,[Zh2,.ok Zmk,.is Zmk (.bool true),Zmj,Ztx,Ztx,.ok (.cell (.var 9) (.var 1) 2 0),.ok (.cell (.var 9) (.var 1) 2 1),.fn 35 (EMay 4) Zt0,.is (.fn 4 Zt0 0) (.bool true),Zo3,.ok Zdw,Zo3,Zfi,Zef,Zfv,Zee,Zfu,Zho,Zhn,Zjd,Zhu,Zht,Zhs,Zhr,Zhq,Zhp],[Zdw,.bin .add (.var 1) zMas1,.var 2,.var 3,.var 4,.var 5,.var 6,.var 7,.var 8,.var 9,.var 10,.var 11,.var 12,.var 13,.var 14,.var 15,.var 16,.var 17]):=by kernel_rfl
theorem f0:segTo Try.prog (orcFn tabA) 10000 (flA.drop 10) shL [0] shAR []=some (.ret,[.is (.var 0) (.bool false),Zca],[Zco]):=by kernel_rfl
theorem f10:segTo Try.prog (orcFn tabA) 10000 (flA.drop 10) shL [1,0] shAR []=some (.ret,[Zmj,.fn 18 (ESa 3) Zt2,.is (.fn 3 Zt2 0) (.bool false),Zca],[Zco]):=by kernel_rfl
theorem f11:segTo Try.prog (orcFn tabA) 10000 (flA.drop 10) shL [1,1] shAR []=some (.ret,[Zmj,.fn 18 (ESa 3) Zt2,.is (.fn 3 Zt2 0) (.bool true),.ok Zdw],[Zdw]):=by kernel_rfl
@[simp] theorem kMa (k:Nat):(EMa k).k=k:=rfl
@[simp] theorem kNm (k:Nat):(EName k).k=k:=rfl
@[simp] theorem kMw (k:Nat):(EMay k).k=k:=rfl
theorem Zai:PV.v (Value.string ⟨⟨[]⟩⟩)=pS e0:=rfl
noncomputable def FA:Fns:=fun k=>match k with | 1=>spec RNu | 2=>spec RName | 3=>spec RSa | 4=>spec RMay | _=>fun _=>none
theorem w1:ToldF 33 (ENu 1) (FA 1):=Zue 1
theorem w2:ToldF 34 (EName 2) (FA 2):=toldName 2
theorem w3:ToldF 18 (ESa 3) (FA 3):=toldSa 3
theorem w4:ToldF 35 (EMay 4) (FA 4):=toldRef 4
theorem Zvu (s:ByteArray):dirs.okN s=Zia s:=by
 unfold dirs.okN Zia lst
 rw [Bool.eq_iff_iff]
 simp
 exact fun _ _=>rfl
theorem okW_eq (w:WrM):mayW w=okWr w:=by
 unfold mayW okWr
 rw [Bool.eq_iff_iff]
 simp
 omega
structure AOk (a:AskM):Prop where
 epoch:i64 a.epoch
 seq:i64 a.seq
 name:a.name.size<=9223372036854775807
 len:a.writes.length<=1000000
 wr:∀ w ∈ a.writes,-9223372036854775808<=w.1/\w.1<=9223372036854775807/\w.2.size<=9223372036854775807
theorem fa3 {x a:AskM} (h:x.writes.length<=1000000) (h':a.writes.length<=1000000):FA 3 (aP x++aP a)=some [pB (decide (x=a))]:=Zaf fSa ⟨x,a,h,h',rfl,rfl⟩
theorem nilW:PV.row 0 []=pRow encW []:=rfl
theorem cut3:flA=flA.take 3++flA.drop 3:=(List.take_append_drop 3 flA).symm
theorem cut9:flA=flA.take 9++.block (Zat (nth flA 9)) (Zik (nth flA 9)) :: flA.drop 10:=by kernel_rfl
theorem cutB:bkA=bkA.take 1++[.cond (condC (nth bkA 1)) (thenC (nth bkA 1)) (elseC (nth bkA 1))]:=by kernel_rfl
theorem cutE:elA=elA.take 2++[.cond (condC (nth elA 2)) (thenC (nth elA 2)) (elseC (nth elA 2))]:=by kernel_rfl
theorem cutT:thA=thA.take 3++[.block (Zat (nth thA 3)) (.loop (Zaq (nth thA 3)))]:=by kernel_rfl
theorem atB:Zuj shS1 (condC (nth bkA 1))=some 2:=by kernel_rfl
theorem atE:Zuj shS2 (condC (nth elA 2))=some 1:=by kernel_rfl
set_option maxHeartbeats 4000000 in
theorem walkA {C:Base} (hF:C.F=FA) {Q:Exit->Act->World->Prop} {a:Act} {w:World} (A:AskM) (ok:AOk A) (hQ:∀ a' w',Zah C shAR [pB (mayA A)] a' w'->Q .ret a' w') (hsh:Zah C shA (aP A) a w):wpL Try.prog flA Q a w:=by
 have gE:FA 1 [pI A.epoch,pI 0]=some [pB (numB A.epoch 0)]:=Zaf fNu ⟨_,_,ok.epoch.1,ok.epoch.2,rfl,rfl⟩
 have gS:FA 1 [pI A.seq,pI 1]=some [pB (numB A.seq 1)]:=Zaf fNu ⟨_,_,ok.seq.1,ok.seq.2,rfl,rfl⟩
 have gN:FA 2 [pS A.name]=some [pB (Zia A.name)]:=by rw [<- Zvu];exact Zaf fName ⟨_,ok.name,rfl,rfl⟩
 have hlen:=ok.len
 have hwr:=ok.wr
 clear ok
 obtain ⟨k,f,e,s,n,i,m,ws⟩:=A
 have x1:=fa3 (x:=⟨k,f,e,s,n,0,0,[]⟩) (a:=⟨k,f,e,s,n,i,m,ws⟩) (by simp) hlen
 have x2:=fa3 (x:=⟨k,f,e,s,e0,i,m,[]⟩) (a:=⟨k,f,e,s,n,i,m,ws⟩) (by simp) hlen
 have x3:=fa3 (x:=⟨k,f,e,s,e0,i,0,ws⟩) (a:=⟨k,f,e,s,n,i,m,ws⟩) hlen hlen
 have x5:=fa3 (x:=⟨k,f,e,s,e0,i,0,[]⟩) (a:=⟨k,f,e,s,n,i,m,ws⟩) (by simp) hlen
 simp only [aP,numB,List.cons_append,List.nil_append,AskM.mk.injEq,true_and,and_true] at *
 by_cases c1:1<=k
 rotate_left
 ·rw [show mayA ⟨k,f,e,s,n,i,m,ws⟩=false by simp [mayA,numB,c1]] at hQ
  rw [cut3]
  refine Zad names_ok mixed_ok (Zae tabA) ag1 hsh ?_ (fun qs a1 w1 hq h1=>⟨nofun,fun _=>hQ a1 w1 (by simp [evs,SX.ev] at hq;subst hq;exact h1)⟩)
  simp [-Zac,Zab,Zaa,Base.ev,SX.ev,evs,Value.oneCell',hF,binPV,nilW,Zai,gE,gS,mas.w1,mas.w2,mas.w3,mas.w4,c1]
  all_goals first | omega | skip
 by_cases c2:k<=5
 rotate_left
 ·rw [show mayA ⟨k,f,e,s,n,i,m,ws⟩=false by simp [mayA,numB,c1,c2]] at hQ
  rw [cut3]
  refine Zad names_ok mixed_ok (Zae tabA) ag2 hsh ?_ (fun qs a1 w1 hq h1=>⟨nofun,fun _=>hQ a1 w1 (by simp [evs,SX.ev] at hq;subst hq;exact h1)⟩)
  simp [-Zac,Zab,Zaa,Base.ev,SX.ev,evs,Value.oneCell',hF,binPV,nilW,Zai,gE,gS,mas.w1,mas.w2,mas.w3,mas.w4,c1,c2]
  all_goals first | omega | skip
 by_cases c3:1<=f
 rotate_left
 ·rw [show mayA ⟨k,f,e,s,n,i,m,ws⟩=false by simp [mayA,numB,c1,c2,c3]] at hQ
  rw [cut3]
  refine Zad names_ok mixed_ok (Zae tabA) ag3 hsh ?_ (fun qs a1 w1 hq h1=>⟨nofun,fun _=>hQ a1 w1 (by simp [evs,SX.ev] at hq;subst hq;exact h1)⟩)
  simp [-Zac,Zab,Zaa,Base.ev,SX.ev,evs,Value.oneCell',hF,binPV,nilW,Zai,gE,gS,mas.w1,mas.w2,mas.w3,mas.w4,c1,c2,c3]
  all_goals first | omega | skip
 by_cases c4:f<=3
 rotate_left
 ·rw [show mayA ⟨k,f,e,s,n,i,m,ws⟩=false by simp [mayA,numB,c1,c2,c3,c4]] at hQ
  rw [cut3]
  refine Zad names_ok mixed_ok (Zae tabA) ag4 hsh ?_ (fun qs a1 w1 hq h1=>⟨nofun,fun _=>hQ a1 w1 (by simp [evs,SX.ev] at hq;subst hq;exact h1)⟩)
  simp [-Zac,Zab,Zaa,Base.ev,SX.ev,evs,Value.oneCell',hF,binPV,nilW,Zai,gE,gS,mas.w1,mas.w2,mas.w3,mas.w4,c1,c2,c3,c4]
  all_goals first | omega | skip
 by_cases c5:0<=e/\e<=1073741824
 rotate_left
 ·rw [show mayA ⟨k,f,e,s,n,i,m,ws⟩=false by simp [mayA,numB,c1,c2,c3,c4,c5]] at hQ
  rw [cut3]
  refine Zad names_ok mixed_ok (Zae tabA) ag5 hsh ?_ (fun qs a1 w1 hq h1=>⟨nofun,fun _=>hQ a1 w1 (by simp [evs,SX.ev] at hq;subst hq;exact h1)⟩)
  simp [-Zac,Zab,Zaa,Base.ev,SX.ev,evs,Value.oneCell',hF,binPV,nilW,Zai,gE,gS,mas.w1,mas.w2,mas.w3,mas.w4,c1,c2,c3,c4,c5]
  all_goals first | omega | skip
 by_cases c6:1<=s/\s<=1073741824
 rotate_left
 ·rw [show mayA ⟨k,f,e,s,n,i,m,ws⟩=false by simp [mayA,numB,c1,c2,c3,c4,c5,c6]] at hQ
  rw [cut3]
  refine Zad names_ok mixed_ok (Zae tabA) ag6 hsh ?_ (fun qs a1 w1 hq h1=>⟨nofun,fun _=>hQ a1 w1 (by simp [evs,SX.ev] at hq;subst hq;exact h1)⟩)
  simp [-Zac,Zab,Zaa,Base.ev,SX.ev,evs,Value.oneCell',hF,binPV,nilW,Zai,gE,gS,mas.w1,mas.w2,mas.w3,mas.w4,c1,c2,c3,c4,c5,c6]
  all_goals first | omega | skip
 by_cases k1:k=1
 ·cases hn:Zia n with
  | false =>
   rw [hn] at gN
   rw [show mayA ⟨k,f,e,s,n,i,m,ws⟩=false by simp [mayA,numB,c1,c2,c3,c4,c5,c6,k1,hn]] at hQ
   rw [<- List.append_nil flA]
   refine Zad names_ok mixed_ok (Zae tabA) ao0 hsh ?_ (fun qs a1 w1 hq h1=>⟨nofun,fun _=>hQ a1 w1 (by simp [evs,SX.ev] at hq;subst hq;exact h1)⟩)
   simp [-Zac,Zab,Zaa,Base.ev,SX.ev,evs,Value.oneCell',hF,binPV,nilW,Zai,gE,gS,mas.w1,mas.w2,mas.w3,mas.w4,c1,c2,c3,c4,c5,c6,k1,gN]
   all_goals first | omega | skip
  | true =>
   rw [hn] at gN
   by_cases q:0=i/\0=m/\[]=ws
   ·rw [decide_eq_true q] at x1
    rw [show mayA ⟨k,f,e,s,n,i,m,ws⟩=true by obtain ⟨q1,q2,q3⟩:=q;simp [mayA,numB,c1,c2,c3,c4,c5,c6,k1,hn,<- q1,<- q2,<- q3]] at hQ
    rw [<- List.append_nil flA]
    simp only [k1] at x1
    refine Zad names_ok mixed_ok (Zae tabA) ao11 hsh ?_ (fun qs a1 w1 hq h1=>⟨nofun,fun _=>hQ a1 w1 (by simp [evs,SX.ev] at hq;subst hq;exact h1)⟩)
    simp [-Zac,Zab,Zaa,Base.ev,SX.ev,evs,Value.oneCell',hF,binPV,nilW,Zai,gE,gS,mas.w1,mas.w2,mas.w3,mas.w4,c1,c2,c3,c4,c5,c6,k1,gN,x1]
    all_goals first | omega | skip
   ·rw [decide_eq_false q] at x1
    rw [show mayA ⟨k,f,e,s,n,i,m,ws⟩=false by simp [mayA,numB,c1,c2,c3,c4,c5,c6,k1,hn];exact fun h1 h2 h3=>q ⟨h1.symm,h2.symm,h3.symm⟩] at hQ
    rw [<- List.append_nil flA]
    simp only [k1] at x1
    refine Zad names_ok mixed_ok (Zae tabA) ao10 hsh ?_ (fun qs a1 w1 hq h1=>⟨nofun,fun _=>hQ a1 w1 (by simp [evs,SX.ev] at hq;subst hq;exact h1)⟩)
    simp [-Zac,Zab,Zaa,Base.ev,SX.ev,evs,Value.oneCell',hF,binPV,nilW,Zai,gE,gS,mas.w1,mas.w2,mas.w3,mas.w4,c1,c2,c3,c4,c5,c6,k1,gN,x1]
    all_goals first | omega | skip
 by_cases k2:k=2
 ·skip
  by_cases i1:1<=i
  rotate_left
  ·rw [show mayA ⟨k,f,e,s,n,i,m,ws⟩=false by simp [mayA,numB,c1,c2,c3,c4,c5,c6,k1,k2,i1]] at hQ
   rw [<- List.append_nil flA]
   refine Zad names_ok mixed_ok (Zae tabA) a2a hsh ?_ (fun qs a1 w1 hq h1=>⟨nofun,fun _=>hQ a1 w1 (by simp [evs,SX.ev] at hq;subst hq;exact h1)⟩)
   simp [-Zac,Zab,Zaa,Base.ev,SX.ev,evs,Value.oneCell',hF,binPV,nilW,Zai,gE,gS,mas.w1,mas.w2,mas.w3,mas.w4,c1,c2,c3,c4,c5,c6,k1,k2,i1]
   all_goals first | omega | skip
  by_cases i2:i<=6
  rotate_left
  ·rw [show mayA ⟨k,f,e,s,n,i,m,ws⟩=false by simp [mayA,numB,c1,c2,c3,c4,c5,c6,k1,k2,i1,i2]] at hQ
   rw [<- List.append_nil flA]
   refine Zad names_ok mixed_ok (Zae tabA) a2b hsh ?_ (fun qs a1 w1 hq h1=>⟨nofun,fun _=>hQ a1 w1 (by simp [evs,SX.ev] at hq;subst hq;exact h1)⟩)
   simp [-Zac,Zab,Zaa,Base.ev,SX.ev,evs,Value.oneCell',hF,binPV,nilW,Zai,gE,gS,mas.w1,mas.w2,mas.w3,mas.w4,c1,c2,c3,c4,c5,c6,k1,k2,i1,i2]
   all_goals first | omega | skip
  by_cases q:e0=n/\[]=ws
  ·rw [decide_eq_true q] at x2
   obtain ⟨q1,q2⟩:=q
   by_cases m1:m=1
   ·rw [show mayA ⟨k,f,e,s,n,i,m,ws⟩=true by simp [mayA,numB,c1,c2,c3,c4,c5,c6,k2,i1,i2,m1,<- q1,<- q2]] at hQ
    rw [<- List.append_nil flA]
    simp only [k2,m1] at x2
    refine Zad names_ok mixed_ok (Zae tabA) a2c1 hsh ?_ (fun qs a1 w1 hq h1=>⟨nofun,fun _=>hQ a1 w1 (by simp [evs,SX.ev] at hq;subst hq;exact h1)⟩)
    simp [-Zac,Zab,Zaa,Base.ev,SX.ev,evs,Value.oneCell',hF,binPV,nilW,Zai,gE,gS,mas.w1,mas.w2,mas.w3,mas.w4,c1,c2,c3,c4,c5,c6,k1,k2,i1,i2,m1,x2]
    all_goals first | omega | skip
   by_cases m2:m=2
   ·rw [show mayA ⟨k,f,e,s,n,i,m,ws⟩=true by simp [mayA,numB,c1,c2,c3,c4,c5,c6,k2,i1,i2,m2,<- q1,<- q2]] at hQ
    rw [<- List.append_nil flA]
    simp only [k2,m2] at x2
    refine Zad names_ok mixed_ok (Zae tabA) a2d1 hsh ?_ (fun qs a1 w1 hq h1=>⟨nofun,fun _=>hQ a1 w1 (by simp [evs,SX.ev] at hq;subst hq;exact h1)⟩)
    simp [-Zac,Zab,Zaa,Base.ev,SX.ev,evs,Value.oneCell',hF,binPV,nilW,Zai,gE,gS,mas.w1,mas.w2,mas.w3,mas.w4,c1,c2,c3,c4,c5,c6,k1,k2,i1,i2,m1,m2,x2]
    all_goals first | omega | skip
   rw [show mayA ⟨k,f,e,s,n,i,m,ws⟩=false by simp [mayA,numB,c1,c2,c3,c4,c5,c6,k2,i1,i2,m1,m2]] at hQ
   rw [<- List.append_nil flA]
   refine Zad names_ok mixed_ok (Zae tabA) a2e hsh ?_ (fun qs a1 w1 hq h1=>⟨nofun,fun _=>hQ a1 w1 (by simp [evs,SX.ev] at hq;subst hq;exact h1)⟩)
   simp [-Zac,Zab,Zaa,Base.ev,SX.ev,evs,Value.oneCell',hF,binPV,nilW,Zai,gE,gS,mas.w1,mas.w2,mas.w3,mas.w4,c1,c2,c3,c4,c5,c6,k1,k2,i1,i2,m1,m2]
   all_goals first | omega | skip
  ·rw [decide_eq_false q] at x2
   by_cases m1:m=1
   ·rw [show mayA ⟨k,f,e,s,n,i,m,ws⟩=false by simp [mayA,numB,c1,c2,c3,c4,c5,c6,k2,i1,i2,m1];exact fun h1 h2=>q ⟨h1.symm,h2.symm⟩] at hQ
    rw [<- List.append_nil flA]
    simp only [k2,m1] at x2
    refine Zad names_ok mixed_ok (Zae tabA) a2c0 hsh ?_ (fun qs a1 w1 hq h1=>⟨nofun,fun _=>hQ a1 w1 (by simp [evs,SX.ev] at hq;subst hq;exact h1)⟩)
    simp [-Zac,Zab,Zaa,Base.ev,SX.ev,evs,Value.oneCell',hF,binPV,nilW,Zai,gE,gS,mas.w1,mas.w2,mas.w3,mas.w4,c1,c2,c3,c4,c5,c6,k1,k2,i1,i2,m1,x2]
    all_goals first | omega | skip
   by_cases m2:m=2
   ·rw [show mayA ⟨k,f,e,s,n,i,m,ws⟩=false by simp [mayA,numB,c1,c2,c3,c4,c5,c6,k2,i1,i2,m2];exact fun h1 h2=>q ⟨h1.symm,h2.symm⟩] at hQ
    rw [<- List.append_nil flA]
    simp only [k2,m2] at x2
    refine Zad names_ok mixed_ok (Zae tabA) a2d0 hsh ?_ (fun qs a1 w1 hq h1=>⟨nofun,fun _=>hQ a1 w1 (by simp [evs,SX.ev] at hq;subst hq;exact h1)⟩)
    simp [-Zac,Zab,Zaa,Base.ev,SX.ev,evs,Value.oneCell',hF,binPV,nilW,Zai,gE,gS,mas.w1,mas.w2,mas.w3,mas.w4,c1,c2,c3,c4,c5,c6,k1,k2,i1,i2,m1,m2,x2]
    all_goals first | omega | skip
   rw [show mayA ⟨k,f,e,s,n,i,m,ws⟩=false by simp [mayA,numB,c1,c2,c3,c4,c5,c6,k2,i1,i2,m1,m2]] at hQ
   rw [<- List.append_nil flA]
   refine Zad names_ok mixed_ok (Zae tabA) a2e hsh ?_ (fun qs a1 w1 hq h1=>⟨nofun,fun _=>hQ a1 w1 (by simp [evs,SX.ev] at hq;subst hq;exact h1)⟩)
   simp [-Zac,Zab,Zaa,Base.ev,SX.ev,evs,Value.oneCell',hF,binPV,nilW,Zai,gE,gS,mas.w1,mas.w2,mas.w3,mas.w4,c1,c2,c3,c4,c5,c6,k1,k2,i1,i2,m1,m2]
   all_goals first | omega | skip
 by_cases k5:k=5
 ·skip
  by_cases i1:1<=i
  rotate_left
  ·rw [show mayA ⟨k,f,e,s,n,i,m,ws⟩=false by simp [mayA,numB,c1,c2,c3,c4,c5,c6,k1,k2,k5,i1]] at hQ
   rw [<- List.append_nil flA]
   refine Zad names_ok mixed_ok (Zae tabA) a5a hsh ?_ (fun qs a1 w1 hq h1=>⟨nofun,fun _=>hQ a1 w1 (by simp [evs,SX.ev] at hq;subst hq;exact h1)⟩)
   simp [-Zac,Zab,Zaa,Base.ev,SX.ev,evs,Value.oneCell',hF,binPV,nilW,Zai,gE,gS,mas.w1,mas.w2,mas.w3,mas.w4,c1,c2,c3,c4,c5,c6,k1,k2,k5,i1]
   all_goals first | omega | skip
  by_cases i2:i<=6
  rotate_left
  ·rw [show mayA ⟨k,f,e,s,n,i,m,ws⟩=false by simp [mayA,numB,c1,c2,c3,c4,c5,c6,k1,k2,k5,i1,i2]] at hQ
   rw [<- List.append_nil flA]
   refine Zad names_ok mixed_ok (Zae tabA) a5b hsh ?_ (fun qs a1 w1 hq h1=>⟨nofun,fun _=>hQ a1 w1 (by simp [evs,SX.ev] at hq;subst hq;exact h1)⟩)
   simp [-Zac,Zab,Zaa,Base.ev,SX.ev,evs,Value.oneCell',hF,binPV,nilW,Zai,gE,gS,mas.w1,mas.w2,mas.w3,mas.w4,c1,c2,c3,c4,c5,c6,k1,k2,k5,i1,i2]
   all_goals first | omega | skip
  by_cases q:e0=n/\0=m/\[]=ws
  ·rw [decide_eq_true q] at x5
   obtain ⟨q1,q2,q3⟩:=q
   rw [show mayA ⟨k,f,e,s,n,i,m,ws⟩=true by simp [mayA,numB,c1,c2,c3,c4,c5,c6,k5,i1,i2,<- q1,<- q2,<- q3]] at hQ
   rw [<- List.append_nil flA]
   simp only [k5] at x5
   refine Zad names_ok mixed_ok (Zae tabA) a5s1 hsh ?_ (fun qs a1 w1 hq h1=>⟨nofun,fun _=>hQ a1 w1 (by simp [evs,SX.ev] at hq;subst hq;exact h1)⟩)
   simp [-Zac,Zab,Zaa,Base.ev,SX.ev,evs,Value.oneCell',hF,binPV,nilW,Zai,gE,gS,mas.w1,mas.w2,mas.w3,mas.w4,c1,c2,c3,c4,c5,c6,k1,k2,k5,i1,i2,x5]
   all_goals first | omega | skip
  ·rw [decide_eq_false q] at x5
   rw [show mayA ⟨k,f,e,s,n,i,m,ws⟩=false by simp [mayA,numB,c1,c2,c3,c4,c5,c6,k5,i1,i2];exact fun h1 h2 h3=>q ⟨h1.symm,h2.symm,h3.symm⟩] at hQ
   rw [<- List.append_nil flA]
   simp only [k5] at x5
   refine Zad names_ok mixed_ok (Zae tabA) a5s0 hsh ?_ (fun qs a1 w1 hq h1=>⟨nofun,fun _=>hQ a1 w1 (by simp [evs,SX.ev] at hq;subst hq;exact h1)⟩)
   simp [-Zac,Zab,Zaa,Base.ev,SX.ev,evs,Value.oneCell',hF,binPV,nilW,Zai,gE,gS,mas.w1,mas.w2,mas.w3,mas.w4,c1,c2,c3,c4,c5,c6,k1,k2,k5,i1,i2,x5]
   all_goals first | omega | skip
 have hk:k=3 \/ k=4:=by omega
 obtain ⟨fo,hfo⟩:∃ fo:Bool,fo=decide (1<=i/\i<=6):=⟨_,rfl⟩
 obtain ⟨so,hso⟩:∃ so:Bool,so=decide (e0=n/\0=m):=⟨_,rfl⟩
 obtain ⟨lo,hlo⟩:∃ lo:Bool,lo=(decide (ws.length<=5) && (decide (0 < ws.length) || decide (k=4))):=⟨_,rfl⟩
 have hmay:mayA ⟨k,f,e,s,n,i,m,ws⟩=(fo && lo && ws.all okWr && so):=by
  rw [hfo,hso,hlo,Bool.eq_iff_iff]
  simp [mayA,numB,c1,c2,c3,c4,c5,c6,k1,k2,k5]
  constructor
  ·rintro ⟨⟨h1,h2,h3⟩,h4,⟨h5,h6⟩,h7⟩;exact ⟨⟨⟨⟨h2,h3⟩,h5,h6⟩,h7⟩,h1.symm,h4.symm⟩
  ·rintro ⟨⟨⟨⟨h2,h3⟩,h5,h6⟩,h7⟩,h1,h4⟩;exact ⟨⟨h1.symm,h2,h3⟩,h4.symm,⟨h5,h6⟩,h7⟩
 rw [hmay] at hQ
 rw [<- hso] at x3
 clear hso hmay gN x1 x2 x5
 have fin:∀ (o:Bool) (j:Nat) (a1:Act) (w1:World),o=(fo && lo && ws.all okWr)->Zah C shL [pB o,pI (j:Int),pI k,pI f,pI e,pI s,pS n,pI i,pI m,pRow encW ws,pI k,pI f,pI e,pI s,pS e0,pI i,pI 0,pRow encW ws] a1 w1->wpL Try.prog (flA.drop 10) Q a1 w1:=by
  intro o j a1 w1 ho h1
  rw [<- ho] at hQ
  rw [<- List.append_nil (flA.drop 10)]
  clear ho
  cases o with
  | false =>
   refine Zad names_ok mixed_ok (Zae tabA) f0 h1 ?_ (fun qs a1 w1 hq h1=>⟨nofun,fun _=>hQ a1 w1 (by simp [evs,SX.ev] at hq;subst hq;exact h1)⟩)
   simp [-Zac,Zab,Zaa,Base.ev,SX.ev,evs,Value.oneCell',hF]
  | true =>
   cases so with
   | false =>
    refine Zad names_ok mixed_ok (Zae tabA) f10 h1 ?_ (fun qs a1 w1 hq h1=>⟨nofun,fun _=>hQ a1 w1 (by simp [evs,SX.ev] at hq;subst hq;exact h1)⟩)
    simp [-Zac,Zab,Zaa,Base.ev,SX.ev,evs,Value.oneCell',hF,x3,mas.w3]
   | true =>
    refine Zad names_ok mixed_ok (Zae tabA) f11 h1 ?_ (fun qs a1 w1 hq h1=>⟨nofun,fun _=>hQ a1 w1 (by simp [evs,SX.ev] at hq;subst hq;exact h1)⟩)
    simp [-Zac,Zab,Zaa,Base.ev,SX.ev,evs,Value.oneCell',hF,x3,mas.w3]
 have loop:∀ (Q':Exit->Act->World->Prop),(∀ (a':Act) (w':World) (j:Nat),Zah C shL [pB (fo && lo && ws.all okWr),pI (j:Int),pI k,pI f,pI e,pI s,pS n,pI i,pI m,pRow encW ws,pI k,pI f,pI e,pI s,pS e0,pI i,pI 0,pRow encW ws] a' w'->Q' .normal a' w')->∀ (o:Bool) (a1:Act) (w1:World),o=(fo && lo)->Zah C shL [pB o,pI 0,pI k,pI f,pI e,pI s,pS n,pI i,pI m,pRow encW ws,pI k,pI f,pI e,pI s,pS e0,pI i,pI 0,pRow encW ws] a1 w1->wpL Try.prog [.block (Zat (nth thA 3)) (.loop (Zaq (nth thA 3)))] Q' a1 w1:=by
  intro Q' hQ' o a1 w1 ho h1
  refine Zbj (fun q a w=>∃ (j:Nat) (o:Bool),j<=ws.length/\q=ws.length - j/\o=(fo && lo && (ws.take j).all okWr)/\Zah C shL [pB o,pI (j:Int),pI k,pI f,pI e,pI s,pS n,pI i,pI m,pRow encW ws,pI k,pI f,pI e,pI s,pS e0,pI i,pI 0,pRow encW ws] a w) ?_ (n:=ws.length) ⟨0,o,by omega,by omega,by simp [ho],h1⟩
  rintro q a w ⟨j,o,hj,rfl,ho,hin⟩
  show wpL Try.prog lpA _ a w
  rw [<- List.append_nil lpA]
  have v3:IntKind.i64.wrap ((j:Int)+1)=(j:Int)+1:=wrapI _ (by omega) (by omega)
  by_cases hlt:j < ws.length
  ·obtain ⟨d0,d1⟩:=Zei ws j hlt
   have ix:=Zdk encW ws j 2 2 .i64 rfl hlt (by decide)
   have ix1:=Zdk encW ws j 2 1 .i64 rfl hlt (by decide)
   have hj1:(ws.take (j+1)).all okWr=((ws.take j).all okWr && okWr ws[j]):=by rw [List.take_succ_eq_append_getElem hlt,List.all_append];simp
   cases o with
   | false =>
    have ho1:false=(fo && lo && (ws.take (j+1)).all okWr):=by rw [hj1,<- Bool.and_assoc,<- ho];rfl
    refine Zad names_ok mixed_ok (Zae tabA) l10 hin ?_ (fun qs a1 w1 hq h1=>⟨fun _=>.inl ⟨rfl,ws.length - (j+1),by omega,j+1,false,by omega,rfl,ho1,by simp [evs,SX.ev,binPV,v3] at hq;subst hq;exact h1⟩,fun h=>absurd rfl h⟩)
    simp [-Zac,Zab,Zaa,Base.ev,SX.ev,evs,Value.oneCell',hF,Zar,binPV,v3,hlt]
   | true =>
    have gW:FA 4 [pI ws[j].1,pS ws[j].2]=some [pB (okWr ws[j])]:=by
     have:=hwr ws[j] (List.getElem_mem hlt)
     rw [<- okW_eq]
     exact Zaf fMay ⟨_,_,this.1,this.2.1,this.2.2,rfl,rfl⟩
    have ho1:okWr ws[j]=(fo && lo && (ws.take (j+1)).all okWr):=by rw [hj1,<- Bool.and_assoc,<- ho];rfl
    clear hj1 ho
    generalize okWr ws[j]=ow at *
    cases ow with
    | false =>
     refine Zad names_ok mixed_ok (Zae tabA) l110 hin ?_ (fun qs a1 w1 hq h1=>⟨fun _=>.inl ⟨rfl,ws.length - (j+1),by omega,j+1,false,by omega,rfl,ho1,by simp [evs,SX.ev,binPV,v3] at hq;subst hq;exact h1⟩,fun h=>absurd rfl h⟩)
     simp [-Zac,Zab,Zaa,Base.ev,SX.ev,evs,Value.oneCell',hF,Zar,binPV,v3,hlt,ix,ix1,d0,d1,gW,mas.w4]
    | true =>
     refine Zad names_ok mixed_ok (Zae tabA) l111 hin ?_ (fun qs a1 w1 hq h1=>⟨fun _=>.inl ⟨rfl,ws.length - (j+1),by omega,j+1,true,by omega,rfl,ho1,by simp [evs,SX.ev,binPV,v3] at hq;subst hq;exact h1⟩,fun h=>absurd rfl h⟩)
     simp [-Zac,Zab,Zaa,Base.ev,SX.ev,evs,Value.oneCell',hF,Zar,binPV,v3,hlt,ix,ix1,d0,d1,gW,mas.w4]
  ·have hje:j=ws.length:=by omega
   subst hje
   rw [List.take_length] at ho
   refine Zad names_ok mixed_ok (Zae tabA) l0 hin ?_ (fun qs a1 w1 hq h1=>⟨nofun,fun _=>.inr (.inl ⟨by rw [show Zat (nth thA 3)=1 by kernel_rfl];rfl,hQ' a1 w1 ws.length (by simp [evs,SX.ev] at hq;subst hq;rw [<- ho];exact h1)⟩)⟩)
   simp [-Zac,Zab,Zaa,Base.ev,SX.ev,evs,Value.oneCell',hF,Zar,binPV]
 have mid:∀ (o:Bool) (a1:Act) (w1:World),o=fo->Zah C shS [pB o,pI k,pI k,pI f,pI e,pI s,pS n,pI i,pI m,pRow encW ws,pI k,pI f,pI e,pI s,pS e0,pI i,pI 0,pRow encW []] a1 w1->wpL Try.prog (.block (Zat (nth flA 9)) (Zik (nth flA 9)) :: flA.drop 10) Q a1 w1:=by
  intro o a1 w1 ho h1
  refine block_in ?_
  show wpL Try.prog bkA _ a1 w1
  rw [cutB]
  refine Zad names_ok mixed_ok (Zae tabA) b0 h1 ?_ ?_
  ·simp [-Zac,Zab,Zaa,Base.ev,SX.ev,evs,Value.oneCell',hF,binPV,k2]
  intro qs a2 w2 hq h2
  refine ⟨fun _=>?_,fun h=>absurd rfl h⟩
  simp [evs,SX.ev] at hq
  subst hq
  refine cond_in atB (b:=false) rfl h2 ?_
  rw [List.append_nil]
  show wpL Try.prog elA _ a2 w2
  rw [cutE]
  have go:∀ (Q':Exit->Act->World->Prop),(∀ (a':Act) (w':World),wpL Try.prog (flA.drop 10) Q a' w'->Q' .normal a' w')->∀ (a3:Act) (w3:World),Zah C shS2 [pB o,pB true,pI k,pI f,pI e,pI s,pS n,pI i,pI m,pRow encW ws,pI k,pI f,pI e,pI s,pS e0,pI i,pI 0,pRow encW []] a3 w3->wpL Try.prog thA Q' a3 w3:=by
   intro Q' hQ' a3 w3 h3
   rw [cutT]
   have nx:=loop Q' (fun a' w' j h=>hQ' a' w' (fin _ j a' w' rfl h))
   have hlW:lenPV (pRow encW ws)=some (pI (ws.length:Int)):=Zar ..
   cases o with
   | false =>
    refine Zad names_ok mixed_ok (Zae tabA) t0 h3 ?_ (fun qs a4 w4 hq h4=>⟨fun _=>nx false a4 w4 (by rw [<- ho];rfl) (by simp [evs,SX.ev] at hq;subst hq;exact h4),fun h=>absurd rfl h⟩)
    simp [-Zac,Zab,Zaa,Base.ev,SX.ev,evs,Value.oneCell',hF]
   | true =>
    rw [<- ho,Bool.true_and] at nx
    by_cases l5:ws.length<=5
    ·by_cases l1:0 < ws.length
     ·have hl:true=lo:=by rw [hlo];simp [l5,l1]
      refine Zad names_ok mixed_ok (Zae tabA) t111 h3 ?_ (fun qs a4 w4 hq h4=>⟨fun _=>nx true a4 w4 hl (by simp [evs,SX.ev] at hq;subst hq;exact h4),fun h=>absurd rfl h⟩)
      simp [-Zac,Zab,Zaa,Base.ev,SX.ev,evs,Value.oneCell',hF,hlW,binPV]
      all_goals omega
     ·rw [show ws.length=0 by omega] at hlW
      rcases hk with k3 | k4
      ·have hl:false=lo:=by rw [hlo];simp [l1,k3]
       refine Zad names_ok mixed_ok (Zae tabA) t1100 h3 ?_ (fun qs a4 w4 hq h4=>⟨fun _=>nx false a4 w4 hl (by simp [evs,SX.ev] at hq;subst hq;exact h4),fun h=>absurd rfl h⟩)
       simp [-Zac,Zab,Zaa,Base.ev,SX.ev,evs,Value.oneCell',hF,hlW,binPV,k3]
       all_goals omega
      ·have hl:true=lo:=by rw [hlo];simp [l5,k4]
       refine Zad names_ok mixed_ok (Zae tabA) t1101 h3 ?_ (fun qs a4 w4 hq h4=>⟨fun _=>nx true a4 w4 hl (by simp [evs,SX.ev] at hq;subst hq;exact h4),fun h=>absurd rfl h⟩)
       simp [-Zac,Zab,Zaa,Base.ev,SX.ev,evs,Value.oneCell',hF,hlW,binPV,k4]
       all_goals omega
    ·have hl:false=lo:=by rw [hlo];simp [l5]
     refine Zad names_ok mixed_ok (Zae tabA) t10 h3 ?_ (fun qs a4 w4 hq h4=>⟨fun _=>nx false a4 w4 hl (by simp [evs,SX.ev] at hq;subst hq;exact h4),fun h=>absurd rfl h⟩)
     simp [-Zac,Zab,Zaa,Base.ev,SX.ev,evs,Value.oneCell',hF,hlW,binPV]
     all_goals omega
  have go2:∀ (Q':Exit->Act->World->Prop),(∀ (a':Act) (w':World),wpL Try.prog (flA.drop 10) Q a' w'->Q' .normal a' w')->∀ (a3:Act) (w3:World),Zah C shS2 [pB o,pB true,pI k,pI f,pI e,pI s,pS n,pI i,pI m,pRow encW ws,pI k,pI f,pI e,pI s,pS e0,pI i,pI 0,pRow encW []] a3 w3->wpL Try.prog [.cond (condC (nth elA 2)) (thenC (nth elA 2)) (elseC (nth elA 2))] Q' a3 w3:=by
   intro Q' hQ' a3 w3 h3
   refine cond_in atE (b:=true) rfl h3 ?_
   rw [List.append_nil]
   exact go Q' hQ' a3 w3 h3
  rcases hk with k3 | k4
  ·refine Zad names_ok mixed_ok (Zae tabA) e3 h2 ?_ ?_
   ·simp [-Zac,Zab,Zaa,Base.ev,SX.ev,evs,Value.oneCell',hF,binPV,k3]
   ·intro qs a3 w3 hq h3
    refine ⟨fun _=>go2 _ (fun a' w' h=>.inl ⟨rfl,h⟩) a3 w3 (by simp [evs,SX.ev] at hq;subst hq;exact h3),fun h=>absurd rfl h⟩
  ·refine Zad names_ok mixed_ok (Zae tabA) e4 h2 ?_ ?_
   ·simp [-Zac,Zab,Zaa,Base.ev,SX.ev,evs,Value.oneCell',hF,binPV,k4]
   ·intro qs a3 w3 hq h3
    refine ⟨fun _=>go2 _ (fun a' w' h=>.inl ⟨rfl,h⟩) a3 w3 (by simp [evs,SX.ev] at hq;subst hq;exact h3),fun h=>absurd rfl h⟩
 rw [cut9]
 by_cases i1:1<=i
 ·by_cases i2:i<=6
  ·refine Zad names_ok mixed_ok (Zae tabA) s11 hsh ?_ (fun qs a1 w1 hq h1=>⟨fun _=>mid true a1 w1 (by rw [hfo];simp [i1,i2]) (by simp [evs,SX.ev,nilW,Zai] at hq;subst hq;exact h1),fun h=>absurd rfl h⟩)
   simp [-Zac,Zab,Zaa,Base.ev,SX.ev,evs,Value.oneCell',hF,binPV,nilW,Zai,gE,gS,mas.w1,c1,c2,c3,c4,c5,c6,k1,i1,i2]
   all_goals omega
  ·refine Zad names_ok mixed_ok (Zae tabA) s10 hsh ?_ (fun qs a1 w1 hq h1=>⟨fun _=>mid false a1 w1 (by rw [hfo];simp [i2]) (by simp [evs,SX.ev,nilW,Zai] at hq;subst hq;exact h1),fun h=>absurd rfl h⟩)
   simp [-Zac,Zab,Zaa,Base.ev,SX.ev,evs,Value.oneCell',hF,binPV,nilW,Zai,gE,gS,mas.w1,c1,c2,c3,c4,c5,c6,k1,i1,i2]
   all_goals omega
 ·refine Zad names_ok mixed_ok (Zae tabA) s0 hsh ?_ (fun qs a1 w1 hq h1=>⟨fun _=>mid false a1 w1 (by rw [hfo];simp [i1]) (by simp [evs,SX.ev,nilW,Zai] at hq;subst hq;exact h1),fun h=>absurd rfl h⟩)
  simp [-Zac,Zab,Zaa,Base.ev,SX.ev,evs,Value.oneCell',hF,binPV,nilW,Zai,gE,gS,mas.w1,c1,c2,c3,c4,c5,c6,k1,i1]
  all_goals omega
def RMa (ps qs:List PV):Prop:=∃ a:AskM,AOk a/\ps=aP a/\qs=[pB (mayA a)]
theorem fMa:∀ ps q1 q2,RMa ps q1->RMa ps q2->q1=q2:=by
 rintro ps q1 q2 ⟨a,_,rfl,rfl⟩ ⟨b,_,h,rfl⟩
 rw [Zej h]
theorem toldMa (k:Nat):ToldF 14 (EMa k) (spec RMa):=by
 refine Zfx FA _ (Zam Try.prog 14) Try.func14 (by kernel_rfl) shA (by kernel_rfl) ?_ ?_
 ·intro ps qs h
  obtain ⟨a,_,rfl,rfl⟩:=Zag h
  exact Za7 rfl
 ·intro C ps qs hF h a w hsh
  obtain ⟨A,ok,rfl,rfl⟩:=Zag h
  show wpL Try.prog flA _ a w
  exact walkA hF A ok (fun a' w' h1=>⟨.inr rfl,shAR,_,[SX.var 0],h1,by kernel_rfl,rfl⟩) hsh
end Go.Proofs.Ytnomiffghidmbaa.mas
