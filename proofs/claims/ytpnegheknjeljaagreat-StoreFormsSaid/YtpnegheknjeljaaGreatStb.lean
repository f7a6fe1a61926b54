/- Texts joined. -/
import Derived.Test.YtpnegheknjeljaaGreatDir2
import Derived.Test.YtpnegheknjeljaaGreatMay
import Derived.Test.YtpnegheknjeljaaGreatRal
import Derived.Test.YtpnegheknjeljaaGreatMkb
section
/- What lasts: marks, and what is done with them (the document's Zcn). -/
namespace Go.Proofs.YtpnegheknjeljaaGreat.sta
open Go Go.RowKit eng SX Fact fil fileFronts dirs pck may
open fileFronts
open pck hiding F F20 F21
open dirs hiding shR shRl shRR flR lpR cutR f0 f1 f2 f3
open may hiding r1 r2 r3 r4 r5
set_option linter.unusedVariables false
set_option linter.unusedSimpArgs false
set_option maxRecDepth 1000000

def Ziw (k:Nat):FnE:={ k:=k,ins:=[some 3,none,some 4,none,some 3],leaks:=[],outs:=[some 3,some 4],kinds:=[.row,.row,.num,.num,.num,.num,.num] }
def tabM (f:FuncId):Option FnE:=cond (Nat.beq f 82) (some (EPutM 1)) none
@[simp] def Zcw:SX:=rop ROp.cat [.lit 0 [],.var 0]
@[simp] def Zi3:SX:=.bin .sub (.var 8) (.con (.int .i64 1))
@[simp] def Zi2:List SX:=[.var 1,.var 3,.var 4,.var 5,.var 6,.var 7]
@[simp] def Zi1:SX:=.bin .gtr (.var 8) (.con (.int .i64 0))
@[simp] def zGreatSta5:SX:=rop (ROp.upd 3 0) [Zcw,Zi3,.var 9,.var 10,.var 11]
theorem k0:runTo Tryz.prog (orcFn tabM) 10000 43 (Ziw 2) [.row,.row,.num,.num,.num,.num,.num,.num,.num,.num,.num,.num] [0] hApp=some ([.ok (.var 2),.ok (.var 3),.ok (.var 4),.ok (.var 5),.ok (.var 6),.ok (.var 7),.ok (.var 8),.ok (.var 9),.ok (.var 10),.ok (.var 11),.fn 82 (EPutM 1) Zi2,cells (.var 0) 3,same (.len (.lit 0 [])) (.len (.lit 0 [])),upto (.len Zcw) 4294967296,.ok Zi1,.is Zi1 (.bool false),same (.len Zcw) (.len Zcw)],[Zcw,.fn 1 Zi2 0,.var 2,.var 4,.var 5,.var 6,.var 7]):=by kernel_rfl
theorem k1:runTo Tryz.prog (orcFn tabM) 10000 43 (Ziw 2) [.row,.row,.num,.num,.num,.num,.num,.num,.num,.num,.num,.num] [1] hApp=some ([.ok (.var 2),.ok (.var 3),.ok (.var 4),.ok (.var 5),.ok (.var 6),.ok (.var 7),.ok (.var 8),.ok (.var 9),.ok (.var 10),.ok (.var 11),.fn 82 (EPutM 1) Zi2,cells (.var 0) 3,same (.len (.lit 0 [])) (.len (.lit 0 [])),upto (.len Zcw) 4294967296,.ok Zi1,.is Zi1 (.bool true),.ok Zi3,rng Zi3 (.len Zcw),.idx Zcw Zi3 3 3,same (.len Zcw) (.len zGreatSta5)],[zGreatSta5,.fn 1 Zi2 0,.var 2,.var 4,.var 5,.var 6,.var 7]):=by kernel_rfl
@[simp] theorem kMarked (k:Nat):(Ziw k).k=k:=rfl

structure StM where
 files:List FileM
 marks:List MarkM
 epoch:Int
def Zie (s:StM) (c:Int) (m:MarkM) (at':Int) (f:FileM):StM:=⟨if 0 < at' then s.files.set (at'.toNat - 1) f else s.files,putMk s.marks c m,s.epoch⟩
abbrev pSt (s:StM):List PV:=[pRow encF s.files,pRow encM s.marks,pI s.epoch]
abbrev pMk (m:MarkM):List PV:=[pI m.1,pI m.2.1,pI m.2.2.1,pI m.2.2.2]
abbrev pFi (f:FileM):List PV:=[pS f.1,pI f.2.1,pS f.2.2]
def RMarked (ps qs:List PV):Prop:=∃ (s:StM) (c:Int) (m:MarkM) (at':Int) (f:FileM),s.files.length<=1000000/\s.marks.length<=1000000/\-9223372036854775808<=c/\c<=9223372036854775807/\at'<=s.files.length/\ps=pSt s++[pI c]++pMk m++[pI at']++pFi f/\qs=pSt (Zie s c m at' f)++pMk m
noncomputable def FM:Fns:=fun k=>match k with | 1=>spec RPutM | _=>fun _=>none
theorem y1:ToldF 82 (EPutM 1) (FM 1):=toldPutM 1
theorem toldMarked (k:Nat):ToldF 43 (Ziw k) (spec RMarked):=by
 refine Zgh mixed_ok names_ok FM [.row,.row,.num,.num,.num,.num,.num,.num,.num,.num,.num,.num] ?_
 intro ps qs h _
 obtain ⟨⟨s1,s2,s3⟩,c,⟨a1,a2,a3,a4⟩,at1,⟨f1,f2,f3⟩,hl1,hl2,hc1,hc2,hat,rfl,rfl⟩:=Zah h
 simp only at hl1 hl2 hat
 have cl:=Zmg encF s1 3 rfl (by omega)
 have rc:=r_cat0 encF s1
 have e1:FM 1 [pRow encM s2,pI c,pI a1,pI a2,pI a3,pI a4]=some [pRow encM (putMk s2 c (a1,a2,a3,a4))]:=Zap fPutM ⟨s2,c,(a1,a2,a3,a4),hl2,hc1,hc2,rfl,rfl⟩
 by_cases d1:0 < at1
 ·obtain ⟨j,rfl⟩:∃ j:Nat,at1=(j:Int)+1:=⟨at1.toNat - 1,by omega⟩
  have hj:j < s1.length:=by omega
  have hj1:((j:Int)+1).toNat - 1=j:=by omega
  have w1:IntKind.i64.wrap (j:Int)=(j:Int):=wrapI _ (by omega) (by omega)
  have i1:=Zbi encF s1 j 3 3 .i64 rfl hj (by decide)
  have ru:ropPV (.upd 3 0) [pRow encF s1,pI (j:Int),pS f1,pI f2,pS f3]=some (pRow encF (s1.set j (f1,f2,f3))):=Zrh encF s1 j .i64 (f1,f2,f3) hj
  have hls:(s1.set j (f1,f2,f3)).length=s1.length:=by simp
  simp only [Zie,if_pos d1,hj1]
  generalize s1.set j (f1,f2,f3)=l2 at *
  refine ⟨_,_,_,_,_,_,Zar tabM,k1,fun w FP=>?_,?_⟩
  ·simp [-Zac,Zab,Zaa,Base.ev,SX.ev,evs,Value.oneCell',Zad,Zgk,binPV,cl,rc,w1,i1,ru,hj,e1,y1]
   all_goals omega
  ·simp [evs,SX.ev,binPV,rc,w1,ru,e1]
 ·simp only [Zie,if_neg d1]
  refine ⟨_,_,_,_,_,_,Zar tabM,k0,fun w FP=>?_,?_⟩
  ·simp [-Zac,Zab,Zaa,Base.ev,SX.ev,evs,Value.oneCell',Zad,Zgk,binPV,cl,rc,e1,y1]
   all_goals omega
  ·simp [evs,SX.ev,rc,e1]
end Go.Proofs.YtpnegheknjeljaaGreat.sta
end
section
/- What lasts behind each deed (the document's Zcn): opened, flushed, gone. -/
namespace Go.Proofs.YtpnegheknjeljaaGreat.sta
open Go Go.RowKit eng SX Fact fil fileFronts dirs pck may
open fileFronts
open pck hiding F F20 F21
open dirs hiding shR shRl shRR flR lpR cutR f0 f1 f2 f3
open may hiding r1 r2 r3 r4 r5
set_option linter.unusedVariables false
set_option linter.unusedSimpArgs false
set_option maxRecDepth 1000000

def EOpen (k:Nat):FnE:={ k:=k,ins:=[some 3,none,none,none],leaks:=[],outs:=[some 3,some 4],kinds:=[.row,.row,.num,.num,.num,.num,.num] }
def Zn7 (k:Nat):FnE:={ k:=k,ins:=[some 3,none,none,none,none],leaks:=[],outs:=[some 3,some 4],kinds:=[.row,.row,.num,.num,.num,.num,.num] }
def EBoot (k:Nat):FnE:={ k:=k,ins:=[some 3],leaks:=[true,true,true],outs:=[some 3],kinds:=[.row,.row,.num] }
def ENew (k:Nat):FnE:={ k:=k,ins:=[],leaks:=[],outs:=[some 3],kinds:=[.row,.row,.num] }
def tabO (f:FuncId):Option FnE:=cond (Nat.beq f 42) (some (EName 1)) (cond (Nat.beq f 44) (some (EFind 2)) (cond (Nat.beq f 45) (some (ERoom 3)) (cond (Nat.beq f 43) (some (Ziw 4)) (cond (Nat.beq f 58) (some (EMay 5)) (cond (Nat.beq f 59) (some (EAll 6)) none)))))
def sbox (b:Bool):BoxT:=⟨33,0,false,[.leaf,.leaf,.leaf],none,false⟩
def zbox:BoxT:=⟨33,0,false,[.nil,.nil,.leaf],none,false⟩
def mbox:BoxT:=⟨49,0,false,[.leaf,.leaf,.leaf,.leaf],none,false⟩
def shU:Shape:=⟨[(0,.agg 3),(1,.leaf),(2,.leaf),(3,.leaf),(4,.leaf)],[],[some false,some false,none,none,none,none,some false],91,27⟩
def shUl:Shape:=⟨[(1,.leaf),(3,.leaf),(4,.leaf),(5,.ptr 0 0 0 0),(10,.ptr 1 0 0 0),(11,.ptr 2 0 0 0),(12,.ptr 3 0 0 0),(13,.leaf),(14,.leaf)],[sbox true,zbox,mbox,mbox],[none,none,some false,none,none,some false,some false,none,none,none,none,none,none,none,none,none,none],91,27⟩
def shUR:Shape:=⟨[(10,.ptr 0 0 0 0),(11,.ptr 1 0 0 0)],[sbox true,mbox],[some true,some true,none,none,none,none,none],91,27⟩
noncomputable def flU:=flat (Zat Tryz.prog 27)
@[simp] def Zbl:List SX:=[.var 0,.var 1,.var 2,.var 3,.var 4,.con (.int .i64 2),.con (.int .i64 0),.con (.int .i64 0),.con (.int .i64 0),.con (.string { data:={ toList:=[] } }),.con (.int .i64 0),.con (.string { data:={ toList:=[] } })]
@[simp] def Zax:List SX:=[.var 5,.var 6,.var 7,.var 0,.var 13,.var 14,.var 1,rop ROp.min2 [.bin .add (.cell (.var 5) (.bin .sub (.var 1) (.con (.int .i64 1))) 3 1) (.con (.int .i64 1)),.con (.int .i64 1073741824)],.var 1,.cell (.var 5) (.bin .sub (.var 1) (.con (.int .i64 1))) 3 0,rop ROp.min2 [.bin .add (.cell (.var 5) (.bin .sub (.var 1) (.con (.int .i64 1))) 3 1) (.con (.int .i64 1)),.con (.int .i64 1073741824)],.fn 6 [.cell (.var 5) (.bin .sub (.var 1) (.con (.int .i64 1))) 3 2,.var 2] 0]
@[simp] def zGreatStb3:List SX:=[.var 5,.var 6,.var 7,.var 0,.var 13,.con (.int .i64 1),.var 15,.var 16,.con (.int .i64 0),.con (.string { data:={ toList:=[] } }),.con (.int .i64 0),.con (.string { data:={ toList:=[] } })]
@[simp] def zGreatStb4:List SX:=[.var 0,.var 1,.var 2,.var 3,.var 4,.con (.int .i64 1),.con (.int .i64 0),.con (.int .i64 0),.con (.int .i64 0),.con (.string { data:={ toList:=[] } }),.con (.int .i64 0),.con (.string { data:={ toList:=[] } })]
@[simp] def zGreatStb5:SX:=.bin .neq (.cell (.var 0) (.bin .sub (.var 5) (.con (.int .i64 1))) 3 0) (.con (.string { data:={ toList:=[] } }))
@[simp] def zGreatStb6:List SX:=[.fn 4 Zbl 0,.fn 4 Zbl 1,.fn 4 Zbl 2,.fn 4 Zbl 3,.fn 4 Zbl 4,.fn 4 Zbl 5,.fn 4 Zbl 6]
@[simp] def Zdd:SX:=.con (.int .i64 1)
@[simp] def Zcd:SX:=.con (.int .i64 0)
@[simp] def Zi0:SX:=.bin .geq (.var 5) Zdd
@[simp] def zGreatStb10:SX:=.bin .sub (.var 5) Zdd
@[simp] def zGreatStb11:SX:=.bin .leq (.var 5) (.len (.var 0))
@[simp] def zGreatStb12:List SX:=[.var 3,.var 5,.var 6,.con (.bool false),Zcd,.var 0,.var 1,.var 2,Zcd,Zcd,Zcd,Zcd,Zcd,.var 4,Zcd,Zcd,Zcd]
@[simp] def zGreatStb13:List SX:=[.var 0,.var 1,.var 2,.con (.bool false),.bin .add (.var 4) Zdd,.var 5,.var 6,.var 7,.var 8,.var 9,.var 10,.var 11,.var 12,.var 13,.var 14,.var 15,.var 16]
@[simp] def Zbv:SX:=.bin .sub (.var 1) Zdd
@[simp] def zGreatStb15:SX:=.bin .lss (.var 4) (.len (.var 2))
@[simp] def zGreatStb16:List SX:=[.cell (.var 2) (.var 4) 2 0,.cell (.var 2) (.var 4) 2 1]
@[simp] def zGreatStb17:SX:=.bin .geq (.len (.var 6)) Zdd
@[simp] def zGreatStb18:Fact:=.ok (.bin .add (.var 4) Zdd)
@[simp] def zGreatStb19:SX:=.bin .leq (.len (.var 6)) (.con (.int .i64 5))
@[simp] def Zkj:Fact:=.ok (.fn 4 Zbl 2)
@[simp] def Zki:Fact:=.ok (.fn 4 Zbl 3)
@[simp] def Zkh:Fact:=.ok (.fn 4 Zbl 4)
@[simp] def Zkg:Fact:=.ok (.fn 4 Zbl 5)
@[simp] def Zkf:Fact:=.ok (.fn 4 Zbl 6)
@[simp] def zGreatStb25:Fact:=.is Zi0 (.bool true)
@[simp] def zGreatStb26:Fact:=.ok Zcd
@[simp] def zGreatStb27:Fact:=.ok (.cell (.var 0) zGreatStb10 3 0)
@[simp] def zGreatStb28:Fact:=.fn 43 (Ziw 4) Zbl
theorem g10:runTo Tryz.prog (orcFn tabO) 10000 29 (EOpen 9) [.row,.row,.num,.num,.num,.num] [1,0] hApp=some ([.ok (.var 2),.ok (.var 3),.ok (.var 4),.ok (.var 5),.ok Zi0,zGreatStb25,.ok (.len (.var 0)),.ok zGreatStb11,.is zGreatStb11 (.bool false),zGreatStb28,Zkj,Zki,Zkh,Zkg,Zkf],zGreatStb6):=by kernel_rfl
theorem u0:segTo Tryz.prog (orcFn tabO) 10000 flU shU [0] shUR [(4,0),(5,0)]=some (.ret,[.ok Zi0,.is Zi0 (.bool false),zGreatStb28,Zkj,Zki,Zkh,Zkg,Zkf,Zkj,Zki,Zkh,Zkg,Zkf],zGreatStb6):=by kernel_rfl
theorem w1:segTo Tryz.prog (orcFn tabO) 10000 (flU.drop 7) shUl [1] shUR [(1,0),(2,0)]=some (.ret,[.is (.var 3) (.bool true),.ok Zbv,.idx (.var 5) Zbv 3 3,.idx (.var 5) Zbv 3 3,.ok (.cell (.var 5) Zbv 3 0),.ok (.cell (.var 5) Zbv 3 1),.ok (.cell (.var 5) Zbv 3 2),.fn 59 (EAll 6) [.cell (.var 5) Zbv 3 2,.var 2],.ok (.fn 6 [.cell (.var 5) Zbv 3 2,.var 2] 0),.ok (.bin .add (.cell (.var 5) Zbv 3 1) Zdd),.ok (rop ROp.min2 [.bin .add (.cell (.var 5) Zbv 3 1) Zdd,.con (.int .i64 1073741824)]),.fn 43 (Ziw 4) Zax,.ok (.fn 4 Zax 2),.ok (.fn 4 Zax 3),.ok (.fn 4 Zax 4),.ok (.fn 4 Zax 5),.ok (.fn 4 Zax 6),.ok (.fn 4 Zax 2),.ok (.fn 4 Zax 3),.ok (.fn 4 Zax 4),.ok (.fn 4 Zax 5),.ok (.fn 4 Zax 6)],[.fn 4 Zax 0,.fn 4 Zax 1,.fn 4 Zax 2,.fn 4 Zax 3,.fn 4 Zax 4,.fn 4 Zax 5,.fn 4 Zax 6]):=by kernel_rfl

@[simp] theorem kOpen (k:Nat):(EOpen k).k=k:=rfl
@[simp] theorem kFlush (k:Nat):(Zn7 k).k=k:=rfl
@[simp] theorem kBoot (k:Nat):(EBoot k).k=k:=rfl
@[simp] theorem kNew (k:Nat):(ENew k).k=k:=rfl
structure StOk (s:StM):Prop where
 fl:s.files.length<=1000000
 ml:s.marks.length<=1000000
 fv:∀ f ∈ s.files,-1000000000000<=f.2.1/\f.2.1<=1000000000000/\f.2.2.size<=1000
 ep:-1000000000000<=s.epoch/\s.epoch<=1000000000000
def f00:FileM:=(e0,0,e0)
def openS (s:StM) (c seq:Int) (name:ByteArray):StM × MarkM :=
 if okN name then match s.files.findIdx? (isN name) with
  | some i=>(Zie s c (seq,0,(i:Int)+1,(s.files.getD i f00).2.1) 0 f00,(seq,0,(i:Int)+1,(s.files.getD i f00).2.1))
  | none=>match s.files.findIdx? (isN e0) with
   | some i=>(Zie s c (seq,0,(i:Int)+1,1) ((i:Int)+1) (name,1,e0),(seq,0,(i:Int)+1,1))
   | none=>(Zie s c (seq,3,0,0) 0 f00,(seq,3,0,0))
 else (Zie s c (seq,1,0,0) 0 f00,(seq,1,0,0))
def isF (s:StM) (file:Int):Bool:=decide (1<=file) && decide (file<=s.files.length) && !((s.files.getD (file.toNat - 1) f00).1.toList == e0.toList)
def goneS (s:StM) (c seq file:Int):StM × MarkM :=
 if isF s file then (Zie s c (seq,0,file,0) file f00,(seq,0,file,0)) else (Zie s c (seq,2,0,0) 0 f00,(seq,2,0,0))
def okWs (l:List (Int × ByteArray)):Bool:=decide (1<=l.length) && decide (l.length<=5) && l.all mayW
def Zgg (f:FileM) (l:List (Int × ByteArray)):FileM:=(f.1,min (f.2.1+1) 1073741824,bs (allW f.2.2.data.toList l))
def flushS (s:StM) (c seq file:Int) (l:List (Int × ByteArray)):StM × MarkM :=
 if isF s file then (if okWs l then (Zie s c (seq,0,file,(Zgg (s.files.getD (file.toNat - 1) f00) l).2.1) file (Zgg (s.files.getD (file.toNat - 1) f00) l),(seq,0,file,(Zgg (s.files.getD (file.toNat - 1) f00) l).2.1))
  else (Zie s c (seq,1,0,0) 0 f00,(seq,1,0,0)))
 else (Zie s c (seq,2,0,0) 0 f00,(seq,2,0,0))
def bootS (s:StM):StM:=⟨s.files,s.marks,min (s.epoch+1) 1073741824⟩
def newS:StM:=⟨List.replicate 6 f00,List.replicate 3 (0,0,0,0),0⟩
noncomputable def FO:Fns:=fun k=>match k with | 1=>spec RName | 2=>spec RFind | 3=>spec RRoom | 4=>spec RMarked | 5=>spec RMay | 6=>spec RAll | _=>fun _=>none
theorem z2:ToldF 44 (EFind 2) (FO 2):=toldRefFind 2
theorem z3:ToldF 45 (ERoom 3) (FO 3):=toldRefRoom 3
theorem z4:ToldF 43 (Ziw 4) (FO 4):=toldMarked 4
theorem z5:ToldF 58 (EMay 5) (FO 5):=toldRef 5
def ROpen (ps qs:List PV):Prop:=∃ (s:StM) (c seq:Int) (name:ByteArray),StOk s/\-9223372036854775808<=c/\c<=9223372036854775807/\name.size<=9223372036854775807/\ps=pSt s++[pI c,pI seq,pS name]/\qs=pSt (openS s c seq name).1++pMk (openS s c seq name).2
theorem Znj {s s':StM} (h1:pRow encF s.files=pRow encF s'.files) (h2:pRow encM s.marks=pRow encM s'.marks) (h3:s.epoch=s'.epoch):s=s':=by
 cases s;cases s'
 simp only at h1 h2 h3
 rw [fil.pRow_inj Zln h1,fil.pRow_inj Zpa h2,h3]

def RGone (ps qs:List PV):Prop:=∃ (s:StM) (c seq file:Int),StOk s/\-9223372036854775808<=c/\c<=9223372036854775807/\-9223372036854775808<=file/\file<=9223372036854775807/\ps=pSt s++[pI c,pI seq,pI file]/\qs=pSt (goneS s c seq file).1++pMk (goneS s c seq file).2
def RBoot (ps qs:List PV):Prop:=∃ s:StM,StOk s/\ps=pSt s/\qs=pSt (bootS s)
def RNew (ps qs:List PV):Prop:=ps=[]/\qs=pSt newS

def Zom (ps qs:List PV):Prop:=∃ (s:StM) (c seq file:Int) (l:List (Int × ByteArray)),StOk s/\-9223372036854775808<=c/\c<=9223372036854775807/\-9223372036854775808<=file/\file<=9223372036854775807/\l.length<=1000000/\(∀ w ∈ l,-9223372036854775808<=w.1/\w.1<=9223372036854775807/\w.2.size<=1000000)/\ps=pSt s++[pI c,pI seq,pI file,pRow encW l]/\qs=pSt (flushS s c seq file l).1++pMk (flushS s c seq file l).2
end Go.Proofs.YtpnegheknjeljaaGreat.sta
end
