/- The document's TakeAsk: its runs. -/
import Derived.Test.YtnomiffghidmbaaMpa
import Derived.Test.YtnomiffghidmbaaFroA
namespace Go.Proofs.Ytnomiffghidmbaa.mta
open Go Go.RowKit eng SX Fact fil ima msm
open fileFronts (Zac Zei)
open mws (tl_injW aP Zej)
open mrd (ENr ETr RNr fNr Zuf RTr fTr Zud rbox)
open mas (EMa RMa fMa toldMa AOk)
open mpa (EPa RPa fPa toldPa)
open mtt (ft3 ft4 neY)
open pck (wbox)
open bip (pBy_inj)
set_option linter.unusedVariables false
set_option linter.unusedSimpArgs false
set_option maxRecDepth 1000000
def ETa (k:Nat):FnE:={ k:=k,ins:=[none],leaks:=[true],outs:=[some 8,none],kinds:=[.num,.num,.num,.num,.num,.num,.num,.own 49 2 true,.truth] }
def tabT (f:FuncId):Option FnE:=cond (Nat.beq f 14) (some (EMa 1)) (cond (Nat.beq f 16) (some (EPa 2)) none)
def tabTP (f:FuncId):Option PtrE:=cond (Nat.beq f 52) (some (ENr 3)) (cond (Nat.beq f 53) (some (ETr 4)) none)
def orcT:Orc:=orcOr (orcFn tabT) (orcP tabTP)
def isApp (o:Op):Bool:=match o with | .call c=>(match c.callee with | .builtin .append=>true | _=>false) | _=>false
def hTa (_:FuncId) (o:Oper):Option Hint:=cond (isApp o.op) (some .own) none
noncomputable def flT:=flat (Zam Try.prog 24)
noncomputable def lpT:=flat (Zaq (nth flT 10))
def rb:BoxT:=⟨77,0,false,[.leaf,.leaf],none,false⟩
def anil:BoxT:=⟨24,0,false,[.leaf,.leaf,.leaf,.leaf,.leaf,.leaf,.leaf,.nil],none,false⟩
def aown (j k:Nat):BoxT:=⟨24,0,false,[.leaf,.leaf,.leaf,.leaf,.leaf,.leaf,.leaf,.own j k 2],none,false⟩
def shT:Shape:=⟨[(0,.leaf)],[],[some true],76,24⟩
def shTn:Shape:=⟨[(0,.leaf),(2,.ptr 0 0 0 0),(4,.ptr 1 0 0 0),(5,.ptr 2 0 0 0),(6,.leaf)],[anil,rb,anil],[some true,none,none,none,none,none,none,none,none,some true,none,none,none,none,none,none,none,none],76,24⟩
def shTo:Shape:=⟨[(0,.leaf),(2,.ptr 0 0 0 0),(4,.ptr 1 0 0 0),(5,.ptr 2 0 0 0),(6,.leaf)],[anil,rb,aown 3 18,wbox 18],[some true,none,none,none,none,none,none,none,none,some true,none,none,none,none,none,none,none,none],76,24⟩
def shRn:Shape:=⟨[(2,.ptr 0 0 0 0),(3,.leaf)],[anil],[none,none,none,none,none,none,none,none],76,24⟩
def shRo:Shape:=⟨[(2,.ptr 0 0 0 0),(3,.leaf)],[aown 1 8,wbox 8],[none,none,none,none,none,none,none,none],76,24⟩
def z1:List SX:=[.con (.int .i64 1),.fn 3 [.con (.int .i64 1),.var 0,.con (.bool false)] 1,.fn 3 [.con (.int .i64 1),.var 0,.con (.bool false)] 2]
def z2:List SX:=[.con (.int .i64 4),.fn 3 z1 1,.fn 3 z1 2]
def z3:List SX:=[.con (.int .i64 4),.fn 3 z2 1,.fn 3 z2 2]
def z4:List SX:=[.fn 3 z3 1,.fn 3 z3 2]
def z5:List SX:=[.con (.int .i64 1),.fn 4 z4 1,.fn 4 z4 2]
def z6:List SX:=[.con (.int .i64 1),.fn 3 z5 1,.fn 3 z5 2]
def z7:List SX:=[.con (.int .i64 1),.fn 3 z6 1,.fn 3 z6 2]
def z8:List SX:=[.fn 3 [.con (.int .i64 1),.var 9,.var 10] 1,.fn 3 [.con (.int .i64 1),.var 9,.var 10] 2]
@[simp] def zMta1:SX:=.con (.int .i64 0)
@[simp] def zMta2:List SX:=[.var 11,.var 12,.var 13,.var 14,.var 15,.var 16,.var 17,.lit 0 []]
@[simp] def zMta3:List SX:=[.var 11,.var 12,.var 13,.var 14,.var 15,.var 16,.var 17,.var 18]
@[simp] def zMta4:List SX:=[.con (.bool false),zMta1,zMta1,zMta1,zMta1,.con (.string { data:={ toList:=[] } }),zMta1,zMta1]
@[simp] def zMta5:SX:=.lit 1 [.fn 3 [.con (.int .i64 1),.var 9,.var 10] 0,.fn 4 z8 0]
@[simp] def zMta6:SX:=.con (.string { data:={ toList:=[] } })
@[simp] def zMta7:SX:=.bin .gtr (.var 1) zMta1
@[simp] def zMta8:SX:=.con (.int .i64 1)
@[simp] def zMta9:SX:=rop ROp.toStr [.var 0]
@[simp] def zMta10:List SX:=[.var 0,.var 1,.var 2,.var 3,.var 4,.var 5,.var 6,.var 7,.var 8,.var 9,.var 10,.var 11,.var 12,.var 13,.var 14,.var 15,.var 16,.var 17,.var 18]
@[simp] def Zl9:Fact:=.is (.var 10) (.bool false)
@[simp] def zMta12:List SX:=[.var 0,.var 1,.var 2,.var 3,.var 4,.var 5,.var 6,.var 7,.var 8,.var 9,.var 10,.var 11,.var 12,.var 13,.var 14,.var 15,.var 16,.var 17]
@[simp] def Za5:Fact:=.ok zMta1
@[simp] def Zs4:SX:=.bin .neq (rop ROp.toStr [.fn 2 zMta2 0]) zMta9
@[simp] def Zs3:SX:=.bin .neq (rop ROp.toStr [.fn 2 zMta3 0]) zMta9
@[simp] def Zm6:SX:=.con (.bool false)
@[simp] def Zs2:Fact:=same (.len (.var 18)) (.len (.var 18))
@[simp] def Zoh:List SX:=[zMta8,.var 9,.var 10]
@[simp] def Zog:SX:=.bin .sub (.var 1) zMta8
@[simp] def Zqz:List SX:=[zMta8,.var 0,Zm6]
@[simp] def Zs1:SX:=rop ROp.cat [.var 18,zMta5]
@[simp] def Zs0:Fact:=.is (.var 10) (.bool true)
@[simp] def Zl8:Fact:=.ok (.var 11)
@[simp] def Zl7:Fact:=.ok (.var 12)
@[simp] def Zl6:Fact:=.ok (.var 13)
@[simp] def Zl5:Fact:=.ok (.var 14)
@[simp] def Zl4:Fact:=.ok (.var 15)
@[simp] def Zl3:Fact:=.ok (.var 16)
@[simp] def Zl2:Fact:=.ok (.var 17)
@[simp] def Zsz:Fact:=.is zMta7 (.bool true)
theorem tp:segTo Try.prog orcT 10000 (flT.take 10) shT [] shTn [(1,0),(2,0),(4,0)]=some (.normal,[.fp 52 (ENr 3) Zqz,.ok (.fn 3 Zqz 0),.ok (.fn 3 Zqz 2),.fp 52 (ENr 3) z1,.ok (.fn 3 z1 0),.ok (.fn 3 z1 2),.fp 52 (ENr 3) z2,.ok (.fn 3 z2 0),.ok (.fn 3 z2 2),.fp 52 (ENr 3) z3,.ok (.fn 3 z3 0),.ok (.fn 3 z3 2),.fp 53 (ETr 4) z4,.ok (.fn 4 z4 0),.ok (.fn 4 z4 2),.fp 52 (ENr 3) z5,.ok (.fn 3 z5 0),.ok (.fn 3 z5 2),.fp 52 (ENr 3) z6,.ok (.fn 3 z6 0),.ok (.fn 3 z6 2),.fp 52 (ENr 3) z7,.ok (.fn 3 z7 0),.ok (.fn 3 z7 2),.ok (.fn 3 z7 0),Za5,Za5,Za5,Za5,.ok zMta6,Za5,Za5,.ok (.fn 3 z7 2),.ok (.fn 3 Zqz 0),.ok (.fn 3 z1 0),.ok (.fn 3 z2 0),.ok (.fn 3 z3 0),.ok (.fn 4 z4 0),.ok (.fn 3 z5 0),.ok (.fn 3 z6 0)],[.var 0,.fn 3 z7 0,zMta1,zMta1,zMta1,zMta1,zMta6,zMta1,zMta1,.fn 3 z7 1,.fn 3 z7 2,.fn 3 Zqz 0,.fn 3 z1 0,.fn 3 z2 0,.fn 3 z3 0,.fn 4 z4 0,.fn 3 z5 0,.fn 3 z6 0]):=by kernel_rfl
theorem xn0:segTo Try.prog orcT 10000 lpT shTn [0] shTn [(0,0),(1,0),(2,0)] hTa=some (.exit 0,[.ok zMta7,.is zMta7 (.bool false),.ok (.var 1),.ok (.var 2),.ok (.var 3),.ok (.var 4),.ok (.var 5),.ok (.var 6),.ok (.var 7),.ok (.var 8),.ok (.var 10),Zl8,Zl7,Zl6,Zl5,Zl4,Zl3,Zl2],zMta12):=by kernel_rfl
theorem xn1:segTo Try.prog orcT 10000 lpT shTn [1,1] shTn [(0,0),(1,0),(2,0)] hTa=some (.exit 0,[.ok zMta7,Zsz,Zs0,.ok (.var 1),.ok (.var 2),.ok (.var 3),.ok (.var 4),.ok (.var 5),.ok (.var 6),.ok (.var 7),.ok (.var 8),.ok (.var 10),Zl8,Zl7,Zl6,Zl5,Zl4,Zl3,Zl2],zMta12):=by kernel_rfl
theorem xo0:segTo Try.prog orcT 10000 lpT shTo [0] shTo [(0,0),(1,0),(2,0),(3,0)] hTa=some (.exit 0,[.ok zMta7,.is zMta7 (.bool false),.ok (.var 1),.ok (.var 2),.ok (.var 3),.ok (.var 4),.ok (.var 5),.ok (.var 6),.ok (.var 7),.ok (.var 8),.ok (.var 10),Zl8,Zl7,Zl6,Zl5,Zl4,Zl3,Zl2,Zs2],zMta10):=by kernel_rfl
theorem xo1:segTo Try.prog orcT 10000 lpT shTo [1,1] shTo [(0,0),(1,0),(2,0),(3,0)] hTa=some (.exit 0,[.ok zMta7,Zsz,Zs0,.ok (.var 1),.ok (.var 2),.ok (.var 3),.ok (.var 4),.ok (.var 5),.ok (.var 6),.ok (.var 7),.ok (.var 8),.ok (.var 10),Zl8,Zl7,Zl6,Zl5,Zl4,Zl3,Zl2,Zs2],zMta10):=by kernel_rfl
theorem gn:segTo Try.prog orcT 10000 lpT shTn [1,0] shTo [(0,0),(1,0),(2,0),(9,0)] hTa=some (.normal,[.ok zMta7,Zsz,Zl9,.fp 52 (ENr 3) Zoh,.ok (.fn 3 Zoh 0),.ok (.fn 3 Zoh 2),.fp 53 (ETr 4) z8,.ok (.fn 4 z8 0),.ok (.fn 4 z8 2),rng zMta1 (.len zMta5),upto (.len zMta5) 4294967296,.ok Zog,.ok Zog,.ok (.var 2),.ok (.var 3),.ok (.var 4),.ok (.var 5),.ok (.var 6),.ok (.var 7),.ok (.var 8),.ok (.fn 4 z8 2),Zl8,Zl7,Zl6,Zl5,Zl4,Zl3,Zl2,same (.len zMta5) (.len zMta5)],[.var 0,Zog,.var 2,.var 3,.var 4,.var 5,.var 6,.var 7,.var 8,.fn 4 z8 1,.fn 4 z8 2,.var 11,.var 12,.var 13,.var 14,.var 15,.var 16,.var 17,zMta5]):=by kernel_rfl
theorem go:segTo Try.prog orcT 10000 lpT shTo [1,0] shTo [(0,0),(1,0),(2,0),(3,1)] hTa=some (.normal,[.ok zMta7,Zsz,Zl9,.fp 52 (ENr 3) Zoh,.ok (.fn 3 Zoh 0),.ok (.fn 3 Zoh 2),.fp 53 (ETr 4) z8,.ok (.fn 4 z8 0),.ok (.fn 4 z8 2),Zs2,upto (.len Zs1) 4294967296,.ok Zog,.ok Zog,.ok (.var 2),.ok (.var 3),.ok (.var 4),.ok (.var 5),.ok (.var 6),.ok (.var 7),.ok (.var 8),.ok (.fn 4 z8 2),Zl8,Zl7,Zl6,Zl5,Zl4,Zl3,Zl2,same (.len Zs1) (.len Zs1)],[.var 0,Zog,.var 2,.var 3,.var 4,.var 5,.var 6,.var 7,.var 8,.fn 4 z8 1,.fn 4 z8 2,.var 11,.var 12,.var 13,.var 14,.var 15,.var 16,.var 17,Zs1]):=by kernel_rfl
theorem en1:segTo Try.prog orcT 10000 (flT.drop 11) shTn [1] shRn [(0,0)] hTa=some (.ret,[Zs0,.ok Zm6,Za5,Za5,Za5,Za5,.ok zMta6,Za5,Za5],zMta4):=by kernel_rfl
theorem en00:segTo Try.prog orcT 10000 (flT.drop 11) shTn [0,0] shRn [(0,0)] hTa=some (.ret,[Zl9,.fn 14 (EMa 1) zMta2,.is (.fn 1 zMta2 0) (.bool false),.ok Zm6,Za5,Za5,Za5,Za5,.ok zMta6,Za5,Za5],zMta4):=by kernel_rfl
theorem en011:segTo Try.prog orcT 10000 (flT.drop 11) shTn [0,1,1] shRn [(0,0)] hTa=some (.ret,[Zl9,.fn 14 (EMa 1) zMta2,.is (.fn 1 zMta2 0) (.bool true),.fn 16 (EPa 2) zMta2,.ok (rop ROp.toStr [.fn 2 zMta2 0]),.ok zMta9,.ok Zs4,.is Zs4 (.bool true),.ok Zm6,Za5,Za5,Za5,Za5,.ok zMta6,Za5,Za5],zMta4):=by kernel_rfl
theorem en010:segTo Try.prog orcT 10000 (flT.drop 11) shTn [0,1,0] shRn [(0,0)] hTa=some (.ret,[Zl9,.fn 14 (EMa 1) zMta2,.is (.fn 1 zMta2 0) (.bool true),.fn 16 (EPa 2) zMta2,.ok (rop ROp.toStr [.fn 2 zMta2 0]),.ok zMta9,.ok Zs4,.is Zs4 (.bool false),.ok (.con (.bool true)),Zl8,Zl7,Zl6,Zl5,Zl4,Zl3,Zl2],[.con (.bool true),.var 11,.var 12,.var 13,.var 14,.var 15,.var 16,.var 17]):=by kernel_rfl
theorem eo1:segTo Try.prog orcT 10000 (flT.drop 11) shTo [1] shRn [(0,0)] hTa=some (.ret,[Zs0,.ok Zm6,Za5,Za5,Za5,Za5,.ok zMta6,Za5,Za5],zMta4):=by kernel_rfl
theorem eo00:segTo Try.prog orcT 10000 (flT.drop 11) shTo [0,0] shRn [(0,0)] hTa=some (.ret,[Zl9,.fn 14 (EMa 1) zMta3,.is (.fn 1 zMta3 0) (.bool false),.ok Zm6,Za5,Za5,Za5,Za5,.ok zMta6,Za5,Za5],zMta4):=by kernel_rfl
theorem eo011:segTo Try.prog orcT 10000 (flT.drop 11) shTo [0,1,1] shRn [(0,0)] hTa=some (.ret,[Zl9,.fn 14 (EMa 1) zMta3,.is (.fn 1 zMta3 0) (.bool true),.fn 16 (EPa 2) zMta3,.ok (rop ROp.toStr [.fn 2 zMta3 0]),.ok zMta9,.ok Zs3,.is Zs3 (.bool true),.ok Zm6,Za5,Za5,Za5,Za5,.ok zMta6,Za5,Za5],zMta4):=by kernel_rfl
theorem eo010:segTo Try.prog orcT 10000 (flT.drop 11) shTo [0,1,0] shRo [(0,0),(3,0)] hTa=some (.ret,[Zl9,.fn 14 (EMa 1) zMta3,.is (.fn 1 zMta3 0) (.bool true),.fn 16 (EPa 2) zMta3,.ok (rop ROp.toStr [.fn 2 zMta3 0]),.ok zMta9,.ok Zs3,.is Zs3 (.bool false),.ok (.con (.bool true)),Zl8,Zl7,Zl6,Zl5,Zl4,Zl3,Zl2,Zs2],[.con (.bool true),.var 11,.var 12,.var 13,.var 14,.var 15,.var 16,.var 17,.var 18]):=by kernel_rfl
@[simp] theorem kTa (k:Nat):(ETa k).k=k:=rfl
@[simp] theorem kNr2 (k:Nat):(ENr k).k=k:=rfl
@[simp] theorem kTr2 (k:Nat):(ETr k).k=k:=rfl
@[simp] theorem kMa2 (k:Nat):(EMa k).k=k:=rfl
@[simp] theorem kPa2 (k:Nat):(EPa k).k=k:=rfl
noncomputable def FT:Fns:=fun k=>match k with | 1=>spec RMa | 2=>spec RPa | 3=>spec RNr | 4=>spec RTr | _=>fun _=>none
theorem q1:ToldF 14 (EMa 1) (FT 1):=toldMa 1
theorem q2:ToldF 16 (EPa 2) (FT 2):=toldPa 2
theorem q3:ToldP 52 (ENr 3) (FT 3):=Zuf 3
theorem q4:ToldP 53 (ETr 4) (FT 4):=Zud 4
theorem Zbs:OrcOk Try.prog orcT:=Zg7 (Zae tabT) (Zbp tabTP)
theorem rdN_byte (s:Rd):0<=(rdN s 1).1/\(rdN s 1).1 < 256:=by
 unfold rdN;split
 ·show (0:Int)<=0/\(0:Int) < 256
  decide
 ·have h0:=Ziw (s.1.take 1)
  have h1:=Zuo (s.1.take 1)
  have h2:(256:Int) ^ (s.1.take 1).length<=256:=by
   have:(s.1.take 1).length<=1:=by simp;omega
   generalize (s.1.take 1).length=k at this
   match k,this with
   | 0,_=>decide
   | 1,_=>decide
   | k+2,h=>omega
  generalize num (s.1.take 1)=z at *
  generalize (256:Int) ^ (s.1.take 1).length=y at *
  exact ⟨by omega,by omega⟩
theorem gt3 (s:Rd) (n:Nat) (z:Int) (hz:z=n) (h:s.1.length<=1000000) (h1:1<=n) (h2:n<=4):∃ (x:Int) (s':Rd),rdN s n=(x,s')/\s'.1.length<=1000000/\myt.i64 x/\FT 3 [pI z,pBy s.1,pB s.2]=some [pI x,pBy s'.1,pB s'.2]:=by
 subst hz
 exact ⟨_,_,rfl,Nat.le_trans (mtt.rdN_len s n) h,mtt.rdN_i64 s n h2,Zaf fNr ⟨s,n,h,h1,by omega,rfl,rfl⟩⟩
theorem gt4 (s:Rd) (h:s.1.length<=1000000):∃ (x:ByteArray) (s':Rd),rdT s=(x,s')/\s'.1.length<=1000000/\x.size<=255/\FT 4 [pBy s.1,pB s.2]=some [pS x,pBy s'.1,pB s'.2] :=
 ⟨_,_,rfl,Nat.le_trans (mtt.rdT_len s) h,mtt.rdT_size s,Zaf fTr ⟨s,h,rfl,rfl⟩⟩
theorem Zai:PV.v (Value.string ⟨⟨[]⟩⟩)=pS e0:=rfl
theorem nilW:PV.row 0 []=pRow encW []:=rfl
theorem lit1 (o:Int) (s:ByteArray):PV.row 1 [pI o,pS s]=pRow encW [(o,s)]:=rfl
theorem cat2 (a b:List WrM):ropPV .cat [pRow encW a,pRow encW b]=some (pRow encW (a++b)):=by simp [ropPV,pRow,Enc.all]
theorem lenW (a:List WrM):lenPV (pRow encW a)=some (pI (a.length:Int)):=Zar ..
def a0:AskM:=⟨0,0,0,0,e0,0,0,[]⟩
def askQ (b:List UInt8):List PV:=match takeA b with | some a=>aP a++[pB true] | none=>aP a0++[pB false]
def RTa (ps qs:List PV):Prop:=∃ b:List UInt8,b.length<=1000000/\ps=[pBy b]/\qs=askQ b
theorem fTa:∀ ps q1 q2,RTa ps q1->RTa ps q2->q1=q2:=by
 rintro ps q1 q2 ⟨a,_,rfl,rfl⟩ ⟨b,_,h,rfl⟩
 simp only [List.cons.injEq,and_true] at h
 rw [pBy_inj h]
abbrev a7 (A:AskM):List PV:=[pI A.kind,pI A.frm,pI A.epoch,pI A.seq,pS A.name,pI A.file,pI A.mode]
abbrev zz7:List PV:=[pI 0,pI 0,pI 0,pI 0,pS e0,pI 0,pI 0]
def Fin (C:Base) (b:List UInt8) (a':Act) (w':World):Prop :=
 (∃ (A:AskM) (d:Bool),Zah C shRn (pB d :: a7 A) a' w'/\A.writes=[]/\askQ b=aP A++[pB d]) ∨
 (∃ (A:AskM) (d:Bool),Zah C shRo (pB d :: a7 A++[pRow encW A.writes]) a' w'/\A.writes ≠ []/\askQ b=aP A++[pB d])
theorem cutT:flT=flT.take 10++.block (Zat (nth flT 10)) (.loop (Zaq (nth flT 10))) :: flT.drop 11:=by kernel_rfl
theorem endT {C:Base} (hF:C.F=FT) {Q:Exit->Act->World->Prop} {a:Act} {w:World} {b:List UInt8} {A:AskM} (ok:AOk A) {r:List UInt8} {d:Bool} (hp:Zbv b=(A,(r,d))) (n:Int)
  (hQ:∀ a' w',Fin C b a' w'->Q .ret a' w') (hs:(A.writes=[]/\Zah C shTn (pBy b :: pI n :: zz7++[pBy r,pB d]++a7 A) a w) \/ (A.writes ≠ []/\Zah C shTo (pBy b :: pI n :: zz7++[pBy r,pB d]++a7 A++[pRow encW A.writes]) a w)):wpL Try.prog (flT.drop 11) Q a w:=by
 have g1:FT 1 (aP A)=some [pB (mayA A)]:=Zaf fMa ⟨A,ok,rfl,rfl⟩
 have g2:FT 2 (aP A)=some [pBy (putA A)]:=Zaf fPa ⟨A,ok,rfl,rfl⟩
 have hq:askQ b=if d=true \/ mayA A=false \/ putA A ≠ b then aP a0++[pB false] else aP A++[pB true]:=by
  unfold askQ takeA
  rw [hp]
  dsimp only
  split <;> rename_i h0
  ·split at h0
   ·cases h0
   ·cases h0;rw [if_neg (by assumption)]
  ·split at h0
   ·rw [if_pos (by assumption)]
   ·cases h0
 have hne:=neY (putA A) b
 have rt1:=Zd6 (putA A)
 have rt2:=Zd6 b
 have bad:(d=true \/ mayA A=false \/ putA A ≠ b)->∀ a' w',Zah C shRn (pB false :: zz7) a' w'->Q .ret a' w':=fun h a' w' hs=>hQ a' w' (.inl ⟨a0,false,hs,rfl,by rw [hq,if_pos h]⟩)
 clear hp ok
 rw [<- List.append_nil (flT.drop 11)]
 generalize mayA A=m at *
 generalize putA A=p at *
 rcases hs with ⟨hw,hin⟩ | ⟨hw,hin⟩
 ·have good:¬ (d=true \/ m=false \/ p ≠ b)->∀ a' w',Zah C shRn (pB true :: a7 A) a' w'->Q .ret a' w':=fun h a' w' hs=>hQ a' w' (.inl ⟨A,true,hs,hw,by rw [hq,if_neg h]⟩)
  clear hQ hq
  obtain ⟨x1,x2,x3,x4,x5,x6,x7,ws⟩:=A
  simp only at hw
  subst hw
  simp only [aP,a7,zz7,List.cons_append,List.nil_append] at *
  cases d with
  | true =>
   refine Zad names_ok mixed_ok Zbs en1 hin ?_ (fun qs a1 w1 hq h1=>⟨nofun,fun _=>bad (.inl rfl) a1 w1 (by simp [evs,SX.ev,Zai] at hq;subst hq;exact h1)⟩)
   simp [-Zac,Zab,Zaa,Base.ev,SX.ev,evs,Value.oneCell',hF,nilW,Zai]
  | false =>
   cases m with
   | false =>
    refine Zad names_ok mixed_ok Zbs en00 hin ?_ (fun qs a1 w1 hq h1=>⟨nofun,fun _=>bad (.inr (.inl rfl)) a1 w1 (by simp [evs,SX.ev,Zai] at hq;subst hq;exact h1)⟩)
    simp [-Zac,Zab,Zaa,Base.ev,SX.ev,evs,Value.oneCell',hF,nilW,Zai,g1,mta.q1]
   | true =>
    by_cases k:p=b
    ·rw [show decide (p ≠ b)=false by simp [k]] at hne
     refine Zad names_ok mixed_ok Zbs en010 hin ?_ (fun qs a1 w1 hq h1=>⟨nofun,fun _=>good (by simp [k]) a1 w1 (by simp [evs,SX.ev,Zai] at hq;subst hq;exact h1)⟩)
     simp [-Zac,Zab,Zaa,Base.ev,SX.ev,evs,Value.oneCell',hF,nilW,Zai,lenW,g1,g2,rt1,rt2,hne,mta.q1,mta.q2]
    ·rw [show decide (p ≠ b)=true by simp [k]] at hne
     refine Zad names_ok mixed_ok Zbs en011 hin ?_ (fun qs a1 w1 hq h1=>⟨nofun,fun _=>bad (.inr (.inr k)) a1 w1 (by simp [evs,SX.ev,Zai] at hq;subst hq;exact h1)⟩)
     simp [-Zac,Zab,Zaa,Base.ev,SX.ev,evs,Value.oneCell',hF,nilW,Zai,lenW,g1,g2,rt1,rt2,hne,mta.q1,mta.q2]
 ·have good:¬ (d=true \/ m=false \/ p ≠ b)->∀ a' w',Zah C shRo (pB true :: a7 A++[pRow encW A.writes]) a' w'->Q .ret a' w':=fun h a' w' hs=>hQ a' w' (.inr ⟨A,true,hs,hw,by rw [hq,if_neg h]⟩)
  clear hQ hq
  obtain ⟨x1,x2,x3,x4,x5,x6,x7,ws⟩:=A
  simp only [aP,a7,zz7,List.cons_append,List.nil_append] at *
  cases d with
  | true =>
   refine Zad names_ok mixed_ok Zbs eo1 hin ?_ (fun qs a1 w1 hq h1=>⟨nofun,fun _=>bad (.inl rfl) a1 w1 (by simp [evs,SX.ev,Zai] at hq;subst hq;exact h1)⟩)
   simp [-Zac,Zab,Zaa,Base.ev,SX.ev,evs,Value.oneCell',hF,nilW,Zai]
  | false =>
   cases m with
   | false =>
    refine Zad names_ok mixed_ok Zbs eo00 hin ?_ (fun qs a1 w1 hq h1=>⟨nofun,fun _=>bad (.inr (.inl rfl)) a1 w1 (by simp [evs,SX.ev,Zai] at hq;subst hq;exact h1)⟩)
    simp [-Zac,Zab,Zaa,Base.ev,SX.ev,evs,Value.oneCell',hF,nilW,Zai,g1,mta.q1]
   | true =>
    have hw1:0 < ws.length:=List.length_pos_iff.2 hw
    by_cases k:p=b
    ·rw [show decide (p ≠ b)=false by simp [k]] at hne
     refine Zad names_ok mixed_ok Zbs eo010 hin ?_ (fun qs a1 w1 hq h1=>⟨nofun,fun _=>good (by simp [k]) a1 w1 (by simp [evs,SX.ev,Zai] at hq;subst hq;exact h1)⟩)
     simp [-Zac,Zab,Zaa,Base.ev,SX.ev,evs,Value.oneCell',hF,nilW,Zai,lenW,g1,g2,rt1,rt2,hne,mta.q1,mta.q2]
    ·rw [show decide (p ≠ b)=true by simp [k]] at hne
     refine Zad names_ok mixed_ok Zbs eo011 hin ?_ (fun qs a1 w1 hq h1=>⟨nofun,fun _=>bad (.inr (.inr k)) a1 w1 (by simp [evs,SX.ev,Zai] at hq;subst hq;exact h1)⟩)
     simp [-Zac,Zab,Zaa,Base.ev,SX.ev,evs,Value.oneCell',hF,nilW,Zai,lenW,g1,g2,rt1,rt2,hne,mta.q1,mta.q2]
set_option maxHeartbeats 2000000 in
theorem loopT {C:Base} (hF:C.F=FT) {Q:Exit->Act->World->Prop} {b:List UInt8} {x1 x2 x3 x4 x6 x7:Int} {x5:ByteArray} {c:Nat} {s0:Rd} (hc:c<=255) (hs0:s0.1.length<=1000000)
  (hpar:∀ W s,rdW c s0=(W,s)->Zbv b=(⟨x1,x2,x3,x4,x5,x6,x7,W⟩,s))
  (hA:∀ W:List WrM,(∀ w ∈ W,-9223372036854775808<=w.1/\w.1<=9223372036854775807/\w.2.size<=9223372036854775807)->W.length<=1000000->AOk ⟨x1,x2,x3,x4,x5,x6,x7,W⟩)
  (hQ:∀ a' w',Fin C b a' w'->Q .ret a' w') {a:Act} {w:World} (h1:Zah C shTn (pBy b :: pI (c:Int) :: zz7++[pBy s0.1,pB s0.2]++[pI x1,pI x2,pI x3,pI x4,pS x5,pI x6,pI x7]) a w) :
  wpL Try.prog (.block (Zat (nth flT 10)) (.loop (Zaq (nth flT 10))) :: flT.drop 11) Q a w:=by
 refine Zbj (fun q a w=>∃ (acc:List WrM) (s:Rd),rdW c s0=(acc++(rdW q s).1,(rdW q s).2)/\s.1.length<=1000000/\acc.length+q<=255/\(∀ w ∈ acc,-9223372036854775808<=w.1/\w.1<=9223372036854775807/\w.2.size<=9223372036854775807) ∧
  ((acc=[]/\Zah C shTn (pBy b :: pI (q:Int) :: zz7++[pBy s.1,pB s.2]++[pI x1,pI x2,pI x3,pI x4,pS x5,pI x6,pI x7]) a w) \/ (acc ≠ []/\Zah C shTo (pBy b :: pI (q:Int) :: zz7++[pBy s.1,pB s.2]++[pI x1,pI x2,pI x3,pI x4,pS x5,pI x6,pI x7]++[pRow encW acc]) a w))) ?_ (n:=c) ⟨[],s0,by simp,hs0,by simp;exact hc,by simp,.inl ⟨rfl,h1⟩⟩
 clear h1
 rintro q a w ⟨acc,s,hrd,hsl,hlen,hall,hin⟩
 show wpL Try.prog lpT _ a w
 rw [<- List.append_nil lpT]
 obtain ⟨r,d⟩:=s
 simp only [zz7,List.cons_append,List.nil_append] at hin hsl
 cases q with
 | zero =>
  have he:rdW c s0=(acc,(r,d)):=by rw [hrd];simp [rdW]
  rcases hin with ⟨rfl,hin⟩ | ⟨hne,hin⟩
  ·refine Zad names_ok mixed_ok Zbs xn0 hin ?_ (fun qs a1 w1 hq h1=>⟨nofun,fun _=>.inr (.inl ⟨by rw [show Zat (nth flT 10)=0 by kernel_rfl];rfl,endT hF (A:=⟨x1,x2,x3,x4,x5,x6,x7,_⟩) (hA _ hall (by omega)) (hpar _ _ he) _ hQ (.inl ⟨rfl,by simp [evs,SX.ev] at hq;subst hq;exact h1⟩)⟩)⟩)
   simp [-Zac,Zab,Zaa,Base.ev,SX.ev,evs,Value.oneCell',hF,binPV]
  ·have hne1:0 < acc.length:=List.length_pos_iff.2 hne
   refine Zad names_ok mixed_ok Zbs xo0 hin ?_ (fun qs a1 w1 hq h1=>⟨nofun,fun _=>.inr (.inl ⟨by rw [show Zat (nth flT 10)=0 by kernel_rfl];rfl,endT hF (A:=⟨x1,x2,x3,x4,x5,x6,x7,_⟩) (hA _ hall (by omega)) (hpar _ _ he) _ hQ (.inr ⟨hne,by simp [evs,SX.ev] at hq;subst hq;exact h1⟩)⟩)⟩)
   simp [-Zac,Zab,Zaa,Base.ev,SX.ev,evs,Value.oneCell',hF,lenW,binPV]
 | succ q =>
  have hq0:(0:Int) < ((q+1:Nat):Int):=by omega
  have v1:IntKind.i64.wrap (((q+1:Nat):Int) - 1)=(q:Int):=by rw [wrapI _ (by omega) (by omega)];omega
  generalize ((q+1:Nat):Int)=N at hin hq0 v1
  cases d with
  | true =>
   have he:rdW c s0=(acc,(r,true)):=by rw [hrd];simp [rdW]
   rcases hin with ⟨rfl,hin⟩ | ⟨hne,hin⟩
   ·refine Zad names_ok mixed_ok Zbs xn1 hin ?_ (fun qs a1 w1 hq h1=>⟨nofun,fun _=>.inr (.inl ⟨by rw [show Zat (nth flT 10)=0 by kernel_rfl];rfl,endT hF (A:=⟨x1,x2,x3,x4,x5,x6,x7,_⟩) (hA _ hall (by omega)) (hpar _ _ he) _ hQ (.inl ⟨rfl,by simp [evs,SX.ev] at hq;subst hq;exact h1⟩)⟩)⟩)
    simp [-Zac,Zab,Zaa,Base.ev,SX.ev,evs,Value.oneCell',hF,binPV,hq0]
    all_goals first | omega | skip
   ·have hne1:0 < acc.length:=List.length_pos_iff.2 hne
    refine Zad names_ok mixed_ok Zbs xo1 hin ?_ (fun qs a1 w1 hq h1=>⟨nofun,fun _=>.inr (.inl ⟨by rw [show Zat (nth flT 10)=0 by kernel_rfl];rfl,endT hF (A:=⟨x1,x2,x3,x4,x5,x6,x7,_⟩) (hA _ hall (by omega)) (hpar _ _ he) _ hQ (.inr ⟨hne,by simp [evs,SX.ev] at hq;subst hq;exact h1⟩)⟩)⟩)
    simp [-Zac,Zab,Zaa,Base.ev,SX.ev,evs,Value.oneCell',hF,lenW,binPV,hq0]
    all_goals first | omega | skip
  | false =>
   obtain ⟨o,⟨r1,d1⟩,e1,n1,i1,c1⟩:=gt3 (r,false) 1 1 rfl hsl (by omega) (by omega)
   obtain ⟨t,⟨r2,d2⟩,e2,n2,i2,c2⟩:=gt4 (r1,d1) n1
   have hw:rdW (q+1) (r,false)=((o,t) :: (rdW q (r2,d2)).1,(rdW q (r2,d2)).2):=by
    rw [rdW,if_neg (by simp)]
    simp only [e1,e2]
   have hrd2:rdW c s0=((acc++[(o,t)])++(rdW q (r2,d2)).1,(rdW q (r2,d2)).2):=by rw [hrd,hw];simp
   have hall2:∀ w ∈ acc++[(o,t)],-9223372036854775808<=w.1/\w.1<=9223372036854775807/\w.2.size<=9223372036854775807:=by
    intro w hw
    rcases List.mem_append.1 hw with h | h
    ·exact hall w h
    ·simp only [List.mem_singleton] at h;subst h;exact ⟨i1.1,i1.2,by show t.size<=_;omega⟩
   have hlen2:(acc++[(o,t)]).length+q<=255:=by rw [List.length_append];simp only [List.length_singleton];omega
   have hne2:acc++[(o,t)] ≠ []:=by simp
   simp only at c1 c2
   have h8:evs (fun i=>[pBy b,pI N,pI 0,pI 0,pI 0,pI 0,pS e0,pI 0,pI 0,pBy r,pB false,pI x1,pI x2,pI x3,pI x4,pS x5,pI x6,pI x7][i]?) FT z8=some [pBy r1,pB d1]:=by simp [z8,evs,SX.ev,c1]
   have h8':evs (fun i=>[pBy b,pI N,pI 0,pI 0,pI 0,pI 0,pS e0,pI 0,pI 0,pBy r,pB false,pI x1,pI x2,pI x3,pI x4,pS x5,pI x6,pI x7,pRow encW acc][i]?) FT z8=some [pBy r1,pB d1]:=by simp [z8,evs,SX.ev,c1]
   rcases hin with ⟨rfl,hin⟩ | ⟨hne,hin⟩
   ·refine Zad names_ok mixed_ok Zbs gn hin ?_ (fun qs a1 w1 hq h1=>⟨fun _=>.inl ⟨rfl,q,by omega,_,(r2,d2),hrd2,n2,hlen2,hall2,.inr ⟨hne2,by simp only [evs,SX.ev,hF] at hq;simp [evs,SX.ev,binPV,h8,c1,c2,v1,lit1] at hq;subst hq;exact h1⟩⟩,fun h=>absurd rfl h⟩)
    simp [-Zac,Zab,Zaa,Base.ev,SX.ev,evs,Value.oneCell',hF,binPV,hq0,h8,c1,c2,v1,lit1,lenW,mta.q3,mta.q4]
    all_goals first | omega | skip
   ·have hne1:0 < acc.length:=List.length_pos_iff.2 hne
    refine Zad names_ok mixed_ok Zbs go hin ?_ (fun qs a1 w1 hq h1=>⟨fun _=>.inl ⟨rfl,q,by omega,_,(r2,d2),hrd2,n2,hlen2,hall2,.inr ⟨hne2,by simp only [evs,SX.ev,hF] at hq;simp [evs,SX.ev,binPV,h8',c1,c2,v1,lit1,cat2] at hq;subst hq;exact h1⟩⟩,fun h=>absurd rfl h⟩)
    simp [-Zac,Zab,Zaa,Base.ev,SX.ev,evs,Value.oneCell',hF,binPV,hq0,h8',c1,c2,v1,lit1,cat2,lenW,mta.q3,mta.q4]
    all_goals exact ⟨⟨acc.length+1,by omega,by omega⟩,⟨acc.length+1,by omega⟩⟩
set_option maxHeartbeats 2000000 in
theorem walkT {C:Base} (hF:C.F=FT) {Q:Exit->Act->World->Prop} {b:List UInt8} (hb:b.length<=1000000) (hQ:∀ a' w',Fin C b a' w'->Q .ret a' w') {a:Act} {w:World} (hsh:Zah C shT [pBy b] a w):wpL Try.prog flT Q a w:=by
 obtain ⟨x1,⟨b1,d1⟩,e1,n1,i1,c1⟩:=gt3 (b,false) 1 1 rfl hb (by omega) (by omega)
 obtain ⟨x2,⟨b2,d2⟩,e2,n2,i2,c2⟩:=gt3 (b1,d1) 1 1 rfl n1 (by omega) (by omega)
 obtain ⟨x3,⟨b3,d3⟩,e3,n3,i3,c3⟩:=gt3 (b2,d2) 4 4 rfl n2 (by omega) (by omega)
 obtain ⟨x4,⟨b4,d4⟩,e4,n4,i4,c4⟩:=gt3 (b3,d3) 4 4 rfl n3 (by omega) (by omega)
 obtain ⟨x5,⟨b5,d5⟩,e5,n5,i5,c5⟩:=gt4 (b4,d4) n4
 obtain ⟨x6,⟨b6,d6⟩,e6,n6,i6,c6⟩:=gt3 (b5,d5) 1 1 rfl n5 (by omega) (by omega)
 obtain ⟨x7,⟨b7,d7⟩,e7,n7,i7,c7⟩:=gt3 (b6,d6) 1 1 rfl n6 (by omega) (by omega)
 have hx8:=rdN_byte (b7,d7)
 obtain ⟨x8,⟨b8,d8⟩,e8,n8,i8,c8⟩:=gt3 (b7,d7) 1 1 rfl n7 (by omega) (by omega)
 rw [e8] at hx8
 simp only at hx8 c1 c2 c3 c4 c5 c6 c7 c8
 have hp:∀ W s,rdW x8.toNat (b8,d8)=(W,s)->Zbv b=(⟨x1,x2,x3,x4,x5,x6,x7,W⟩,s):=fun W s h=>by simp only [Zbv,e1,e2,e3,e4,e5,e6,e7,e8,h]
 have hA:∀ W:List WrM,(∀ w ∈ W,-9223372036854775808<=w.1/\w.1<=9223372036854775807/\w.2.size<=9223372036854775807)->W.length<=1000000->AOk ⟨x1,x2,x3,x4,x5,x6,x7,W⟩:=fun W h h'=>⟨i3,i4,by show x5.size<=_;omega,h',h⟩
 have hx:((x8.toNat:Nat):Int)=x8:=by omega
 rw [cutT]
 refine Zad names_ok mixed_ok Zbs tp hsh ?_ (fun qs a1 w1 hq h1=>⟨fun _=>loopT hF (c:=x8.toNat) (s0:=(b8,d8)) (by omega) n8 hp hA hQ ?_,fun h=>absurd rfl h⟩)
 ·clear hp hA hQ hx e1 e2 e3 e4 e5 e6 e7 e8
  have h1:evs (fun i=>[pBy b][i]?) FT z1=some [pI 1,pBy b1,pB d1]:=by simp [z1,evs,SX.ev,c1]
  have h2:evs (fun i=>[pBy b][i]?) FT z2=some [pI 4,pBy b2,pB d2]:=by simp [z2,evs,SX.ev,h1,c2]
  have h3:evs (fun i=>[pBy b][i]?) FT z3=some [pI 4,pBy b3,pB d3]:=by simp [z3,evs,SX.ev,h2,c3]
  have h4:evs (fun i=>[pBy b][i]?) FT z4=some [pBy b4,pB d4]:=by simp [z4,evs,SX.ev,h3,c4]
  have h5:evs (fun i=>[pBy b][i]?) FT z5=some [pI 1,pBy b5,pB d5]:=by simp [z5,evs,SX.ev,h4,c5]
  have h6:evs (fun i=>[pBy b][i]?) FT z6=some [pI 1,pBy b6,pB d6]:=by simp [z6,evs,SX.ev,h5,c6]
  have h7:evs (fun i=>[pBy b][i]?) FT z7=some [pI 1,pBy b7,pB d7]:=by simp [z7,evs,SX.ev,h6,c7]
  simp [-Zac,Zab,Zaa,Base.ev,SX.ev,evs,Value.oneCell',hF,h1,h2,h3,h4,h5,h6,h7,c1,c2,c3,c4,c5,c6,c7,c8,mta.q3,mta.q4]
 ·rw [hx]
  have h1':evs (fun i=>[pBy b][i]?) FT z1=some [pI 1,pBy b1,pB d1]:=by simp [z1,evs,SX.ev,c1]
  have h2:evs (fun i=>[pBy b][i]?) FT z2=some [pI 4,pBy b2,pB d2]:=by simp [z2,evs,SX.ev,h1',c2]
  have h3:evs (fun i=>[pBy b][i]?) FT z3=some [pI 4,pBy b3,pB d3]:=by simp [z3,evs,SX.ev,h2,c3]
  have h4:evs (fun i=>[pBy b][i]?) FT z4=some [pBy b4,pB d4]:=by simp [z4,evs,SX.ev,h3,c4]
  have h5:evs (fun i=>[pBy b][i]?) FT z5=some [pI 1,pBy b5,pB d5]:=by simp [z5,evs,SX.ev,h4,c5]
  have h6:evs (fun i=>[pBy b][i]?) FT z6=some [pI 1,pBy b6,pB d6]:=by simp [z6,evs,SX.ev,h5,c6]
  have h7:evs (fun i=>[pBy b][i]?) FT z7=some [pI 1,pBy b7,pB d7]:=by simp [z7,evs,SX.ev,h6,c7]
  rw [hF] at hq
  simp [evs,SX.ev,h1',h2,h3,h4,h5,h6,h7,c1,c2,c3,c4,c5,c6,c7,c8,Zai] at hq
  subst hq
  exact h1
theorem toldTa (k:Nat):ToldF 24 (ETa k) (spec RTa):=by
 refine Zg1 FT _ (Zam Try.prog 24) Try.func24 (by kernel_rfl) shT (by kernel_rfl) ?_ ?_
 ·intro ps qs h
  obtain ⟨b,_,rfl,rfl⟩:=Zag h
  exact Za7 rfl
 ·intro C ps qs hF h a w hsh
  obtain ⟨b,hb,rfl,rfl⟩:=Zag h
  show wpL Try.prog flT _ a w
  refine walkT hF hb ?_ hsh
  rintro a' w' (⟨A,d,hin,hw,hq⟩ | ⟨A,d,hin,hw,hq⟩)
  ·refine ⟨.inr rfl,shRn,_,[SX.var 1,SX.var 2,SX.var 3,SX.var 4,SX.var 5,SX.var 6,SX.var 7,SX.lit 0 [],SX.var 0],[],hin,by kernel_rfl,?_,fun i hi=>by simp at hi⟩
   rw [hq]
   obtain ⟨x1,x2,x3,x4,x5,x6,x7,ws⟩:=A
   simp only at hw
   subst hw
   rfl
  ·refine ⟨.inr rfl,shRo,_,[SX.var 1,SX.var 2,SX.var 3,SX.var 4,SX.var 5,SX.var 6,SX.var 7,SX.var 8,SX.var 0],[7],hin,by kernel_rfl,?_,?_⟩
   ·rw [hq]
    rfl
   ·intro i hi
    simp only [List.mem_singleton] at hi
    subst hi
    rw [hq]
    obtain ⟨x1,x2,x3,x4,x5,x6,x7,ws⟩:=A
    obtain ⟨x,xs,hx⟩:=List.exists_cons_of_ne_nil hw
    simp only at hx
    subst hx
    exact ⟨xs.length,_,rfl⟩
end Go.Proofs.Ytnomiffghidmbaa.mta
