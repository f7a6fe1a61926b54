/- Texts joined. -/
import Derived.Test.YtnomiffghidmbaaMrn
import Derived.Test.YtnomiffghidmbaaMta
import Derived.Test.YtnomiffghidmbaaMtt
section
/- Package msg's reader.ask, told. -/
namespace Go.Proofs.Ytnomiffghidmbaa.mrk
open Go Go.RowKit eng SX Fact fil ima msm
open fileFronts (Zac Zei)
open mws (aP Zej)
open mrn (ERm ERt RRm fRm toldRm RRtm fRtm toldRtm rdA rbm)
open mta (anil aown Zai nilW lit1 cat2 lenW rdN_byte)
open pck (wbox)
open bip (pBy_inj)
set_option linter.unusedVariables false
set_option linter.unusedSimpArgs false
set_option maxRecDepth 1000000
def ERa (k:Nat):PtrE:={ k:=k,elem:=73,cells:=1,ins:=[],outs:=[some 8],kinds:=[.num,.num,.num,.num,.num,.num,.num,.row,.row] }
def tabK (f:FuncId):Option (PtrE × List Value):=cond (Nat.beq f 68) (some (ERm 1,[anyV])) (cond (Nat.beq f 69) (some (ERt 2,[anyV])) none)
def isApp (o:Op):Bool:=match o with | .call c=>(match c.callee with | .builtin .append=>true | _=>false) | _=>false
def hKa (_:FuncId) (o:Oper):Option Hint:=cond (isApp o.op) (some .own) none
noncomputable def flK:=flat (Zam Try.prog 50)
noncomputable def lpK:=flat (Zaq (nth flK 10))
def shK:Shape:=⟨[(0,.ptr 0 0 0 0)],[rbm],[some true],44,50⟩
def shKP:Shape:=⟨[],[rbm],[some true],44,50⟩
def shKn:Shape:=⟨[(0,.ptr 0 0 0 0),(2,.ptr 1 0 0 0),(3,.ptr 2 0 0 0),(27,.leaf),(28,.leaf)],[rbm,anil,anil],[none,none,some true,none,none,none,none,none,none,none,none,none,none,none,none,none,none],44,50⟩
def shKo:Shape:=⟨[(0,.ptr 0 0 0 0),(2,.ptr 1 0 0 0),(3,.ptr 2 0 0 0),(27,.leaf),(28,.leaf)],[rbm,anil,aown 3 17,wbox 17],[none,none,some true,none,none,none,none,none,none,none,none,none,none,none,none,none,none],44,50⟩
def shKRn:Shape:=⟨[(2,.ptr 1 0 0 0)],[rbm,anil],[some true,none,none,none,none,none,none,none],44,50⟩
def shKRo:Shape:=⟨[(2,.ptr 1 0 0 0)],[rbm,aown 2 8,wbox 8],[some true,none,none,none,none,none,none,none],44,50⟩
def z1:List SX:=[.con (.int .i64 1),.fn 1 [.con (.int .i64 1),.var 0] 2]
def z2:List SX:=[.con (.int .i64 4),.fn 1 z1 2]
def z3:List SX:=[.con (.int .i64 4),.fn 1 z2 2]
def z4:List SX:=[.fn 1 z3 2]
def z5:List SX:=[.con (.int .i64 1),.fn 2 z4 2]
def z6:List SX:=[.con (.int .i64 1),.fn 1 z5 2]
def z7:List SX:=[.con (.int .i64 1),.fn 1 z6 2]
def z8:List SX:=[.fn 1 [.con (.int .i64 1),.var 2] 2]
@[simp] def zMrk1:SX:=.con (.int .i64 1)
@[simp] def zMrk2:Fact:=Fact.fq 68 (ERm 1) [.tuple { toList:=[] }] [zMrk1,.var 0]
@[simp] def zMrk3:SX:=.bin .lss (.var 1) (.var 0)
@[simp] def zMrk4:List SX:=[zMrk1,.var 2]
@[simp] def zMrk5:Fact:=.is (.fn 1 [zMrk1,.var 0] 0) (.int .i64 0)
@[simp] def zMrk6:Fact:=Fact.fq 68 (ERm 1) [.tuple { toList:=[] }] z1
@[simp] def zMrk7:Fact:=Fact.fq 68 (ERm 1) [.tuple { toList:=[] }] z2
@[simp] def zMrk8:SX:=.lit 1 [.fn 1 zMrk4 1,.fn 2 z8 1]
@[simp] def zMrk9:Fact:=Fact.fq 68 (ERm 1) [.tuple { toList:=[] }] zMrk4
@[simp] def Zoo:Fact:=Fact.fq 68 (ERm 1) [.tuple { toList:=[] }] z3
@[simp] def Zka:Fact:=.ok (.fn 1 [zMrk1,.var 0] 1)
@[simp] def Zfp:SX:=.con (.int .i64 0)
@[simp] def Zq2:Fact:=Fact.fq 69 (ERt 2) [.tuple { toList:=[] }] z4
@[simp] def Zna:Fact:=.is (.fn 1 z1 0) (.int .i64 0)
@[simp] def Ztb:Fact:=Fact.fq 68 (ERm 1) [.tuple { toList:=[] }] z5
@[simp] def Zon:Fact:=.is (.fn 1 z2 0) (.int .i64 0)
@[simp] def Zq1:Fact:=.is (.fn 1 z3 0) (.int .i64 0)
@[simp] def Zom:SX:=.bin .add (.var 1) zMrk1
@[simp] def Zu9:Fact:=Fact.fq 68 (ERm 1) [.tuple { toList:=[] }] z6
@[simp] def Zta:Fact:=.is (.fn 1 zMrk4 0) (.int .i64 0)
@[simp] def Zol:Fact:=.is zMrk3 (.bool true)
@[simp] def Zs9:Fact:=.is (.fn 2 z4 0) (.int .i64 0)
@[simp] def Zmb:Fact:=.ok (.fn 1 z1 1)
@[simp] def Zs8:SX:=rop ROp.cat [.var 17,zMrk8]
@[simp] def Zu8:Fact:=same (.len (.var 17)) (.len (.var 17))
@[simp] def Zm9:Fact:=.ok (.fn 1 z2 1)
@[simp] def zMrk27:Fact:=Fact.fq 69 (ERt 2) [.tuple { toList:=[] }] [.fn 1 zMrk4 2]
@[simp] def Zu7:List SX:=[zMrk1,.fn 1 [zMrk1,.var 0] 2]
@[simp] def Zok:Fact:=.ok (.fn 1 z3 1)
@[simp] def Zu6:Fact:=.is (.fn 1 z5 0) (.int .i64 0)
theorem kp:segTo Try.prog (orcQ tabK) 10000 (flK.take 10) shK [0,0,0,0,0,0,0,0] shKn [(0,0),(2,0),(3,0)]=some (.normal,[zMrk2,zMrk5,Zka,zMrk6,Zna,Zmb,zMrk7,Zon,Zm9,Zoo,Zq1,Zok,Zq2,Zs9,.ok (.fn 2 z4 1),Ztb,Zu6,.ok (.fn 1 z5 1),Zu9,.is (.fn 1 z6 0) (.int .i64 0),.ok (.fn 1 z6 1),Fact.fq 68 (ERm 1) [.tuple { toList:=[] }] z7,.is (.fn 1 z7 0) (.int .i64 0),.ok (.fn 1 z7 1),.ok (.fn 1 z7 1),.ok Zfp,.ok Zfp,.ok Zfp,.ok Zfp,.ok Zfp,.ok (.con (.string { data:={ toList:=[] } })),.ok Zfp,.ok Zfp,Zka,Zmb,Zm9,Zok,.ok (.fn 2 z4 1),.ok (.fn 1 z5 1),.ok (.fn 1 z6 1)],[.fn 1 z7 1,Zfp,.fn 1 z7 2,Zfp,Zfp,Zfp,Zfp,.con (.string { data:={ toList:=[] } }),Zfp,Zfp,.fn 1 [zMrk1,.var 0] 1,.fn 1 z1 1,.fn 1 z2 1,.fn 1 z3 1,.fn 2 z4 1,.fn 1 z5 1,.fn 1 z6 1]):=by kernel_rfl
theorem ku0:segU Try.prog (orcQ tabK) 10000 (flK.take 10) shK [1] shKP [(0,0)]=some (.panic (.tuple { toList:=[] }),[zMrk2,.is (.fn 1 [zMrk1,.var 0] 0) (.int .i64 1)],[.fn 1 [zMrk1,.var 0] 1]):=by kernel_rfl
theorem ku1:segU Try.prog (orcQ tabK) 10000 (flK.take 10) shK [0,1] shKP [(0,0)]=some (.panic (.tuple { toList:=[] }),[zMrk2,zMrk5,Zka,Fact.fq 68 (ERm 1) [.tuple { toList:=[] }] Zu7,.is (.fn 1 Zu7 0) (.int .i64 1)],[.fn 1 Zu7 1]):=by kernel_rfl
theorem ku2:segU Try.prog (orcQ tabK) 10000 (flK.take 10) shK [0,0,1] shKP [(0,0)]=some (.panic (.tuple { toList:=[] }),[zMrk2,zMrk5,Zka,zMrk6,Zna,Zmb,zMrk7,.is (.fn 1 z2 0) (.int .i64 1)],[.fn 1 z2 1]):=by kernel_rfl
theorem ku3:segU Try.prog (orcQ tabK) 10000 (flK.take 10) shK [0,0,0,1] shKP [(0,0)]=some (.panic (.tuple { toList:=[] }),[zMrk2,zMrk5,Zka,zMrk6,Zna,Zmb,zMrk7,Zon,Zm9,Zoo,.is (.fn 1 z3 0) (.int .i64 1)],[.fn 1 z3 1]):=by kernel_rfl
theorem ku4:segU Try.prog (orcQ tabK) 10000 (flK.take 10) shK [0,0,0,0,1] shKP [(0,0)]=some (.panic (.tuple { toList:=[] }),[zMrk2,zMrk5,Zka,zMrk6,Zna,Zmb,zMrk7,Zon,Zm9,Zoo,Zq1,Zok,Zq2,.is (.fn 2 z4 0) (.int .i64 1)],[.fn 2 z4 1]):=by kernel_rfl
theorem ku5:segU Try.prog (orcQ tabK) 10000 (flK.take 10) shK [0,0,0,0,0,1] shKP [(0,0)]=some (.panic (.tuple { toList:=[] }),[zMrk2,zMrk5,Zka,zMrk6,Zna,Zmb,zMrk7,Zon,Zm9,Zoo,Zq1,Zok,Zq2,Zs9,.ok (.fn 2 z4 1),Ztb,.is (.fn 1 z5 0) (.int .i64 1)],[.fn 1 z5 1]):=by kernel_rfl
theorem ku6:segU Try.prog (orcQ tabK) 10000 (flK.take 10) shK [0,0,0,0,0,0,1] shKP [(0,0)]=some (.panic (.tuple { toList:=[] }),[zMrk2,zMrk5,Zka,zMrk6,Zna,Zmb,zMrk7,Zon,Zm9,Zoo,Zq1,Zok,Zq2,Zs9,.ok (.fn 2 z4 1),Ztb,Zu6,.ok (.fn 1 z5 1),Zu9,.is (.fn 1 z6 0) (.int .i64 1)],[.fn 1 z6 1]):=by kernel_rfl
theorem ku7:segU Try.prog (orcQ tabK) 10000 (flK.take 10) shK [0,0,0,0,0,0,0,1] shKP [(0,0)]=some (.panic (.tuple { toList:=[] }),[zMrk2,zMrk5,Zka,zMrk6,Zna,Zmb,zMrk7,Zon,Zm9,Zoo,Zq1,Zok,Zq2,Zs9,.ok (.fn 2 z4 1),Ztb,Zu6,.ok (.fn 1 z5 1),Zu9,.is (.fn 1 z6 0) (.int .i64 0),.ok (.fn 1 z6 1),Fact.fq 68 (ERm 1) [.tuple { toList:=[] }] z7,.is (.fn 1 z7 0) (.int .i64 1)],[.fn 1 z7 1]):=by kernel_rfl
theorem xn0:segTo Try.prog (orcQ tabK) 10000 lpK shKn [0] shKn [(0,0),(1,0),(2,0)] hKa=some (.exit 0,[.ok zMrk3,.is zMrk3 (.bool false),.ok (.var 0),.ok (.var 1),.ok (.var 3),.ok (.var 4),.ok (.var 5),.ok (.var 6),.ok (.var 7),.ok (.var 8),.ok (.var 9),.ok (.var 10),.ok (.var 11),.ok (.var 12),.ok (.var 13),.ok (.var 14),.ok (.var 15),.ok (.var 16)],[.var 0,.var 1,.var 2,.var 3,.var 4,.var 5,.var 6,.var 7,.var 8,.var 9,.var 10,.var 11,.var 12,.var 13,.var 14,.var 15,.var 16]):=by kernel_rfl
theorem xo0:segTo Try.prog (orcQ tabK) 10000 lpK shKo [0] shKo [(0,0),(1,0),(2,0),(3,0)] hKa=some (.exit 0,[.ok zMrk3,.is zMrk3 (.bool false),.ok (.var 0),.ok (.var 1),.ok (.var 3),.ok (.var 4),.ok (.var 5),.ok (.var 6),.ok (.var 7),.ok (.var 8),.ok (.var 9),.ok (.var 10),.ok (.var 11),.ok (.var 12),.ok (.var 13),.ok (.var 14),.ok (.var 15),.ok (.var 16),Zu8],[.var 0,.var 1,.var 2,.var 3,.var 4,.var 5,.var 6,.var 7,.var 8,.var 9,.var 10,.var 11,.var 12,.var 13,.var 14,.var 15,.var 16,.var 17]):=by kernel_rfl
theorem nu1:segU Try.prog (orcQ tabK) 10000 lpK shKn [1,1] shKP [(0,0)] hKa=some (.panic (.tuple { toList:=[] }),[.ok zMrk3,Zol,zMrk9,.is (.fn 1 zMrk4 0) (.int .i64 1)],[.fn 1 zMrk4 1]):=by kernel_rfl
theorem nu2:segU Try.prog (orcQ tabK) 10000 lpK shKn [1,0,1] shKP [(0,0)] hKa=some (.panic (.tuple { toList:=[] }),[.ok zMrk3,Zol,zMrk9,Zta,.ok (.fn 1 zMrk4 1),zMrk27,.is (.fn 2 [.fn 1 zMrk4 2] 0) (.int .i64 1)],[.fn 2 [.fn 1 zMrk4 2] 1]):=by kernel_rfl
theorem ou1:segU Try.prog (orcQ tabK) 10000 lpK shKo [1,1] shKP [(0,0)] hKa=some (.panic (.tuple { toList:=[] }),[.ok zMrk3,Zol,zMrk9,.is (.fn 1 zMrk4 0) (.int .i64 1)],[.fn 1 zMrk4 1]):=by kernel_rfl
theorem ou2:segU Try.prog (orcQ tabK) 10000 lpK shKo [1,0,1] shKP [(0,0)] hKa=some (.panic (.tuple { toList:=[] }),[.ok zMrk3,Zol,zMrk9,Zta,.ok (.fn 1 zMrk4 1),zMrk27,.is (.fn 2 [.fn 1 zMrk4 2] 0) (.int .i64 1)],[.fn 2 [.fn 1 zMrk4 2] 1]):=by kernel_rfl
theorem gn:segTo Try.prog (orcQ tabK) 10000 lpK shKn [1,0,0] shKo [(0,0),(1,0),(2,0),(8,0)] hKa=some (.normal,[.ok zMrk3,Zol,zMrk9,Zta,.ok (.fn 1 zMrk4 1),Fact.fq 69 (ERt 2) [.tuple { toList:=[] }] z8,.is (.fn 2 z8 0) (.int .i64 0),.ok (.fn 2 z8 1),rng Zfp (.len zMrk8),upto (.len zMrk8) 4294967296,.ok Zom,.ok (.var 0),.ok Zom,.ok (.var 3),.ok (.var 4),.ok (.var 5),.ok (.var 6),.ok (.var 7),.ok (.var 8),.ok (.var 9),.ok (.var 10),.ok (.var 11),.ok (.var 12),.ok (.var 13),.ok (.var 14),.ok (.var 15),.ok (.var 16),same (.len zMrk8) (.len zMrk8)],[.var 0,Zom,.fn 2 z8 2,.var 3,.var 4,.var 5,.var 6,.var 7,.var 8,.var 9,.var 10,.var 11,.var 12,.var 13,.var 14,.var 15,.var 16,zMrk8]):=by kernel_rfl
theorem go:segTo Try.prog (orcQ tabK) 10000 lpK shKo [1,0,0] shKo [(0,0),(1,0),(2,0),(3,1)] hKa=some (.normal,[.ok zMrk3,Zol,zMrk9,Zta,.ok (.fn 1 zMrk4 1),Fact.fq 69 (ERt 2) [.tuple { toList:=[] }] z8,.is (.fn 2 z8 0) (.int .i64 0),.ok (.fn 2 z8 1),Zu8,upto (.len Zs8) 4294967296,.ok Zom,.ok (.var 0),.ok Zom,.ok (.var 3),.ok (.var 4),.ok (.var 5),.ok (.var 6),.ok (.var 7),.ok (.var 8),.ok (.var 9),.ok (.var 10),.ok (.var 11),.ok (.var 12),.ok (.var 13),.ok (.var 14),.ok (.var 15),.ok (.var 16),same (.len Zs8) (.len Zs8)],[.var 0,Zom,.fn 2 z8 2,.var 3,.var 4,.var 5,.var 6,.var 7,.var 8,.var 9,.var 10,.var 11,.var 12,.var 13,.var 14,.var 15,.var 16,Zs8]):=by kernel_rfl
theorem en:segTo Try.prog (orcQ tabK) 10000 (flK.drop 11) shKn [] shKRn [(0,0),(1,0)] hKa=some (.ret,[.ok (.var 10),.ok (.var 11),.ok (.var 12),.ok (.var 13),.ok (.var 14),.ok (.var 15),.ok (.var 16)],[.var 2,.var 10,.var 11,.var 12,.var 13,.var 14,.var 15,.var 16]):=by kernel_rfl
theorem eo:segTo Try.prog (orcQ tabK) 10000 (flK.drop 11) shKo [] shKRo [(0,0),(1,0),(3,0)] hKa=some (.ret,[.ok (.var 10),.ok (.var 11),.ok (.var 12),.ok (.var 13),.ok (.var 14),.ok (.var 15),.ok (.var 16),Zu8],[.var 2,.var 10,.var 11,.var 12,.var 13,.var 14,.var 15,.var 16,.var 17]):=by kernel_rfl
@[simp] theorem kRmK (k:Nat):(ERm k).k=k:=rfl
@[simp] theorem kRtK (k:Nat):(ERt k).k=k:=rfl
@[simp] theorem kRaK (k:Nat):(ERa k).k=k:=rfl
@[simp] theorem holds_fqK (B:Base) (f:FuncId) (E:PtrE) (pans:List Value) (es:List SX):(Fact.fq f E pans es).holds B ↔ ToldQ f E pans (B.F E.k)/\∃ ps qs,evs B.s B.F es=some ps/\B.F E.k ps=some qs:=Iff.rfl
noncomputable def FK:Fns:=fun k=>match k with | 1=>spec RRm | 2=>spec RRtm | _=>fun _=>none
theorem k1:ToldQ 68 (ERm 1) [.tuple { toList:=[] }] (FK 1):=toldRm 1
theorem k2:ToldQ 69 (ERt 2) [.tuple { toList:=[] }] (FK 2):=toldRtm 2
theorem sN (b:List UInt8) (n:Nat):rdN (b,true) n=(0,(b,true)):=by simp [rdN]
theorem sT (b:List UInt8):rdT (b,true)=(e0,(b,true)):=by simp [rdT]
theorem sW (b:List UInt8) (n:Nat):rdW n (b,true)=([],(b,true)):=by cases n <;> simp [rdW]
theorem gk1 (l:List UInt8) (n:Nat) (z:Int) (hz:z=n) (h:l.length<=1000000) (h1:1<=n) (h2:n<=4):∃ (x:Int) (b:List UInt8) (d:Bool),rdN (l,false) n=(x,(b,d))/\b.length<=1000000/\myt.i64 x/\FK 1 [pI z,pBy l]=some (if d=true then [pI 1,pBy b] else [pI 0,pI x,pBy b]):=by
 subst hz
 exact ⟨_,_,_,rfl,Nat.le_trans (mtt.rdN_len (l,false) n) h,mtt.rdN_i64 (l,false) n h2,Zaf fRm ⟨l,n,h,h1,by omega,rfl,rfl⟩⟩
theorem gk2 (l:List UInt8) (h:l.length<=1000000):∃ (x:ByteArray) (b:List UInt8) (d:Bool),rdT (l,false)=(x,(b,d))/\b.length<=1000000/\x.size<=255/\FK 2 [pBy l]=some (if d=true then [pI 1,pBy b] else [pI 0,pS x,pBy b]) :=
 ⟨_,_,_,rfl,Nat.le_trans (mtt.rdT_len (l,false)) h,mtt.rdT_size (l,false),Zaf fRtm ⟨l,h,rfl,rfl⟩⟩
def ansA (p:AskM × Rd):List PV:=if p.2.2=true then [pI 1,pBy p.2.1] else pI 0 :: (aP p.1++[pBy p.2.1])
theorem Zgq {p:AskM × Rd} {b:List UInt8} (h:p.2=(b,true)):ansA p=[pI 1,pBy b]:=by rw [ansA,h,if_pos rfl]
def RRa (ps qs:List PV):Prop:=∃ b:List UInt8,b.length<=1000000/\ps=[pBy b]/\qs=ansA (Zbv b)
theorem fRa:∀ ps q1 q2,RRa ps q1->RRa ps q2->q1=q2:=by
 rintro ps q1 q2 ⟨a,_,rfl,rfl⟩ ⟨b,_,h,rfl⟩
 simp only [List.cons.injEq,and_true] at h
 rw [pBy_inj h]
theorem cutK:flK=flK.take 10++.block (Zat (nth flK 10)) (.loop (Zaq (nth flK 10))) :: flK.drop 11:=by kernel_rfl
set_option maxHeartbeats 4000000 in
theorem toldRa (k0:Nat):ToldQ 50 (ERa k0) [anyV] (spec RRa):=by
 refine Zfm FK _ (Zam Try.prog 50) Try.func50 (by kernel_rfl) shK (by kernel_rfl) ?_ ?_
 ·intro ps qs h
  obtain ⟨b,_,rfl,rfl⟩:=Zag h
  exact Za7 rfl
 intro C ps qs hF h a w hsh
 obtain ⟨b,hb,rfl,hqs⟩:=Zag h
 show wpL Try.prog flK _ a w
 rw [cutK]
 obtain ⟨x1,b1,d1,e1,n1,i1,c1⟩:=gk1 b 1 1 rfl hb (by omega) (by omega)
 cases d1 with
 | true =>
  rw [if_pos rfl] at c1
  rw [Zgq (b:=b1) (by simp only [Zbv,e1,sN,sT,sW])] at hqs
  refine Zbh names_ok mixed_ok (Za1 tabK) ku0 hsh ?_ (fun qs a1 wd hq hx=>⟨nofun,fun _ u=>.inr ⟨0,anyV,u,[pBy b1],shKP,_,[SX.var 0],hqs,rfl,rfl,hx,by kernel_rfl,?_⟩⟩)
  ·simp [-Zac,Zab,Zaa,Base.ev,SX.ev,evs,Value.oneCell',hF,c1,mrk.k1,mrk.k2]
  ·simp [evs,SX.ev,hF,c1] at hq
   subst hq
   rfl
 | false =>
 rw [if_neg (by simp)] at c1
 obtain ⟨x2,b2,d2,e2,n2,i2,c2⟩:=gk1 b1 1 1 rfl n1 (by omega) (by omega)
 cases d2 with
 | true =>
  rw [if_pos rfl] at c2
  rw [Zgq (b:=b2) (by simp only [Zbv,e1,e2,sN,sT,sW])] at hqs
  refine Zbh names_ok mixed_ok (Za1 tabK) ku1 hsh ?_ (fun qs a1 wd hq hx=>⟨nofun,fun _ u=>.inr ⟨0,anyV,u,[pBy b2],shKP,_,[SX.var 0],hqs,rfl,rfl,hx,by kernel_rfl,?_⟩⟩)
  ·simp [-Zac,Zab,Zaa,Base.ev,SX.ev,evs,Value.oneCell',hF,c1,c2,mrk.k1,mrk.k2]
  ·simp [evs,SX.ev,hF,c1,c2] at hq
   subst hq
   rfl
 | false =>
 rw [if_neg (by simp)] at c2
 have h1:evs (fun i=>[pBy b][i]?) FK z1=some [pI 1,pBy b1]:=by simp [z1,evs,SX.ev,c1]
 obtain ⟨x3,b3,d3,e3,n3,i3,c3⟩:=gk1 b2 4 4 rfl n2 (by omega) (by omega)
 cases d3 with
 | true =>
  rw [if_pos rfl] at c3
  rw [Zgq (b:=b3) (by simp only [Zbv,e1,e2,e3,sN,sT,sW])] at hqs
  refine Zbh names_ok mixed_ok (Za1 tabK) ku2 hsh ?_ (fun qs a1 wd hq hx=>⟨nofun,fun _ u=>.inr ⟨0,anyV,u,[pBy b3],shKP,_,[SX.var 0],hqs,rfl,rfl,hx,by kernel_rfl,?_⟩⟩)
  ·have hl:evs (fun i=>[pBy b][i]?) FK z2=some [pI 4,pBy b2]:=by simp [z2,evs,SX.ev,h1,c1,c2]
   simp [-Zac,Zab,Zaa,Base.ev,SX.ev,evs,Value.oneCell',hF,h1,hl,c1,c2,c3,mrk.k1,mrk.k2]
  ·have hl:evs (fun i=>[pBy b][i]?) FK z2=some [pI 4,pBy b2]:=by simp [z2,evs,SX.ev,h1,c1,c2]
   rw [hF] at hq
   simp [evs,SX.ev,h1,hl,c1,c2,c3] at hq
   subst hq
   rfl
 | false =>
 rw [if_neg (by simp)] at c3
 have h2:evs (fun i=>[pBy b][i]?) FK z2=some [pI 4,pBy b2]:=by simp [z2,evs,SX.ev,h1,c1,c2]
 obtain ⟨x4,b4,d4,e4,n4,i4,c4⟩:=gk1 b3 4 4 rfl n3 (by omega) (by omega)
 cases d4 with
 | true =>
  rw [if_pos rfl] at c4
  rw [Zgq (b:=b4) (by simp only [Zbv,e1,e2,e3,e4,sN,sT,sW])] at hqs
  refine Zbh names_ok mixed_ok (Za1 tabK) ku3 hsh ?_ (fun qs a1 wd hq hx=>⟨nofun,fun _ u=>.inr ⟨0,anyV,u,[pBy b4],shKP,_,[SX.var 0],hqs,rfl,rfl,hx,by kernel_rfl,?_⟩⟩)
  ·have hl:evs (fun i=>[pBy b][i]?) FK z3=some [pI 4,pBy b3]:=by simp [z3,evs,SX.ev,h1,h2,c1,c2,c3]
   simp [-Zac,Zab,Zaa,Base.ev,SX.ev,evs,Value.oneCell',hF,h1,h2,hl,c1,c2,c3,c4,mrk.k1,mrk.k2]
  ·have hl:evs (fun i=>[pBy b][i]?) FK z3=some [pI 4,pBy b3]:=by simp [z3,evs,SX.ev,h1,h2,c1,c2,c3]
   rw [hF] at hq
   simp [evs,SX.ev,h1,h2,hl,c1,c2,c3,c4] at hq
   subst hq
   rfl
 | false =>
 rw [if_neg (by simp)] at c4
 have h3:evs (fun i=>[pBy b][i]?) FK z3=some [pI 4,pBy b3]:=by simp [z3,evs,SX.ev,h1,h2,c1,c2,c3]
 obtain ⟨x5,b5,d5,e5,n5,i5,c5⟩:=gk2 b4 n4
 cases d5 with
 | true =>
  rw [if_pos rfl] at c5
  rw [Zgq (b:=b5) (by simp only [Zbv,e1,e2,e3,e4,e5,sN,sT,sW])] at hqs
  refine Zbh names_ok mixed_ok (Za1 tabK) ku4 hsh ?_ (fun qs a1 wd hq hx=>⟨nofun,fun _ u=>.inr ⟨0,anyV,u,[pBy b5],shKP,_,[SX.var 0],hqs,rfl,rfl,hx,by kernel_rfl,?_⟩⟩)
  ·have hl:evs (fun i=>[pBy b][i]?) FK z4=some [pBy b4]:=by simp [z4,evs,SX.ev,h1,h2,h3,c1,c2,c3,c4]
   simp [-Zac,Zab,Zaa,Base.ev,SX.ev,evs,Value.oneCell',hF,h1,h2,h3,hl,c1,c2,c3,c4,c5,mrk.k1,mrk.k2]
  ·have hl:evs (fun i=>[pBy b][i]?) FK z4=some [pBy b4]:=by simp [z4,evs,SX.ev,h1,h2,h3,c1,c2,c3,c4]
   rw [hF] at hq
   simp [evs,SX.ev,h1,h2,h3,hl,c1,c2,c3,c4,c5] at hq
   subst hq
   rfl
 | false =>
 rw [if_neg (by simp)] at c5
 have h4:evs (fun i=>[pBy b][i]?) FK z4=some [pBy b4]:=by simp [z4,evs,SX.ev,h1,h2,h3,c1,c2,c3,c4]
 obtain ⟨x6,b6,d6,e6,n6,i6,c6⟩:=gk1 b5 1 1 rfl n5 (by omega) (by omega)
 cases d6 with
 | true =>
  rw [if_pos rfl] at c6
  rw [Zgq (b:=b6) (by simp only [Zbv,e1,e2,e3,e4,e5,e6,sN,sT,sW])] at hqs
  refine Zbh names_ok mixed_ok (Za1 tabK) ku5 hsh ?_ (fun qs a1 wd hq hx=>⟨nofun,fun _ u=>.inr ⟨0,anyV,u,[pBy b6],shKP,_,[SX.var 0],hqs,rfl,rfl,hx,by kernel_rfl,?_⟩⟩)
  ·have hl:evs (fun i=>[pBy b][i]?) FK z5=some [pI 1,pBy b5]:=by simp [z5,evs,SX.ev,h1,h2,h3,h4,c1,c2,c3,c4,c5]
   simp [-Zac,Zab,Zaa,Base.ev,SX.ev,evs,Value.oneCell',hF,h1,h2,h3,h4,hl,c1,c2,c3,c4,c5,c6,mrk.k1,mrk.k2]
  ·have hl:evs (fun i=>[pBy b][i]?) FK z5=some [pI 1,pBy b5]:=by simp [z5,evs,SX.ev,h1,h2,h3,h4,c1,c2,c3,c4,c5]
   rw [hF] at hq
   simp [evs,SX.ev,h1,h2,h3,h4,hl,c1,c2,c3,c4,c5,c6] at hq
   subst hq
   rfl
 | false =>
 rw [if_neg (by simp)] at c6
 have h5:evs (fun i=>[pBy b][i]?) FK z5=some [pI 1,pBy b5]:=by simp [z5,evs,SX.ev,h1,h2,h3,h4,c1,c2,c3,c4,c5]
 obtain ⟨x7,b7,d7,e7,n7,i7,c7⟩:=gk1 b6 1 1 rfl n6 (by omega) (by omega)
 cases d7 with
 | true =>
  rw [if_pos rfl] at c7
  rw [Zgq (b:=b7) (by simp only [Zbv,e1,e2,e3,e4,e5,e6,e7,sN,sT,sW])] at hqs
  refine Zbh names_ok mixed_ok (Za1 tabK) ku6 hsh ?_ (fun qs a1 wd hq hx=>⟨nofun,fun _ u=>.inr ⟨0,anyV,u,[pBy b7],shKP,_,[SX.var 0],hqs,rfl,rfl,hx,by kernel_rfl,?_⟩⟩)
  ·have hl:evs (fun i=>[pBy b][i]?) FK z6=some [pI 1,pBy b6]:=by simp [z6,evs,SX.ev,h1,h2,h3,h4,h5,c1,c2,c3,c4,c5,c6]
   simp [-Zac,Zab,Zaa,Base.ev,SX.ev,evs,Value.oneCell',hF,h1,h2,h3,h4,h5,hl,c1,c2,c3,c4,c5,c6,c7,mrk.k1,mrk.k2]
  ·have hl:evs (fun i=>[pBy b][i]?) FK z6=some [pI 1,pBy b6]:=by simp [z6,evs,SX.ev,h1,h2,h3,h4,h5,c1,c2,c3,c4,c5,c6]
   rw [hF] at hq
   simp [evs,SX.ev,h1,h2,h3,h4,h5,hl,c1,c2,c3,c4,c5,c6,c7] at hq
   subst hq
   rfl
 | false =>
 rw [if_neg (by simp)] at c7
 have h6:evs (fun i=>[pBy b][i]?) FK z6=some [pI 1,pBy b6]:=by simp [z6,evs,SX.ev,h1,h2,h3,h4,h5,c1,c2,c3,c4,c5,c6]
 obtain ⟨x8,b8,d8,e8,n8,i8,c8⟩:=gk1 b7 1 1 rfl n7 (by omega) (by omega)
 cases d8 with
 | true =>
  rw [if_pos rfl] at c8
  rw [Zgq (b:=b8) (by simp only [Zbv,e1,e2,e3,e4,e5,e6,e7,e8,sN,sT,sW])] at hqs
  refine Zbh names_ok mixed_ok (Za1 tabK) ku7 hsh ?_ (fun qs a1 wd hq hx=>⟨nofun,fun _ u=>.inr ⟨0,anyV,u,[pBy b8],shKP,_,[SX.var 0],hqs,rfl,rfl,hx,by kernel_rfl,?_⟩⟩)
  ·have hl:evs (fun i=>[pBy b][i]?) FK z7=some [pI 1,pBy b7]:=by simp [z7,evs,SX.ev,h1,h2,h3,h4,h5,h6,c1,c2,c3,c4,c5,c6,c7]
   simp [-Zac,Zab,Zaa,Base.ev,SX.ev,evs,Value.oneCell',hF,h1,h2,h3,h4,h5,h6,hl,c1,c2,c3,c4,c5,c6,c7,c8,mrk.k1,mrk.k2]
  ·have hl:evs (fun i=>[pBy b][i]?) FK z7=some [pI 1,pBy b7]:=by simp [z7,evs,SX.ev,h1,h2,h3,h4,h5,h6,c1,c2,c3,c4,c5,c6,c7]
   rw [hF] at hq
   simp [evs,SX.ev,h1,h2,h3,h4,h5,h6,hl,c1,c2,c3,c4,c5,c6,c7,c8] at hq
   subst hq
   rfl
 | false =>
 rw [if_neg (by simp)] at c8
 have h7:evs (fun i=>[pBy b][i]?) FK z7=some [pI 1,pBy b7]:=by simp [z7,evs,SX.ev,h1,h2,h3,h4,h5,h6,c1,c2,c3,c4,c5,c6,c7]
 have hx8:=rdN_byte (b7,false)
 rw [e8] at hx8
 simp only at hx8
 have hpar:∀ W s,rdW x8.toNat (b8,false)=(W,s)->Zbv b=(⟨x1,x2,x3,x4,x5,x6,x7,W⟩,s):=fun W s h=>by simp only [Zbv,e1,e2,e3,e4,e5,e6,e7,e8,h]
 obtain ⟨c,rfl⟩:∃ c:Nat,x8=(c:Int):=⟨x8.toNat,by omega⟩
 have hc:c<=255:=by omega
 simp only [Int.toNat_natCast] at hpar
 clear e1 e2 e3 e4 e5 e6 e7 e8 hx8 n1 n2 n3 n4 n5 n6 n7
 refine Zad names_ok mixed_ok (Za1 tabK) kp hsh ?_ (fun qs a1 w1 hq hx=>⟨fun _=>?_,fun h=>absurd rfl h⟩)
 ·simp [-Zac,Zab,Zaa,Base.ev,SX.ev,evs,Value.oneCell',hF,h1,h2,h3,h4,h5,h6,h7,c1,c2,c3,c4,c5,c6,c7,c8,mrk.k1,mrk.k2]
 rw [hF] at hq
 simp [evs,SX.ev,h1,h2,h3,h4,h5,h6,h7,c1,c2,c3,c4,c5,c6,c7,c8,Zai] at hq
 subst hq
 clear h1 h2 h3 h4 h5 h6 h7 c1 c2 c3 c4 c5 c6 c7 c8 hsh
 refine Zhe (fun m a w=>∃ (i:Nat) (acc:List WrM) (r:List UInt8),m=c - i/\i<=c/\r.length<=1000000/\acc.length=i/\rdW c (b8,false)=(acc++(rdW (c - i) (r,false)).1,(rdW (c - i) (r,false)).2) ∧
  ((acc=[]/\Zah C shKn [pI (c:Int),pI (i:Int),pBy r,pI 0,pI 0,pI 0,pI 0,pS e0,pI 0,pI 0,pI x1,pI x2,pI x3,pI x4,pS x5,pI x6,pI x7] a w) \/ (acc ≠ []/\Zah C shKo [pI (c:Int),pI (i:Int),pBy r,pI 0,pI 0,pI 0,pI 0,pS e0,pI 0,pI 0,pI x1,pI x2,pI x3,pI x4,pS x5,pI x6,pI x7,pRow encW acc] a w))) ?_ (n:=c) ⟨0,[],b8,by omega,by omega,n8,rfl,by simp,.inl ⟨rfl,hx⟩⟩
 clear hx n8
 rintro m a w ⟨i,acc,r,rfl,hi,hr,hal,hrd,hin⟩
 show wpL Try.prog lpK _ a w
 rw [<- List.append_nil lpK]
 by_cases hlt:i < c
 ·have hic:(i:Int) < (c:Int):=by omega
  have v3:IntKind.i64.wrap ((i:Int)+1)=(i:Int)+1:=wrapI _ (by omega) (by omega)
  obtain ⟨q,hq⟩:∃ q,c - i=q+1:=⟨c - i - 1,by omega⟩
  have hq':c - (i+1)=q:=by omega
  rw [hq] at hrd
  obtain ⟨o,r1,d1,e1,n1,i1',c1⟩:=gk1 r 1 1 rfl hr (by omega) (by omega)
  cases d1 with
  | true =>
   rw [if_pos rfl] at c1
   have hw:(rdW (q+1) (r,false)).2=(r1,true):=by rw [rdW,if_neg (by simp)];simp only [e1,sT,sW]
   rw [Zgq (b:=r1) (by rw [hpar _ _ hrd];exact hw)] at hqs
   rcases hin with ⟨rfl,hin⟩ | ⟨hne,hin⟩
   ·refine Zbh names_ok mixed_ok (Za1 tabK) nu1 hin ?_ (fun qs a1 wd hq hx=>⟨nofun,fun _ u=>.inr (.inr (.inr ⟨_,rfl,.inr ⟨0,anyV,u,[pBy r1],shKP,_,[SX.var 0],hqs,rfl,rfl,hx,by kernel_rfl,by simp [evs,SX.ev,hF,c1] at hq;subst hq;rfl⟩⟩))⟩)
    simp [-Zac,Zab,Zaa,Base.ev,SX.ev,evs,Value.oneCell',hF,binPV,hic,c1,mrk.k1,mrk.k2]
   ·refine Zbh names_ok mixed_ok (Za1 tabK) ou1 hin ?_ (fun qs a1 wd hq hx=>⟨nofun,fun _ u=>.inr (.inr (.inr ⟨_,rfl,.inr ⟨0,anyV,u,[pBy r1],shKP,_,[SX.var 0],hqs,rfl,rfl,hx,by kernel_rfl,by simp [evs,SX.ev,hF,c1] at hq;subst hq;rfl⟩⟩))⟩)
    simp [-Zac,Zab,Zaa,Base.ev,SX.ev,evs,Value.oneCell',hF,binPV,hic,c1,mrk.k1,mrk.k2]
  | false =>
  rw [if_neg (by simp)] at c1
  obtain ⟨t,r2,d2,e2,n2,i2',c2⟩:=gk2 r1 n1
  cases d2 with
  | true =>
   rw [if_pos rfl] at c2
   have hw:(rdW (q+1) (r,false)).2=(r2,true):=by rw [rdW,if_neg (by simp)];simp only [e1,e2,sT,sW]
   rw [Zgq (b:=r2) (by rw [hpar _ _ hrd];exact hw)] at hqs
   rcases hin with ⟨rfl,hin⟩ | ⟨hne,hin⟩
   ·refine Zbh names_ok mixed_ok (Za1 tabK) nu2 hin ?_ (fun qs a1 wd hq hx=>⟨nofun,fun _ u=>.inr (.inr (.inr ⟨_,rfl,.inr ⟨0,anyV,u,[pBy r2],shKP,_,[SX.var 0],hqs,rfl,rfl,hx,by kernel_rfl,by simp [evs,SX.ev,hF,c1,c2] at hq;subst hq;rfl⟩⟩))⟩)
    simp [-Zac,Zab,Zaa,Base.ev,SX.ev,evs,Value.oneCell',hF,binPV,hic,c1,c2,mrk.k1,mrk.k2]
   ·refine Zbh names_ok mixed_ok (Za1 tabK) ou2 hin ?_ (fun qs a1 wd hq hx=>⟨nofun,fun _ u=>.inr (.inr (.inr ⟨_,rfl,.inr ⟨0,anyV,u,[pBy r2],shKP,_,[SX.var 0],hqs,rfl,rfl,hx,by kernel_rfl,by simp [evs,SX.ev,hF,c1,c2] at hq;subst hq;rfl⟩⟩))⟩)
    simp [-Zac,Zab,Zaa,Base.ev,SX.ev,evs,Value.oneCell',hF,binPV,hic,c1,c2,mrk.k1,mrk.k2]
  | false =>
  rw [if_neg (by simp)] at c2
  have hw:rdW (q+1) (r,false)=((o,t) :: (rdW q (r2,false)).1,(rdW q (r2,false)).2):=by
   rw [rdW,if_neg (by simp)]
   simp only [e1,e2]
  have hrd2:rdW c (b8,false)=((acc++[(o,t)])++(rdW (c - (i+1)) (r2,false)).1,(rdW (c - (i+1)) (r2,false)).2):=by rw [hrd,hw,hq'];simp
  have hal2:(acc++[(o,t)]).length=i+1:=by simp [hal]
  have hne2:acc++[(o,t)] ≠ []:=by simp
  rcases hin with ⟨rfl,hin⟩ | ⟨hne,hin⟩
  ·refine Zad names_ok mixed_ok (Za1 tabK) gn hin ?_ (fun qs a1 w1 hq h1=>⟨fun _=>.inl ⟨rfl,c - (i+1),by omega,i+1,_,r2,rfl,by omega,n2,hal2,hrd2,.inr ⟨hne2,by simp only [evs,SX.ev,hF] at hq;simp [evs,SX.ev,binPV,z8,c1,c2,v3,lit1] at hq;subst hq;exact h1⟩⟩,fun h=>absurd rfl h⟩)
   simp [-Zac,Zab,Zaa,Base.ev,SX.ev,evs,Value.oneCell',hF,binPV,hic,z8,c1,c2,v3,lit1,lenW,mrk.k1,mrk.k2]
   all_goals first | omega | skip
  ·have hne1:0 < acc.length:=List.length_pos_iff.2 hne
   refine Zad names_ok mixed_ok (Za1 tabK) go hin ?_ (fun qs a1 w1 hq h1=>⟨fun _=>.inl ⟨rfl,c - (i+1),by omega,i+1,_,r2,rfl,by omega,n2,hal2,hrd2,.inr ⟨hne2,by simp only [evs,SX.ev,hF] at hq;simp [evs,SX.ev,binPV,z8,c1,c2,v3,lit1,cat2] at hq;subst hq;exact h1⟩⟩,fun h=>absurd rfl h⟩)
   simp [-Zac,Zab,Zaa,Base.ev,SX.ev,evs,Value.oneCell',hF,binPV,hic,z8,c1,c2,v3,lit1,cat2,lenW,mrk.k1,mrk.k2]
   all_goals exact ⟨⟨acc.length+1,by omega,by omega⟩,⟨acc.length+1,by omega⟩⟩
 ·obtain rfl:i=c:=by omega
  have he:rdW i (b8,false)=(acc,(r,false)):=by rw [hrd];simp [rdW]
  rw [hpar _ _ he] at hqs
  have hqs:qs=pI 0 :: (aP ⟨x1,x2,x3,x4,x5,x6,x7,acc⟩++[pBy r]):=hqs
  rcases hin with ⟨rfl,hin⟩ | ⟨hne,hin⟩
  ·refine Zad names_ok mixed_ok (Za1 tabK) xn0 hin ?_ (fun qs a1 w1 hq h1=>⟨nofun,fun _=>.inr (.inl ⟨by rw [show Zat (nth flK 10)=0 by kernel_rfl];rfl,?_⟩)⟩)
   ·simp [-Zac,Zab,Zaa,Base.ev,SX.ev,evs,Value.oneCell',hF,binPV]
   simp [evs,SX.ev] at hq
   subst hq
   rw [<- List.append_nil (flK.drop 11)]
   refine Zad names_ok mixed_ok (Za1 tabK) en h1 ?_ (fun qs a1 wd hq hx=>⟨nofun,fun _=>.inl ⟨_,hqs,.inr rfl,shKRn,_,[SX.var 1,SX.var 2,SX.var 3,SX.var 4,SX.var 5,SX.var 6,SX.var 7,SX.lit 0 [],SX.var 0],hx,by kernel_rfl,?_⟩⟩)
   ·simp [-Zac,Zab,Zaa,Base.ev,SX.ev,evs,Value.oneCell',hF]
   ·simp [evs,SX.ev] at hq
    subst hq
    rfl
  ·have hne1:0 < acc.length:=List.length_pos_iff.2 hne
   refine Zad names_ok mixed_ok (Za1 tabK) xo0 hin ?_ (fun qs a1 w1 hq h1=>⟨nofun,fun _=>.inr (.inl ⟨by rw [show Zat (nth flK 10)=0 by kernel_rfl];rfl,?_⟩)⟩)
   ·simp [-Zac,Zab,Zaa,Base.ev,SX.ev,evs,Value.oneCell',hF,lenW,binPV]
   simp [evs,SX.ev] at hq
   subst hq
   rw [<- List.append_nil (flK.drop 11)]
   refine Zad names_ok mixed_ok (Za1 tabK) eo h1 ?_ (fun qs a1 wd hq hx=>⟨nofun,fun _=>.inl ⟨_,hqs,.inr rfl,shKRo,_,[SX.var 1,SX.var 2,SX.var 3,SX.var 4,SX.var 5,SX.var 6,SX.var 7,SX.var 8,SX.var 0],hx,by kernel_rfl,?_⟩⟩)
   ·simp [-Zac,Zab,Zaa,Base.ev,SX.ev,evs,Value.oneCell',hF,lenW]
   ·simp [evs,SX.ev] at hq
    subst hq
    rfl
end Go.Proofs.Ytnomiffghidmbaa.mrk
end
section
/- Package msg's reader.tell, told. -/
namespace Go.Proofs.Ytnomiffghidmbaa.mrl
open Go Go.RowKit eng SX Fact fil ima msm
open fileFronts (Zac Zei)
open myt (tP Zh4)
open mrn (ERm ERt rbm)
open mrk (tabK FK k1 k2 sN sT gk1 gk2)
open mta (Zai)
open bip (pBy_inj)
set_option linter.unusedVariables false
set_option linter.unusedSimpArgs false
set_option maxRecDepth 1000000
def ERl (k:Nat):PtrE:={ k:=k,elem:=73,cells:=1,ins:=[],outs:=[some 9],kinds:=[.num,.num,.num,.num,.num,.num,.num,.num,.num,.row] }
noncomputable def flL:=flat (Zam Try.prog 56)
def shL:Shape:=⟨[(0,.ptr 0 0 0 0)],[rbm],[some true],32,56⟩
def shLP:Shape:=⟨[],[rbm],[some true],32,56⟩
def shLR:Shape:=⟨[(2,.ptr 1 0 0 0)],[rbm,⟨27,0,false,[.leaf,.leaf,.leaf,.leaf,.leaf,.leaf,.leaf,.leaf,.leaf],none,false⟩],[some true,none,none,none,none,none,none,none,none,none],32,56⟩
def z1:List SX:=[.con (.int .i64 1),.fn 1 [.con (.int .i64 1),.var 0] 2]
def z2:List SX:=[.con (.int .i64 4),.fn 1 z1 2]
def z3:List SX:=[.con (.int .i64 4),.fn 1 z2 2]
def z4:List SX:=[.con (.int .i64 1),.fn 1 z3 2]
def z5:List SX:=[.con (.int .i64 1),.fn 1 z4 2]
def z6:List SX:=[.con (.int .i64 1),.fn 1 z5 2]
def z7:List SX:=[.con (.int .i64 4),.fn 1 z6 2]
def z8:List SX:=[.fn 1 z7 2]
@[simp] def zMrl1:List SX:=[.con (.int .i64 1),.var 0]
@[simp] def zMrl2:Fact:=Fact.fq 68 (ERm 1) [.tuple { toList:=[] }] zMrl1
@[simp] def zMrl3:Fact:=Fact.fq 68 (ERm 1) [.tuple { toList:=[] }] z1
@[simp] def zMrl4:Fact:=Fact.fq 68 (ERm 1) [.tuple { toList:=[] }] z2
@[simp] def zMrl5:Fact:=Fact.fq 68 (ERm 1) [.tuple { toList:=[] }] z3
@[simp] def zMrl6:Fact:=.is (.fn 1 zMrl1 0) (.int .i64 0)
@[simp] def zMrl7:Fact:=Fact.fq 68 (ERm 1) [.tuple { toList:=[] }] z4
@[simp] def zMrl8:Fact:=.is (.fn 1 z1 0) (.int .i64 0)
@[simp] def zMrl9:Fact:=Fact.fq 68 (ERm 1) [.tuple { toList:=[] }] z5
@[simp] def Zm8:Fact:=.is (.fn 1 z2 0) (.int .i64 0)
@[simp] def Zs7:Fact:=Fact.fq 68 (ERm 1) [.tuple { toList:=[] }] z6
@[simp] def Zoj:Fact:=.is (.fn 1 z3 0) (.int .i64 0)
@[simp] def Zi8:Fact:=.ok (.fn 1 zMrl1 1)
@[simp] def Zq0:Fact:=.is (.fn 1 z4 0) (.int .i64 0)
@[simp] def Zu5:Fact:=Fact.fq 68 (ERm 1) [.tuple { toList:=[] }] z7
@[simp] def Zj9:Fact:=.ok (.fn 1 z1 1)
@[simp] def Zs6:Fact:=.is (.fn 1 z5 0) (.int .i64 0)
@[simp] def Zma:Fact:=.ok (.fn 1 z2 1)
@[simp] def Zm7:Fact:=.ok (.fn 1 z3 1)
@[simp] def Zu4:List SX:=[.con (.int .i64 1),.fn 1 zMrl1 2]
@[simp] def Zoi:Fact:=.ok (.fn 1 z4 1)
@[simp] def Zu3:Fact:=.is (.fn 1 z6 0) (.int .i64 0)
theorem kl:segTo Try.prog (orcQ tabK) 10000 flL shL [0,0,0,0,0,0,0,0,0] shLR [(0,0),(2,0)]=some (.ret,[zMrl2,zMrl6,Zi8,zMrl3,zMrl8,Zj9,zMrl4,Zm8,Zma,zMrl5,Zoj,Zm7,zMrl7,Zq0,Zoi,zMrl9,Zs6,.ok (.fn 1 z5 1),Zs7,Zu3,.ok (.fn 1 z6 1),Zu5,.is (.fn 1 z7 0) (.int .i64 0),.ok (.fn 1 z7 1),Fact.fq 69 (ERt 2) [.tuple { toList:=[] }] z8,.is (.fn 2 z8 0) (.int .i64 0),.ok (.fn 2 z8 1),Zi8,Zj9,Zma,Zm7,Zoi,.ok (.fn 1 z5 1),.ok (.fn 1 z6 1),.ok (.fn 1 z7 1),.ok (.fn 2 z8 1)],[.fn 2 z8 2,.fn 1 zMrl1 1,.fn 1 z1 1,.fn 1 z2 1,.fn 1 z3 1,.fn 1 z4 1,.fn 1 z5 1,.fn 1 z6 1,.fn 1 z7 1,.fn 2 z8 1]):=by kernel_rfl
theorem lu0:segU Try.prog (orcQ tabK) 10000 flL shL [1] shLP [(0,0)]=some (.panic (.tuple { toList:=[] }),[zMrl2,.is (.fn 1 zMrl1 0) (.int .i64 1)],[.fn 1 zMrl1 1]):=by kernel_rfl
theorem lu1:segU Try.prog (orcQ tabK) 10000 flL shL [0,1] shLP [(0,0)]=some (.panic (.tuple { toList:=[] }),[zMrl2,zMrl6,Zi8,Fact.fq 68 (ERm 1) [.tuple { toList:=[] }] Zu4,.is (.fn 1 Zu4 0) (.int .i64 1)],[.fn 1 Zu4 1]):=by kernel_rfl
theorem lu2:segU Try.prog (orcQ tabK) 10000 flL shL [0,0,1] shLP [(0,0)]=some (.panic (.tuple { toList:=[] }),[zMrl2,zMrl6,Zi8,zMrl3,zMrl8,Zj9,zMrl4,.is (.fn 1 z2 0) (.int .i64 1)],[.fn 1 z2 1]):=by kernel_rfl
theorem lu3:segU Try.prog (orcQ tabK) 10000 flL shL [0,0,0,1] shLP [(0,0)]=some (.panic (.tuple { toList:=[] }),[zMrl2,zMrl6,Zi8,zMrl3,zMrl8,Zj9,zMrl4,Zm8,Zma,zMrl5,.is (.fn 1 z3 0) (.int .i64 1)],[.fn 1 z3 1]):=by kernel_rfl
theorem lu4:segU Try.prog (orcQ tabK) 10000 flL shL [0,0,0,0,1] shLP [(0,0)]=some (.panic (.tuple { toList:=[] }),[zMrl2,zMrl6,Zi8,zMrl3,zMrl8,Zj9,zMrl4,Zm8,Zma,zMrl5,Zoj,Zm7,zMrl7,.is (.fn 1 z4 0) (.int .i64 1)],[.fn 1 z4 1]):=by kernel_rfl
theorem lu5:segU Try.prog (orcQ tabK) 10000 flL shL [0,0,0,0,0,1] shLP [(0,0)]=some (.panic (.tuple { toList:=[] }),[zMrl2,zMrl6,Zi8,zMrl3,zMrl8,Zj9,zMrl4,Zm8,Zma,zMrl5,Zoj,Zm7,zMrl7,Zq0,Zoi,zMrl9,.is (.fn 1 z5 0) (.int .i64 1)],[.fn 1 z5 1]):=by kernel_rfl
theorem lu6:segU Try.prog (orcQ tabK) 10000 flL shL [0,0,0,0,0,0,1] shLP [(0,0)]=some (.panic (.tuple { toList:=[] }),[zMrl2,zMrl6,Zi8,zMrl3,zMrl8,Zj9,zMrl4,Zm8,Zma,zMrl5,Zoj,Zm7,zMrl7,Zq0,Zoi,zMrl9,Zs6,.ok (.fn 1 z5 1),Zs7,.is (.fn 1 z6 0) (.int .i64 1)],[.fn 1 z6 1]):=by kernel_rfl
theorem lu7:segU Try.prog (orcQ tabK) 10000 flL shL [0,0,0,0,0,0,0,1] shLP [(0,0)]=some (.panic (.tuple { toList:=[] }),[zMrl2,zMrl6,Zi8,zMrl3,zMrl8,Zj9,zMrl4,Zm8,Zma,zMrl5,Zoj,Zm7,zMrl7,Zq0,Zoi,zMrl9,Zs6,.ok (.fn 1 z5 1),Zs7,Zu3,.ok (.fn 1 z6 1),Zu5,.is (.fn 1 z7 0) (.int .i64 1)],[.fn 1 z7 1]):=by kernel_rfl
theorem lu8:segU Try.prog (orcQ tabK) 10000 flL shL [0,0,0,0,0,0,0,0,1] shLP [(0,0)]=some (.panic (.tuple { toList:=[] }),[zMrl2,zMrl6,Zi8,zMrl3,zMrl8,Zj9,zMrl4,Zm8,Zma,zMrl5,Zoj,Zm7,zMrl7,Zq0,Zoi,zMrl9,Zs6,.ok (.fn 1 z5 1),Zs7,Zu3,.ok (.fn 1 z6 1),Zu5,.is (.fn 1 z7 0) (.int .i64 0),.ok (.fn 1 z7 1),Fact.fq 69 (ERt 2) [.tuple { toList:=[] }] z8,.is (.fn 2 z8 0) (.int .i64 1)],[.fn 2 z8 1]):=by kernel_rfl
@[simp] theorem kRlK (k:Nat):(ERl k).k=k:=rfl
def ansL (p:TellM × Rd):List PV:=if p.2.2=true then [pI 1,pBy p.2.1] else pI 0 :: (tP p.1++[pBy p.2.1])
theorem Zhf {p:TellM × Rd} {b:List UInt8} (h:p.2=(b,true)):ansL p=[pI 1,pBy b]:=by rw [ansL,h,if_pos rfl]
def RRl (ps qs:List PV):Prop:=∃ b:List UInt8,b.length<=1000000/\ps=[pBy b]/\qs=ansL (Zb1 b)
theorem fRl:∀ ps q1 q2,RRl ps q1->RRl ps q2->q1=q2:=by
 rintro ps q1 q2 ⟨a,_,rfl,rfl⟩ ⟨b,_,h,rfl⟩
 simp only [List.cons.injEq,and_true] at h
 rw [pBy_inj h]
set_option maxHeartbeats 4000000 in
theorem toldRl (k0:Nat):ToldQ 56 (ERl k0) [anyV] (spec RRl):=by
 refine Zfm FK _ (Zam Try.prog 56) Try.func56 (by kernel_rfl) shL (by kernel_rfl) ?_ ?_
 ·intro ps qs h
  obtain ⟨b,_,rfl,rfl⟩:=Zag h
  exact Za7 rfl
 intro C ps qs hF h a w hsh
 obtain ⟨b,hb,rfl,hqs⟩:=Zag h
 show wpL Try.prog flL _ a w
 rw [<- List.append_nil flL]
 obtain ⟨x1,b1,d1,e1,n1,i1,c1⟩:=gk1 b 1 1 rfl hb (by omega) (by omega)
 cases d1 with
 | true =>
  rw [if_pos rfl] at c1
  rw [Zhf (b:=b1) (by simp only [Zb1,e1,sN,sT])] at hqs
  refine Zbh names_ok mixed_ok (Za1 tabK) lu0 hsh ?_ (fun qs a1 wd hq hx=>⟨nofun,fun _ u=>.inr ⟨0,anyV,u,[pBy b1],shLP,_,[SX.var 0],hqs,rfl,rfl,hx,by kernel_rfl,?_⟩⟩)
  ·simp [-Zac,Zab,Zaa,Base.ev,SX.ev,evs,Value.oneCell',hF,c1,mrk.k1,mrk.k2]
  ·simp [evs,SX.ev,hF,c1] at hq
   subst hq
   rfl
 | false =>
 rw [if_neg (by simp)] at c1
 obtain ⟨x2,b2,d2,e2,n2,i2,c2⟩:=gk1 b1 1 1 rfl n1 (by omega) (by omega)
 cases d2 with
 | true =>
  rw [if_pos rfl] at c2
  rw [Zhf (b:=b2) (by simp only [Zb1,e1,e2,sN,sT])] at hqs
  refine Zbh names_ok mixed_ok (Za1 tabK) lu1 hsh ?_ (fun qs a1 wd hq hx=>⟨nofun,fun _ u=>.inr ⟨0,anyV,u,[pBy b2],shLP,_,[SX.var 0],hqs,rfl,rfl,hx,by kernel_rfl,?_⟩⟩)
  ·simp [-Zac,Zab,Zaa,Base.ev,SX.ev,evs,Value.oneCell',hF,c1,c2,mrk.k1,mrk.k2]
  ·simp [evs,SX.ev,hF,c1,c2] at hq
   subst hq
   rfl
 | false =>
 rw [if_neg (by simp)] at c2
 have h1:evs (fun i=>[pBy b][i]?) FK z1=some [pI 1,pBy b1]:=by simp [z1,evs,SX.ev,c1]
 obtain ⟨x3,b3,d3,e3,n3,i3,c3⟩:=gk1 b2 4 4 rfl n2 (by omega) (by omega)
 cases d3 with
 | true =>
  rw [if_pos rfl] at c3
  rw [Zhf (b:=b3) (by simp only [Zb1,e1,e2,e3,sN,sT])] at hqs
  refine Zbh names_ok mixed_ok (Za1 tabK) lu2 hsh ?_ (fun qs a1 wd hq hx=>⟨nofun,fun _ u=>.inr ⟨0,anyV,u,[pBy b3],shLP,_,[SX.var 0],hqs,rfl,rfl,hx,by kernel_rfl,?_⟩⟩)
  ·have hl:evs (fun i=>[pBy b][i]?) FK z2=some [pI 4,pBy b2]:=by simp [z2,evs,SX.ev,h1,c1,c2]
   simp [-Zac,Zab,Zaa,Base.ev,SX.ev,evs,Value.oneCell',hF,h1,hl,c1,c2,c3,mrk.k1,mrk.k2]
  ·have hl:evs (fun i=>[pBy b][i]?) FK z2=some [pI 4,pBy b2]:=by simp [z2,evs,SX.ev,h1,c1,c2]
   rw [hF] at hq
   simp [evs,SX.ev,h1,hl,c1,c2,c3] at hq
   subst hq
   rfl
 | false =>
 rw [if_neg (by simp)] at c3
 have h2:evs (fun i=>[pBy b][i]?) FK z2=some [pI 4,pBy b2]:=by simp [z2,evs,SX.ev,h1,c1,c2]
 obtain ⟨x4,b4,d4,e4,n4,i4,c4⟩:=gk1 b3 4 4 rfl n3 (by omega) (by omega)
 cases d4 with
 | true =>
  rw [if_pos rfl] at c4
  rw [Zhf (b:=b4) (by simp only [Zb1,e1,e2,e3,e4,sN,sT])] at hqs
  refine Zbh names_ok mixed_ok (Za1 tabK) lu3 hsh ?_ (fun qs a1 wd hq hx=>⟨nofun,fun _ u=>.inr ⟨0,anyV,u,[pBy b4],shLP,_,[SX.var 0],hqs,rfl,rfl,hx,by kernel_rfl,?_⟩⟩)
  ·have hl:evs (fun i=>[pBy b][i]?) FK z3=some [pI 4,pBy b3]:=by simp [z3,evs,SX.ev,h1,h2,c1,c2,c3]
   simp [-Zac,Zab,Zaa,Base.ev,SX.ev,evs,Value.oneCell',hF,h1,h2,hl,c1,c2,c3,c4,mrk.k1,mrk.k2]
  ·have hl:evs (fun i=>[pBy b][i]?) FK z3=some [pI 4,pBy b3]:=by simp [z3,evs,SX.ev,h1,h2,c1,c2,c3]
   rw [hF] at hq
   simp [evs,SX.ev,h1,h2,hl,c1,c2,c3,c4] at hq
   subst hq
   rfl
 | false =>
 rw [if_neg (by simp)] at c4
 have h3:evs (fun i=>[pBy b][i]?) FK z3=some [pI 4,pBy b3]:=by simp [z3,evs,SX.ev,h1,h2,c1,c2,c3]
 obtain ⟨x5,b5,d5,e5,n5,i5,c5⟩:=gk1 b4 1 1 rfl n4 (by omega) (by omega)
 cases d5 with
 | true =>
  rw [if_pos rfl] at c5
  rw [Zhf (b:=b5) (by simp only [Zb1,e1,e2,e3,e4,e5,sN,sT])] at hqs
  refine Zbh names_ok mixed_ok (Za1 tabK) lu4 hsh ?_ (fun qs a1 wd hq hx=>⟨nofun,fun _ u=>.inr ⟨0,anyV,u,[pBy b5],shLP,_,[SX.var 0],hqs,rfl,rfl,hx,by kernel_rfl,?_⟩⟩)
  ·have hl:evs (fun i=>[pBy b][i]?) FK z4=some [pI 1,pBy b4]:=by simp [z4,evs,SX.ev,h1,h2,h3,c1,c2,c3,c4]
   simp [-Zac,Zab,Zaa,Base.ev,SX.ev,evs,Value.oneCell',hF,h1,h2,h3,hl,c1,c2,c3,c4,c5,mrk.k1,mrk.k2]
  ·have hl:evs (fun i=>[pBy b][i]?) FK z4=some [pI 1,pBy b4]:=by simp [z4,evs,SX.ev,h1,h2,h3,c1,c2,c3,c4]
   rw [hF] at hq
   simp [evs,SX.ev,h1,h2,h3,hl,c1,c2,c3,c4,c5] at hq
   subst hq
   rfl
 | false =>
 rw [if_neg (by simp)] at c5
 have h4:evs (fun i=>[pBy b][i]?) FK z4=some [pI 1,pBy b4]:=by simp [z4,evs,SX.ev,h1,h2,h3,c1,c2,c3,c4]
 obtain ⟨x6,b6,d6,e6,n6,i6,c6⟩:=gk1 b5 1 1 rfl n5 (by omega) (by omega)
 cases d6 with
 | true =>
  rw [if_pos rfl] at c6
  rw [Zhf (b:=b6) (by simp only [Zb1,e1,e2,e3,e4,e5,e6,sN,sT])] at hqs
  refine Zbh names_ok mixed_ok (Za1 tabK) lu5 hsh ?_ (fun qs a1 wd hq hx=>⟨nofun,fun _ u=>.inr ⟨0,anyV,u,[pBy b6],shLP,_,[SX.var 0],hqs,rfl,rfl,hx,by kernel_rfl,?_⟩⟩)
  ·have hl:evs (fun i=>[pBy b][i]?) FK z5=some [pI 1,pBy b5]:=by simp [z5,evs,SX.ev,h1,h2,h3,h4,c1,c2,c3,c4,c5]
   simp [-Zac,Zab,Zaa,Base.ev,SX.ev,evs,Value.oneCell',hF,h1,h2,h3,h4,hl,c1,c2,c3,c4,c5,c6,mrk.k1,mrk.k2]
  ·have hl:evs (fun i=>[pBy b][i]?) FK z5=some [pI 1,pBy b5]:=by simp [z5,evs,SX.ev,h1,h2,h3,h4,c1,c2,c3,c4,c5]
   rw [hF] at hq
   simp [evs,SX.ev,h1,h2,h3,h4,hl,c1,c2,c3,c4,c5,c6] at hq
   subst hq
   rfl
 | false =>
 rw [if_neg (by simp)] at c6
 have h5:evs (fun i=>[pBy b][i]?) FK z5=some [pI 1,pBy b5]:=by simp [z5,evs,SX.ev,h1,h2,h3,h4,c1,c2,c3,c4,c5]
 obtain ⟨x7,b7,d7,e7,n7,i7,c7⟩:=gk1 b6 1 1 rfl n6 (by omega) (by omega)
 cases d7 with
 | true =>
  rw [if_pos rfl] at c7
  rw [Zhf (b:=b7) (by simp only [Zb1,e1,e2,e3,e4,e5,e6,e7,sN,sT])] at hqs
  refine Zbh names_ok mixed_ok (Za1 tabK) lu6 hsh ?_ (fun qs a1 wd hq hx=>⟨nofun,fun _ u=>.inr ⟨0,anyV,u,[pBy b7],shLP,_,[SX.var 0],hqs,rfl,rfl,hx,by kernel_rfl,?_⟩⟩)
  ·have hl:evs (fun i=>[pBy b][i]?) FK z6=some [pI 1,pBy b6]:=by simp [z6,evs,SX.ev,h1,h2,h3,h4,h5,c1,c2,c3,c4,c5,c6]
   simp [-Zac,Zab,Zaa,Base.ev,SX.ev,evs,Value.oneCell',hF,h1,h2,h3,h4,h5,hl,c1,c2,c3,c4,c5,c6,c7,mrk.k1,mrk.k2]
  ·have hl:evs (fun i=>[pBy b][i]?) FK z6=some [pI 1,pBy b6]:=by simp [z6,evs,SX.ev,h1,h2,h3,h4,h5,c1,c2,c3,c4,c5,c6]
   rw [hF] at hq
   simp [evs,SX.ev,h1,h2,h3,h4,h5,hl,c1,c2,c3,c4,c5,c6,c7] at hq
   subst hq
   rfl
 | false =>
 rw [if_neg (by simp)] at c7
 have h6:evs (fun i=>[pBy b][i]?) FK z6=some [pI 1,pBy b6]:=by simp [z6,evs,SX.ev,h1,h2,h3,h4,h5,c1,c2,c3,c4,c5,c6]
 obtain ⟨x8,b8,d8,e8,n8,i8,c8⟩:=gk1 b7 4 4 rfl n7 (by omega) (by omega)
 cases d8 with
 | true =>
  rw [if_pos rfl] at c8
  rw [Zhf (b:=b8) (by simp only [Zb1,e1,e2,e3,e4,e5,e6,e7,e8,sN,sT])] at hqs
  refine Zbh names_ok mixed_ok (Za1 tabK) lu7 hsh ?_ (fun qs a1 wd hq hx=>⟨nofun,fun _ u=>.inr ⟨0,anyV,u,[pBy b8],shLP,_,[SX.var 0],hqs,rfl,rfl,hx,by kernel_rfl,?_⟩⟩)
  ·have hl:evs (fun i=>[pBy b][i]?) FK z7=some [pI 4,pBy b7]:=by simp [z7,evs,SX.ev,h1,h2,h3,h4,h5,h6,c1,c2,c3,c4,c5,c6,c7]
   simp [-Zac,Zab,Zaa,Base.ev,SX.ev,evs,Value.oneCell',hF,h1,h2,h3,h4,h5,h6,hl,c1,c2,c3,c4,c5,c6,c7,c8,mrk.k1,mrk.k2]
  ·have hl:evs (fun i=>[pBy b][i]?) FK z7=some [pI 4,pBy b7]:=by simp [z7,evs,SX.ev,h1,h2,h3,h4,h5,h6,c1,c2,c3,c4,c5,c6,c7]
   rw [hF] at hq
   simp [evs,SX.ev,h1,h2,h3,h4,h5,h6,hl,c1,c2,c3,c4,c5,c6,c7,c8] at hq
   subst hq
   rfl
 | false =>
 rw [if_neg (by simp)] at c8
 have h7:evs (fun i=>[pBy b][i]?) FK z7=some [pI 4,pBy b7]:=by simp [z7,evs,SX.ev,h1,h2,h3,h4,h5,h6,c1,c2,c3,c4,c5,c6,c7]
 obtain ⟨x9,b9,d9,e9,n9,i9,c9⟩:=gk2 b8 n8
 cases d9 with
 | true =>
  rw [if_pos rfl] at c9
  rw [Zhf (b:=b9) (by simp only [Zb1,e1,e2,e3,e4,e5,e6,e7,e8,e9,sN,sT])] at hqs
  refine Zbh names_ok mixed_ok (Za1 tabK) lu8 hsh ?_ (fun qs a1 wd hq hx=>⟨nofun,fun _ u=>.inr ⟨0,anyV,u,[pBy b9],shLP,_,[SX.var 0],hqs,rfl,rfl,hx,by kernel_rfl,?_⟩⟩)
  ·have hl:evs (fun i=>[pBy b][i]?) FK z8=some [pBy b8]:=by simp [z8,evs,SX.ev,h1,h2,h3,h4,h5,h6,h7,c1,c2,c3,c4,c5,c6,c7,c8]
   simp [-Zac,Zab,Zaa,Base.ev,SX.ev,evs,Value.oneCell',hF,h1,h2,h3,h4,h5,h6,h7,hl,c1,c2,c3,c4,c5,c6,c7,c8,c9,mrk.k1,mrk.k2]
  ·have hl:evs (fun i=>[pBy b][i]?) FK z8=some [pBy b8]:=by simp [z8,evs,SX.ev,h1,h2,h3,h4,h5,h6,h7,c1,c2,c3,c4,c5,c6,c7,c8]
   rw [hF] at hq
   simp [evs,SX.ev,h1,h2,h3,h4,h5,h6,h7,hl,c1,c2,c3,c4,c5,c6,c7,c8,c9] at hq
   subst hq
   rfl
 | false =>
 rw [if_neg (by simp)] at c9
 have h8:evs (fun i=>[pBy b][i]?) FK z8=some [pBy b8]:=by simp [z8,evs,SX.ev,h1,h2,h3,h4,h5,h6,h7,c1,c2,c3,c4,c5,c6,c7,c8]
 have hp:Zb1 b=(⟨x1,x2,x3,x4,x5,x6,x7,x8,x9⟩,(b9,false)):=by simp only [Zb1,e1,e2,e3,e4,e5,e6,e7,e8,e9]
 rw [hp] at hqs
 have hqs:qs=pI 0 :: (tP ⟨x1,x2,x3,x4,x5,x6,x7,x8,x9⟩++[pBy b9]):=hqs
 refine Zad names_ok mixed_ok (Za1 tabK) kl hsh ?_ (fun qs a1 wd hq hx=>⟨nofun,fun _=>.inl ⟨_,hqs,.inr rfl,shLR,_,[SX.var 1,SX.var 2,SX.var 3,SX.var 4,SX.var 5,SX.var 6,SX.var 7,SX.var 8,SX.var 9,SX.var 0],hx,by kernel_rfl,?_⟩⟩)
 ·simp [-Zac,Zab,Zaa,Base.ev,SX.ev,evs,Value.oneCell',hF,h1,h2,h3,h4,h5,h6,h7,h8,c1,c2,c3,c4,c5,c6,c7,c8,c9,mrk.k1,mrk.k2]
 ·rw [hF] at hq
  simp [evs,SX.ev,h1,h2,h3,h4,h5,h6,h7,h8,c1,c2,c3,c4,c5,c6,c7,c8,c9] at hq
  subst hq
  rfl
end Go.Proofs.Ytnomiffghidmbaa.mrl
end
