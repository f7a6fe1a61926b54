/- A state taken of bytes (package image): told. -/
import Derived.Test.YtpnegheknjeljaaGreatIrd
import Derived.Test.YtpnegheknjeljaaGreatIse
namespace Go.Proofs.YtpnegheknjeljaaGreat.irs
open Go Go.RowKit eng SX Fact fil ima symD bip ird sta
open dirs (encF cellF FileM)
open fileFronts (Zac)
set_option linter.unusedVariables false
set_option linter.unusedSimpArgs false
set_option maxRecDepth 1000000

def isMk:Op->Bool | .makeSlice ..=>true | .indexAddr ..=>true | _=>false
def hMk (_:FuncId) (o:Oper):Option Hint:=cond (isMk o.op) (some .own) none
def fbo (k:Nat):BoxT:=⟨80,3,true,[],some k,false⟩
def mbo (k:Nat):BoxT:=⟨49,4,true,[],some k,false⟩
def tabRr (f:FuncId):Option (PtrE × List Value):=cond (Nat.beq f 144) (some (ERn 1,[pvRd,anyV])) (cond (Nat.beq f 145) (some (ERn 2,[pvRd,anyV])) none)
def orcS:Orc:=orcQ tabRr
def rsb:BoxT:=⟨33,0,false,[.nil,.nil,.leaf],none,false⟩
def stbx:BoxT:=⟨33,0,false,[.own 3 5 3,.own 4 6 4,.leaf],none,false⟩
noncomputable def flS:=flat (Zat Tryz.prog 121)
noncomputable def lpM:=flat (Zaq (nth flS 4))
noncomputable def lpF:=flat (Zaq (nth flS 6))
def shS0:Shape:=⟨[(0,.ptr 0 0 0 0)],[rbx],[some true],70,121⟩
def shSP:Shape:=⟨[],[rbx],[some true],70,121⟩
def shSM:Shape:=⟨[(0,.ptr 0 0 0 0),(2,.ptr 1 0 0 0),(3,.ptr 2 0 0 0),(14,.leaf),(15,.leaf)],[rbx,rsb,stbx,fbo 5,mbo 6],[none,none,some true,none,none],70,121⟩
def shSF:Shape:=⟨[(0,.ptr 0 0 0 0),(2,.ptr 1 0 0 0),(3,.ptr 2 0 0 0),(45,.leaf),(46,.leaf)],[rbx,rsb,stbx,fbo 5,mbo 6],[none,none,some true,none,none],70,121⟩
def ESt (k:Nat):PtrE:={ k:=k,elem:=167,cells:=1,ins:=[],outs:=[some 3],kinds:=[.row,.row,.num,.row] }
def shSR:Shape:=⟨[(2,.ptr 1 0 0 0)],[rbx,⟨33,0,false,[.own 2 2 3,.own 3 3 4,.leaf],none,false⟩,fbo 2,mbo 3],[some true,none],70,121⟩
@[simp] def Zb1:List SX:=[.con (.int .i64 1),.fn 1 [.con (.int .i64 4),.var 2] 2]
@[simp] def Zb0:List SX:=[.con (.int .i64 4),.fn 2 [.con (.int .i64 9),.var 2] 2]
@[simp] def Zci:List SX:=[.con (.int .i64 1),.fn 1 Zb1 2]
@[simp] def Zjg:SX:=rop (ROp.upd 4 1) [rop (ROp.upd 4 0) [.var 6,.var 1,.fn 1 [.con (.int .i64 4),.var 2] 1],.var 1,.fn 1 Zb1 1]
@[simp] def Za2:SX:=.bin .lss (.var 1) (.var 0)
@[simp] def Zbz:List SX:=[.con (.int .i64 9),.var 2]
@[simp] def Zch:List SX:=[.con (.int .i64 25),.fn 1 Zb0 2]
@[simp] def Zgu:SX:=rop (ROp.rep [.int .i64 0,.int .i64 0,.int .i64 0,.int .i64 0]) [.con (.int .i64 3)]
@[simp] def Zcy:List SX:=[.con (.int .i64 4),.var 2]
@[simp] def Zd9:Fact:=Fact.fq 145 (ERn 2) [pvRd,.tuple { toList:=[] }] Zbz
@[simp] def Zcr:List SX:=[.con (.int .i64 4),.fn 1 Zci 2]
@[simp] def Zkr:SX:=rop (ROp.rep [.string { data:={ toList:=[] } },.int .i64 0,.string { data:={ toList:=[] } }]) [.con (.int .i64 6)]
@[simp] def Zhs:SX:=rop (ROp.upd 3 0) [.var 5,.var 1,.fn 2 Zbz 1]
@[simp] def Zfn:Fact:=Fact.fq 144 (ERn 1) [pvRd,.tuple { toList:=[] }] Zcy
@[simp] def Zbp:Fact:=.is Za2 (.bool true)
@[simp] def Zhr:Fact:=Fact.fq 144 (ERn 1) [pvRd,.tuple { toList:=[] }] Zb1
@[simp] def Zhq:Fact:=Fact.fq 144 (ERn 1) [pvRd,.tuple { toList:=[] }] Zb0
@[simp] def Zd8:SX:=.bin .add (.var 1) (.con (.int .i64 1))
@[simp] def Zb5:List SX:=[.con (.int .i64 4),.var 0]
@[simp] def Zkq:Fact:=.idx (rop (ROp.upd 4 0) [.var 6,.var 1,.fn 1 Zcy 1]) (.var 1) 4 2
@[simp] def Zkp:Fact:=Fact.fq 144 (ERn 1) [pvRd,.tuple { toList:=[] }] Zci
@[simp] def Zko:Fact:=Fact.fq 145 (ERn 2) [pvRd,.tuple { toList:=[] }] Zch
@[simp] def Zfm:Fact:=same (.len (.var 5)) (.len (.var 5))
@[simp] def Zfl:Fact:=same (.len (.var 6)) (.len (.var 6))
@[simp] def zGreatIrs25:SX:=rop (ROp.upd 4 3) [rop (ROp.upd 4 2) [Zjg,.var 1,.fn 1 Zci 1],.var 1,.fn 1 Zcr 1]
@[simp] def Zkn:SX:=rop (ROp.upd 3 1) [Zhs,.var 1,.fn 1 Zb0 1]
@[simp] def Zd7:Fact:=rng (.var 1) (.len (.var 5))
@[simp] def Zhp:Fact:=.is (.fn 1 Zcy 0) (.int .i64 0)
@[simp] def Zho:Fact:=.is (.fn 2 Zbz 0) (.int .i64 0)
@[simp] def Zfk:Fact:=rng (.var 1) (.len (.var 6))
theorem spre:segTo Tryz.prog orcS 10000 (flS.take 4) shS0 [0] shSM [(0,0),(2,0),(7,0),(4,0),(6,0)] hMk=some (.normal,[same (.con (.int .i64 6)) (.con (.int .i64 6)),upto (.con (.int .i64 6)) 4294967296,same (.con (.int .i64 3)) (.con (.int .i64 3)),upto (.con (.int .i64 3)) 4294967296,Fact.fq 144 (ERn 1) [pvRd,.tuple { toList:=[] }] Zb5,.is (.fn 1 Zb5 0) (.int .i64 0),.ok (.fn 1 Zb5 1),.ok (.len Zgu),.ok (.con (.int .i64 0)),.ok (.con (.int .i64 0)),.ok (.fn 1 Zb5 1),same (.len Zkr) (.len Zkr),same (.len Zgu) (.len Zgu)],[.len Zgu,.con (.int .i64 0),.fn 1 Zb5 2,.con (.int .i64 0),.fn 1 Zb5 1,Zkr,Zgu]):=by kernel_rfl
theorem sprn:segTo Tryz.prog orcS 10000 (flS.take 4) shS0 [1] shSP [(0,0)] hMk=some (.panic pvRd,[same (.con (.int .i64 6)) (.con (.int .i64 6)),upto (.con (.int .i64 6)) 4294967296,same (.con (.int .i64 3)) (.con (.int .i64 3)),upto (.con (.int .i64 3)) 4294967296,Fact.fq 144 (ERn 1) [pvRd,.tuple { toList:=[] }] Zb5,.is (.fn 1 Zb5 0) (.int .i64 1)],[.fn 1 Zb5 1]):=by kernel_rfl
theorem smx:segTo Tryz.prog orcS 10000 lpM shSM [0] shSM [(0,0),(1,0),(2,0),(3,0),(4,0)] hMk=some (.exit 0,[.ok Za2,.is Za2 (.bool false),.ok (.var 0),.ok (.var 1),.ok (.var 3),.ok (.var 4),Zfm,Zfl],[.var 0,.var 1,.var 2,.var 3,.var 4,.var 5,.var 6]):=by kernel_rfl
theorem smo:segTo Tryz.prog orcS 10000 lpM shSM [1,0,0,0,0] shSM [(0,0),(1,0),(2,0),(3,0),(4,0)] hMk=some (.normal,[.ok Za2,Zbp,Zfk,Zfn,Zhp,.ok (.fn 1 Zcy 1),.idx (.var 6) (.var 1) 4 1,Zhr,.is (.fn 1 Zb1 0) (.int .i64 0),.ok (.fn 1 Zb1 1),Zkq,Zkp,.is (.fn 1 Zci 0) (.int .i64 0),.ok (.fn 1 Zci 1),.idx Zjg (.var 1) 4 3,Fact.fq 144 (ERn 1) [pvRd,.tuple { toList:=[] }] Zcr,.is (.fn 1 Zcr 0) (.int .i64 0),.ok (.fn 1 Zcr 1),.idx (rop (ROp.upd 4 2) [Zjg,.var 1,.fn 1 Zci 1]) (.var 1) 4 4,.ok Zd8,.ok (.var 0),.ok Zd8,.ok (.var 3),.ok (.var 4),Zfm,same (.len (.var 6)) (.len zGreatIrs25)],[.var 0,Zd8,.fn 1 Zcr 2,.var 3,.var 4,.var 5,zGreatIrs25]):=by kernel_rfl
theorem smp1:segTo Tryz.prog orcS 10000 lpM shSM [1,1] shSP [(0,0)] hMk=some (.panic pvRd,[.ok Za2,Zbp,Zfk,Zfn,.is (.fn 1 Zcy 0) (.int .i64 1)],[.fn 1 Zcy 1]):=by kernel_rfl
theorem smp2:segTo Tryz.prog orcS 10000 lpM shSM [1,0,1] shSP [(0,0)] hMk=some (.panic pvRd,[.ok Za2,Zbp,Zfk,Zfn,Zhp,.ok (.fn 1 Zcy 1),.idx (.var 6) (.var 1) 4 1,Zhr,.is (.fn 1 Zb1 0) (.int .i64 1)],[.fn 1 Zb1 1]):=by kernel_rfl
theorem smp3:segTo Tryz.prog orcS 10000 lpM shSM [1,0,0,1] shSP [(0,0)] hMk=some (.panic pvRd,[.ok Za2,Zbp,Zfk,Zfn,Zhp,.ok (.fn 1 Zcy 1),.idx (.var 6) (.var 1) 4 1,Zhr,.is (.fn 1 Zb1 0) (.int .i64 0),.ok (.fn 1 Zb1 1),Zkq,Zkp,.is (.fn 1 Zci 0) (.int .i64 1)],[.fn 1 Zci 1]):=by kernel_rfl
theorem smp4:segTo Tryz.prog orcS 10000 lpM shSM [1,0,0,0,1] shSP [(0,0)] hMk=some (.panic pvRd,[.ok Za2,Zbp,Zfk,Zfn,Zhp,.ok (.fn 1 Zcy 1),.idx (.var 6) (.var 1) 4 1,Zhr,.is (.fn 1 Zb1 0) (.int .i64 0),.ok (.fn 1 Zb1 1),Zkq,Zkp,.is (.fn 1 Zci 0) (.int .i64 0),.ok (.fn 1 Zci 1),.idx Zjg (.var 1) 4 3,Fact.fq 144 (ERn 1) [pvRd,.tuple { toList:=[] }] Zcr,.is (.fn 1 Zcr 0) (.int .i64 1)],[.fn 1 Zcr 1]):=by kernel_rfl
theorem smd:segTo Tryz.prog orcS 10000 ((flS.drop 5).take 1) shSM [] shSF [(0,0),(1,0),(2,0),(3,0),(4,0)] hMk=some (.normal,[.ok (.len (.var 5)),.ok (.con (.int .i64 0)),.ok (.var 3),.ok (.var 4),Zfm,Zfl],[.len (.var 5),.con (.int .i64 0),.var 2,.var 3,.var 4,.var 5,.var 6]):=by kernel_rfl
theorem sfx:segTo Tryz.prog orcS 10000 lpF shSF [0] shSF [(0,0),(1,0),(2,0),(3,0),(4,0)] hMk=some (.exit 2,[.ok Za2,.is Za2 (.bool false),.ok (.var 0),.ok (.var 1),.ok (.var 3),.ok (.var 4),Zfm,Zfl],[.var 0,.var 1,.var 2,.var 3,.var 4,.var 5,.var 6]):=by kernel_rfl
theorem sfo:segTo Tryz.prog orcS 10000 lpF shSF [1,0,0,0] shSF [(0,0),(1,0),(2,0),(3,0),(4,0)] hMk=some (.normal,[.ok Za2,Zbp,Zd7,Zd9,Zho,.ok (.fn 2 Zbz 1),.idx (.var 5) (.var 1) 3 1,Zhq,.is (.fn 1 Zb0 0) (.int .i64 0),.ok (.fn 1 Zb0 1),.idx Zhs (.var 1) 3 2,Zko,.is (.fn 2 Zch 0) (.int .i64 0),.ok (.fn 2 Zch 1),.idx Zkn (.var 1) 3 3,.ok Zd8,.ok (.var 0),.ok Zd8,.ok (.var 3),.ok (.var 4),same (.len (.var 5)) (.len (rop (ROp.upd 3 2) [Zkn,.var 1,.fn 2 Zch 1])),Zfl],[.var 0,Zd8,.fn 2 Zch 2,.var 3,.var 4,rop (ROp.upd 3 2) [Zkn,.var 1,.fn 2 Zch 1],.var 6]):=by kernel_rfl
theorem sfp1:segTo Tryz.prog orcS 10000 lpF shSF [1,1] shSP [(0,0)] hMk=some (.panic pvRd,[.ok Za2,Zbp,Zd7,Zd9,.is (.fn 2 Zbz 0) (.int .i64 1)],[.fn 2 Zbz 1]):=by kernel_rfl
theorem sfu1:segU Tryz.prog orcS 10000 lpF shSF [1,2] shSP [(0,0)] hMk=some (.panic (.tuple { toList:=[] }),[.ok Za2,Zbp,Zd7,Zd9,.is (.fn 2 Zbz 0) (.int .i64 2)],[.fn 2 Zbz 1]):=by kernel_rfl
theorem sfp2:segTo Tryz.prog orcS 10000 lpF shSF [1,0,1] shSP [(0,0)] hMk=some (.panic pvRd,[.ok Za2,Zbp,Zd7,Zd9,Zho,.ok (.fn 2 Zbz 1),.idx (.var 5) (.var 1) 3 1,Zhq,.is (.fn 1 Zb0 0) (.int .i64 1)],[.fn 1 Zb0 1]):=by kernel_rfl
theorem sfp3:segTo Tryz.prog orcS 10000 lpF shSF [1,0,0,1] shSP [(0,0)] hMk=some (.panic pvRd,[.ok Za2,Zbp,Zd7,Zd9,Zho,.ok (.fn 2 Zbz 1),.idx (.var 5) (.var 1) 3 1,Zhq,.is (.fn 1 Zb0 0) (.int .i64 0),.ok (.fn 1 Zb0 1),.idx Zhs (.var 1) 3 2,Zko,.is (.fn 2 Zch 0) (.int .i64 1)],[.fn 2 Zch 1]):=by kernel_rfl
theorem sfu3:segU Tryz.prog orcS 10000 lpF shSF [1,0,0,2] shSP [(0,0)] hMk=some (.panic (.tuple { toList:=[] }),[.ok Za2,Zbp,Zd7,Zd9,Zho,.ok (.fn 2 Zbz 1),.idx (.var 5) (.var 1) 3 1,Zhq,.is (.fn 1 Zb0 0) (.int .i64 0),.ok (.fn 1 Zb0 1),.idx Zhs (.var 1) 3 2,Zko,.is (.fn 2 Zch 0) (.int .i64 2)],[.fn 2 Zch 1]):=by kernel_rfl
theorem spst:segTo Tryz.prog orcS 10000 (flS.drop 7) shSF [] shSR [(0,0),(1,0),(3,0),(4,0)] hMk=some (.ret,[.ok (.var 4),Zfm,Zfl],[.var 2,.var 4,.var 5,.var 6]):=by kernel_rfl

@[simp] theorem holds_fqR (B:Base) (f:FuncId) (E:PtrE) (pans:List Value) (es:List SX):(Fact.fq f E pans es).holds B ↔ ToldQ f E pans (B.F E.k)/\∃ ps qs,evs B.s B.F es=some ps/\B.F E.k ps=some qs:=Iff.rfl
abbrev Rd (α:Type):=Except (Int × List UInt8) (α × List UInt8)
def nB (k:Nat) (l:List UInt8):Rd Int:=if k<=l.length then .ok (num (l.take k),l.drop k) else .error (1,l)
def tB (k:Nat) (l:List UInt8):Rd ByteArray:=if mayT l=true then (if k<=l.length then .ok (txL l,l.drop k) else .error (2,l)) else .error (1,l)
def rdM (l:List UInt8):Rd MarkM:=match nB 4 l with
 | .error e=>.error e
 | .ok (a,l1)=>match nB 1 l1 with
  | .error e=>.error e
  | .ok (b,l2)=>match nB 1 l2 with
   | .error e=>.error e
   | .ok (c,l3)=>match nB 4 l3 with
    | .error e=>.error e
    | .ok (d,l4)=>.ok ((a,b,c,d),l4)
def rdF (l:List UInt8):Rd FileM:=match tB 9 l with
 | .error e=>.error e
 | .ok (a,l1)=>match nB 4 l1 with
  | .error e=>.error e
  | .ok (b,l2)=>match tB 25 l2 with
   | .error e=>.error e
   | .ok (c,l3)=>.ok ((a,b,c),l3)
def goR {α:Type} (rd:List UInt8->Rd α):Nat->Nat->List α->List UInt8->Rd (List α)
 | 0,_,xs,l=>.ok (xs,l)
 | n+1,i,xs,l=>match rd l with
  | .error e=>.error e
  | .ok (x,r)=>goR rd n (i+1) (xs.set i x) r
theorem Zk3 {α:Type} {rd:List UInt8->Rd α} {n i:Nat} {xs:List α} {l:List UInt8} {e:Int × List UInt8} (h:rd l=.error e):goR rd (n+1) i xs l=.error e:=by simp [goR,h]
theorem Zrp {α:Type} {rd:List UInt8->Rd α} {n i:Nat} {xs:List α} {l r:List UInt8} {x:α} (h:rd l=.ok (x,r)):goR rd (n+1) i xs l=goR rd n (i+1) (xs.set i x) r:=by simp [goR,h]
def ansF (ep:Int) (ms:List MarkM):Rd (List FileM)->List PV
 | .error (j,r)=>[pI j,pBy r]
 | .ok (fs,r)=>[pI 0,pRow encF fs,pRow encM ms,pI ep,pBy r]
def ansM (ep:Int):Rd (List MarkM)->List PV
 | .error (j,r)=>[pI j,pBy r]
 | .ok (ms,r)=>ansF ep ms (goR rdF 6 0 (List.replicate 6 f00) r)
def ansE:Rd Int->List PV
 | .error (j,r)=>[pI j,pBy r]
 | .ok (ep,r)=>ansM ep (goR rdM 3 0 (List.replicate 3 m0) r)
theorem Zid {k:Nat} {l:List UInt8} {j:Int} {r:List UInt8} (h:nB k l=.error (j,r)):j=1:=by
 unfold nB at h
 split at h
 ·cases h
 ·simp only [Except.error.injEq,Prod.mk.injEq] at h;exact h.1.symm
theorem Zqw {k:Nat} {l:List UInt8} {j:Int} {r:List UInt8} (h:tB k l=.error (j,r)):j=1 \/ j=2:=by
 unfold tB at h
 split at h
 ·split at h
  ·cases h
  ·simp only [Except.error.injEq,Prod.mk.injEq] at h;exact .inr h.1.symm
 ·simp only [Except.error.injEq,Prod.mk.injEq] at h;exact .inl h.1.symm
theorem Zog {k:Nat} {l r:List UInt8} {v:Int} (h:nB k l=.ok (v,r)):r.length<=l.length:=by
 unfold nB at h
 split at h
 ·simp only [Except.ok.injEq,Prod.mk.injEq] at h;rw [<- h.2,List.length_drop];omega
 ·cases h
theorem tB_len {k:Nat} {l r:List UInt8} {v:ByteArray} (h:tB k l=.ok (v,r)):r.length<=l.length:=by
 unfold tB at h
 split at h
 ·split at h
  ·simp only [Except.ok.injEq,Prod.mk.injEq] at h;rw [<- h.2,List.length_drop];omega
  ·cases h
 ·cases h
noncomputable def FS:Fns:=fun k=>match k with | 1=>spec RRn | 2=>spec RRt | _=>fun _=>none
theorem pr1:ToldQ 144 (ERn 1) [pvRd,.tuple { toList:=[] }] (FS 1):=toldRn 1
theorem pr2:ToldQ 145 (ERn 2) [pvRd,.tuple { toList:=[] }] (FS 2):=toldRt 2
theorem FS1e {l r:List UInt8} {k:Nat} {j:Int} (hl:l.length<=1000000) (h1:1<=k) (h7:k<=7) (h:nB k l=.error (j,r)):FS 1 [pI (k:Int),pBy l]=some [pI 1,pBy r]:=by
 refine Zap fRn ⟨l,k,hl,h1,h7,rfl,?_⟩
 unfold nB at h
 split at h
 ·cases h
 ·rename_i hk
  simp only [Except.error.injEq,Prod.mk.injEq] at h
  rw [if_neg hk,h.2]
theorem FS1o {l r:List UInt8} {k:Nat} {v:Int} (hl:l.length<=1000000) (h1:1<=k) (h7:k<=7) (h:nB k l=.ok (v,r)):FS 1 [pI (k:Int),pBy l]=some [pI 0,pI v,pBy r]:=by
 refine Zap fRn ⟨l,k,hl,h1,h7,rfl,?_⟩
 unfold nB at h
 split at h
 ·rename_i hk
  simp only [Except.ok.injEq,Prod.mk.injEq] at h
  rw [if_pos hk,h.1,h.2]
 ·cases h
theorem FS2e {l r:List UInt8} {k:Nat} {j:Int} (hl:l.length<=1000000) (h1:k<=1000) (h:tB k l=.error (j,r)):FS 2 [pI (k:Int),pBy l]=some [pI j,pBy r]:=by
 refine Zap fRt ⟨l,k,hl,h1,rfl,?_⟩
 unfold tB at h
 split at h
 ·rename_i hm
  split at h
  ·cases h
  ·rename_i hk
   simp only [Except.error.injEq,Prod.mk.injEq] at h
   rw [if_pos hm,if_neg hk,h.1,h.2]
 ·rename_i hm
  simp only [Except.error.injEq,Prod.mk.injEq] at h
  rw [if_neg hm,h.1,h.2]
theorem FS2o {l r:List UInt8} {k:Nat} {v:ByteArray} (hl:l.length<=1000000) (h1:k<=1000) (h:tB k l=.ok (v,r)):FS 2 [pI (k:Int),pBy l]=some [pI 0,pS v,pBy r]:=by
 refine Zap fRt ⟨l,k,hl,h1,rfl,?_⟩
 unfold tB at h
 split at h
 ·rename_i hm
  split at h
  ·rename_i hk
   simp only [Except.ok.injEq,Prod.mk.injEq] at h
   rw [if_pos hm,if_pos hk,h.1,h.2]
  ·cases h
 ·cases h
theorem Zqx {α:Type} (E:Enc α) (xs:List α) (i:Nat) (k:IntKind) (x:α) (sub:Nat) (ps:List Value) (h:i < xs.length) (hx:E.enc x=(E.enc xs[i]).take sub++ps++(E.enc xs[i]).drop (sub+ps.length)) (hs:sub+ps.length<=E.sz) :
  ropPV (.upd E.sz sub) (pRow E xs :: .v (.int k (i:Int)) :: ps.map .v)=some (pRow E (xs.set i x)):=by
 have h0:(0:Int)<=(i:Int):=by omega
 have h1:(i:Int) < (xs.length:Int):=by omega
 have hl:(E.all (xs.take i)).length=i * E.sz:=by rw [Zqr,List.length_take,Nat.min_eq_left (by omega)]
 have hm:(E.enc xs[i]).length=E.sz:=E.len _
 have hp:putPV ((E.all xs).map PV.v) (i * E.sz+sub) (ps.map PV.v)=(E.all (xs.set i x)).map PV.v:=by
  rw [set_split xs i x h,Enc.all_append,Enc.all_cons,all_split' E xs i h,hx]
  generalize E.all (xs.take i)=A at *
  generalize E.enc xs[i]=M at *
  generalize E.all (xs.drop (i+1))=B
  simp only [putPV,List.length_map,<- hl,List.map_append,List.append_assoc]
  rw [List.take_append,List.drop_append]
  simp only [List.length_map]
  rw [List.take_of_length_le (l:=A.map PV.v) (by simp),show A.length+sub - A.length=sub by omega,List.take_append,List.drop_of_length_le (l:=A.map PV.v) (by simp;omega),show A.length+sub+ps.length - A.length=sub+ps.length by omega,List.drop_append]
  simp only [List.length_map]
  rw [show sub - M.length=0 by omega,show sub+ps.length - M.length=0 by omega]
  simp [List.map_take,List.map_drop]
 have hd:decide (sub+ps.length<=E.sz)=true:=by simpa using hs
 simp [ropPV,pRow,h1,hs,hp]
theorem updM (ms:List MarkM) (i:Nat) (h:i < ms.length) (a b c d:Int) :
  ropPV (.upd 4 0) [pRow encM ms,pI (i:Int),pI a]=some (pRow encM (ms.set i (a,ms[i].2))) ∧
  ropPV (.upd 4 1) [pRow encM (ms.set i (a,ms[i].2)),pI (i:Int),pI b]=some (pRow encM (ms.set i (a,b,ms[i].2.2))) ∧
  ropPV (.upd 4 2) [pRow encM (ms.set i (a,b,ms[i].2.2)),pI (i:Int),pI c]=some (pRow encM (ms.set i (a,b,c,ms[i].2.2.2))) ∧
  ropPV (.upd 4 3) [pRow encM (ms.set i (a,b,c,ms[i].2.2.2)),pI (i:Int),pI d]=some (pRow encM (ms.set i (a,b,c,d))):=by
 have st:∀ (x y:MarkM) (sub:Nat) (v:Int),encM.enc y=(encM.enc x).take sub++[.int .i64 v]++(encM.enc x).drop (sub+1)->sub+1<=4->ropPV (.upd 4 sub) [pRow encM (ms.set i x),pI (i:Int),pI v]=some (pRow encM (ms.set i y)):=by
  intro x y sub v hx hs
  have:=Zqx encM (ms.set i x) i .i64 y sub [.int .i64 v] (by simpa using h) (by rw [List.getElem_set_self];exact hx) hs
  rw [List.set_set] at this
  exact this
 refine ⟨?_,st _ _ 1 b rfl (by omega),st _ _ 2 c rfl (by omega),st _ _ 3 d rfl (by omega)⟩
 exact Zqx encM ms i .i64 (a,ms[i].2) 0 [.int .i64 a] h rfl (by show 0+1<=4;omega)
theorem updF (fs:List FileM) (i:Nat) (h:i < fs.length) (a c:ByteArray) (b:Int) :
  ropPV (.upd 3 0) [pRow encF fs,pI (i:Int),pS a]=some (pRow encF (fs.set i (a,fs[i].2))) ∧
  ropPV (.upd 3 1) [pRow encF (fs.set i (a,fs[i].2)),pI (i:Int),pI b]=some (pRow encF (fs.set i (a,b,fs[i].2.2))) ∧
  ropPV (.upd 3 2) [pRow encF (fs.set i (a,b,fs[i].2.2)),pI (i:Int),pS c]=some (pRow encF (fs.set i (a,b,c))):=by
 have st:∀ (x y:FileM) (sub:Nat) (v:Value),encF.enc y=(encF.enc x).take sub++[v]++(encF.enc x).drop (sub+1)->sub+1<=3->ropPV (.upd 3 sub) [pRow encF (fs.set i x),pI (i:Int),.v v]=some (pRow encF (fs.set i y)):=by
  intro x y sub v hx hs
  have:=Zqx encF (fs.set i x) i .i64 y sub [v] (by simpa using h) (by rw [List.getElem_set_self];exact hx) hs
  rw [List.set_set] at this
  exact this
 refine ⟨?_,st _ _ 1 (.int .i64 b) rfl (by omega),st _ _ 2 (.string c) rfl (by omega)⟩
 exact Zqx encF fs i .i64 (a,fs[i].2) 0 [.string a] h rfl (by show 0+1<=3;omega)
theorem r_repF':ropPV (.rep [.string ⟨⟨[]⟩⟩,.int .i64 0,.string ⟨⟨[]⟩⟩]) [pI 6]=some (pRow encF (List.replicate 6 f00)):=by rfl
theorem r_repM':ropPV (.rep [.int .i64 0,.int .i64 0,.int .i64 0,.int .i64 0]) [pI 3]=some (pRow encM (List.replicate 3 m0)):=by rfl
@[simp] theorem ex_six:(∃ z:Nat,(6:Int)=(z:Int)) ↔ True:=⟨fun _=>trivial,fun _=>⟨6,rfl⟩⟩
@[simp] theorem ex_three:(∃ z:Nat,(3:Int)=(z:Int)) ↔ True:=⟨fun _=>trivial,fun _=>⟨3,rfl⟩⟩
@[simp] theorem ex_six':(∃ z:Nat,(6:Int)=(z:Int)/\z<=4294967296) ↔ True:=⟨fun _=>trivial,fun _=>⟨6,rfl,by omega⟩⟩
@[simp] theorem ex_three':(∃ z:Nat,(3:Int)=(z:Int)/\z<=4294967296) ↔ True:=⟨fun _=>trivial,fun _=>⟨3,rfl,by omega⟩⟩
def RRs (ps qs:List PV):Prop:=∃ l:List UInt8,l.length<=1000000/\ps=[pBy l]/\qs=ansE (nB 4 l)
theorem fRs:∀ ps q1 q2,RRs ps q1->RRs ps q2->q1=q2:=by
 rintro ps q1 q2 ⟨l,_,rfl,rfl⟩ ⟨l',_,h,rfl⟩
 simp only [List.cons.injEq,and_true] at h
 rw [Zgi h]
theorem cutS:flS=flS.take 4++.block (Zbj (nth flS 4)) (.loop (Zaq (nth flS 4))) :: (((flS.drop 5).take 1)++.block (Zbj (nth flS 6)) (.loop (Zaq (nth flS 6))) :: flS.drop 7):=by kernel_rfl
set_option maxHeartbeats 4000000 in
theorem toldSt (k0:Nat):ToldQ 121 (ESt k0) [pvRd,anyV] (spec RRs):=by
 refine Zl7 FS _ (Zat Tryz.prog 121) Tryz.func121 (by kernel_rfl) shS0 (by kernel_rfl) ?_ ?_
 ·intro ps qs h
  obtain ⟨l,_,rfl,rfl⟩:=Zah h
  exact Zc0 rfl
 ·intro C ps qs hF h a w hx
  obtain ⟨l,hl,rfl,hqs⟩:=Zah h
  show wpL Tryz.prog flS _ a w
  rw [cutS]
  cases h1:nB 4 l with
  | error e =>
   obtain ⟨j,r⟩:=e
   obtain rfl:=Zid h1
   have e1:FS 1 [pI 4,pBy l]=some [pI 1,pBy r]:=FS1e (k:=4) hl (by omega) (by omega) h1
   rw [h1] at hqs
   refine Zae names_ok mixed_ok (Zck tabRr) sprn hx ?_ (fun qs a1 wd hq hx=>⟨nofun,fun _=>.inr ⟨0,_,pvRd,[pBy r],shSP,_,[SX.var 0],hqs,rfl,by rfl,hx,by kernel_rfl,by simp [evs,SX.ev,hF,e1] at hq;subst hq;rfl⟩⟩)
   simp [-Zac,Zab,Zaa,Base.ev,SX.ev,evs,Value.oneCell',hF,pr1,e1]
   all_goals skip
  | ok p =>
  obtain ⟨ep,l1⟩:=p
  have e1:FS 1 [pI 4,pBy l]=some [pI 0,pI ep,pBy l1]:=FS1o (k:=4) hl (by omega) (by omega) h1
  have n1:=Zog h1
  rw [h1] at hqs
  have hqs:qs=ansM ep (goR rdM 3 0 (List.replicate 3 m0) l1):=hqs
  have rM:=Zad encM (List.replicate 3 m0)
  have rF:=Zad encF (List.replicate 6 f00)
  have pF:=r_repF'
  have pM:=r_repM'
  have lm:(List.replicate 3 m0).length=3:=rfl
  have lf:(List.replicate 6 f00).length=6:=rfl
  rw [lm] at rM
  rw [lf] at rF
  generalize List.replicate 3 m0=ms0 at *
  generalize hfs0:List.replicate 6 f00=fs0 at *
  refine Zae names_ok mixed_ok (Zck tabRr) spre hx ?_ (fun qs a1 wd hq hx=>⟨fun _=>?_,fun h=>absurd rfl h⟩)
  ·simp [-Zac,Zab,Zaa,Base.ev,SX.ev,evs,Value.oneCell',hF,pr1,e1,pM,pF,rM,rF]
   all_goals skip
  simp [evs,SX.ev,hF,e1,pM,pF,rM,rF] at hq
  subst hq
  refine Zda (fun m a w=>∃ (i:Nat) (ms:List MarkM) (l':List UInt8),m=3 - i/\i<=3/\ms.length=3/\l'.length<=1000000/\qs=ansM ep (goR rdM (3 - i) i ms l')/\Zam C shSM [pI 3,pI (i:Int),pBy l',pI 0,pI ep,pRow encF fs0,pRow encM ms] a w) ?_ (n:=3) ⟨0,ms0,l1,by omega,by omega,lm,by omega,hqs,hx⟩
  clear hqs h1 e1 pM pF rM lm n1 hl
  rintro k a w ⟨i,ms,l',rfl,hi,hms,hl,hqs,hx⟩
  rw [<- List.append_nil (flat _)]
  have rM:=Zad encM ms
  rw [hms] at rM
  by_cases hlt:i < 3
  ·obtain ⟨n,hn⟩:∃ n,3 - i=n+1:=⟨2 - i,by omega⟩
   have hn':3 - (i+1)=n:=by omega
   have v4:IntKind.i64.wrap ((i:Int)+1)=(i:Int)+1:=wrapI _ (by omega) (by omega)
   have hi3:(i:Int) < 3:=by omega
   rw [hn] at hqs
   have him:i < ms.length:=by omega
   cases h1:nB 4 l' with
   | error e =>
    obtain ⟨j,r⟩:=e
    obtain rfl:=Zid h1
    have e1:FS 1 [pI 4,pBy l']=some [pI 1,pBy r]:=FS1e (k:=4) (by omega) (by omega) (by omega) h1
    rw [Zk3 (e:=(1,r)) (by simp [rdM,h1])] at hqs
    refine Zae names_ok mixed_ok (Zck tabRr) smp1 hx ?_ (fun qs a1 wd hq hx=>⟨nofun,fun _=>.inr (.inr (.inr ⟨_,rfl,.inr ⟨0,_,pvRd,[pBy r],shSP,_,[SX.var 0],hqs,rfl,by rfl,hx,by kernel_rfl,by simp [evs,SX.ev,hF,e1,rM,hi3] at hq;subst hq;rfl⟩⟩))⟩)
    simp [-Zac,Zab,Zaa,Base.ev,SX.ev,evs,Value.oneCell',hF,binPV,Zad,hlt,pr1,pr2,e1,rM,hi3]
    all_goals skip
   | ok p =>
   obtain ⟨a1,l1⟩:=p
   have e1:FS 1 [pI 4,pBy l']=some [pI 0,pI a1,pBy l1]:=FS1o (k:=4) (by omega) (by omega) (by omega) h1
   have ne1:=Zog h1
   have ix1:=Zbi encM ms i 4 1 .i64 rfl him (by decide)
   cases h2:nB 1 l1 with
   | error e =>
    obtain ⟨j,r⟩:=e
    obtain rfl:=Zid h2
    have e2:FS 1 [pI 1,pBy l1]=some [pI 1,pBy r]:=FS1e (k:=1) (by omega) (by omega) (by omega) h2
    rw [Zk3 (e:=(1,r)) (by simp [rdM,h1,h2])] at hqs
    refine Zae names_ok mixed_ok (Zck tabRr) smp2 hx ?_ (fun qs a1 wd hq hx=>⟨nofun,fun _=>.inr (.inr (.inr ⟨_,rfl,.inr ⟨0,_,pvRd,[pBy r],shSP,_,[SX.var 0],hqs,rfl,by rfl,hx,by kernel_rfl,by simp [evs,SX.ev,hF,e1,e2,rM,hi3,ix1] at hq;subst hq;rfl⟩⟩))⟩)
    simp [-Zac,Zab,Zaa,Base.ev,SX.ev,evs,Value.oneCell',hF,binPV,Zad,hlt,pr1,pr2,e1,e2,rM,hi3,ix1]
    all_goals skip
   | ok p =>
   obtain ⟨a2,l2⟩:=p
   have e2:FS 1 [pI 1,pBy l1]=some [pI 0,pI a2,pBy l2]:=FS1o (k:=1) (by omega) (by omega) (by omega) h2
   have ne2:=Zog h2
   have u1:=(updM ms i him a1 a2 0 0).1
   have ix2:=Zbi encM (ms.set i (a1,ms[i].2)) i 4 2 .i64 rfl (by simpa using him) (by decide)
   cases h3:nB 1 l2 with
   | error e =>
    obtain ⟨j,r⟩:=e
    obtain rfl:=Zid h3
    have e3:FS 1 [pI 1,pBy l2]=some [pI 1,pBy r]:=FS1e (k:=1) (by omega) (by omega) (by omega) h3
    rw [Zk3 (e:=(1,r)) (by simp [rdM,h1,h2,h3])] at hqs
    refine Zae names_ok mixed_ok (Zck tabRr) smp3 hx ?_ (fun qs a1 wd hq hx=>⟨nofun,fun _=>.inr (.inr (.inr ⟨_,rfl,.inr ⟨0,_,pvRd,[pBy r],shSP,_,[SX.var 0],hqs,rfl,by rfl,hx,by kernel_rfl,by simp [evs,SX.ev,hF,e1,e2,e3,rM,hi3,ix1,u1,ix2] at hq;subst hq;rfl⟩⟩))⟩)
    simp [-Zac,Zab,Zaa,Base.ev,SX.ev,evs,Value.oneCell',hF,binPV,Zad,hlt,pr1,pr2,e1,e2,e3,rM,hi3,ix1,u1,ix2]
    all_goals skip
   | ok p =>
   obtain ⟨a3,l3⟩:=p
   have e3:FS 1 [pI 1,pBy l2]=some [pI 0,pI a3,pBy l3]:=FS1o (k:=1) (by omega) (by omega) (by omega) h3
   have ne3:=Zog h3
   have u2:=(updM ms i him a1 a2 a3 0).2.1
   have ix3:=Zbi encM (ms.set i (a1,a2,ms[i].2.2)) i 4 3 .i64 rfl (by simpa using him) (by decide)
   cases h4:nB 4 l3 with
   | error e =>
    obtain ⟨j,r⟩:=e
    obtain rfl:=Zid h4
    have e4:FS 1 [pI 4,pBy l3]=some [pI 1,pBy r]:=FS1e (k:=4) (by omega) (by omega) (by omega) h4
    rw [Zk3 (e:=(1,r)) (by simp [rdM,h1,h2,h3,h4])] at hqs
    refine Zae names_ok mixed_ok (Zck tabRr) smp4 hx ?_ (fun qs a1 wd hq hx=>⟨nofun,fun _=>.inr (.inr (.inr ⟨_,rfl,.inr ⟨0,_,pvRd,[pBy r],shSP,_,[SX.var 0],hqs,rfl,by rfl,hx,by kernel_rfl,by simp [evs,SX.ev,hF,e1,e2,e3,e4,rM,hi3,ix1,u1,ix2,u2,ix3] at hq;subst hq;rfl⟩⟩))⟩)
    simp [-Zac,Zab,Zaa,Base.ev,SX.ev,evs,Value.oneCell',hF,binPV,Zad,hlt,pr1,pr2,e1,e2,e3,e4,rM,hi3,ix1,u1,ix2,u2,ix3]
    all_goals skip
   | ok p =>
   obtain ⟨a4,l4⟩:=p
   have e4:FS 1 [pI 4,pBy l3]=some [pI 0,pI a4,pBy l4]:=FS1o (k:=4) (by omega) (by omega) (by omega) h4
   have ne4:=Zog h4
   have u3:=(updM ms i him a1 a2 a3 a4).2.2.1
   have u4:=(updM ms i him a1 a2 a3 a4).2.2.2
   have ix4:=Zbi encM (ms.set i (a1,a2,a3,ms[i].2.2.2)) i 4 4 .i64 rfl (by simpa using him) (by decide)
   have rM2:=Zad encM (ms.set i (a1,a2,a3,a4))
   rw [List.length_set,hms] at rM2
   rw [Zrp (x:=(a1,a2,a3,a4)) (r:=l4) (by simp [rdM,h1,h2,h3,h4]),<- hn'] at hqs
   have hms2:(ms.set i (a1,a2,a3,a4)).length=3:=by rw [List.length_set,hms]
   generalize ms.set i (a1,a2,a3,a4)=ms4 at *
   generalize ms.set i (a1,a2,a3,ms[i].2.2.2)=ms3 at *
   generalize ms.set i (a1,a2,ms[i].2.2)=ms2 at *
   generalize ms.set i (a1,ms[i].2)=ms1 at *
   refine Zae names_ok mixed_ok (Zck tabRr) smo hx ?_ (fun qs a1 wd hq hx=>⟨fun _=>.inl ⟨rfl,3 - (i+1),by omega,i+1,ms4,l4,rfl,by omega,hms2,by omega,hqs,?_⟩,fun h=>absurd rfl h⟩)
   ·simp [-Zac,Zab,Zaa,Base.ev,SX.ev,evs,Value.oneCell',hF,binPV,v4,hi3,rF,rM,rM2,pr1,pr2,e1,e2,e3,e4,u1,u2,u3,u4,ix1,ix2,ix3,ix4]
    all_goals skip
   ·simp [evs,SX.ev,hF,binPV,v4,e1,e2,e3,e4,u1,u2,u3,u4] at hq
    subst hq
    exact hx
  ·obtain rfl:i=3:=by omega
   refine Zae names_ok mixed_ok (Zck tabRr) smx hx ?_ (fun qs a1 wd hq hx=>⟨nofun,fun _=>.inr (.inl ⟨rfl,?_⟩)⟩)
   ·simp [-Zac,Zab,Zaa,Base.ev,SX.ev,evs,Value.oneCell',binPV,rM,rF]
   simp [evs,SX.ev] at hq
   subst hq
   refine Zae names_ok mixed_ok (Zck tabRr) smd hx ?_ (fun qs a1 wd hq hx=>⟨fun _=>?_,fun h=>absurd rfl h⟩)
   ·simp [-Zac,Zab,Zaa,Base.ev,SX.ev,evs,Value.oneCell',rM,rF]
   simp [evs,SX.ev,rF] at hq
   subst hq
   have hqs:qs=ansF ep ms (goR rdF 6 0 fs0 l'):=by rw [hqs,<- hfs0];rfl
   refine Zda (fun m a w=>∃ (i:Nat) (fs:List FileM) (l:List UInt8),m=6 - i/\i<=6/\fs.length=6/\l.length<=1000000/\qs=ansF ep ms (goR rdF (6 - i) i fs l)/\Zam C shSF [pI 6,pI (i:Int),pBy l,pI 0,pI ep,pRow encF fs,pRow encM ms] a w) ?_ (n:=6) ⟨0,fs0,l',by omega,by omega,lf,by omega,hqs,hx⟩
   clear hqs hl hfs0 lf rF hi hlt
   rintro k a w ⟨i,fs,l',rfl,hi,hfs,hl,hqs,hx⟩
   rw [<- List.append_nil (flat _)]
   have rF:=Zad encF fs
   rw [hfs] at rF
   by_cases hlt:i < 6
   ·obtain ⟨n,hn⟩:∃ n,6 - i=n+1:=⟨5 - i,by omega⟩
    have hn':6 - (i+1)=n:=by omega
    have v4:IntKind.i64.wrap ((i:Int)+1)=(i:Int)+1:=wrapI _ (by omega) (by omega)
    have hi3:(i:Int) < 6:=by omega
    rw [hn] at hqs
    have him:i < fs.length:=by omega
    cases h1:tB 9 l' with
    | error e =>
     obtain ⟨j,r⟩:=e
     have e1:FS 2 [pI 9,pBy l']=some [pI j,pBy r]:=FS2e (k:=9) (by omega) (by omega) h1
     rw [Zk3 (e:=(j,r)) (by simp [rdF,h1])] at hqs
     rcases Zqw h1 with rfl | rfl
     ·refine Zae names_ok mixed_ok (Zck tabRr) sfp1 hx ?_ (fun qs a1 wd hq hx=>⟨nofun,fun _=>.inr (.inr (.inr ⟨_,rfl,.inr ⟨0,_,pvRd,[pBy r],shSP,_,[SX.var 0],hqs,rfl,by rfl,hx,by kernel_rfl,by simp [evs,SX.ev,hF,e1,rF,hi3] at hq;subst hq;rfl⟩⟩))⟩)
      simp [-Zac,Zab,Zaa,Base.ev,SX.ev,evs,Value.oneCell',hF,binPV,Zad,hlt,pr1,pr2,e1,rF,hi3]
      all_goals skip
     ·refine Zp7 names_ok mixed_ok (Zck tabRr) sfu1 hx ?_ (fun qs a1 wd hq hx=>⟨nofun,fun _ u=>.inr (.inr (.inr ⟨_,rfl,.inr ⟨1,anyV,u,[pBy r],shSP,_,[SX.var 0],hqs,rfl,by rfl,hx,by kernel_rfl,by simp [evs,SX.ev,hF,e1,rF,hi3] at hq;subst hq;rfl⟩⟩))⟩)
      simp [-Zac,Zab,Zaa,Base.ev,SX.ev,evs,Value.oneCell',hF,binPV,Zad,hlt,pr1,pr2,e1,rF,hi3]
      all_goals skip
    | ok p =>
    obtain ⟨a1,l1⟩:=p
    have e1:FS 2 [pI 9,pBy l']=some [pI 0,pS a1,pBy l1]:=FS2o (k:=9) (by omega) (by omega) h1
    have ne1:=tB_len h1
    have ix1:=Zbi encF fs i 3 1 .i64 rfl him (by decide)
    cases h2:nB 4 l1 with
    | error e =>
     obtain ⟨j,r⟩:=e
     obtain rfl:=Zid h2
     have e2:FS 1 [pI 4,pBy l1]=some [pI 1,pBy r]:=FS1e (k:=4) (by omega) (by omega) (by omega) h2
     rw [Zk3 (e:=(1,r)) (by simp [rdF,h1,h2])] at hqs
     refine Zae names_ok mixed_ok (Zck tabRr) sfp2 hx ?_ (fun qs a1 wd hq hx=>⟨nofun,fun _=>.inr (.inr (.inr ⟨_,rfl,.inr ⟨0,_,pvRd,[pBy r],shSP,_,[SX.var 0],hqs,rfl,by rfl,hx,by kernel_rfl,by simp [evs,SX.ev,hF,e1,e2,rF,hi3,ix1] at hq;subst hq;rfl⟩⟩))⟩)
     simp [-Zac,Zab,Zaa,Base.ev,SX.ev,evs,Value.oneCell',hF,binPV,Zad,hlt,pr1,pr2,e1,e2,rF,hi3,ix1]
     all_goals skip
    | ok p =>
    obtain ⟨a2,l2⟩:=p
    have e2:FS 1 [pI 4,pBy l1]=some [pI 0,pI a2,pBy l2]:=FS1o (k:=4) (by omega) (by omega) (by omega) h2
    have ne2:=Zog h2
    have u1:=(updF fs i him a1 ⟨⟨[]⟩⟩ a2).1
    have ix2:=Zbi encF (fs.set i (a1,fs[i].2)) i 3 2 .i64 rfl (by simpa using him) (by decide)
    cases h3:tB 25 l2 with
    | error e =>
     obtain ⟨j,r⟩:=e
     have e3:FS 2 [pI 25,pBy l2]=some [pI j,pBy r]:=FS2e (k:=25) (by omega) (by omega) h3
     rw [Zk3 (e:=(j,r)) (by simp [rdF,h1,h2,h3])] at hqs
     rcases Zqw h3 with rfl | rfl
     ·refine Zae names_ok mixed_ok (Zck tabRr) sfp3 hx ?_ (fun qs a1 wd hq hx=>⟨nofun,fun _=>.inr (.inr (.inr ⟨_,rfl,.inr ⟨0,_,pvRd,[pBy r],shSP,_,[SX.var 0],hqs,rfl,by rfl,hx,by kernel_rfl,by simp [evs,SX.ev,hF,e1,e2,e3,rF,hi3,ix1,u1,ix2] at hq;subst hq;rfl⟩⟩))⟩)
      simp [-Zac,Zab,Zaa,Base.ev,SX.ev,evs,Value.oneCell',hF,binPV,Zad,hlt,pr1,pr2,e1,e2,e3,rF,hi3,ix1,u1,ix2]
      all_goals skip
     ·refine Zp7 names_ok mixed_ok (Zck tabRr) sfu3 hx ?_ (fun qs a1 wd hq hx=>⟨nofun,fun _ u=>.inr (.inr (.inr ⟨_,rfl,.inr ⟨1,anyV,u,[pBy r],shSP,_,[SX.var 0],hqs,rfl,by rfl,hx,by kernel_rfl,by simp [evs,SX.ev,hF,e1,e2,e3,rF,hi3,ix1,u1,ix2] at hq;subst hq;rfl⟩⟩))⟩)
      simp [-Zac,Zab,Zaa,Base.ev,SX.ev,evs,Value.oneCell',hF,binPV,Zad,hlt,pr1,pr2,e1,e2,e3,rF,hi3,ix1,u1,ix2]
      all_goals skip
    | ok p =>
    obtain ⟨a3,l3⟩:=p
    have e3:FS 2 [pI 25,pBy l2]=some [pI 0,pS a3,pBy l3]:=FS2o (k:=25) (by omega) (by omega) h3
    have ne3:=tB_len h3
    have u2:=(updF fs i him a1 a3 a2).2.1
    have u3:=(updF fs i him a1 a3 a2).2.2
    have ix3:=Zbi encF (fs.set i (a1,a2,fs[i].2.2)) i 3 3 .i64 rfl (by simpa using him) (by decide)
    have rF2:=Zad encF (fs.set i (a1,a2,a3))
    rw [List.length_set,hfs] at rF2
    rw [Zrp (x:=(a1,a2,a3)) (r:=l3) (by simp [rdF,h1,h2,h3]),<- hn'] at hqs
    have hfs2:(fs.set i (a1,a2,a3)).length=6:=by rw [List.length_set,hfs]
    generalize fs.set i (a1,a2,a3)=fs3 at *
    generalize fs.set i (a1,a2,fs[i].2.2)=fs2 at *
    generalize fs.set i (a1,fs[i].2)=fs1 at *
    refine Zae names_ok mixed_ok (Zck tabRr) sfo hx ?_ (fun qs a1 wd hq hx=>⟨fun _=>.inl ⟨rfl,6 - (i+1),by omega,i+1,fs3,l3,rfl,by omega,hfs2,by omega,hqs,?_⟩,fun h=>absurd rfl h⟩)
    ·simp [-Zac,Zab,Zaa,Base.ev,SX.ev,evs,Value.oneCell',hF,binPV,v4,hi3,rM,rF,rF2,pr1,pr2,e1,e2,e3,u1,u2,u3,ix1,ix2,ix3]
     all_goals skip
    ·simp [evs,SX.ev,hF,binPV,v4,e1,e2,e3,u1,u2,u3] at hq
     subst hq
     exact hx
   ·obtain rfl:i=6:=by omega
    refine Zae names_ok mixed_ok (Zck tabRr) sfx hx ?_ (fun qs a1 wd hq hx=>⟨nofun,fun _=>.inr (.inl ⟨rfl,?_⟩)⟩)
    ·simp [-Zac,Zab,Zaa,Base.ev,SX.ev,evs,Value.oneCell',binPV,rM,rF]
    simp [evs,SX.ev] at hq
    subst hq
    rw [<- List.append_nil (flS.drop 7)]
    have hqs:qs=[pI 0,pRow encF fs,pRow encM ms,pI ep,pBy l']:=hqs
    refine Zae names_ok mixed_ok (Zck tabRr) spst hx ?_ (fun qs a1 wd hq hx=>⟨nofun,fun _=>.inl ⟨_,hqs,.inr rfl,shSR,_,[SX.var 2,SX.var 3,SX.var 1,SX.var 0],hx,by kernel_rfl,?_⟩⟩)
    ·simp [-Zac,Zab,Zaa,Base.ev,SX.ev,evs,Value.oneCell',rM,rF]
    ·simp [evs,SX.ev] at hq
     subst hq
     rfl

end Go.Proofs.YtpnegheknjeljaaGreat.irs
