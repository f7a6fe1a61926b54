/- Texts joined. -/
import Derived.Test.YtpnegheknjeljaaGreatStb
section
/- What lasts, behind some: made out of numbers. -/
namespace Go.Proofs.YtpnegheknjeljaaGreat.sta
open Go Go.RowKit eng SX Fact fil fileFronts dirs pck may
open fileFronts
open pck hiding F F20 F21
open dirs hiding shR shRl shRR flR lpR cutR f0 f1 f2 f3
open may hiding r1 r2 r3 r4 r5
set_option linter.unusedVariables false
set_option linter.unusedSimpArgs false
set_option maxRecDepth 1000000

def ENm (k:Nat):PtrE:={ k:=k,elem:=60,cells:=2,ins:=[],outs:=[none],kinds:=[.num,.row,.num] }
def ESt (k:Nat):PtrE:={ k:=k,elem:=60,cells:=2,ins:=[none],outs:=[some 3],kinds:=[.row,.row,.num,.row,.num] }
def tabS (f:FuncId):Option FnE:=cond (Nat.beq f 15) (some (EOpen 31)) (cond (Nat.beq f 29) (some (EOpen 32)) (cond (Nat.beq f 27) (some (Zn7 33)) (cond (Nat.beq f 30) (some (EBoot 34)) (cond (Nat.beq f 23) (some (ENew 35)) none))))
def tabSP (f:FuncId):Option PtrE:=cond (Nat.beq f 25) (some (ENum 20)) (cond (Nat.beq f 28) (some (EWs 22)) (cond (Nat.beq f 26) (some (ENm 23)) none))
def orcS:Orc:=orcOr (orcFn tabS) (orcP tabSP)
noncomputable def flT:=flat (Zat Tryz.prog 10)
noncomputable def lpT:=flat (Zaq (nth flT 3))
noncomputable def bdT:=flat (blockBody (nth lpT 2))
def shTl:Shape:=⟨[(0,.ptr 0 0 0 0),(1,.leaf),(4,.ptr 1 0 0 0),(5,.ptr 2 0 0 0),(6,.leaf)],[pbox,zbox,sbox true],[none,none,some true,none,none,some true,some true,none],82,10⟩
def shTc:Shape:=⟨[(0,.ptr 0 0 0 0),(1,.leaf),(4,.ptr 1 0 0 0),(5,.ptr 2 0 0 0),(6,.leaf),(7,.leaf),(8,.leaf),(34,.leaf)],[pbox,zbox,sbox true],[none,none,none,none,none,some true,none,none,some true,some true,none],82,10⟩
@[simp] def Zcc:List SX:=[.var 8,.var 9,.var 10,.var 2,rop ROp.max2 [.var 3,.con (.int .i64 1)],.bin .add (.con (.int .i64 1)) (.fn 20 [.con (.int .i64 7),.var 5,.var 6] 0),.fn 22 [.con (.int .i64 5),.fn 20 [.con (.int .i64 7),.var 5,.var 6] 1,.fn 20 [.con (.int .i64 7),.var 5,.var 6] 2] 0]
@[simp] def Zau:List SX:=[.var 8,.var 9,.var 10,.var 2,rop ROp.max2 [.var 3,.con (.int .i64 1)],.fn 23 [.var 5,.var 6] 0]
@[simp] def zGreatStc3:List SX:=[.var 8,.var 9,.var 10,.var 2,rop ROp.max2 [.var 3,.con (.int .i64 1)],.bin .add (.con (.int .i64 1)) (.fn 20 [.con (.int .i64 7),.var 5,.var 6] 0)]
@[simp] def Zgm:List SX:=[.con (.int .i64 5),.fn 20 [.con (.int .i64 7),.var 5,.var 6] 1,.fn 20 [.con (.int .i64 7),.var 5,.var 6] 2]
@[simp] def Ziz:List SX:=[.con (.int .i64 7),.var 5,.var 6]
@[simp] def Zey:SX:=.bin .eql (.var 4) (.con (.int .i64 0))
@[simp] def Zlx:List SX:=[.var 0,.var 1,.fn 23 [.var 5,.var 6] 1,.fn 23 [.var 5,.var 6] 2,.var 7,.fn 31 Zau 0,.fn 31 Zau 1,.fn 31 Zau 2]
@[simp] def Zex:SX:=.bin .eql (.var 4) (.con (.int .i64 1))
@[simp] def Ziy:SX:=.bin .eql (.var 4) (.con (.int .i64 2))
@[simp] def Zg9:Fact:=.ok (rop ROp.max2 [.var 3,.con (.int .i64 1)])
@[simp] def zGreatStc11:SX:=.bin .eql (.var 4) (.con (.int .i64 3))
@[simp] def zGreatStc12:List SX:=[.var 0,.var 1,.fn 22 Zgm 1,.fn 22 Zgm 2,.var 7,.fn 33 Zcc 0,.fn 33 Zcc 1,.fn 33 Zcc 2]
@[simp] def Zd0:Fact:=.ok (.fn 23 [.var 5,.var 6] 2)
@[simp] def zGreatStc14:Fact:=.ok (.bin .add (.con (.int .i64 1)) (.fn 20 Ziz 0))
@[simp] def zGreatStc15:SX:=.bin .eql (.var 4) (.con (.int .i64 4))
@[simp] def Zdz:Fact:=.ok (.fn 31 Zau 2)
@[simp] def Zke:Fact:=.is Zey (.bool false)
theorem c0:segTo Tryz.prog orcS 10000 ((bdT.drop 3).take 1) shTc [1] shTl [(0,0),(1,0),(2,0)]=some (.normal,[.ok Zey,.is Zey (.bool true),Zg9,.fp 26 (ENm 23) [.var 5,.var 6],.ok (.fn 23 [.var 5,.var 6] 0),Zd0,.fn 15 (EOpen 31) Zau,Zdz,.ok (.fn 31 Zau 3),.ok (.fn 31 Zau 4),.ok (.fn 31 Zau 5),.ok (.fn 31 Zau 6),.ok (.var 0),.ok (.var 1),Zd0,.ok (.var 7),Zdz],Zlx):=by kernel_rfl
theorem c1:segTo Tryz.prog orcS 10000 ((bdT.drop 3).take 1) shTc [0,1] shTl [(0,0),(1,0),(2,0)]=some (.normal,[.ok Zey,Zke,.ok Zex,.is Zex (.bool true),Zg9,.fp 26 (ENm 23) [.var 5,.var 6],.ok (.fn 23 [.var 5,.var 6] 0),Zd0,.fn 15 (EOpen 31) Zau,Zdz,.ok (.fn 31 Zau 3),.ok (.fn 31 Zau 4),.ok (.fn 31 Zau 5),.ok (.fn 31 Zau 6),.ok (.var 0),.ok (.var 1),Zd0,.ok (.var 7),Zdz],Zlx):=by kernel_rfl
theorem c2:segTo Tryz.prog orcS 10000 ((bdT.drop 3).take 1) shTc [0,0,1] shTl [(0,0),(1,0),(2,0)]=some (.normal,[.ok Zey,Zke,.ok Zex,.is Zex (.bool false),.ok Ziy,.is Ziy (.bool true),Zg9,.fp 26 (ENm 23) [.var 5,.var 6],.ok (.fn 23 [.var 5,.var 6] 0),Zd0,.fn 15 (EOpen 31) Zau,Zdz,.ok (.fn 31 Zau 3),.ok (.fn 31 Zau 4),.ok (.fn 31 Zau 5),.ok (.fn 31 Zau 6),.ok (.var 0),.ok (.var 1),Zd0,.ok (.var 7),Zdz],Zlx):=by kernel_rfl
theorem c3:segTo Tryz.prog orcS 10000 ((bdT.drop 3).take 1) shTc [0,0,0,1] shTl [(0,0),(1,0),(2,0)]=some (.normal,[.ok Zey,Zke,.ok Zex,.is Zex (.bool false),.ok Ziy,.is Ziy (.bool false),.ok zGreatStc11,.is zGreatStc11 (.bool true),Zg9,.fp 25 (ENum 20) Ziz,.ok (.fn 20 Ziz 0),.ok (.fn 20 Ziz 2),zGreatStc14,.fp 28 (EWs 22) Zgm,.ok (.fn 22 Zgm 2),.fn 27 (Zn7 33) Zcc,.ok (.fn 33 Zcc 2),.ok (.fn 33 Zcc 3),.ok (.fn 33 Zcc 4),.ok (.fn 33 Zcc 5),.ok (.fn 33 Zcc 6),.ok (.var 0),.ok (.var 1),.ok (.fn 22 Zgm 2),.ok (.var 7),.ok (.fn 33 Zcc 2)],zGreatStc12):=by kernel_rfl
def nmt:Nat->ByteArray
 | 0=>⟨⟨[UInt8.ofNat 97]⟩⟩
 | 1=>⟨⟨[UInt8.ofNat 98]⟩⟩
 | 2=>⟨⟨[UInt8.ofNat 99]⟩⟩
 | 3=>⟨⟨[UInt8.ofNat 110,UInt8.ofNat 111,UInt8.ofNat 116,UInt8.ofNat 101,UInt8.ofNat 115]⟩⟩
 | 4=>⟨⟨[UInt8.ofNat 108,UInt8.ofNat 111,UInt8.ofNat 103]⟩⟩
 | 5=>⟨⟨[UInt8.ofNat 120,UInt8.ofNat 47,UInt8.ofNat 121]⟩⟩
 | 6=>⟨⟨[UInt8.ofNat 115,UInt8.ofNat 101,UInt8.ofNat 118,UInt8.ofNat 101,UInt8.ofNat 110,UInt8.ofNat 55,UInt8.ofNat 55]⟩⟩
 | 7=>⟨⟨[]⟩⟩
 | 8=>⟨⟨[UInt8.ofNat 97,UInt8.ofNat 32,UInt8.ofNat 98]⟩⟩
 | 9=>⟨⟨[UInt8.ofNat 110,UInt8.ofNat 105,UInt8.ofNat 110,UInt8.ofNat 101,UInt8.ofNat 99,UInt8.ofNat 104,UInt8.ofNat 97,UInt8.ofNat 114,UInt8.ofNat 115]⟩⟩
 | _=>⟨⟨[]⟩⟩
@[simp] theorem kNm (k:Nat):(ENm k).k=k:=rfl
@[simp] theorem kSt (k:Nat):(ESt k).k=k:=rfl
def RNm (ps qs:List PV):Prop:=∃ (n:Nat) (l:List Nat),OkP l n/\ps=[pRow encU l,pI (n:Int)]/\qs=[pS (nmt (numV l n 10)),pRow encU l,pI (numN l n:Int)]
noncomputable def FS:Fns:=fun k=>match k with | 20=>spec RNum | 22=>spec RWs | 23=>spec RNm | 31=>spec ROpen | 32=>spec RGone | 33=>spec Zom | 34=>spec RBoot | 35=>spec RNew | _=>fun _=>none

structure TsOk (s:StM) (b:Int):Prop where
 fl:s.files.length=6
 ml:s.marks.length=3
 fv:∀ f ∈ s.files,0<=f.2.1/\f.2.1<=1073741824/\f.2.2.size<=24
 mv:∀ m ∈ s.marks,0<=m.1/\m.1<=b
 ep:0<=s.epoch/\s.epoch<=1073741824
end Go.Proofs.YtpnegheknjeljaaGreat.sta
end
section
/- What lasts: what may be, and that it stays so (reckoning alone). -/
namespace Go.Proofs.YtpnegheknjeljaaGreat.sta
open Go Go.RowKit eng SX Fact fil fileFronts dirs pck may
open fileFronts
open pck hiding F F20 F21
open dirs hiding shR shRl shRR flR lpR cutR f0 f1 f2 f3
open may hiding r1 r2 r3 r4 r5
set_option linter.unusedVariables false
set_option linter.unusedSimpArgs false
set_option maxRecDepth 100000

theorem Zql:e0.toList=[]:=by rw [ByteArray.toList_eq];rfl
def isE0 (f:FileM):Bool:=f.1.toList == [] && (decide (f.2.1=0) && f.2.2.toList == [])
def numB (n least most:Int):Bool:=decide (least<=n) && decide (n<=most)
def Zg2 (fs:List FileM) (i:Nat) (f:FileM):Nat :=
 if findN fs f.1=some i then (if numB f.2.1 1 1073741824 && decide (f.2.2.size<=24) then 0 else 2) else 1
def markB (m:MarkM):Bool:=numB m.1 0 1073741824 && (numB m.2.1 0 3 && (numB m.2.2.1 0 6 && numB m.2.2.2 0 1073741824))
def fileN (fs:List FileM) (i:Nat) (f:FileM):Nat:=if isE0 f then 0 else Zg2 fs i f
def Zfy (fs:List FileM):Nat->List FileM->Nat
 | _,[]=>0
 | i,f :: r=>if fileN fs i f=0 then Zfy fs (i+1) r else fileN fs i f
def mustN (s : StM) : Nat :=
  if s.files.length = 6 /\ s.marks.length = 3 then
    (if Zfy s.files 0 s.files = 0 then (if s.marks.all markB && numB s.epoch 0 1073741824 then 0 else 3)
     else Zfy s.files 0 s.files + 1)
  else 1
def mayS (s:StM):Bool:=mustN s == 0

theorem Zfx (fs:List FileM):∀ (r:List FileM) (i:Nat),Zfy fs i r=0 ↔ ∀ j (h:j < r.length),fileN fs (i+j) r[j]=0
 | [],i=>by simp [Zfy]
 | f :: r,i=>by
  unfold Zfy
  constructor
  ·intro h
   split at h
   ·rename_i h0
    have:=(Zfx fs r (i+1)).1 h
    intro j hj
    cases j with
    | zero=>exact h0
    | succ j =>
     have:=this j (by simpa using hj)
     rwa [show i+1+j=i+(j+1) by omega] at this
   ·contradiction
  ·intro h
   rw [if_pos (show fileN fs i f=0 from h 0 (by simp))]
   refine (Zfx fs r (i+1)).2 fun j hj=>?_
   have:=h (j+1) (by simpa using hj)
   rwa [show i+(j+1)=i+1+j by omega] at this
theorem filesN_at (fs:List FileM):∀ (r:List FileM) (i j:Nat) (h:j < r.length),(∀ k (hk:k < r.length),k < j->fileN fs (i+k) r[k]=0)->fileN fs (i+j) r[j] ≠ 0->Zfy fs i r=fileN fs (i+j) r[j]
 | [],i,j,h,_,_=>absurd h (by simp)
 | f :: r,i,0,h,_,hb=>by
  unfold Zfy
  rw [if_neg (by simpa using hb)]
  simp
 | f :: r,i,j+1,h,hk,hb=>by
  unfold Zfy
  rw [if_pos (show fileN fs i f=0 from hk 0 (by simp) (by omega))]
  have:=filesN_at fs r (i+1) j (by simpa using h) (fun k hk' hlt=>by
   have:=hk (k+1) (by simpa using hk') (by omega)
   rwa [show i+(k+1)=i+1+k by omega] at this) (by rw [show i+1+j=i+(j+1) by omega];simpa using hb)
  rw [this,show i+1+j=i+(j+1) by omega]
  simp

structure MayS (s:StM):Prop where
 fl:s.files.length=6
 ml:s.marks.length=3
 fv:∀ j (h:j < s.files.length),isE0 s.files[j]=true \/ (findN s.files s.files[j].1=some j/\1<=s.files[j].2.1/\s.files[j].2.1<=1073741824/\s.files[j].2.2.size<=24)
 mv:∀ m ∈ s.marks,0<=m.1/\m.1<=1073741824/\0<=m.2.1/\m.2.1<=3/\0<=m.2.2.1/\m.2.2.1<=6/\0<=m.2.2.2/\m.2.2.2<=1073741824
 ep:0<=s.epoch/\s.epoch<=1073741824
theorem Zli {n a b:Int}:numB n a b=true ↔ a<=n/\n<=b:=by simp [numB]
theorem fileN_zero {fs:List FileM} {i:Nat} {f:FileM}:fileN fs i f=0 ↔ (isE0 f=true \/ (findN fs f.1=some i/\1<=f.2.1/\f.2.1<=1073741824/\f.2.2.size<=24)):=by
 unfold fileN Zg2
 by_cases h0:isE0 f=true
 ·simp [h0]
 ·rw [if_neg h0]
  by_cases h1:findN fs f.1=some i
  ·rw [if_pos h1]
   by_cases h2:(numB f.2.1 1 1073741824 && decide (f.2.2.size<=24))=true
   ·rw [if_pos h2]
    simp only [Bool.and_eq_true,Zli,decide_eq_true_eq] at h2
    simp [h0,h1,h2]
   ·rw [if_neg h2]
    simp only [Bool.and_eq_true,Zli,decide_eq_true_eq] at h2
    constructor
    ·intro h;cases h
    ·rintro (h | h)
     ·exact absurd h h0
     ·exact absurd ⟨⟨h.2.1,h.2.2.1⟩,h.2.2.2⟩ h2
  ·rw [if_neg h1]
   simp [h0,h1]
theorem markB_iff {m:MarkM}:markB m=true ↔ 0<=m.1/\m.1<=1073741824/\0<=m.2.1/\m.2.1<=3/\0<=m.2.2.1/\m.2.2.1<=6/\0<=m.2.2.2/\m.2.2.2<=1073741824:=by
 simp only [markB,Bool.and_eq_true,Zli]
 constructor
 ·rintro ⟨⟨a,b⟩,⟨c,d⟩,⟨e,f⟩,g,h⟩;exact ⟨a,b,c,d,e,f,g,h⟩
 ·rintro ⟨a,b,c,d,e,f,g,h⟩;exact ⟨⟨a,b⟩,⟨c,d⟩,⟨e,f⟩,g,h⟩
theorem mayS_iff {s:StM}:mustN s=0 ↔ MayS s:=by
 unfold mustN
 constructor
 ·intro h
  split at h
  ·rename_i hl
   split at h
   ·rename_i hf
    split at h
    ·rename_i hm
     simp only [Bool.and_eq_true,Zli,List.all_eq_true] at hm
     refine ⟨hl.1,hl.2,fun j hj=>fileN_zero.1 ?_,fun m hm'=>markB_iff.1 (hm.1 m hm'),hm.2⟩
     have:=(Zfx s.files s.files 0).1 hf j hj
     simpa using this
    ·cases h
   ·omega
  ·cases h
 ·intro h
  rw [if_pos ⟨h.fl,h.ml⟩,if_pos,if_pos]
  ·simp only [Bool.and_eq_true,Zli,List.all_eq_true]
   exact ⟨fun m hm=>markB_iff.2 (h.mv m hm),h.ep⟩
  ·refine (Zfx s.files s.files 0).2 fun j hj=>fileN_zero.2 ?_
   simpa using h.fv j hj
theorem Zmd {s:StM}:mayS s=true ↔ MayS s:=by rw [<- mayS_iff];simp [mayS]

theorem Zqu {a b:ByteArray} (h:a.toList=b.toList):a=b:=by
 apply ByteArray.ext
 apply Array.toList_inj.1
 rwa [ByteArray.toList_eq,ByteArray.toList_eq] at h
theorem Zo2 {s:ByteArray} {f:FileM}:isN s f=true ↔ f.1=s:=by
 unfold isN
 rw [beq_iff_eq]
 exact ⟨Zqu,fun h=>by rw [h]⟩
theorem Zno {f:FileM} (h:isE0 f=true):f.1=e0:=by
 simp only [isE0,Bool.and_eq_true,beq_iff_eq] at h
 exact Zqu (by rw [h.1,Zql])
theorem isE0_eq {f:FileM} (h:isE0 f=true):f=f00:=by
 have hn:=Zno h
 simp only [isE0,Bool.and_eq_true,beq_iff_eq,decide_eq_true_eq] at h
 have hb:f.2.2=e0:=Zqu (by rw [h.2.2,Zql])
 exact Prod.ext hn (Prod.ext h.2.1 hb)
theorem findN_some {fs:List FileM} {s:ByteArray} {i:Nat}:findN fs s=some i ↔ okN s=true/\∃ h:i < fs.length,fs[i].1=s/\∀ j (hj:j < i),fs[j].1 ≠ s:=by
 unfold findN
 split
 ·rename_i h
  rw [List.findIdx?_eq_some_iff_getElem]
  constructor
  ·rintro ⟨h1,h2,h3⟩
   exact ⟨h,h1,Zo2.1 h2,fun j hj e=>h3 j hj (Zo2.2 e)⟩
  ·rintro ⟨_,h1,h2,h3⟩
   exact ⟨h1,Zo2.2 h2,fun j hj e=>h3 j hj (Zo2.1 e)⟩
 ·rename_i h
  simp [h]
theorem own_name {s:StM} (h:MayS s) {i:Nat} (hi:i < s.files.length) (hn:s.files[i].1 ≠ e0):(okN s.files[i].1=true/\1<=s.files[i].2.1/\s.files[i].2.1<=1073741824/\s.files[i].2.2.size<=24)/\∀ j (hj:j < s.files.length),j ≠ i->s.files[j].1 ≠ s.files[i].1:=by
 rcases h.fv i hi with h0 | ⟨h1,h2⟩
 ·exact absurd (Zno h0) hn
 ·obtain ⟨ho,_,_,h5⟩:=findN_some.1 h1
  refine ⟨⟨ho,h2⟩,fun j hj hji e=>?_⟩
  rcases Nat.lt_or_ge j i with hlt | hge
  ·exact h5 j hlt e
  ·rcases h.fv j hj with h0 | ⟨h3,_⟩
   ·exact hn (by rw [<- e];exact Zno h0)
   ·obtain ⟨_,_,_,h6⟩:=findN_some.1 h3
    exact h6 i (by omega) e.symm
end Go.Proofs.YtpnegheknjeljaaGreat.sta
end
