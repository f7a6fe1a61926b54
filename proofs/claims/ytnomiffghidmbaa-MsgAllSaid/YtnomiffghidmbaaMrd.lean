/- What is read of bytes, the document's: TakeText, Reader.Num, Reader.Text; sealed: told. -/
import Derived.Test.YtnomiffghidmbaaMcr
namespace Go.Proofs.Ytnomiffghidmbaa.mrd
open Go Go.RowKit eng SX Fact fil ima symD msm mcr
open bip (Zgp cellY pBy_inj RPuB fPuB RTkB fTkB RTxB fTxB Znr EPuB ETxB)
set_option linter.unusedVariables false
set_option linter.unusedSimpArgs false
set_option maxRecDepth 1000000
theorem Zav {f:FuncId} {E E':FnE} {R:List PV->Option (List PV)} (h:ToldF f E R) (h1:E'.ins=E.ins) (h2:E'.leaks=E.leaks) (h3:E'.outs=E.outs) (h5:E'.kinds.all CK.plain=true):ToldF f E' R:=by
 intro w FP us ps qs a b c d e
 rw [h1] at c ⊢
 rw [h2] at e
 refine (h w FP us ps qs a b c d e).mono ?_
 rintro e w' ⟨us',ow,g1,g2,how,g4,g5,g6⟩
 exact ⟨us',fun _=>none,g1,by rw [h3];exact g2,Zfz h5,fun i q u hq hu w2 hw2=>g4 i q u hq hu w2 (fun k hk _=>hw2 k hk (fun _ _=>by simp)),by rw [h3];exact g5,g6⟩
def ETkR (k:Nat):FnE:={ k:=k,ins:=[none,none],leaks:=[false,false],outs:=[none,none],kinds:=[.num,.truth] }
def ETtR (k:Nat):FnE:={ k:=k,ins:=[none],leaks:=[false],outs:=[none,none,none],kinds:=[.num,.num,.truth] }
def ENr (k:Nat):PtrE:={ k:=k,elem:=77,cells:=2,ins:=[none],outs:=[none],kinds:=[.num,.row,.num] }
def ETr (k:Nat):PtrE:={ k:=k,elem:=77,cells:=2,ins:=[],outs:=[none],kinds:=[.num,.row,.num] }
def tabU (f:FuncId):Option FnE:=cond (Nat.beq f 71) (some (ETkR 1)) (cond (Nat.beq f 72) (some (ETtR 2)) none)
def rbox:BoxT:=⟨77,0,false,[.leaf,.leaf],none,true⟩
noncomputable def flNr:=flat (Zam Try.prog 52)
noncomputable def flTr:=flat (Zam Try.prog 53)
def shNr:Shape:=⟨[(0,.ptr 0 0 0 0),(1,.leaf)],[rbox],[none,some true,none],35,52⟩
def shNrR:Shape:=⟨[(4,.leaf)],[rbox],[none,some true,none],35,52⟩
def shTr:Shape:=⟨[(0,.ptr 0 0 0 0)],[rbox],[some true,none],34,53⟩
def shTrR:Shape:=⟨[(2,.leaf)],[rbox],[none,some true,none],34,53⟩
@[simp] def zMrd1:SX:=.conv .i64 (.cell (.var 0) (.con (.int .i64 0)) 1 0)
@[simp] def zMrd2:SX:=.con (.int .i64 1)
@[simp] def zMrd3:SX:=.con (.string { data:={ toList:=[] } })
@[simp] def zMrd4:SX:=.con (.int .i64 0)
@[simp] def zMrd5:SX:=.len (.var 0)
@[simp] def zMrd6:List SX:=[.var 1,.var 0]
@[simp] def zMrd7:SX:=.bin .lss (.bin .sub zMrd5 zMrd2) zMrd1
@[simp] def zMrd8:Fact:=.idx (.var 0) zMrd4 1 1
@[simp] def zMrd9:SX:=rop ROp.toStr [SX.sub (.var 0) (rop ROp.min2 [zMrd2,zMrd2]) (.bin .add zMrd1 zMrd2) 1]
@[simp] def Zop:SX:=.bin .lss zMrd5 zMrd2
@[simp] def Znb:SX:=.fn 2 [.var 0] 1
@[simp] def Zva:Fact:=.ok (.cell (.var 0) zMrd4 1 0)
@[simp] def Ztc:Fact:=.ok (.fn 2 [.var 0] 0)
theorem tt1:runTo Try.prog fil.noOrc 10000 72 (ETtR 1) [.row] [1]=some ([.ok zMrd5,.ok Zop,.is Zop (.bool true)],[zMrd3,zMrd4,.con (.bool false)]):=by kernel_rfl
theorem tt01:runTo Try.prog fil.noOrc 10000 72 (ETtR 1) [.row] [0,1]=some ([.ok zMrd5,.ok Zop,.is Zop (.bool false),.ok zMrd5,.ok (.bin .sub zMrd5 zMrd2),zMrd8,zMrd8,Zva,.ok zMrd1,.ok zMrd7,.is zMrd7 (.bool true)],[zMrd3,zMrd4,.con (.bool false)]):=by kernel_rfl
theorem tt00:runTo Try.prog fil.noOrc 10000 72 (ETtR 1) [.row] [0,0]=some ([.ok zMrd5,.ok Zop,.is Zop (.bool false),.ok zMrd5,.ok (.bin .sub zMrd5 zMrd2),zMrd8,zMrd8,Zva,.ok zMrd1,.ok zMrd7,.is zMrd7 (.bool false),zMrd8,zMrd8,Zva,.ok zMrd1,.ok (.bin .add zMrd1 zMrd2),le3 (rop ROp.min2 [zMrd2,zMrd2]) (.bin .add zMrd1 zMrd2) zMrd5,.ok zMrd9],[zMrd9,.bin .add zMrd1 zMrd2,.con (.bool true)]):=by kernel_rfl
theorem n0:segTo Try.prog (orcFn tabU) 10000 flNr shNr [0] shNrR [(0,0)]=some (.ret,[.fn 71 (ETkR 1) zMrd6,.ok (.fn 1 zMrd6 0),.is (.fn 1 zMrd6 1) (.bool false),.ok zMrd4,.ok (.con (.bool true))],[zMrd4,.var 1,.con (.bool true)]):=by kernel_rfl
theorem n10:segTo Try.prog (orcFn tabU) 10000 flNr shNr [1,0] shNrR [(0,0)]=some (.ret,[.fn 71 (ETkR 1) zMrd6,.ok (.fn 1 zMrd6 0),.is (.fn 1 zMrd6 1) (.bool true),.is (.var 2) (.bool false),le3 (rop ROp.min2 [.var 0,.var 0]) (.len (.var 1)) (.len (.var 1)),.ok (.fn 1 zMrd6 0),.ok (.var 2)],[.fn 1 zMrd6 0,SX.sub (.var 1) (rop ROp.min2 [.var 0,.var 0]) (.len (.var 1)) 1,.var 2]):=by kernel_rfl
theorem n11:segTo Try.prog (orcFn tabU) 10000 flNr shNr [1,1] shNrR [(0,0)]=some (.ret,[.fn 71 (ETkR 1) zMrd6,.ok (.fn 1 zMrd6 0),.is (.fn 1 zMrd6 1) (.bool true),.is (.var 2) (.bool true),.ok zMrd4,.ok (.var 2)],[zMrd4,.var 1,.var 2]):=by kernel_rfl
theorem x0:segTo Try.prog (orcFn tabU) 10000 flTr shTr [0] shTrR [(0,0)]=some (.ret,[.fn 72 (ETtR 2) [.var 0],Ztc,.ok Znb,.is (.fn 2 [.var 0] 2) (.bool false),.ok zMrd3,.ok (.con (.bool true))],[zMrd3,.var 0,.con (.bool true)]):=by kernel_rfl
theorem x10:segTo Try.prog (orcFn tabU) 10000 flTr shTr [1,0] shTrR [(0,0)]=some (.ret,[.fn 72 (ETtR 2) [.var 0],Ztc,.ok Znb,.is (.fn 2 [.var 0] 2) (.bool true),.is (.var 1) (.bool false),le3 (rop ROp.min2 [Znb,Znb]) zMrd5 zMrd5,Ztc,.ok (.var 1)],[.fn 2 [.var 0] 0,SX.sub (.var 0) (rop ROp.min2 [Znb,Znb]) zMrd5 1,.var 1]):=by kernel_rfl
theorem x11:segTo Try.prog (orcFn tabU) 10000 flTr shTr [1,1] shTrR [(0,0)]=some (.ret,[.fn 72 (ETtR 2) [.var 0],Ztc,.ok Znb,.is (.fn 2 [.var 0] 2) (.bool true),.is (.var 1) (.bool true),.ok zMrd3,.ok (.var 1)],[zMrd3,.var 0,.var 1]):=by kernel_rfl
@[simp] theorem kTkR (k:Nat):(ETkR k).k=k:=rfl
@[simp] theorem kTtR (k:Nat):(ETtR k).k=k:=rfl
@[simp] theorem kNr (k:Nat):(ENr k).k=k:=rfl
@[simp] theorem kTr (k:Nat):(ETr k).k=k:=rfl
def ttQ (l:List UInt8):List PV:=if l.length < 1 \/ l.length - 1 < (l.getD 0 0).toNat then [pS e0,pI 0,pB false] else [pS (ofL ((l.drop 1).take (l.getD 0 0).toNat)),pI (((l.getD 0 0).toNat+1:Nat):Int),pB true]
def RTt (ps qs:List PV):Prop:=∃ l:List UInt8,l.length<=1000000/\ps=[pBy l]/\qs=ttQ l
theorem fTt:∀ ps q1 q2,RTt ps q1->RTt ps q2->q1=q2:=by
 rintro ps q1 q2 ⟨l,_,rfl,rfl⟩ ⟨l',_,h,rfl⟩
 simp only [List.cons.injEq,and_true] at h
 rw [pBy_inj h]
theorem toldTtR (k:Nat):ToldF 72 (ETtR k) (spec RTt):=by
 refine Zbw mixed_ok names_ok (fun _ _=>none) [.row] ?_
 intro ps qs h _
 obtain ⟨l,hl,rfl,rfl⟩:=Zag h
 have rl:=r_len l
 by_cases h1:l.length < 1
 ·have hq:ttQ l=[pS e0,pI 0,pB false]:=by rw [ttQ,if_pos (.inl h1)]
  rw [hq]
  have d1:(l.length:Int) < 1:=by omega
  refine ⟨_,_,_,_,_,_,fil.noOrc_ok,tt1,fun w FP=>?_,?_⟩
  ·simp [Zab,Zaa,Base.ev,SX.ev,evs,Value.oneCell',binPV,rl,d1]
  ·simp [evs,SX.ev]
   rfl
 ·have h0:0 < l.length:=by omega
  have c0:Zgj (pBy l) (pI 0) 1 0=some (pU (l[0].toNat:Int)):=cellY l 0 h0
  have hg:l.getD 0 0=l[0]:=by simp [List.getD,h0]
  have ix:IdxP (some (pBy l)) (some (pI 0)) 1 1:=Zgp l 0 1 .i64 h0 (by decide)
  have ix0:IdxP (some (pBy l)) (some (pI 0)) 1 0:=Zgp l 0 0 .i64 h0 (by decide)
  have hb8:=l[0].toNat_lt
  have d1:¬ (l.length:Int) < 1:=by omega
  have v1:IntKind.i64.wrap ((l.length:Int) - 1)=(l.length:Int) - 1:=wrapI _ (by omega) (by omega)
  have v2:IntKind.i64.wrap (l[0].toNat:Int)=(l[0].toNat:Int):=wrapI _ (by omega) (by omega)
  have v3:IntKind.i64.wrap ((l[0].toNat:Int)+1)=(l[0].toNat:Int)+1:=wrapI _ (by omega) (by omega)
  have rm1:ropPV .min2 [pI 1,pI 1]=some (pI 1):=rfl
  by_cases h2:l.length - 1 < l[0].toNat
  ·have hq:ttQ l=[pS e0,pI 0,pB false]:=by rw [ttQ,hg,if_pos (.inr h2)]
   rw [hq]
   have d2:(l.length:Int) - 1 < (l[0].toNat:Int):=by omega
   refine ⟨_,_,_,_,_,_,fil.noOrc_ok,tt01,fun w FP=>?_,?_⟩
   ·simp [Zab,Zaa,Base.ev,SX.ev,evs,Value.oneCell',binPV,Zay,rl,d1,c0,ix,ix0,v1,v2,d2]
    all_goals omega
   ·simp [evs,SX.ev]
    rfl
  ·have hq:ttQ l=[pS (ofL ((l.drop 1).take l[0].toNat)),pI ((l[0].toNat+1:Nat):Int),pB true]:=by rw [ttQ,hg,if_neg (by omega)]
   rw [hq]
   have d2:¬ (l.length:Int) - 1 < (l[0].toNat:Int):=by omega
   have rs:=Znr l 1 (l[0].toNat+1) (by omega) (by omega)
   rw [show l[0].toNat+1 - 1=l[0].toNat by omega] at rs
   have rs':subPV (pBy l) (pI 1) (pI ((l[0].toNat:Int)+1)) 1=some (pBy ((l.drop 1).take l[0].toNat)):=rs
   have rt:ropPV .toStr [pBy ((l.drop 1).take l[0].toNat)]=some (pS (ofL ((l.drop 1).take l[0].toNat))):=Zd6 _
   have hn:((l[0].toNat+1:Nat):Int)=(l[0].toNat:Int)+1:=by omega
   rw [hn]
   generalize (l.drop 1).take l[0].toNat=y at *
   generalize l[0].toNat=b at *
   refine ⟨_,_,_,_,_,_,fil.noOrc_ok,tt00,fun w FP=>?_,?_⟩
   ·simp [Zab,Zaa,Base.ev,SX.ev,evs,Value.oneCell',binPV,Zay,rl,d1,c0,ix,ix0,v1,v2,v3,d2,rm1,rs',rt]
    all_goals exact ⟨by omega,b+1,by omega,by omega,by omega⟩
   ·simp [evs,SX.ev,binPV,Zay,rl,c0,v1,v2,v3,rm1,rs',rt]
noncomputable def FU:Fns:=fun k=>match k with | 1=>spec RTkB | 2=>spec RTt | _=>fun _=>none
theorem ff1:ToldF 71 (ETkR 1) (FU 1):=rbt.toldTkR 1
theorem ff2:ToldF 72 (ETtR 2) (FU 2):=toldTtR 2
theorem Zns (l:List UInt8) (n:Nat) (h:n<=l.length):subPV (pBy l) (pI (n:Int)) (pI (l.length:Int)) 1=some (pBy (l.drop n)):=by
 rw [Znr l n l.length h (Nat.le_refl _),List.take_of_length_le (by simp)]
theorem Zrs (n:Int):ropPV .min2 [pI n,pI n]=some (pI n):=by simp [ropPV]
def RNr (ps qs:List PV):Prop:=∃ (s:Rd) (n:Nat),s.1.length<=1000000/\1<=n/\n<=7/\ps=[pI (n:Int),pBy s.1,pB s.2]/\qs=[pI (rdN s n).1,pBy (rdN s n).2.1,pB (rdN s n).2.2]
theorem fNr:∀ ps q1 q2,RNr ps q1->RNr ps q2->q1=q2:=by
 rintro ps q1 q2 ⟨⟨l,b⟩,n,_,_,_,rfl,rfl⟩ ⟨⟨l',b'⟩,n',_,_,_,h,rfl⟩
 simp only [List.cons.injEq,PV.v.injEq,Value.int.injEq,Value.bool.injEq,true_and,and_true,Int.ofNat_inj] at h
 obtain ⟨rfl,h,rfl⟩:=h
 rw [pBy_inj h]
set_option maxHeartbeats 1000000 in
theorem Zuf (k:Nat):ToldP 52 (ENr k) (spec RNr):=by
 refine Zks FU _ (Zam Try.prog 52) Try.func52 (by kernel_rfl) shNr (by kernel_rfl) ?_ ?_
 ·intro ps qs h
  obtain ⟨s,n,_,_,_,rfl,rfl⟩:=Zag h
  exact Za7 rfl
 ·intro C ps qs hF h a w hsh
  obtain ⟨⟨l,b⟩,n,hl,h1,h7,rfl,rfl⟩:=Zag h
  simp only at hl hsh
  show wpL Try.prog flNr _ a w
  rw [<- List.append_nil flNr]
  have rl:=r_len l
  have g0:FU 1 [pBy l,pI (n:Int)]=some (if n<=l.length then [pI (num (l.take n)),pB true] else [pI 0,pB false]):=Zaf fTkB ⟨l,n,hl,h1,h7,rfl,rfl⟩
  by_cases hn:n<=l.length
  ·rw [if_pos hn] at g0
   have rd:=Zns l n hn
   have rm:=Zrs (n:Int)
   cases b with
   | true =>
    have e:rdN (l,true) n=(0,(l,true)):=by rw [rdN,if_pos (.inl rfl)]
    rw [e]
    generalize num (l.take n)=z at *
    refine Zad names_ok mixed_ok (Zae tabU) n11 hsh ?_ (fun qs a1 wd hq hx=>⟨nofun,fun _=>⟨.inr rfl,shNrR,_,[SX.var 0,SX.var 1,SX.var 2],hx,by kernel_rfl,?_⟩⟩)
    ·simp [Zab,Zaa,Base.ev,SX.ev,evs,Value.oneCell',hF,g0,ff1,rl]
    ·simp [evs,SX.ev] at hq
     subst hq
     rfl
   | false =>
    have e:rdN (l,false) n=(num (l.take n),(l.drop n,false)):=by rw [rdN,if_neg (by simp;omega)]
    rw [e]
    generalize num (l.take n)=z at *
    refine Zad names_ok mixed_ok (Zae tabU) n10 hsh ?_ (fun qs a1 wd hq hx=>⟨nofun,fun _=>⟨.inr rfl,shNrR,_,[SX.var 0,SX.var 1,SX.var 2],hx,by kernel_rfl,?_⟩⟩)
    ·simp [Zab,Zaa,Base.ev,SX.ev,evs,Value.oneCell',hF,g0,ff1,rl,rm]
     all_goals omega
    ·simp [evs,SX.ev,hF,g0,rl,rd,rm] at hq
     subst hq
     rfl
  ·rw [if_neg hn] at g0
   have e:rdN (l,b) n=(0,(l,true)):=by rw [rdN,if_pos (.inr (by simp only;omega))]
   rw [e]
   refine Zad names_ok mixed_ok (Zae tabU) n0 hsh ?_ (fun qs a1 wd hq hx=>⟨nofun,fun _=>⟨.inr rfl,shNrR,_,[SX.var 0,SX.var 1,SX.var 2],hx,by kernel_rfl,?_⟩⟩)
   ·simp [Zab,Zaa,Base.ev,SX.ev,evs,Value.oneCell',hF,g0,ff1,rl]
   ·simp [evs,SX.ev] at hq
    subst hq
    rfl
def RTr (ps qs:List PV):Prop:=∃ (s:Rd),s.1.length<=1000000/\ps=[pBy s.1,pB s.2]/\qs=[pS (rdT s).1,pBy (rdT s).2.1,pB (rdT s).2.2]
theorem fTr:∀ ps q1 q2,RTr ps q1->RTr ps q2->q1=q2:=by
 rintro ps q1 q2 ⟨⟨l,b⟩,_,rfl,rfl⟩ ⟨⟨l',b'⟩,_,h,rfl⟩
 simp only [List.cons.injEq,PV.v.injEq,Value.bool.injEq,true_and,and_true] at h
 obtain ⟨h,rfl⟩:=h
 rw [pBy_inj h]
set_option maxHeartbeats 1000000 in
theorem Zud (k:Nat):ToldP 53 (ETr k) (spec RTr):=by
 refine Zks FU _ (Zam Try.prog 53) Try.func53 (by kernel_rfl) shTr (by kernel_rfl) ?_ ?_
 ·intro ps qs h
  obtain ⟨s,_,rfl,rfl⟩:=Zag h
  exact Za7 rfl
 ·intro C ps qs hF h a w hsh
  obtain ⟨⟨l,b⟩,hl,rfl,rfl⟩:=Zag h
  simp only at hl hsh
  show wpL Try.prog flTr _ a w
  rw [<- List.append_nil flTr]
  have rl:=r_len l
  have g0:FU 2 [pBy l]=some (ttQ l):=Zaf fTt ⟨l,hl,rfl,rfl⟩
  by_cases hn:l.length < 1 \/ l.length - 1 < (l.getD 0 0).toNat
  ·rw [ttQ,if_pos hn] at g0
   have e:rdT (l,b)=(e0,(l,true)):=by rw [rdT,if_pos (.inr hn)]
   rw [e]
   refine Zad names_ok mixed_ok (Zae tabU) x0 hsh ?_ (fun qs a1 wd hq hx=>⟨nofun,fun _=>⟨.inr rfl,shTrR,_,[SX.var 0,SX.var 1,SX.var 2],hx,by kernel_rfl,?_⟩⟩)
   ·simp [Zab,Zaa,Base.ev,SX.ev,evs,Value.oneCell',hF,g0,ff2,rl]
   ·simp [evs,SX.ev] at hq
    subst hq
    rfl
  ·rw [ttQ,if_neg hn] at g0
   have hm:(l.getD 0 0).toNat+1<=l.length:=by omega
   cases b with
   | true =>
    have e:rdT (l,true)=(e0,(l,true)):=by rw [rdT,if_pos (.inl rfl)]
    rw [e]
    generalize ofL ((l.drop 1).take (l.getD 0 0).toNat)=z at *
    generalize (l.getD 0 0).toNat=m at *
    refine Zad names_ok mixed_ok (Zae tabU) x11 hsh ?_ (fun qs a1 wd hq hx=>⟨nofun,fun _=>⟨.inr rfl,shTrR,_,[SX.var 0,SX.var 1,SX.var 2],hx,by kernel_rfl,?_⟩⟩)
    ·simp [Zab,Zaa,Base.ev,SX.ev,evs,Value.oneCell',hF,g0,ff2,rl]
    ·simp [evs,SX.ev] at hq
     subst hq
     rfl
   | false =>
    have e:rdT (l,false)=(ofL ((l.drop 1).take (l.getD 0 0).toNat),(l.drop ((l.getD 0 0).toNat+1),false)):=by rw [rdT,if_neg (by simp only [Bool.false_eq_true,false_or];exact hn)]
    rw [e]
    obtain ⟨m,hm0⟩:∃ m:Nat,m=(l.getD 0 0).toNat+1:=⟨_,rfl⟩
    rw [<- hm0] at g0 hm ⊢
    have rd:=Zns l m hm
    have rm:=Zrs (m:Int)
    generalize ofL ((l.drop 1).take (l.getD 0 0).toNat)=z at *
    refine Zad names_ok mixed_ok (Zae tabU) x10 hsh ?_ (fun qs a1 wd hq hx=>⟨nofun,fun _=>⟨.inr rfl,shTrR,_,[SX.var 0,SX.var 1,SX.var 2],hx,by kernel_rfl,?_⟩⟩)
    ·simp [Zab,Zaa,Base.ev,SX.ev,evs,Value.oneCell',hF,g0,ff2,rl,rm]
     all_goals omega
    ·simp [evs,SX.ev,hF,g0,rl,rd,rm] at hq
     subst hq
     rfl
noncomputable def FZ:Fns:=fun k=>match k with | 1=>spec RCr | 2=>spec RPuB | _=>fun _=>none
theorem z1:ToldF 65 (ECr 1) (FZ 1):=toldCr 1
theorem z2:ToldF 39 (EPuR 2) (FZ 2):=Zav (rbt.toldPuR 2) rfl rfl rfl rfl
def RSl (ps qs:List PV):Prop:=∃ l:List UInt8,l.length<=1000000/\ps=[pBy l]/\qs=[pBy (sealB l)]
theorem fSl:∀ ps q1 q2,RSl ps q1->RSl ps q2->q1=q2:=by
 rintro ps q1 q2 ⟨l,_,rfl,rfl⟩ ⟨l',_,h,rfl⟩
 simp only [List.cons.injEq,and_true] at h
 rw [pBy_inj h]
theorem Zpp (k:Nat):ToldF 41 (ESl k) (spec RSl):=by
 refine Zbw mixed_ok names_ok FZ [.row] ?_
 intro ps qs h _
 obtain ⟨l,hl,rfl,rfl⟩:=Zag h
 have g1:FZ 1 [pBy l]=some [.v (.int .u16 (crcB l:Int))]:=Zaf fCr ⟨l,hl,rfl,rfl⟩
 have g2:FZ 2 [pBy l,pI (crcB l:Int),pI 2]=some [pBy (sealB l)]:=Zaf fPuB ⟨l,(crcB l:Int),2,hl,by omega,by omega,rfl,rfl⟩
 have hc:=Zll l
 have v1:IntKind.i64.wrap (crcB l:Int)=(crcB l:Int):=wrapI _ (by omega) (by omega)
 refine ⟨_,_,_,_,_,_,Zae tabZ,sl,fun w FP=>?_,?_⟩
 ·simp [Zab,Zaa,Base.ev,SX.ev,evs,Value.oneCell',g1,g2,mrd.z1,mrd.z2,Zay,v1]
 ·simp [evs,SX.ev,g1,g2,Zay,v1]
end Go.Proofs.Ytnomiffghidmbaa.mrd
