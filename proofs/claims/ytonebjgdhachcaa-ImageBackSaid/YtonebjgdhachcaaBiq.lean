/- Numbers and texts as bytes (package bits), put: told, second part. -/
import Derived.Test.YtonebjgdhachcaaBip
namespace Go.Proofs.Ytonebjgdhachcaa.bip
open Go Go.RowKit eng SX Fact fil ima symD
set_option linter.unusedVariables false
set_option linter.unusedSimpArgs false
set_option maxRecDepth 1000000

def EPuB (k:Nat):FnE:={ k:=k,ins:=[none,none,none],leaks:=[false,false,false],outs:=[none],kinds:=[.own 5 1 true] }
def ETxB (k:Nat):FnE:={ k:=k,ins:=[none,none],leaks:=[false,false],outs:=[none],kinds:=[.own 5 1 true] }
def EMsB (k:Nat):FnE:={ k:=k,ins:=[none],leaks:=[false],outs:=[none],kinds:=[.own 5 1 true] }
def tabB (f:FuncId):Option FnE:=cond (Nat.beq f 86) (some (ELow 1)) (cond (Nat.beq f 89) (some (EMsB 2)) none)
noncomputable def flPu:=flat (Zar Try.prog 36)
noncomputable def flMs:=flat (Zar Try.prog 89)
noncomputable def flTx:=flat (Zar Try.prog 40)
def shPu:Shape:=⟨[(0,.leaf),(1,.leaf),(2,.leaf)],[],[some false,none,none],13,36⟩
def shPuR:Shape:=⟨[(6,.own 0 0 1)],[brow 0],[],13,36⟩
def shMs:Shape:=⟨[(0,.leaf)],[],[none],12,89⟩
def shMsR:Shape:=⟨[(2,.own 0 0 1)],[brow 0],[],12,89⟩
def shTx:Shape:=⟨[(0,.leaf),(1,.leaf)],[],[some false,none],10,40⟩
def shTxR:Shape:=⟨[(4,.own 0 0 1)],[brow 0],[],10,40⟩
@[simp] def zBiq1:SX:=.bin .add (.con (.int .i64 0)) (.len (.var 0))
@[simp] def zBiq2:SX:=.bin .add zBiq1 (.len (.fn 1 [.var 1,.var 2] 0))
@[simp] def zBiq3:SX:=.con (.int .i64 0)
@[simp] def zBiq4:SX:=.bin .add zBiq1 (.len (.fn 2 [.var 1] 0))
@[simp] def zBiq5:SX:=rop ROp.cat [.lit 0 [],.var 0]
@[simp] def zBiq6:SX:=rop ROp.cat [.lit 1 [.conv .u8 (.slen (.var 0))],rop ROp.ofStr [.var 0]]
@[simp] def zBiq7:SX:=rop ROp.cat [zBiq5,.fn 1 [.var 1,.var 2] 0]
@[simp] def zBiq8:SX:=rop ROp.cat [zBiq5,.fn 2 [.var 1] 0]
@[simp] def zBiq9:SX:=.bin .sub zBiq2 zBiq3
@[simp] def Zl5:SX:=.bin .sub zBiq4 zBiq3
@[simp] def Zjh:SX:=.slen (.var 0)
@[simp] def Zst:SX:=.len (.fn 1 [.var 1,.var 2] 0)
theorem ms:segTo Try.prog fil.noOrc 10000 flMs shMs [0] shMsR [(0,2)] hApp=some (.ret,[.ok Zjh,.ok (.bin .gtr Zjh (.con (.int .i64 255))),.is (.bin .gtr Zjh (.con (.int .i64 255))) (.bool false),.ok Zjh,.ok (.conv .u8 Zjh),.ok Zjh,same (.len (.lit 1 [.conv .u8 Zjh])) (.len (.lit 1 [.conv .u8 Zjh])),upto (.len zBiq6) 4294967296,same (.len zBiq6) (.len zBiq6)],[zBiq6]):=by kernel_rfl
theorem pu:segTo Try.prog (orcFn tabB) 10000 flPu shPu [1,0,0,0,1,1] shPuR [(3,3)] hApp=some (.ret,[.fn 86 (ELow 1) [.var 1,.var 2],rng zBiq3 Zst,.ok (.len (.var 0)),.ok zBiq1,.ok (.bin .lss zBiq1 zBiq3),.is (.bin .lss zBiq1 zBiq3) (.bool false),.ok zBiq2,.ok (.bin .lss zBiq2 zBiq3),.is (.bin .lss zBiq2 zBiq3) (.bool false),.ok (.bin .lss zBiq2 zBiq3),.is (.bin .lss zBiq2 zBiq3) (.bool false),.ok zBiq9,.ok (.bin .gtr zBiq9 zBiq3),.is (.bin .gtr zBiq9 zBiq3) (.bool true),upto zBiq9 4294967296,rng zBiq3 (.len (rop (ROp.rep [.int .u8 0]) [zBiq9])),upto (.len (rop (ROp.rep [.int .u8 0]) [zBiq9])) 4294967296,cells (.var 0) 1,same zBiq3 (.len (.lit 0 [])),upto (.len zBiq5) 4294967296,same Zst Zst,same (.len zBiq5) (.len zBiq5),upto (.len zBiq7) 4294967296,same (.len zBiq7) (.len zBiq7)],[zBiq7]):=by kernel_rfl
theorem tx:segTo Try.prog (orcFn tabB) 10000 flTx shTx [1,0,0,0,1,1] shTxR [(3,3)] hApp=some (.ret,[.fn 89 (EMsB 2) [.var 1],rng zBiq3 (.len (.fn 2 [.var 1] 0)),.ok (.len (.var 0)),.ok zBiq1,.ok (.bin .lss zBiq1 zBiq3),.is (.bin .lss zBiq1 zBiq3) (.bool false),.ok zBiq4,.ok (.bin .lss zBiq4 zBiq3),.is (.bin .lss zBiq4 zBiq3) (.bool false),.ok (.bin .lss zBiq4 zBiq3),.is (.bin .lss zBiq4 zBiq3) (.bool false),.ok Zl5,.ok (.bin .gtr Zl5 zBiq3),.is (.bin .gtr Zl5 zBiq3) (.bool true),upto Zl5 4294967296,rng zBiq3 (.len (rop (ROp.rep [.int .u8 0]) [Zl5])),upto (.len (rop (ROp.rep [.int .u8 0]) [Zl5])) 4294967296,cells (.var 0) 1,same zBiq3 (.len (.lit 0 [])),upto (.len zBiq5) 4294967296,same (.len (.fn 2 [.var 1] 0)) (.len (.fn 2 [.var 1] 0)),same (.len zBiq5) (.len zBiq5),upto (.len zBiq8) 4294967296,same (.len zBiq8) (.len zBiq8)],[zBiq8]):=by kernel_rfl

@[simp] theorem kMsB (k:Nat):(EMsB k).k=k:=rfl
@[simp] theorem kPuB (k:Nat):(EPuB k).k=k:=rfl
@[simp] theorem kTxB (k:Nat):(ETxB k).k=k:=rfl
theorem r_cat0Y (l:List UInt8):ropPV .cat [.row 0 [],pBy l]=some (pBy l):=by simp [ropPV,pBy]
theorem r_cat1Y (b:UInt8) (z:Int) (hz:z=(b.toNat:Int)) (l:List UInt8):ropPV .cat [.row 1 [.v (.int .u8 z)],pBy l]=some (pBy (b :: l)):=by
 subst hz
 have:=r_cat [b] l
 simpa [pBy] using this
theorem u8_size (s:ByteArray) (h:s.size<=255):IntKind.u8.wrap (s.size:Int)=((UInt8.ofNat s.size).toNat:Int):=by
 rw [IntKind.wrap_u8,UInt8.toNat_ofNat']
 omega
theorem Zjr {l:List UInt8} (h:1<=l.length):∃ n cs,some (pBy l)=some (PV.row (n+1) cs):=by
 refine ⟨l.length - 1,l.map fun b=>.v (.int .u8 b.toNat),?_⟩
 simp only [pBy,Option.some.injEq,PV.row.injEq,and_true]
 omega
def msB (s:ByteArray):List UInt8:=UInt8.ofNat s.size :: s.data.toList
@[simp] theorem Zf7 (s:ByteArray):(msB s).length=s.size+1:=by simp [msB]
def RMsB (ps qs:List PV):Prop:=∃ s:ByteArray,s.size<=255/\ps=[pS s]/\qs=[pBy (msB s)]
theorem fMsB:∀ ps q1 q2,RMsB ps q1->RMsB ps q2->q1=q2:=by
 rintro ps q1 q2 ⟨s,_,rfl,rfl⟩ ⟨s',_,h,rfl⟩
 simp only [List.cons.injEq,PV.v.injEq,Value.string.injEq,and_true] at h
 rw [h]
theorem toldMsB (k:Nat):ToldF 89 (EMsB k) (spec RMsB):=by
 refine Zjn (fun _ _=>none) _ (Zar Try.prog 89) Try.func89 (by kernel_rfl) shMs (by kernel_rfl) ?_ ?_
 ·intro ps qs h i hi
  obtain ⟨s,_,rfl,rfl⟩:=Zai h
  simp [shMs] at hi
  match i,hi with
  | 0,hi=>exact ⟨_,rfl,rfl⟩
  | i+1,hi=>simp at hi
 ·intro C ps qs hF h a w hsh
  obtain ⟨s,hs,rfl,rfl⟩:=Zai h
  show wpL Try.prog flMs _ a w
  rw [<- List.append_nil flMs]
  have u:=u8_size s hs
  obtain ⟨b,hb⟩:∃ b,b=UInt8.ofNat s.size:=⟨_,rfl⟩
  have rc:ropPV .cat [.row 1 [.v (.int .u8 (b.toNat:Int))],pBy s.data.toList]=some (pBy (msB s)):=by rw [r_cat1Y _ _ rfl _,hb];rfl
  rw [<- hb] at u
  have ro:=Zil s
  obtain ⟨q,hq0⟩:∃ q:Nat,q=s.size+1:=⟨_,rfl⟩
  have rl:lenPV (pBy (msB s))=some (pI (q:Int)):=by rw [r_len,Zf7,hq0]
  have hd:¬ (255:Int) < (s.size:Int):=by omega
  refine Zag Zac Zad fil.noOrc_ok ms hsh ?_ (fun qs a1 wd hq hx=>⟨fun h=>(by cases h),fun _=>⟨.inr rfl,shMsR,_,[SX.var 0],[0],hx,by kernel_rfl,?_,?_⟩⟩)
  ·simp only [fmC,fmN]
   simp [Zab,Zaa,Base.ev,SX.ev,evs,Value.oneCell',binPV,Zev,Za4,u,rc,ro,rl,hd,Zdl]
   all_goals omega
  ·simp [evs,SX.ev,Zev,Za4,u,ro,rc] at hq
   subst hq
   rfl
  ·intro j hj
   simp at hj
   subst hj
   exact Zjr (by simp)
noncomputable def FB:Fns:=fun k=>match k with | 1=>spec RLow | 2=>spec RMsB | _=>fun _=>none
theorem pp1:ToldF 86 (ELow 1) (FB 1):=toldLow 1
theorem pp2:ToldF 89 (EMsB 2) (FB 2):=toldMsB 2
def RPuB (ps qs:List PV):Prop:=∃ (l:List UInt8) (v n:Int),l.length<=1000000/\1<=n/\n<=8/\ps=[pBy l,pI v,pI n]/\qs=[pBy (l++low v n.toNat)]
theorem fPuB:∀ ps q1 q2,RPuB ps q1->RPuB ps q2->q1=q2:=by
 rintro ps q1 q2 ⟨l,v,n,_,_,_,rfl,rfl⟩ ⟨l',v',n',_,_,_,h,rfl⟩
 simp only [List.cons.injEq,PV.v.injEq,Value.int.injEq,true_and,and_true] at h
 rw [Zek h.1,h.2.1,h.2.2]
theorem toldPuB (k:Nat):ToldF 36 (EPuB k) (spec RPuB):=by
 refine Zjn FB _ (Zar Try.prog 36) Try.func36 (by kernel_rfl) shPu (by kernel_rfl) ?_ ?_
 ·intro ps qs h i hi
  obtain ⟨l,v,n,_,_,_,rfl,rfl⟩:=Zai h
  simp [shPu] at hi
  match i,hi with
  | 0,hi=>simp at hi
  | 1,hi=>exact ⟨_,rfl,rfl⟩
  | 2,hi=>exact ⟨_,rfl,rfl⟩
  | i+3,hi=>simp at hi
 ·intro C ps qs hF h a w hsh
  obtain ⟨l,v,n,hl,h1,h8,rfl,rfl⟩:=Zai h
  show wpL Try.prog flPu _ a w
  rw [<- List.append_nil flPu]
  obtain ⟨m,rfl⟩:∃ m:Nat,n=(m:Int):=⟨n.toNat,by omega⟩
  have g1:FB 1 [pI v,pI (m:Int)]=some [pBy (low v m)]:=Zao fLow ⟨v,m,rfl,by rw [lowB,if_pos ⟨h1,h8⟩];rfl⟩
  have hll:(low v m).length=m:=Zcm v m
  show wpL Try.prog (flPu++[]) (fun e a' w'=>_) a w
  simp only [Int.toNat_natCast]
  generalize low v m=y at *
  have rl:=r_len l
  have rly:=r_len y
  rw [hll] at rly
  have v1:IntKind.i64.wrap (l.length:Int)=(l.length:Int):=wrapI _ (by omega) (by omega)
  have v2:IntKind.i64.wrap ((l.length:Int)+(m:Int))=((l.length+m:Nat):Int):=by rw [wrapI _ (by omega) (by omega)];omega
  have v3:IntKind.i64.wrap ((l.length+m:Nat):Int)=((l.length+m:Nat):Int):=wrapI _ (by omega) (by omega)
  have d1:¬ ((l.length:Int) < 0):=by omega
  have d2:¬ (((l.length+m:Nat):Int) < 0):=by omega
  have d3:(0:Int) < ((l.length+m:Nat):Int):=by omega
  have c0:=r_cat0Y l
  have c1:=r_cat l y
  have rlc:lenPV (pBy (l++y))=some (pI ((l.length+m:Nat):Int)):=by rw [r_len,List.length_append,hll]
  have cb:=cellsP_by l (by omega)
  have hne:1<=(l++y).length:=by rw [List.length_append];omega
  generalize l++y=z at *
  generalize hT:l.length+m=T at *
  obtain ⟨rp,hrp⟩:∃ rp,rp=List.replicate T (0:UInt8):=⟨_,rfl⟩
  have rr:ropPV (.rep [.int .u8 0]) [pI (T:Int)]=some (pBy rp):=by rw [r_rep _ (by omega),hrp,Int.toNat_natCast]
  have rlr:lenPV (pBy rp)=some (pI (T:Int)):=by rw [r_len,hrp,List.length_replicate]
  clear hrp
  refine Zag Zac Zad (Zaj tabB) pu hsh ?_ (fun qs a1 wd hq hx=>⟨fun h=>(by cases h),fun _=>⟨.inr rfl,shPuR,_,[SX.var 0],[0],hx,by kernel_rfl,?_,?_⟩⟩)
  ·simp only [fmC,fmN]
   simp [Zab,Zaa,Base.ev,SX.ev,evs,Value.oneCell',hF,g1,pp1,binPV,rl,rly,v1,v2,v3,d1,d2,d3,rr,rlr,c0,c1,rlc,cb,Zdl]
   all_goals omega
  ·simp [evs,SX.ev,hF,g1,c0,c1] at hq
   subst hq
   rfl
  ·intro j hj
   simp at hj
   subst hj
   exact Zjr hne
def RTxB (ps qs:List PV):Prop:=∃ (l:List UInt8) (s:ByteArray),l.length<=1000000/\s.size<=255/\ps=[pBy l,pS s]/\qs=[pBy (l++msB s)]
theorem fTxB:∀ ps q1 q2,RTxB ps q1->RTxB ps q2->q1=q2:=by
 rintro ps q1 q2 ⟨l,s,_,_,rfl,rfl⟩ ⟨l',s',_,_,h,rfl⟩
 simp only [List.cons.injEq,PV.v.injEq,Value.string.injEq,true_and,and_true] at h
 rw [Zek h.1,h.2]
theorem toldTxB (k:Nat):ToldF 40 (ETxB k) (spec RTxB):=by
 refine Zjn FB _ (Zar Try.prog 40) Try.func40 (by kernel_rfl) shTx (by kernel_rfl) ?_ ?_
 ·intro ps qs h i hi
  obtain ⟨l,s,_,_,rfl,rfl⟩:=Zai h
  simp [shTx] at hi
  match i,hi with
  | 0,hi=>simp at hi
  | 1,hi=>exact ⟨_,rfl,rfl⟩
  | i+2,hi=>simp at hi
 ·intro C ps qs hF h a w hsh
  obtain ⟨l,s,hl,hs,rfl,rfl⟩:=Zai h
  show wpL Try.prog flTx _ a w
  rw [<- List.append_nil flTx]
  obtain ⟨m,hm⟩:∃ m:Nat,m=s.size+1:=⟨_,rfl⟩
  have g1:FB 2 [pS s]=some [pBy (msB s)]:=Zao fMsB ⟨s,hs,rfl,rfl⟩
  have hll:(msB s).length=m:=by rw [Zf7,hm]
  have hm1:1<=m:=by omega
  have hm8:m<=256:=by omega
  clear hm
  generalize msB s=y at *
  have rl:=r_len l
  have rly:=r_len y
  rw [hll] at rly
  have v1:IntKind.i64.wrap (l.length:Int)=(l.length:Int):=wrapI _ (by omega) (by omega)
  have v2:IntKind.i64.wrap ((l.length:Int)+(m:Int))=((l.length+m:Nat):Int):=by rw [wrapI _ (by omega) (by omega)];omega
  have v3:IntKind.i64.wrap ((l.length+m:Nat):Int)=((l.length+m:Nat):Int):=wrapI _ (by omega) (by omega)
  have d1:¬ ((l.length:Int) < 0):=by omega
  have d2:¬ (((l.length+m:Nat):Int) < 0):=by omega
  have d3:(0:Int) < ((l.length+m:Nat):Int):=by omega
  have c0:=r_cat0Y l
  have c1:=r_cat l y
  have rlc:lenPV (pBy (l++y))=some (pI ((l.length+m:Nat):Int)):=by rw [r_len,List.length_append,hll]
  have cb:=cellsP_by l (by omega)
  have hne:1<=(l++y).length:=by rw [List.length_append];omega
  generalize l++y=z at *
  generalize hT:l.length+m=T at *
  obtain ⟨rp,hrp⟩:∃ rp,rp=List.replicate T (0:UInt8):=⟨_,rfl⟩
  have rr:ropPV (.rep [.int .u8 0]) [pI (T:Int)]=some (pBy rp):=by rw [r_rep _ (by omega),hrp,Int.toNat_natCast]
  have rlr:lenPV (pBy rp)=some (pI (T:Int)):=by rw [r_len,hrp,List.length_replicate]
  clear hrp
  refine Zag Zac Zad (Zaj tabB) tx hsh ?_ (fun qs a1 wd hq hx=>⟨fun h=>(by cases h),fun _=>⟨.inr rfl,shTxR,_,[SX.var 0],[0],hx,by kernel_rfl,?_,?_⟩⟩)
  ·simp only [fmC,fmN]
   simp [Zab,Zaa,Base.ev,SX.ev,evs,Value.oneCell',hF,g1,pp2,binPV,rl,rly,v1,v2,v3,d1,d2,d3,rr,rlr,c0,c1,rlc,cb,Zdl]
   all_goals omega
  ·simp [evs,SX.ev,hF,g1,c0,c1] at hq
   subst hq
   rfl
  ·intro j hj
   simp at hj
   subst hj
   exact Zjr hne

end Go.Proofs.Ytonebjgdhachcaa.bip
