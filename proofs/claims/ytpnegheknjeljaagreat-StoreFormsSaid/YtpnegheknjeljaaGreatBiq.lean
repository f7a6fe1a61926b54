/- Numbers and texts as bytes (package bits), put: told, second part. -/
import Derived.Test.YtpnegheknjeljaaGreatBip
namespace Go.Proofs.YtpnegheknjeljaaGreat.bip
open Go Go.RowKit eng SX Fact fil ima symD
set_option linter.unusedVariables false
set_option linter.unusedSimpArgs false
set_option maxRecDepth 1000000

def EPuB (k:Nat):FnE:={ k:=k,ins:=[none,none,none],leaks:=[false,false,false],outs:=[none],kinds:=[.own 5 1 true] }
def ETxB (k:Nat):FnE:={ k:=k,ins:=[none,none],leaks:=[false,false],outs:=[none],kinds:=[.own 5 1 true] }
def EMsB (k:Nat):FnE:={ k:=k,ins:=[none],leaks:=[false],outs:=[none],kinds:=[.own 5 1 true] }
def tabB (f:FuncId):Option FnE:=cond (Nat.beq f 179) (some (ELow 1)) (cond (Nat.beq f 180) (some (EMsB 2)) none)
noncomputable def flPu:=flat (Zat Tryz.prog 168)
noncomputable def flMs:=flat (Zat Tryz.prog 180)
noncomputable def flTx:=flat (Zat Tryz.prog 169)
def shPu:Shape:=⟨[(0,.leaf),(1,.leaf),(2,.leaf)],[],[some false,none,none],13,168⟩
def shPuR:Shape:=⟨[(6,.own 0 0 1)],[brow 0],[],13,168⟩
def shMs:Shape:=⟨[(0,.leaf)],[],[none],12,180⟩
def shMsR:Shape:=⟨[(2,.own 0 0 1)],[brow 0],[],12,180⟩
def shTx:Shape:=⟨[(0,.leaf),(1,.leaf)],[],[some false,none],10,169⟩
def shTxR:Shape:=⟨[(4,.own 0 0 1)],[brow 0],[],10,169⟩
@[simp] def Zgx:SX:=.bin .add (.con (.int .i64 0)) (.len (.var 0))
@[simp] def Zl4:SX:=.bin .add Zgx (.len (.fn 1 [.var 1,.var 2] 0))
@[simp] def Zl3:SX:=.bin .add Zgx (.len (.fn 2 [.var 1] 0))
@[simp] def Zdm:SX:=rop ROp.cat [.lit 0 [],.var 0]
@[simp] def Za9:SX:=.con (.int .i64 0)
@[simp] def Zjp:SX:=rop ROp.cat [.lit 1 [.conv .u8 (.slen (.var 0))],rop ROp.ofStr [.var 0]]
@[simp] def Zjo:SX:=rop ROp.cat [Zdm,.fn 1 [.var 1,.var 2] 0]
@[simp] def Zfa:SX:=.bin .sub Zl4 Za9
@[simp] def Ze9:SX:=.bin .sub Zl3 Za9
@[simp] def Zh2:SX:=rop ROp.cat [Zdm,.fn 2 [.var 1] 0]
@[simp] def Zh1:SX:=.bin .lss Zgx Za9
@[simp] def Zh0:SX:=.bin .lss Zl4 Za9
@[simp] def Zhz:SX:=.bin .lss Zl3 Za9
theorem ms:segTo Tryz.prog fil.noOrc 10000 flMs shMs [0] shMsR [(0,2)] hApp=some (.ret,[.ok (.slen (.var 0)),.ok (.bin .gtr (.slen (.var 0)) (.con (.int .i64 255))),.is (.bin .gtr (.slen (.var 0)) (.con (.int .i64 255))) (.bool false),.ok (.slen (.var 0)),.ok (.conv .u8 (.slen (.var 0))),.ok (.slen (.var 0)),same (.len (.lit 1 [.conv .u8 (.slen (.var 0))])) (.len (.lit 1 [.conv .u8 (.slen (.var 0))])),upto (.len Zjp) 4294967296,same (.len Zjp) (.len Zjp)],[Zjp]):=by kernel_rfl
theorem pu:segTo Tryz.prog (orcFn tabB) 10000 flPu shPu [1,0,0,0,1,1] shPuR [(3,3)] hApp=some (.ret,[.fn 179 (ELow 1) [.var 1,.var 2],rng Za9 (.len (.fn 1 [.var 1,.var 2] 0)),.ok (.len (.var 0)),.ok Zgx,.ok Zh1,.is Zh1 (.bool false),.ok Zl4,.ok Zh0,.is Zh0 (.bool false),.ok Zh0,.is Zh0 (.bool false),.ok Zfa,.ok (.bin .gtr Zfa Za9),.is (.bin .gtr Zfa Za9) (.bool true),upto Zfa 4294967296,rng Za9 (.len (rop (ROp.rep [.int .u8 0]) [Zfa])),upto (.len (rop (ROp.rep [.int .u8 0]) [Zfa])) 4294967296,cells (.var 0) 1,same Za9 (.len (.lit 0 [])),upto (.len Zdm) 4294967296,same (.len (.fn 1 [.var 1,.var 2] 0)) (.len (.fn 1 [.var 1,.var 2] 0)),same (.len Zdm) (.len Zdm),upto (.len Zjo) 4294967296,same (.len Zjo) (.len Zjo)],[Zjo]):=by kernel_rfl
theorem tx:segTo Tryz.prog (orcFn tabB) 10000 flTx shTx [1,0,0,0,1,1] shTxR [(3,3)] hApp=some (.ret,[.fn 180 (EMsB 2) [.var 1],rng Za9 (.len (.fn 2 [.var 1] 0)),.ok (.len (.var 0)),.ok Zgx,.ok Zh1,.is Zh1 (.bool false),.ok Zl3,.ok Zhz,.is Zhz (.bool false),.ok Zhz,.is Zhz (.bool false),.ok Ze9,.ok (.bin .gtr Ze9 Za9),.is (.bin .gtr Ze9 Za9) (.bool true),upto Ze9 4294967296,rng Za9 (.len (rop (ROp.rep [.int .u8 0]) [Ze9])),upto (.len (rop (ROp.rep [.int .u8 0]) [Ze9])) 4294967296,cells (.var 0) 1,same Za9 (.len (.lit 0 [])),upto (.len Zdm) 4294967296,same (.len (.fn 2 [.var 1] 0)) (.len (.fn 2 [.var 1] 0)),same (.len Zdm) (.len Zdm),upto (.len Zh2) 4294967296,same (.len Zh2) (.len Zh2)],[Zh2]):=by kernel_rfl

@[simp] theorem kMsB (k:Nat):(EMsB k).k=k:=rfl
@[simp] theorem kPuB (k:Nat):(EPuB k).k=k:=rfl
@[simp] theorem kTxB (k:Nat):(ETxB k).k=k:=rfl
theorem r_cat0Y (l:List UInt8):ropPV .cat [.row 0 [],pBy l]=some (pBy l):=by simp [ropPV,pBy]
theorem r_cat1Y (b:UInt8) (z:Int) (hz:z=(b.toNat:Int)) (l:List UInt8):ropPV .cat [.row 1 [.v (.int .u8 z)],pBy l]=some (pBy (b :: l)):=by
 subst hz
 have:=r_cat [b] l
 simpa [pBy] using this
theorem u8_size (s:ByteArray) (h:s.size<=255):IntKind.u8.wrap (s.size:Int)=((UInt8.ofNat s.size).toNat:Int):=by
 rw [IntKind.wrap_u8,UInt8.toNat_ofNat']
 omega
theorem Zm1 {l:List UInt8} (h:1<=l.length):∃ n cs,some (pBy l)=some (PV.row (n+1) cs):=by
 refine ⟨l.length - 1,l.map fun b=>.v (.int .u8 b.toNat),?_⟩
 simp only [pBy,Option.some.injEq,PV.row.injEq,and_true]
 omega
def msB (s:ByteArray):List UInt8:=UInt8.ofNat s.size :: s.data.toList
@[simp] theorem Zjz (s:ByteArray):(msB s).length=s.size+1:=by simp [msB]
def RMsB (ps qs:List PV):Prop:=∃ s:ByteArray,s.size<=255/\ps=[pS s]/\qs=[pBy (msB s)]
theorem fMsB:∀ ps q1 q2,RMsB ps q1->RMsB ps q2->q1=q2:=by
 rintro ps q1 q2 ⟨s,_,rfl,rfl⟩ ⟨s',_,h,rfl⟩
 simp only [List.cons.injEq,PV.v.injEq,Value.string.injEq,and_true] at h
 rw [h]
theorem toldMsB (k:Nat):ToldF 180 (EMsB k) (spec RMsB):=by
 refine Zmx (fun _ _=>none) _ (Zat Tryz.prog 180) Tryz.func180 (by kernel_rfl) shMs (by kernel_rfl) ?_ ?_
 ·intro ps qs h
  obtain ⟨s,_,rfl,rfl⟩:=Zah h
  exact Zc0 rfl
 ·intro C ps qs hF h a w hsh
  obtain ⟨s,hs,rfl,rfl⟩:=Zah h
  show wpL Tryz.prog flMs _ a w
  rw [<- List.append_nil flMs]
  have u:=u8_size s hs
  obtain ⟨b,hb⟩:∃ b,b=UInt8.ofNat s.size:=⟨_,rfl⟩
  have rc:ropPV .cat [.row 1 [.v (.int .u8 (b.toNat:Int))],pBy s.data.toList]=some (pBy (msB s)):=by rw [r_cat1Y _ _ rfl _,hb];rfl
  rw [<- hb] at u
  have ro:=Zov s
  obtain ⟨q,hq0⟩:∃ q:Nat,q=s.size+1:=⟨_,rfl⟩
  have rl:lenPV (pBy (msB s))=some (pI (q:Int)):=by rw [r_len,Zjz,hq0]
  have hd:¬ (255:Int) < (s.size:Int):=by omega
  refine Zae names_ok mixed_ok fil.noOrc_ok ms hsh ?_ (fun qs a1 wd hq hx=>⟨nofun,fun _=>⟨.inr rfl,shMsR,_,[SX.var 0],[0],hx,by kernel_rfl,?_,?_⟩⟩)
  ·simp [Zab,Zaa,Base.ev,SX.ev,evs,Value.oneCell',binPV,Zig,Zbc,u,rc,ro,rl,hd,Zgk]
   all_goals omega
  ·simp [evs,SX.ev,Zig,Zbc,u,ro,rc] at hq
   subst hq
   rfl
  ·intro j hj
   simp at hj
   subst hj
   exact Zm1 (by simp)
noncomputable def FB:Fns:=fun k=>match k with | 1=>spec RLow | 2=>spec RMsB | _=>fun _=>none
theorem pp1:ToldF 179 (ELow 1) (FB 1):=toldLow 1
theorem pp2:ToldF 180 (EMsB 2) (FB 2):=toldMsB 2
def RPuB (ps qs:List PV):Prop:=∃ (l:List UInt8) (v n:Int),l.length<=1000000/\1<=n/\n<=8/\ps=[pBy l,pI v,pI n]/\qs=[pBy (l++low v n.toNat)]
theorem fPuB:∀ ps q1 q2,RPuB ps q1->RPuB ps q2->q1=q2:=by
 rintro ps q1 q2 ⟨l,v,n,_,_,_,rfl,rfl⟩ ⟨l',v',n',_,_,_,h,rfl⟩
 simp only [List.cons.injEq,PV.v.injEq,Value.int.injEq,true_and,and_true] at h
 rw [Zgi h.1,h.2.1,h.2.2]
theorem toldPuB (k:Nat):ToldF 168 (EPuB k) (spec RPuB):=by
 refine Zmx FB _ (Zat Tryz.prog 168) Tryz.func168 (by kernel_rfl) shPu (by kernel_rfl) ?_ ?_
 ·intro ps qs h
  obtain ⟨l,v,n,_,_,_,rfl,rfl⟩:=Zah h
  exact Zc0 rfl
 ·intro C ps qs hF h a w hsh
  obtain ⟨l,v,n,hl,h1,h8,rfl,rfl⟩:=Zah h
  show wpL Tryz.prog flPu _ a w
  rw [<- List.append_nil flPu]
  obtain ⟨m,rfl⟩:∃ m:Nat,n=(m:Int):=⟨n.toNat,by omega⟩
  have g1:FB 1 [pI v,pI (m:Int)]=some [pBy (low v m)]:=Zap fLow ⟨v,m,rfl,by rw [lowB,if_pos ⟨h1,h8⟩];rfl⟩
  have hll:(low v m).length=m:=Zdp v m
  show wpL Tryz.prog (flPu++[]) (fun e a' w'=>_) a w
  simp only [Int.toNat_natCast]
  generalize low v m=y at *
  have rl:=r_len l
  have rly:=r_len y
  rw [hll] at rly
  have v1:IntKind.i64.wrap (l.length:Int)=(l.length:Int):=wrapI _ (by omega) (by omega)
  have v2:IntKind.i64.wrap ((l.length:Int)+(m:Int))=((l.length+m:Nat):Int):=by rw [wrapI _ (by omega) (by omega)];omega
  have v3:IntKind.i64.wrap ((l.length+m:Nat):Int)=((l.length+m:Nat):Int):=wrapI _ (by omega) (by omega)
  have d1:¬ ((l.length:Int) < 0):=by omega
  have d2:¬ (((l.length+m:Nat):Int) < 0):=by omega
  have d3:(0:Int) < ((l.length+m:Nat):Int):=by omega
  have c0:=r_cat0Y l
  have c1:=r_cat l y
  have rlc:lenPV (pBy (l++y))=some (pI ((l.length+m:Nat):Int)):=by rw [r_len,List.length_append,hll]
  have cb:=cellsP_by l (by omega)
  have hne:1<=(l++y).length:=by rw [List.length_append];omega
  generalize l++y=z at *
  generalize hT:l.length+m=T at *
  obtain ⟨rp,hrp⟩:∃ rp,rp=List.replicate T (0:UInt8):=⟨_,rfl⟩
  have rr:ropPV (.rep [.int .u8 0]) [pI (T:Int)]=some (pBy rp):=by rw [r_rep _ (by omega),hrp,Int.toNat_natCast]
  have rlr:lenPV (pBy rp)=some (pI (T:Int)):=by rw [r_len,hrp,List.length_replicate]
  clear hrp
  refine Zae names_ok mixed_ok (Zar tabB) pu hsh ?_ (fun qs a1 wd hq hx=>⟨nofun,fun _=>⟨.inr rfl,shPuR,_,[SX.var 0],[0],hx,by kernel_rfl,?_,?_⟩⟩)
  ·simp [Zab,Zaa,Base.ev,SX.ev,evs,Value.oneCell',hF,g1,pp1,binPV,rl,rly,v1,v2,v3,d1,d2,d3,rr,rlr,c0,c1,rlc,cb,Zgk]
   all_goals omega
  ·simp [evs,SX.ev,hF,g1,c0,c1] at hq
   subst hq
   rfl
  ·intro j hj
   simp at hj
   subst hj
   exact Zm1 hne
def RTxB (ps qs:List PV):Prop:=∃ (l:List UInt8) (s:ByteArray),l.length<=1000000/\s.size<=255/\ps=[pBy l,pS s]/\qs=[pBy (l++msB s)]
theorem fTxB:∀ ps q1 q2,RTxB ps q1->RTxB ps q2->q1=q2:=by
 rintro ps q1 q2 ⟨l,s,_,_,rfl,rfl⟩ ⟨l',s',_,_,h,rfl⟩
 simp only [List.cons.injEq,PV.v.injEq,Value.string.injEq,true_and,and_true] at h
 rw [Zgi h.1,h.2]
theorem toldTxB (k:Nat):ToldF 169 (ETxB k) (spec RTxB):=by
 refine Zmx FB _ (Zat Tryz.prog 169) Tryz.func169 (by kernel_rfl) shTx (by kernel_rfl) ?_ ?_
 ·intro ps qs h
  obtain ⟨l,s,_,_,rfl,rfl⟩:=Zah h
  exact Zc0 rfl
 ·intro C ps qs hF h a w hsh
  obtain ⟨l,s,hl,hs,rfl,rfl⟩:=Zah h
  show wpL Tryz.prog flTx _ a w
  rw [<- List.append_nil flTx]
  obtain ⟨m,hm⟩:∃ m:Nat,m=s.size+1:=⟨_,rfl⟩
  have g1:FB 2 [pS s]=some [pBy (msB s)]:=Zap fMsB ⟨s,hs,rfl,rfl⟩
  have hll:(msB s).length=m:=by rw [Zjz,hm]
  have hm1:1<=m:=by omega
  have hm8:m<=256:=by omega
  clear hm
  generalize msB s=y at *
  have rl:=r_len l
  have rly:=r_len y
  rw [hll] at rly
  have v1:IntKind.i64.wrap (l.length:Int)=(l.length:Int):=wrapI _ (by omega) (by omega)
  have v2:IntKind.i64.wrap ((l.length:Int)+(m:Int))=((l.length+m:Nat):Int):=by rw [wrapI _ (by omega) (by omega)];omega
  have v3:IntKind.i64.wrap ((l.length+m:Nat):Int)=((l.length+m:Nat):Int):=wrapI _ (by omega) (by omega)
  have d1:¬ ((l.length:Int) < 0):=by omega
  have d2:¬ (((l.length+m:Nat):Int) < 0):=by omega
  have d3:(0:Int) < ((l.length+m:Nat):Int):=by omega
  have c0:=r_cat0Y l
  have c1:=r_cat l y
  have rlc:lenPV (pBy (l++y))=some (pI ((l.length+m:Nat):Int)):=by rw [r_len,List.length_append,hll]
  have cb:=cellsP_by l (by omega)
  have hne:1<=(l++y).length:=by rw [List.length_append];omega
  generalize l++y=z at *
  generalize hT:l.length+m=T at *
  obtain ⟨rp,hrp⟩:∃ rp,rp=List.replicate T (0:UInt8):=⟨_,rfl⟩
  have rr:ropPV (.rep [.int .u8 0]) [pI (T:Int)]=some (pBy rp):=by rw [r_rep _ (by omega),hrp,Int.toNat_natCast]
  have rlr:lenPV (pBy rp)=some (pI (T:Int)):=by rw [r_len,hrp,List.length_replicate]
  clear hrp
  refine Zae names_ok mixed_ok (Zar tabB) tx hsh ?_ (fun qs a1 wd hq hx=>⟨nofun,fun _=>⟨.inr rfl,shTxR,_,[SX.var 0],[0],hx,by kernel_rfl,?_,?_⟩⟩)
  ·simp [Zab,Zaa,Base.ev,SX.ev,evs,Value.oneCell',hF,g1,pp2,binPV,rl,rly,v1,v2,v3,d1,d2,d3,rr,rlr,c0,c1,rlc,cb,Zgk]
   all_goals omega
  ·simp [evs,SX.ev,hF,g1,c0,c1] at hq
   subst hq
   rfl
  ·intro j hj
   simp at hj
   subst hj
   exact Zm1 hne

end Go.Proofs.YtpnegheknjeljaaGreat.bip
