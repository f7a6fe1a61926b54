/- What is put of a state, one behind the other (package image): told. -/
import Derived.Test.YtpnegheknjeljaaGreatBiq
import Derived.Test.YtpnegheknjeljaaGreatIma
namespace Go.Proofs.YtpnegheknjeljaaGreat.iws
open Go Go.RowKit eng SX Fact fil ima symD sta
open bip
open dirs (encF cellF FileM)
open fileFronts (Zac)
set_option linter.unusedVariables false
set_option linter.unusedSimpArgs false
set_option maxRecDepth 1000000

def isApp:Op->Bool | .call { callee:=.builtin .append,.. }=>true | .makeSlice ..=>true | _=>false
def hApp (_:FuncId) (o:Oper):Option Hint:=cond (isApp o.op) (some .own) none
def EWst (k:Nat):PtrE:={ k:=k,elem:=177,cells:=1,ins:=[some 3],outs:=[],kinds:=[.own 5 1 true] }
def tabW (f:FuncId):Option FnE:=cond (Nat.beq f 168) (some (EPuB 1)) (cond (Nat.beq f 169) (some (ETxB 2)) none)
def wb0:BoxT:=⟨177,0,false,[.leaf],none,true⟩
def wbo (j k:Nat):BoxT:=⟨177,0,false,[.own j k 1],none,true⟩
def sbx:BoxT:=⟨33,0,false,[.leaf,.leaf,.leaf],none,false⟩
noncomputable def flW:=flat (Zat Tryz.prog 133)
noncomputable def lpM:=flat (Zaq (nth flW 3))
noncomputable def lpF:=flat (Zaq (nth flW 5))
def shW0:Shape:=⟨[(0,.ptr 0 0 0 0),(1,.agg 3)],[wb0],[some true,some true,none,some true],56,133⟩
def shWM:Shape:=⟨[(0,.ptr 0 0 0 0),(3,.ptr 1 0 0 0),(13,.leaf),(14,.leaf),(15,.leaf)],[wbo 2 6,sbx,brow 6],[some true,none,none,some true,some true,none],56,133⟩
def shWF:Shape:=⟨[(0,.ptr 0 0 0 0),(3,.ptr 1 0 0 0),(37,.leaf),(38,.leaf),(39,.leaf)],[wbo 2 6,sbx,brow 6],[some true,none,none,some true,some true,none],56,133⟩
def shWR:Shape:=⟨[],[wbo 1 0,brow 0],[],56,133⟩
@[simp] def Zd6:SX:=rop ROp.cat [.fn 2 [.lit 0 [],.cell (.var 0) (.var 2) 3 0] 0,rop (ROp.rep [.int .u8 0]) [.bin .sub (.con (.int .i64 9)) (.len (.fn 2 [.lit 0 [],.cell (.var 0) (.var 2) 3 0] 0))]]
@[simp] def Zgs:List SX:=[.fn 1 [.fn 1 [.var 6,.cell (.var 0) (.var 2) 4 0,.con (.int .i64 4)] 0,.cell (.var 0) (.var 2) 4 1,.con (.int .i64 1)] 0,.cell (.var 0) (.var 2) 4 2,.con (.int .i64 1)]
@[simp] def Zjb:SX:=rop ROp.cat [.fn 2 [.lit 0 [],.cell (.var 0) (.var 2) 3 2] 0,rop (ROp.rep [.int .u8 0]) [.bin .sub (.con (.int .i64 25)) (.len (.fn 2 [.lit 0 [],.cell (.var 0) (.var 2) 3 2] 0))]]
@[simp] def Zgr:List SX:=[rop ROp.cat [.var 6,Zd6],.cell (.var 0) (.var 2) 3 1,.con (.int .i64 4)]
@[simp] def Zja:SX:=.fn 1 [.var 6,.cell (.var 0) (.var 2) 4 0,.con (.int .i64 4)] 0
@[simp] def Zgq:List SX:=[.fn 1 Zgs 0,.cell (.var 0) (.var 2) 4 3,.con (.int .i64 4)]
@[simp] def Zgp:SX:=.len (.fn 2 [.lit 0 [],.cell (.var 0) (.var 2) 3 0] 0)
@[simp] def Zgo:SX:=.len (.fn 2 [.lit 0 [],.cell (.var 0) (.var 2) 3 2] 0)
@[simp] def Zi9:List SX:=[Zja,.cell (.var 0) (.var 2) 4 1,.con (.int .i64 1)]
@[simp] def Zd5:SX:=.bin .add (.var 2) (.con (.int .i64 1))
@[simp] def Zcq:SX:=.bin .lss (.var 2) (.var 1)
@[simp] def Zfj:List SX:=[.var 3,.var 2,.con (.int .i64 4)]
@[simp] def Zfi:Fact:=same (.len (.var 6)) (.len (.var 6))
@[simp] def Zhn:SX:=rop ROp.cat [.fn 1 Zgr 0,Zjb]
@[simp] def Zbf:SX:=.con (.int .i64 0)
theorem wpre:segTo Tryz.prog (orcFn tabW) 10000 (flW.take 3) shW0 [1] shWM [(0,0),(4,0),(5,0)] hApp=some (.normal,[.fn 168 (EPuB 1) Zfj,rng Zbf (.len (.fn 1 Zfj 0)),.ok (.len (.var 1)),.ok (.len (.var 1)),.ok Zbf,.ok (.var 2),same (.len (.fn 1 Zfj 0)) (.len (.fn 1 Zfj 0))],[.var 1,.len (.var 1),Zbf,.var 0,.var 1,.var 2,.fn 1 Zfj 0]):=by kernel_rfl
theorem mx:segTo Tryz.prog (orcFn tabW) 10000 lpM shWM [0] shWM [(0,0),(1,0),(2,0)] hApp=some (.exit 0,[.ok Zcq,.is Zcq (.bool false),.ok (.var 1),.ok (.var 2),.ok (.var 5),Zfi],[.var 0,.var 1,.var 2,.var 3,.var 4,.var 5,.var 6]):=by kernel_rfl
theorem mo:segTo Tryz.prog (orcFn tabW) 10000 lpM shWM [1,1,1,1,1] shWM [(0,0),(1,0),(10,0)] hApp=some (.normal,[.ok Zcq,.is Zcq (.bool true),.idx (.var 0) (.var 2) 4 4,.idx (.var 0) (.var 2) 4 4,.ok (.cell (.var 0) (.var 2) 4 0),.ok (.cell (.var 0) (.var 2) 4 1),.ok (.cell (.var 0) (.var 2) 4 2),.ok (.cell (.var 0) (.var 2) 4 3),.fn 168 (EPuB 1) [.var 6,.cell (.var 0) (.var 2) 4 0,.con (.int .i64 4)],rng Zbf (.len Zja),.fn 168 (EPuB 1) Zi9,same (.len Zja) (.len Zja),rng Zbf (.len (.fn 1 Zi9 0)),.fn 168 (EPuB 1) Zgs,same (.len (.fn 1 Zi9 0)) (.len (.fn 1 Zi9 0)),rng Zbf (.len (.fn 1 Zgs 0)),.fn 168 (EPuB 1) Zgq,same (.len (.fn 1 Zgs 0)) (.len (.fn 1 Zgs 0)),rng Zbf (.len (.fn 1 Zgq 0)),.ok Zd5,.ok (.var 1),.ok Zd5,.ok (.var 5),same (.len (.fn 1 Zgq 0)) (.len (.fn 1 Zgq 0))],[.var 0,.var 1,Zd5,.var 3,.var 4,.var 5,.fn 1 Zgq 0]):=by kernel_rfl
theorem md:segTo Tryz.prog (orcFn tabW) 10000 ((flW.drop 4).take 1) shWM [] shWF [(0,0),(1,0),(2,0)] hApp=some (.normal,[.ok (.len (.var 3)),.ok (.len (.var 3)),.ok Zbf,.ok (.var 5),Zfi],[.var 3,.len (.var 3),Zbf,.var 3,.var 4,.var 5,.var 6]):=by kernel_rfl
theorem fx:segTo Tryz.prog (orcFn tabW) 10000 lpF shWF [0] shWF [(0,0),(1,0),(2,0)] hApp=some (.exit 2,[.ok Zcq,.is Zcq (.bool false),.ok (.var 1),.ok (.var 2),.ok (.var 5),Zfi],[.var 0,.var 1,.var 2,.var 3,.var 4,.var 5,.var 6]):=by kernel_rfl
theorem fo:segTo Tryz.prog (orcFn tabW) 10000 lpF shWF [1,1,1,1] shWF [(0,0),(1,0),(8,1)] hApp=some (.normal,[.ok Zcq,.is Zcq (.bool true),.idx (.var 0) (.var 2) 3 3,.idx (.var 0) (.var 2) 3 3,.ok (.cell (.var 0) (.var 2) 3 0),.ok (.cell (.var 0) (.var 2) 3 1),.ok (.cell (.var 0) (.var 2) 3 2),.fn 169 (ETxB 2) [.lit 0 [],.cell (.var 0) (.var 2) 3 0],rng Zbf Zgp,.ok (.bin .sub (.con (.int .i64 9)) Zgp),upto (.bin .sub (.con (.int .i64 9)) Zgp) 4294967296,same Zgp Zgp,upto (.len Zd6) 4294967296,same (.len Zd6) (.len Zd6),Zfi,upto (.len (rop ROp.cat [.var 6,Zd6])) 4294967296,.fn 168 (EPuB 1) Zgr,same (.len (rop ROp.cat [.var 6,Zd6])) (.len (rop ROp.cat [.var 6,Zd6])),rng Zbf (.len (.fn 1 Zgr 0)),.fn 169 (ETxB 2) [.lit 0 [],.cell (.var 0) (.var 2) 3 2],rng Zbf Zgo,.ok (.bin .sub (.con (.int .i64 25)) Zgo),upto (.bin .sub (.con (.int .i64 25)) Zgo) 4294967296,same Zgo Zgo,upto (.len Zjb) 4294967296,same (.len Zjb) (.len Zjb),same (.len (.fn 1 Zgr 0)) (.len (.fn 1 Zgr 0)),upto (.len Zhn) 4294967296,.ok Zd5,.ok (.var 1),.ok Zd5,.ok (.var 5),same (.len Zhn) (.len Zhn)],[.var 0,.var 1,Zd5,.var 3,.var 4,.var 5,Zhn]):=by kernel_rfl
theorem wpost:segTo Tryz.prog (orcFn tabW) 10000 [] shWF [] shWR [(0,0),(2,0)] hApp=some (.normal,[Zfi],[.var 6]):=by kernel_rfl

@[simp] theorem kPuB' (k:Nat):(EPuB k).k=k:=rfl
theorem Zrs (l:List MarkM) (i:Nat) (h:i < l.length):Zc1 (pRow encM l) (pI (i:Int)) 4 0=some (pI l[i].1)/\Zc1 (pRow encM l) (pI (i:Int)) 4 1=some (pI l[i].2.1)/\Zc1 (pRow encM l) (pI (i:Int)) 4 2=some (pI l[i].2.2.1)/\Zc1 (pRow encM l) (pI (i:Int)) 4 3=some (pI l[i].2.2.2):=by
 refine ⟨?_,?_,?_,?_⟩
 ·rw [Zbe encM l i .i64 4 0 rfl h,Zco encM l i 0 _ (List.getElem?_eq_getElem h) (by decide)];rfl
 ·rw [Zbe encM l i .i64 4 1 rfl h,Zco encM l i 1 _ (List.getElem?_eq_getElem h) (by decide)];rfl
 ·rw [Zbe encM l i .i64 4 2 rfl h,Zco encM l i 2 _ (List.getElem?_eq_getElem h) (by decide)];rfl
 ·rw [Zbe encM l i .i64 4 3 rfl h,Zco encM l i 3 _ (List.getElem?_eq_getElem h) (by decide)];rfl
noncomputable def FW:Fns:=fun k=>match k with | 1=>spec RPuB | 2=>spec RTxB | _=>fun _=>none
theorem pp1:ToldF 168 (EPuB 1) (FW 1):=toldPuB 1
theorem pp2:ToldF 169 (ETxB 2) (FW 2):=toldTxB 2
theorem FW1 {l:List UInt8} {v:Int} {n:Nat} (hl:l.length<=1000000) (h1:1<=n) (h8:n<=8):FW 1 [pBy l,pI v,pI (n:Int)]=some [pBy (l++low v n)]:=Zap fPuB ⟨l,v,n,hl,by omega,by omega,rfl,by rw [Int.toNat_natCast]⟩
theorem FW2 {s:ByteArray} (hs:s.size<=255):FW 2 [.row 0 [],pS s]=some [pBy (msB s)]:=Zap fTxB ⟨[],s,by simp,hs,rfl,rfl⟩
theorem Zic {l:List UInt8} {n:Nat} (h:l.length=n):∃ m:Nat,lenPV (pBy l)=some (pI (m:Int))/\m=n:=⟨n,by rw [r_len,h],rfl⟩
theorem txB_ms (m:Nat) (a:ByteArray):txB m a=msB a++nul (m - a.size):=rfl
def stB (s:StM):List UInt8:=low s.epoch 4++((s.marks.map mkB).flatten++(s.files.map flB).flatten)
theorem img_st (s:StM):imgB s=stB s++nul 26:=by simp [imgB,stB,List.append_assoc]
def small (s:StM):Prop:=s.marks.length<=1000/\s.files.length<=1000/\∀ f ∈ s.files,f.1.size<=8/\f.2.2.size<=24
def RWst (ps qs:List PV):Prop:=∃ (s:StM) (l:List UInt8),small s/\l.length<=1000/\ps=pSt s++[pBy l]/\qs=[pBy (l++stB s)]
theorem fWst:∀ ps q1 q2,RWst ps q1->RWst ps q2->q1=q2:=by
 rintro ps q1 q2 ⟨s,l,_,_,rfl,rfl⟩ ⟨s',l',_,_,h,rfl⟩
 simp only [pSt,List.cons_append,List.nil_append,List.cons.injEq,PV.v.injEq,Value.int.injEq,true_and,and_true] at h
 rw [Zgi h.2.2.2,Znj h.1 h.2.1 h.2.2.1]
def stepM (s:StM) (l:List UInt8) (i:Nat):List UInt8:=l++(low s.epoch 4++((s.marks.take i).map mkB).flatten)
def stepF (s:StM) (l:List UInt8) (i:Nat):List UInt8:=l++(low s.epoch 4++((s.marks.map mkB).flatten++((s.files.take i).map flB).flatten))
theorem stepM_next {s:StM} {l:List UInt8} {i:Nat} (h:i < s.marks.length):stepM s l (i+1)=stepM s l i++mkB s.marks[i]:=by
 simp only [stepM,List.take_succ_eq_append_getElem h,List.map_append,List.flatten_append,List.map_cons,List.map_nil,List.flatten_cons,List.flatten_nil,List.append_nil,List.append_assoc]
theorem stepF_next {s:StM} {l:List UInt8} {i:Nat} (h:i < s.files.length):stepF s l (i+1)=stepF s l i++flB s.files[i]:=by
 simp only [stepF,List.take_succ_eq_append_getElem h,List.map_append,List.flatten_append,List.map_cons,List.map_nil,List.flatten_cons,List.flatten_nil,List.append_nil,List.append_assoc]
theorem stepM_len {s:StM} {l:List UInt8} {i:Nat} (hs:small s) (hl:l.length<=1000):(stepM s l i).length<=20000:=by
 have:=Zc9 mkB 10 (s.marks.take i) (fun m _=>Zg3 m)
 rw [List.length_take] at this
 have:=hs.1
 simp only [stepM,List.length_append,Zdp]
 omega
theorem stepF_len {s:StM} {l:List UInt8} {i:Nat} (hs:small s) (hl:l.length<=1000):(stepF s l i).length<=100000:=by
 have h1:=Zc9 mkB 10 s.marks (fun m _=>Zg3 m)
 have h2:=Zc9 flB 38 (s.files.take i) (fun f hf=>Zj1 (hs.2.2 f (List.mem_of_mem_take hf)).1 (hs.2.2 f (List.mem_of_mem_take hf)).2)
 rw [List.length_take] at h2
 have:=hs.1
 have:=hs.2.1
 simp only [stepF,List.length_append,Zdp,h1]
 omega
theorem cutW:flW=flW.take 3++.block (Zbj (nth flW 3)) (.loop (Zaq (nth flW 3))) :: (((flW.drop 4).take 1)++[.block (Zbj (nth flW 5)) (.loop (Zaq (nth flW 5)))]):=by kernel_rfl
set_option maxHeartbeats 2000000 in
theorem toldWst (k0:Nat):ToldP 133 (EWst k0) (spec RWst):=by
 refine told_ptrO FW _ (Zat Tryz.prog 133) Tryz.func133 (by kernel_rfl) shW0 (by kernel_rfl) ?_ ?_
 ·intro ps qs h
  obtain ⟨s,l,_,_,rfl,rfl⟩:=Zah h
  exact Zc0 rfl
 ·intro C ps qs hF h a w hsh
  obtain ⟨s,l,hs,hl,rfl,rfl⟩:=Zah h
  show wpL Tryz.prog flW _ a w
  rw [cutW]
  have g1:FW 1 [pBy l,pI s.epoch,pI 4]=some [pBy (stepM s l 0)]:=by rw [show (4:Int)=((4:Nat):Int) from rfl,FW1 (by omega) (by omega) (by omega)];simp [stepM]
  have hl0:(stepM s l 0).length=l.length+4:=by simp [stepM]
  obtain ⟨z0,rl0,hz0⟩:=Zic hl0
  refine Zae names_ok mixed_ok (Zar tabW) wpre hsh ?_ (fun qs a1 wd hq hx=>⟨fun _=>?_,fun h=>absurd rfl h⟩)
  ·simp [-Zac,Zab,Zaa,Base.ev,SX.ev,evs,Value.oneCell',pSt,hF,g1,pp1,Zad,rl0]
   all_goals omega
  simp [evs,SX.ev,pSt,hF,g1,Zad] at hq
  subst hq
  refine Zds (fun k a w=>∃ i:Nat,k=s.marks.length - i/\i<=s.marks.length/\Zam C shWM [pRow encM s.marks,pI (s.marks.length:Int),pI (i:Int),pRow encF s.files,pRow encM s.marks,pI s.epoch,pBy (stepM s l i)] a w) ?_ (n:=s.marks.length) ⟨0,by omega,by omega,hx⟩
  rintro k a w ⟨i,rfl,hi,hx⟩
  have hsl:=stepM_len (i:=i) hs hl
  have rl1:=r_len (stepM s l i)
  rw [<- List.append_nil (flat _)]
  by_cases hlt:i < s.marks.length
  ·have v4:IntKind.i64.wrap ((i:Int)+1)=(i:Int)+1:=wrapI _ (by have:=hs.1;omega) (by have:=hs.1;omega)
   obtain ⟨c0,c1,c2,c3⟩:=Zrs s.marks i hlt
   have ix:=Zbi encM s.marks i 4 4 .i64 rfl hlt (by decide)
   have hnx:=stepM_next (l:=l) hlt
   have hsl2:=stepM_len (i:=i+1) hs hl
   generalize s.marks[i]=m at *
   obtain ⟨m1,m2,m3,m4⟩:=m
   simp only at c0 c1 c2 c3
   have e1:FW 1 [pBy (stepM s l i),pI m1,pI 4]=some [pBy (stepM s l i++low m1 4)]:=FW1 (n:=4) (by omega) (by omega) (by omega)
   have ln2:(stepM s l i++low m1 4).length=(stepM s l i).length+4:=by simp
   obtain ⟨z2,rl2,hz2⟩:=Zic ln2
   have e2:FW 1 [pBy (stepM s l i++low m1 4),pI m2,pI 1]=some [pBy (stepM s l i++low m1 4++low m2 1)]:=FW1 (n:=1) (by omega) (by omega) (by omega)
   have ln3:(stepM s l i++low m1 4++low m2 1).length=(stepM s l i).length+5:=by simp
   obtain ⟨z3,rl3,hz3⟩:=Zic ln3
   have e3:FW 1 [pBy (stepM s l i++low m1 4++low m2 1),pI m3,pI 1]=some [pBy (stepM s l i++low m1 4++low m2 1++low m3 1)]:=FW1 (n:=1) (by omega) (by omega) (by omega)
   have ln4:(stepM s l i++low m1 4++low m2 1++low m3 1).length=(stepM s l i).length+6:=by simp
   obtain ⟨z4,rl4,hz4⟩:=Zic ln4
   have e4:FW 1 [pBy (stepM s l i++low m1 4++low m2 1++low m3 1),pI m4,pI 4]=some [pBy (stepM s l (i+1))]:=by
    rw [show (4:Int)=((4:Nat):Int) from rfl,FW1 (by omega) (by omega) (by omega),hnx]
    simp only [mkB,List.append_assoc]
   have ln5:(stepM s l (i+1)).length=(stepM s l i).length+10:=by rw [hnx,List.length_append,Zg3]
   obtain ⟨z5,rl5,hz5⟩:=Zic ln5
   generalize stepM s l i++low m1 4++low m2 1++low m3 1=L4 at *
   generalize stepM s l i++low m1 4++low m2 1=L3 at *
   generalize stepM s l i++low m1 4=L2 at *
   generalize hT:(stepM s l i).length=T at *
   refine Zae names_ok mixed_ok (Zar tabW) mo hx ?_ (fun qs a1 wd hq hx=>⟨fun _=>.inl ⟨rfl,s.marks.length - (i+1),by omega,i+1,rfl,by omega,?_⟩,fun h=>absurd rfl h⟩)
   ·simp [-Zac,Zab,Zaa,Base.ev,SX.ev,evs,Value.oneCell',hF,pp1,binPV,v4,c0,c1,c2,c3,ix,e1,e2,e3,e4,rl1,rl2,rl3,rl4,rl5,hlt]
    all_goals omega
   ·simp [evs,SX.ev,hF,binPV,v4,c0,c1,c2,c3,e1,e2,e3,e4] at hq
    subst hq
    exact hx
  ·obtain rfl:i=s.marks.length:=by omega
   refine Zae names_ok mixed_ok (Zar tabW) mx hx ?_ (fun qs a1 wd hq hx=>⟨nofun,fun _=>.inr (.inl ⟨rfl,?_⟩)⟩)
   ·simp [-Zac,Zab,Zaa,Base.ev,SX.ev,evs,Value.oneCell',binPV,rl1]
   simp [evs,SX.ev] at hq
   subst hq
   have he:stepM s l s.marks.length=stepF s l 0:=by simp [stepM,stepF]
   rw [he] at hx
   have rl1:=r_len (stepF s l 0)
   refine Zae names_ok mixed_ok (Zar tabW) md hx ?_ (fun qs a1 wd hq hx=>⟨fun _=>?_,fun h=>absurd rfl h⟩)
   ·simp [-Zac,Zab,Zaa,Base.ev,SX.ev,evs,Value.oneCell',Zad,rl1]
   simp [evs,SX.ev,Zad] at hq
   subst hq
   refine Zds (fun k a w=>∃ i:Nat,k=s.files.length - i/\i<=s.files.length/\Zam C shWF [pRow encF s.files,pI (s.files.length:Int),pI (i:Int),pRow encF s.files,pRow encM s.marks,pI s.epoch,pBy (stepF s l i)] a w) ?_ (n:=s.files.length) ⟨0,by omega,by omega,hx⟩
   rintro k a w ⟨i,rfl,hi,hx⟩
   have hsl:=stepF_len (i:=i) hs hl
   have rl1:=r_len (stepF s l i)
   rw [<- List.append_nil (flat _)]
   by_cases hlt:i < s.files.length
   ·have v4:IntKind.i64.wrap ((i:Int)+1)=(i:Int)+1:=wrapI _ (by have:=hs.2.1;omega) (by have:=hs.2.1;omega)
    obtain ⟨c0,c1,c2⟩:=cellF s.files i hlt
    have ix:=Zbi encF s.files i 3 3 .i64 rfl hlt (by decide)
    have hnx:=stepF_next (l:=l) hlt
    have hsm:=hs.2.2 s.files[i] (List.getElem_mem hlt)
    have hsl2:=stepF_len (i:=i+1) hs hl
    have ln5:(stepF s l (i+1)).length=(stepF s l i).length+38:=by rw [hnx,List.length_append,Zj1 hsm.1 hsm.2]
    obtain ⟨z5,rl5,hz5⟩:=Zic ln5
    generalize s.files[i]=f at *
    obtain ⟨na,ve,bo⟩:=f
    simp only at c0 c1 c2 hsm
    have t1:=FW2 (s:=na) (by omega)
    have t2:=FW2 (s:=bo) (by omega)
    obtain ⟨x1,tl1,hx1⟩:=Zic (Zjz na)
    obtain ⟨x2,tl2,hx2⟩:=Zic (Zjz bo)
    obtain ⟨d1,hd1⟩:∃ d:Nat,d=8 - na.size:=⟨_,rfl⟩
    obtain ⟨d2,hd2⟩:∃ d:Nat,d=24 - bo.size:=⟨_,rfl⟩
    have u1:IntKind.i64.wrap (9 - (x1:Int))=(d1:Int):=by rw [wrapI _ (by omega) (by omega)];omega
    have u2:IntKind.i64.wrap (25 - (x2:Int))=(d2:Int):=by rw [wrapI _ (by omega) (by omega)];omega
    have p1:ropPV (.rep [.int .u8 0]) [pI (d1:Int)]=some (pBy (nul (8 - na.size))):=by rw [r_rep _ (by omega),Int.toNat_natCast,hd1];rfl
    have p2:ropPV (.rep [.int .u8 0]) [pI (d2:Int)]=some (pBy (nul (24 - bo.size))):=by rw [r_rep _ (by omega),Int.toNat_natCast,hd2];rfl
    have q1:=r_cat (msB na) (nul (8 - na.size))
    have q2:=r_cat (msB bo) (nul (24 - bo.size))
    rw [<- txB_ms] at q1 q2
    obtain ⟨k1,ql1,hk1⟩:=Zic (Zdn hsm.1)
    obtain ⟨k2,ql2,hk2⟩:=Zic (Zdn hsm.2)
    have ac1:=r_cat (stepF s l i) (txB 8 na)
    have an1:(stepF s l i++txB 8 na).length=(stepF s l i).length+9:=by rw [List.length_append,Zdn hsm.1]
    obtain ⟨j1,al1,hj1⟩:=Zic an1
    have e1:FW 1 [pBy (stepF s l i++txB 8 na),pI ve,pI 4]=some [pBy (stepF s l i++txB 8 na++low ve 4)]:=FW1 (n:=4) (by omega) (by omega) (by omega)
    have bn1:(stepF s l i++txB 8 na++low ve 4).length=(stepF s l i).length+13:=by rw [List.length_append,an1,Zdp]
    obtain ⟨j2,bl1,hj2⟩:=Zic bn1
    have e2:ropPV .cat [pBy (stepF s l i++txB 8 na++low ve 4),pBy (txB 24 bo)]=some (pBy (stepF s l (i+1))):=by
     rw [r_cat,hnx]
     simp only [flB,List.append_assoc]
    generalize stepF s l i++txB 8 na++low ve 4=L2 at *
    generalize stepF s l i++txB 8 na=L1 at *
    generalize txB 8 na=b1 at *
    generalize txB 24 bo=b2 at *
    generalize msB na=y1 at *
    generalize msB bo=y2 at *
    generalize nul (8 - na.size)=n1 at *
    generalize nul (24 - bo.size)=n2 at *
    generalize hT:(stepF s l i).length=T at *
    refine Zae names_ok mixed_ok (Zar tabW) fo hx ?_ (fun qs a1 wd hq hx=>⟨fun _=>.inl ⟨rfl,s.files.length - (i+1),by omega,i+1,rfl,by omega,?_⟩,fun h=>absurd rfl h⟩)
    ·simp [-Zac,Zab,Zaa,Base.ev,SX.ev,evs,Value.oneCell',hF,pp1,pp2,binPV,v4,c0,c1,c2,ix,t1,t2,tl1,tl2,u1,u2,p1,p2,q1,q2,ql1,ql2,ac1,al1,e1,bl1,e2,rl1,rl5,hlt]
     all_goals omega
    ·simp [evs,SX.ev,hF,binPV,v4,c0,c1,c2,t1,t2,tl1,tl2,u1,u2,p1,p2,q1,q2,ac1,e1,e2] at hq
     subst hq
     exact hx
   ·obtain rfl:i=s.files.length:=by omega
    refine Zae names_ok mixed_ok (Zar tabW) fx hx ?_ (fun qs a1 wd hq hx=>⟨nofun,fun _=>.inr (.inl ⟨rfl,?_⟩)⟩)
    ·simp [-Zac,Zab,Zaa,Base.ev,SX.ev,evs,Value.oneCell',binPV,rl1]
    simp [evs,SX.ev] at hq
    subst hq
    rw [<- List.append_nil []]
    have hend:stepF s l s.files.length=l++stB s:=by simp [stepF,stB]
    refine Zae names_ok mixed_ok (Zar tabW) wpost hx ?_ (fun qs a1 wd hq hx=>⟨fun _=>⟨.inl rfl,shWR,_,[SX.var 0],[0],hx,by kernel_rfl,?_,?_⟩,fun h=>absurd rfl h⟩)
    ·simp [-Zac,Zab,Zaa,Base.ev,SX.ev,evs,Value.oneCell',rl1]
    ·simp [evs,SX.ev] at hq
     subst hq
     rw [hend]
     rfl
    ·intro j hj
     simp at hj
     subst hj
     exact Zm1 (by simp [stB];omega)

end Go.Proofs.YtpnegheknjeljaaGreat.iws
