/- The document's sectors of all that lasts: told. -/
import Derived.Test.YtefkakjegdjojaaGreatRbt
import Derived.Test.YtefkakjegdjojaaGreatSmc
import Derived.Test.YtefkakjegdjojaaGreatIws
import Derived.Test.YtefkakjegdjojaaGreatIpd
namespace Go.Proofs.YtefkakjegdjojaaGreat.imp
open Go Go.RowKit eng SX Fact fil ima symD sta
open rbt hiding isApp hApp bitsN
open bip (EPuB ETxB ETkB RPuB RTxB fPuB fTxB msB Zia Zit Znv cellY idxP_by Zon Zt6 r_cat1Y kPuB kTxB)
open iws (small stB stepM stepF Zsw Zsx Zn8 Zn9 Zv8 cellM4 Zdk Zw5)
open ipd (EPuI RPuI fPuI)
open dirs (encF cellF FileM)
open fileFronts (Zae)
set_option linter.unusedVariables false
set_option linter.unusedSimpArgs false
set_option maxRecDepth 1000000

def tabP (f:FuncId):Option FnE:=cond (Nat.beq f 53) (some (EMayS 1)) (cond (Nat.beq f 54) (some (EPuB 2)) (cond (Nat.beq f 55) (some (ETxB 3)) none))
def sbx:BoxT:=⟨30,0,false,[.leaf,.leaf,.leaf],none,false⟩
def srow (k:Nat):BoxT:=⟨9,1,true,[],some k,false⟩
noncomputable def flP:=flat (Zar Tryz.prog 18)
noncomputable def lp1:=flat (Zak (nth flP 5))
noncomputable def lp2:=flat (Zak (nth flP 7))
noncomputable def lp3:=flat (Zak (nth flP 8))
noncomputable def lp4:=flat (Zak (nth flP 11))
def shP:Shape:=⟨[(0,.agg 3)],[],[some false,some false,none],99,18⟩
def shP1:Shape:=⟨[(1,.ptr 0 0 0 0),(3,.own 1 4 1),(4,.leaf)],[sbx,brow 4],[none,some false,some false,none],99,18⟩
def shP2:Shape:=⟨[(1,.ptr 0 0 0 0),(3,.own 1 4 1),(6,.leaf)],[sbx,brow 4],[none,some false,some false,none],99,18⟩
def shP3:Shape:=⟨[(3,.own 0 0 1)],[brow 0],[],99,18⟩
def shP4n:Shape:=⟨[(3,.own 0 1 1),(8,.nil),(9,.leaf)],[brow 1],[none],99,18⟩
def shP4:Shape:=⟨[(3,.own 0 1 1),(8,.own 1 2 1),(9,.leaf)],[brow 1,srow 2],[none],99,18⟩
def shPN:Shape:=⟨[(2,.nil)],[],[],99,18⟩
def shPR:Shape:=⟨[(2,.own 0 0 1)],[srow 0],[],99,18⟩
@[simp] def Zi9:List SX:=[rop ROp.cat [.fn 3 [.var 4,.cell (.var 1) (.var 0) 3 0] 0,rop (ROp.rep [.int .u8 0]) [.bin .sub (.con (.int .i64 8)) (.slen (.cell (.var 1) (.var 0) 3 0))]],.cell (.var 1) (.var 0) 3 1,.con (.int .i64 4)]
@[simp] def Zgd:SX:=rop ROp.toStr [SX.sub (.var 1) (rop ROp.min2 [.var 0,.var 0]) (.bin .add (rop ROp.min2 [.var 0,.var 0]) (.bin .sub (.bin .add (.var 0) (.con (.int .i64 32))) (rop ROp.min2 [.var 0,.var 0]))) 1]
@[simp] def Zlm:List SX:=[.fn 2 [.fn 2 [.var 4,.cell (.var 2) (.var 0) 4 0,.con (.int .i64 4)] 0,.cell (.var 2) (.var 0) 4 1,.con (.int .i64 1)] 0,.cell (.var 2) (.var 0) 4 2,.con (.int .i64 1)]
@[simp] def Zpi:SX:=rop ROp.cat [.fn 3 [.fn 2 Zi9 0,.cell (.var 1) (.var 0) 3 2] 0,rop (ROp.rep [.int .u8 0]) [.bin .sub (.con (.int .i64 24)) (.slen (.cell (.var 1) (.var 0) 3 2))]]
@[simp] def Zph:SX:=.fn 2 [.var 4,.cell (.var 2) (.var 0) 4 0,.con (.int .i64 4)] 0
@[simp] def Zcx:SX:=.bin .add (.var 0) (.con (.int .i64 32))
@[simp] def Zsn:SX:=.len (rop ROp.cat [.fn 3 [.var 4,.cell (.var 1) (.var 0) 3 0] 0,rop (ROp.rep [.int .u8 0]) [.bin .sub (.con (.int .i64 8)) (.slen (.cell (.var 1) (.var 0) 3 0))]])
@[simp] def Zll:List SX:=[.fn 2 Zlm 0,.cell (.var 2) (.var 0) 4 3,.con (.int .i64 4)]
@[simp] def Zef:SX:=.bin .lss (.var 0) (.len (.var 1))
@[simp] def Zm5:SX:=.bin .neq (.bin .rem (.len (.var 0)) (.con (.int .i64 32))) (.con (.int .i64 0))
@[simp] def Zm4:List SX:=[Zph,.cell (.var 2) (.var 0) 4 1,.con (.int .i64 1)]
@[simp] def Zhz:SX:=.bin .add (.var 0) (.con (.int .i64 1))
@[simp] def Ze2:SX:=rop ROp.min2 [.var 0,.var 0]
@[simp] def Zm3:List SX:=[.fn 2 Zi9 0,.cell (.var 1) (.var 0) 3 2]
@[simp] def Zkf:List SX:=[.lit 0 [],.var 2,.con (.int .i64 4)]
@[simp] def Ze1:SX:=.cell (.var 1) (.var 0) 3 0
@[simp] def Zm2:SX:=rop ROp.cat [.var 0,.lit 1 [.con (.int .u8 0)]]
@[simp] def Zke:Fact:=same (.len (.var 1)) (.len (.var 1))
@[simp] def Zbi:SX:=.con (.int .i64 0)
@[simp] def Zm1:SX:=rop ROp.cat [.var 2,.lit 1 [Zgd]]
@[simp] def Zm0:Fact:=same (.len (.var 4)) (.len (.var 4))
@[simp] def Zmz:SX:=.bin .lss (.var 0) (.len (.var 2))
@[simp] def zGreatImp23:SX:=.bin .sub (.con (.int .i64 24)) (.slen (.cell (.var 1) (.var 0) 3 2))
theorem no:segTo Tryz.prog (orcFn tabP) 10000 flP shP [0] shPN [] rbt.hApp=some (.ret,[.fn 53 (EMayS 1) [.var 0,.var 1,.var 2],.is (.fn 1 [.var 0,.var 1,.var 2] 0) (.bool false)],[]):=by kernel_rfl
theorem pre:segTo Tryz.prog (orcFn tabP) 10000 (flP.take 5) shP [1,1] shP1 [(2,0),(3,0)] rbt.hApp=some (.normal,[.fn 53 (EMayS 1) [.var 0,.var 1,.var 2],.is (.fn 1 [.var 0,.var 1,.var 2] 0) (.bool true),.fn 54 (EPuB 2) Zkf,rng Zbi (.len (.fn 2 Zkf 0)),.ok Zbi,.ok (.var 2),same (.len (.fn 2 Zkf 0)) (.len (.fn 2 Zkf 0))],[Zbi,.var 0,.var 1,.var 2,.fn 2 Zkf 0]):=by kernel_rfl
theorem mx:segTo Tryz.prog (orcFn tabP) 10000 lp1 shP1 [0] shP1 [(0,0),(1,0)] rbt.hApp=some (.exit 0,[.ok (.len (.var 2)),.ok Zmz,.is Zmz (.bool false),.ok (.var 0),.ok (.var 3),Zm0],[.var 0,.var 1,.var 2,.var 3,.var 4]):=by kernel_rfl
theorem mo:segTo Tryz.prog (orcFn tabP) 10000 lp1 shP1 [1,1,1,1,1] shP1 [(0,0),(8,0)] rbt.hApp=some (.normal,[.ok (.len (.var 2)),.ok Zmz,.is Zmz (.bool true),.idx (.var 2) (.var 0) 4 4,.idx (.var 2) (.var 0) 4 4,.ok (.cell (.var 2) (.var 0) 4 0),.ok (.cell (.var 2) (.var 0) 4 1),.ok (.cell (.var 2) (.var 0) 4 2),.ok (.cell (.var 2) (.var 0) 4 3),.fn 54 (EPuB 2) [.var 4,.cell (.var 2) (.var 0) 4 0,.con (.int .i64 4)],rng Zbi (.len Zph),.fn 54 (EPuB 2) Zm4,same (.len Zph) (.len Zph),rng Zbi (.len (.fn 2 Zm4 0)),.fn 54 (EPuB 2) Zlm,same (.len (.fn 2 Zm4 0)) (.len (.fn 2 Zm4 0)),rng Zbi (.len (.fn 2 Zlm 0)),.fn 54 (EPuB 2) Zll,same (.len (.fn 2 Zlm 0)) (.len (.fn 2 Zlm 0)),rng Zbi (.len (.fn 2 Zll 0)),.ok Zhz,.ok Zhz,.ok (.var 3),same (.len (.fn 2 Zll 0)) (.len (.fn 2 Zll 0))],[Zhz,.var 1,.var 2,.var 3,.fn 2 Zll 0]):=by kernel_rfl
theorem md:segTo Tryz.prog (orcFn tabP) 10000 ((flP.drop 6).take 1) shP1 [] shP2 [(0,0),(1,0)] rbt.hApp=some (.normal,[.ok Zbi,.ok (.var 3),Zm0],[Zbi,.var 1,.var 2,.var 3,.var 4]):=by kernel_rfl
theorem fx:segTo Tryz.prog (orcFn tabP) 10000 lp2 shP2 [0] shP2 [(0,0),(1,0)] rbt.hApp=some (.exit 2,[.ok (.len (.var 1)),.ok Zef,.is Zef (.bool false),.ok (.var 0),.ok (.var 3),Zm0],[.var 0,.var 1,.var 2,.var 3,.var 4]):=by kernel_rfl
theorem fo:segTo Tryz.prog (orcFn tabP) 10000 lp2 shP2 [1,1,1,1] shP2 [(0,0),(7,1)] rbt.hApp=some (.normal,[.ok (.len (.var 1)),.ok Zef,.is Zef (.bool true),.idx (.var 1) (.var 0) 3 3,.idx (.var 1) (.var 0) 3 3,.ok Ze1,.ok (.cell (.var 1) (.var 0) 3 1),.ok (.cell (.var 1) (.var 0) 3 2),.fn 55 (ETxB 3) [.var 4,Ze1],rng Zbi (.len (.fn 3 [.var 4,Ze1] 0)),.ok (.slen Ze1),.ok (.bin .sub (.con (.int .i64 8)) (.slen Ze1)),upto (.bin .sub (.con (.int .i64 8)) (.slen Ze1)) 4294967296,same (.len (.fn 3 [.var 4,Ze1] 0)) (.len (.fn 3 [.var 4,Ze1] 0)),upto Zsn 4294967296,.fn 54 (EPuB 2) Zi9,same Zsn Zsn,rng Zbi (.len (.fn 2 Zi9 0)),.fn 55 (ETxB 3) Zm3,same (.len (.fn 2 Zi9 0)) (.len (.fn 2 Zi9 0)),rng Zbi (.len (.fn 3 Zm3 0)),.ok (.slen (.cell (.var 1) (.var 0) 3 2)),.ok zGreatImp23,upto zGreatImp23 4294967296,same (.len (.fn 3 Zm3 0)) (.len (.fn 3 Zm3 0)),upto (.len Zpi) 4294967296,.ok Zhz,.ok Zhz,.ok (.var 3),same (.len Zpi) (.len Zpi)],[Zhz,.var 1,.var 2,.var 3,Zpi]):=by kernel_rfl
theorem nd:segTo Tryz.prog (orcFn tabP) 10000 [] shP2 [] shP3 [(1,0)] rbt.hApp=some (.normal,[Zm0],[.var 4]):=by kernel_rfl
theorem nx:segTo Tryz.prog (orcFn tabP) 10000 lp3 shP3 [0] shP3 [(0,0)] rbt.hApp=some (.exit 4,[.ok (.bin .rem (.len (.var 0)) (.con (.int .i64 32))),.ok Zm5,.is Zm5 (.bool false),same (.len (.var 0)) (.len (.var 0))],[.var 0]):=by kernel_rfl
theorem no1:segTo Tryz.prog (orcFn tabP) 10000 lp3 shP3 [1] shP3 [(0,1)] rbt.hApp=some (.normal,[.ok (.bin .rem (.len (.var 0)) (.con (.int .i64 32))),.ok Zm5,.is Zm5 (.bool true),same (.len (.var 0)) (.len (.var 0)),upto (.len Zm2) 4294967296,same (.len Zm2) (.len Zm2)],[Zm2]):=by kernel_rfl
theorem cd:segTo Tryz.prog (orcFn tabP) 10000 ((flP.drop 9).take 2) shP3 [] shP4n [(0,0)] rbt.hApp=some (.normal,[.ok Zbi,same (.len (.var 0)) (.len (.var 0))],[Zbi,.var 0]):=by kernel_rfl
theorem cn:segTo Tryz.prog (orcFn tabP) 10000 lp4 shP4n [1] shP4 [(0,0),(2,0)] rbt.hApp=some (.normal,[.ok Zef,.is Zef (.bool true),.ok Zcx,Zke,le3 Ze2 Zcx (.len (.var 1)),rng Ze2 (.len (.var 1)),upto Ze2 4294967296,upto (.bin .sub Zcx Ze2) 4294967296,.ok Zgd,rng Zbi (.len (.lit 1 [Zgd])),upto (.len (.lit 1 [Zgd])) 4294967296,.ok Zcx,.ok Zcx,Zke,same (.len (.lit 1 [Zgd])) (.len (.lit 1 [Zgd]))],[Zcx,.var 1,.lit 1 [Zgd]]):=by kernel_rfl
theorem cx:segTo Tryz.prog (orcFn tabP) 10000 lp4 shP4 [0] shP4 [(0,0),(1,0)] rbt.hApp=some (.exit 6,[.ok Zef,.is Zef (.bool false),.ok (.var 0),Zke,same (.len (.var 2)) (.len (.var 2))],[.var 0,.var 1,.var 2]):=by kernel_rfl
theorem co:segTo Tryz.prog (orcFn tabP) 10000 lp4 shP4 [1] shP4 [(0,0),(1,1)] rbt.hApp=some (.normal,[.ok Zef,.is Zef (.bool true),.ok Zcx,Zke,le3 Ze2 Zcx (.len (.var 1)),rng Ze2 (.len (.var 1)),upto Ze2 4294967296,upto (.bin .sub Zcx Ze2) 4294967296,.ok Zgd,same (.len (.var 2)) (.len (.var 2)),upto (.len Zm1) 4294967296,.ok Zcx,.ok Zcx,Zke,same (.len Zm1) (.len Zm1)],[Zcx,.var 1,Zm1]):=by kernel_rfl
theorem post:segTo Tryz.prog (orcFn tabP) 10000 (flP.drop 12) shP4 [] shPR [(1,0)] rbt.hApp=some (.ret,[same (.len (.var 2)) (.len (.var 2))],[.var 2]):=by kernel_rfl

noncomputable def FP:Fns:=fun k=>match k with | 1=>spec RMayS | 2=>spec RPuB | 3=>spec RTxB | _=>fun _=>none
theorem pp1:ToldF 53 (EMayS 1) (FP 1):=toldMayD 1
theorem pp2:ToldF 54 (EPuB 2) (FP 2):=toldPuR 2
theorem pp3:ToldF 55 (ETxB 3) (FP 3):=toldTxR 3
@[simp] theorem kMay' (k:Nat):(EMayS k).k=k:=rfl
theorem FP2 {l:List UInt8} {v:Int} {n:Nat} (hl:l.length<=1000000) (h1:1<=n) (h8:n<=8):FP 2 [pBy l,pI v,pI (n:Int)]=some [pBy (l++low v n)]:=Zal fPuB ⟨l,v,n,hl,by omega,by omega,rfl,by rw [Int.toNat_natCast]⟩
theorem FP3 {l:List UInt8} {s:ByteArray} (hl:l.length<=1000000) (hs:s.size<=255):FP 3 [pBy l,pS s]=some [pBy (l++msB s)]:=Zal fTxB ⟨l,s,hl,hs,rfl,rfl⟩
theorem cut1:flP=flP.take 5++.block (Zao (nth flP 5)) (.loop (Zak (nth flP 5))) :: flP.drop 6:=by kernel_rfl
theorem cut2:flP.drop 6=(flP.drop 6).take 1++.block (Zao (nth flP 7)) (.loop (Zak (nth flP 7))) :: ([]++.block (Zao (nth flP 8)) (.loop (Zak (nth flP 8))) :: ((flP.drop 9).take 2++.block (Zao (nth flP 11)) (.loop (Zak (nth flP 11))) :: flP.drop 12)):=by kernel_rfl
theorem may_small {s:StM} (h:MayS s):small s:=⟨by rw [h.ml];omega,by rw [h.fl];omega,fun f hf=>⟨(Zgv h hf).1,(Zgv h hf).2.1⟩⟩
theorem st_length {s:StM} (h:MayS s):(stB s).length=262:=by
 have:=Zib h
 rw [Zv8,List.length_append,Zp7] at this
 omega
theorem nul_succ (j:Nat):nul (j+1)=nul j++[0]:=by simp [nul,List.replicate_succ']
def outK (s:StM) (k:Nat):List ByteArray:=(secs 9 (imgB s)).take k
theorem outK_next {s:StM} {k:Nat} (h:k < 9):outK s (k+1)=outK s k++[ofL (((imgB s).drop (32 * k)).take 32)]:=by
 unfold outK
 rw [List.take_succ_eq_append_getElem (by simpa using h),Ztm]
@[simp] theorem ex_32p (p:Nat->Prop):(∃ z:Nat,(32:Int)=(z:Int)/\p z) ↔ p 32:=⟨fun ⟨z,h,hp⟩=>by rw [show (32:Nat)=z by omega];exact hp,fun h=>⟨32,rfl,h⟩⟩
theorem r_one (l:List ByteArray) (a:ByteArray):ropPV .cat [pRow encS l,.row 1 [pS a]]=some (pRow encS (l++[a])):=r_catE encS l [a]
theorem post_ok (s:StM) (C:Base) (hF:C.F=FP) (h:MayS s) {Q:Exit->Act->World->Prop} (hQ:∀ a w,Zah C shPR [pRow encS (putI s)] a w->Q .ret a w) :
  ∀ a w,Zah C shP3 [pBy (stB s)] a w->wpL Tryz.prog ([]++.block (Zao (nth flP 8)) (.loop (Zak (nth flP 8))) :: ((flP.drop 9).take 2++.block (Zao (nth flP 11)) (.loop (Zak (nth flP 11))) :: flP.drop 12)) Q a w:=by
 intro a w hx
 have hst:=st_length h
 have him:=Zib h
 show wpL Tryz.prog (.block _ (.loop _) :: _) _ a w
 refine Zau (fun k a w=>∃ j:Nat,k=26 - j/\j<=26/\Zah C shP3 [pBy (stB s++nul j)] a w) ?_ (n:=26) ⟨0,by omega,by omega,by simpa [nul] using hx⟩
 rintro k a w ⟨j,rfl,hj,hx⟩
 rw [<- List.append_nil (flat _)]
 have hsl:(stB s++nul j).length=262+j:=by simp [hst]
 obtain ⟨T,rl,hT⟩:=Zdk hsl
 by_cases hlt:j < 26
 ·have tm:((T:Nat):Int).tmod 32=((T % 32:Nat):Int):=by rw [Int.tmod_eq_emod_of_nonneg (by omega)];omega
  have hr:T % 32 ≠ 0:=by omega
  have hsl2:(stB s++nul (j+1)).length=262+(j+1):=by simp [hst]
  obtain ⟨T2,rl2,hT2⟩:=Zdk hsl2
  have rc:=Zwq (stB s++nul j) 0 0 rfl
  rw [List.append_assoc,<- nul_succ] at rc
  have rq:((T % 32:Nat):Int) ≠ 0:=by omega
  generalize ((T % 32:Nat):Int)=r at *
  refine Zag Zad Zac (Zai tabP) no1 hx ?_ (fun qs a1 wd hq hx=>⟨fun _=>.inl ⟨rfl,26 - (j+1),by omega,j+1,rfl,by omega,?_⟩,fun h=>absurd rfl h⟩)
  ·simp [Zab,Zaa,Base.ev,SX.ev,evs,Value.oneCell',binPV,tm,rq,rl,rl2,rc]
   all_goals omega
  ·simp [evs,SX.ev,rc] at hq
   subst hq
   exact hx
 ·obtain rfl:j=26:=by omega
  have tm:((T:Nat):Int).tmod 32=0:=by rw [Int.tmod_eq_emod_of_nonneg (by omega)];omega
  refine Zag Zad Zac (Zai tabP) nx hx ?_ (fun qs a1 wd hq hx=>⟨nofun,fun _=>.inr (.inl ⟨rfl,?_⟩)⟩)
  ·simp [Zab,Zaa,Base.ev,SX.ev,evs,Value.oneCell',binPV,tm,rl]
  simp [evs,SX.ev] at hq
  subst hq
  rw [<- Zv8] at hx rl
  refine Zag Zad Zac (Zai tabP) cd hx ?_ (fun qs a1 wd hq hx=>⟨fun _=>?_,fun h=>absurd rfl h⟩)
  ·simp [Zab,Zaa,Base.ev,SX.ev,evs,Value.oneCell',rl]
  simp [evs,SX.ev] at hq
  subst hq
  obtain ⟨T0,rl0,hT0⟩:=Zdk him
  obtain ⟨im,him'⟩:∃ im,im=imgB s:=⟨_,rfl⟩
  have hsub:∀ k q q2:Nat,k < 9->q=32 * k->q2=32 * (k+1)->subPV (pBy im) (pI (q:Int)) (pI (q2:Int)) 1=some (pBy ((im.drop (32 * k)).take 32)):=fun k q q2 hk h1 h2=>by
   subst h1
   rw [bip.r_subY im (32 * k) q2 (by omega) (by rw [him',him];omega)]
   congr 3
   omega
  refine Zau (fun k a w=>∃ i q:Nat,k=9 - i/\i<=9/\q=32 * i/\((i=0/\Zah C shP4n [pI 0,pBy im] a w) \/ (1<=i/\Zah C shP4 [pI (q:Int),pBy im,pRow encS (outK s i)] a w))) ?_ (n:=9) ⟨0,0,by omega,by omega,rfl,.inl ⟨rfl,by rw [him'];exact hx⟩⟩
  clear hx hlt rl tm hT T
  rintro k a w ⟨i,q,rfl,hi,hq0,hx⟩
  rw [<- List.append_nil (flat _)]
  rw [<- him'] at rl0
  have ht:ropPV .toStr [pBy ((im.drop (32 * i)).take 32)]=some (pS (ofL ((im.drop (32 * i)).take 32))):=Zrg _
  by_cases hlt:i < 9
  ·obtain ⟨q2,hq2⟩:∃ q2:Nat,q2=32 * (i+1):=⟨_,rfl⟩
   have hs:=hsub i q q2 hlt hq0 hq2
   have hn:=outK_next (s:=s) hlt
   rw [<- him'] at hn
   have hlt2:(q:Int) < (T0:Int):=by omega
   rcases hx with ⟨rfl,hx⟩ | ⟨h1,hx⟩
   ·have ho:outK s 1=[ofL ((im.drop (32 * 0)).take 32)]:=by rw [hn];rfl
    have w0:IntKind.i64.wrap 32=32:=by decide
    have rm0:ropPV .min2 [pI 0,pI 0]=some (pI 0):=rfl
    obtain rfl:q=0:=by omega
    obtain rfl:q2=32:=by omega
    have hs0:subPV (pBy im) (pI 0) (pI 32) 1=some (pBy ((im.drop (32 * 0)).take 32)):=hs
    have hp0:(0:Int) < (T0:Int):=by omega
    have hy:((im.drop (32 * 0)).take 32).length=32:=by simp [him',him]
    generalize ofL ((im.drop (32 * 0)).take 32)=z at *
    generalize (im.drop (32 * 0)).take 32=y at *
    have rz:lenPV (PV.row 1 [pS z])=some (pI 1):=rfl
    have hrow:PV.row 1 [pS z]=pRow encS (outK s 1):=by rw [ho];rfl
    refine Zag Zad Zac (Zai tabP) cn hx ?_ (fun qs a1 wd hq hx=>⟨fun _=>.inl ⟨rfl,9 - (0+1),by omega,1,32,rfl,by omega,rfl,.inr ⟨by omega,?_⟩⟩,fun h=>absurd rfl h⟩)
    ·simp [Zab,Zaa,Base.ev,SX.ev,evs,Value.oneCell',binPV,rl0,rz,w0,hp0,hs0,ht,rm0]
     all_goals omega
    ·simp [evs,SX.ev,binPV,w0,hs0,ht,rm0,hrow] at hq
     subst hq
     exact hx
   ·have g1:IntKind.i64.wrap ((q:Int)+32)=(q2:Int):=by rw [wrapI _ (by omega) (by omega)];omega
    have g2:IntKind.i64.wrap ((q2:Int) - (q:Int))=32:=by rw [wrapI _ (by omega) (by omega)];omega
    have g3:IntKind.i64.wrap ((q:Int)+32)=(q2:Int):=g1
    have rm:ropPV .min2 [pI (q:Int),pI (q:Int)]=some (pI (q:Int)):=by simp [ropPV]
    obtain ⟨T3,rl3,h3⟩:∃ n:Nat,lenPV (pRow encS (outK s i))=some (pI (n:Int))/\n<=9:=⟨_,rfl,by simp [outK];omega⟩
    obtain ⟨T4,rl4,h4⟩:∃ n:Nat,lenPV (pRow encS (outK s (i+1)))=some (pI (n:Int))/\n<=9:=⟨_,rfl,by simp [outK];omega⟩
    have rc:=r_one (outK s i) (ofL ((im.drop (32 * i)).take 32))
    rw [<- hn] at rc
    generalize ofL ((im.drop (32 * i)).take 32)=z at *
    generalize (im.drop (32 * i)).take 32=y at *
    refine Zag Zad Zac (Zai tabP) co hx ?_ (fun qs a1 wd hq hx=>⟨fun _=>.inl ⟨rfl,9 - (i+1),by omega,i+1,q2,rfl,by omega,hq2,.inr ⟨by omega,?_⟩⟩,fun h=>absurd rfl h⟩)
    ·simp [Zab,Zaa,Base.ev,SX.ev,evs,Value.oneCell',binPV,rl0,rl3,rl4,g1,g2,hs,ht,rm,rc,hlt2]
     all_goals omega
    ·simp [evs,SX.ev,binPV,g1,g2,hs,ht,rm,rc] at hq
     subst hq
     exact hx
  ·obtain rfl:i=9:=by omega
   rcases hx with ⟨h0,_⟩ | ⟨h1,hx⟩
   ·omega
   obtain ⟨T3,rl3,h3⟩:∃ n:Nat,lenPV (pRow encS (outK s 9))=some (pI (n:Int))/\n<=9:=⟨_,rfl,by simp [outK]⟩
   have hd:¬ (q:Int) < (T0:Int):=by omega
   refine Zag Zad Zac (Zai tabP) cx hx ?_ (fun qs a1 wd hq hx=>⟨nofun,fun _=>.inr (.inl ⟨rfl,?_⟩)⟩)
   ·simp [Zab,Zaa,Base.ev,SX.ev,evs,Value.oneCell',binPV,rl0,rl3,hd]
   simp [evs,SX.ev] at hq
   subst hq
   rw [<- List.append_nil (flP.drop 12)]
   refine Zag Zad Zac (Zai tabP) post hx ?_ (fun qs a1 wd hq hx=>⟨nofun,fun _=>hQ _ _ ?_⟩)
   ·simp [Zab,Zaa,Base.ev,SX.ev,evs,Value.oneCell',rl3]
   simp [evs,SX.ev] at hq
   subst hq
   have:outK s 9=putI s:=by rw [Zrw h];exact List.take_of_length_le (by simp)
   rw [<- this]
   exact hx

theorem toldPuID (k:Nat):ToldF 18 (EPuI k) (spec RPuI):=by
 refine Zek FP _ (Zar Tryz.prog 18) Tryz.func18 (by kernel_rfl) shP (by kernel_rfl) ?_ ?_
 ·intro ps qs h
  obtain ⟨s,_,rfl,rfl⟩:=Zaj h
  exact Zbd rfl
 ·intro C ps qs hF h a w hsh
  obtain ⟨s,hpre,rfl,rfl⟩:=Zaj h
  show wpL Tryz.prog flP _ a w
  have e1:FP 1 [pRow encF s.files,pRow encM s.marks,pI s.epoch]=some [pB (mayS s)]:=Zal fMayS ⟨s,hpre,rfl,rfl⟩
  by_cases hm:MayS s
  ·rw [Zgw.2 hm] at e1
   rw [cut1]
   have hsm:=may_small hm
   have g2:FP 2 [.row 0 [],pI s.epoch,pI 4]=some [pBy (stepM s [] 0)]:=by
    rw [show PV.row 0 []=pBy [] from rfl,show (4:Int)=((4:Nat):Int) from rfl,FP2 (by simp) (by omega) (by omega)];simp [stepM]
   have hl0:(stepM s [] 0).length=4:=by simp [stepM]
   obtain ⟨z0,rl0,hz0⟩:=Zdk hl0
   refine Zag Zad Zac (Zai tabP) pre hsh ?_ (fun qs a1 w1 hq hx=>⟨fun _=>?_,fun h=>absurd rfl h⟩)
   ·simp [Zab,Zaa,Base.ev,SX.ev,evs,Value.oneCell',hF,pSt,e1,g2,pp1,pp2,rl0]
    all_goals omega
   simp [evs,SX.ev,hF,pSt,g2] at hq
   subst hq
   have hl:([]:List UInt8).length<=1000:=by simp
   refine Zau (fun k a w=>∃ i:Nat,k=s.marks.length - i/\i<=s.marks.length/\Zah C shP1 [pI (i:Int),pRow encF s.files,pRow encM s.marks,pI s.epoch,pBy (stepM s [] i)] a w) ?_ (n:=s.marks.length) ⟨0,by omega,by omega,hx⟩
   rintro k a w ⟨i,rfl,hi,hx⟩
   have hsl:=Zn8 (i:=i) hsm hl
   have rl1:=r_len (stepM s [] i)
   rw [<- List.append_nil (flat _)]
   by_cases hlt:i < s.marks.length
   ·have v4:IntKind.i64.wrap ((i:Int)+1)=(i:Int)+1:=wrapI _ (by have:=hsm.1;omega) (by have:=hsm.1;omega)
    obtain ⟨c0,c1,c2,c3⟩:=iws.cellM4 s.marks i hlt
    have ix:=Zaq encM s.marks i 4 4 .i64 rfl hlt (by decide)
    have hnx:=Zsw (l:=[]) hlt
    have hsl2:=Zn8 (i:=i+1) hsm hl
    generalize s.marks[i]=m at *
    obtain ⟨m1,m2,m3,m4⟩:=m
    simp only at c0 c1 c2 c3
    have e1:FP 2 [pBy (stepM s [] i),pI m1,pI 4]=some [pBy (stepM s [] i++low m1 4)]:=FP2 (n:=4) (by omega) (by omega) (by omega)
    have ln2:(stepM s [] i++low m1 4).length=(stepM s [] i).length+4:=by simp
    obtain ⟨z2,rl2,hz2⟩:=Zdk ln2
    have e2:FP 2 [pBy (stepM s [] i++low m1 4),pI m2,pI 1]=some [pBy (stepM s [] i++low m1 4++low m2 1)]:=FP2 (n:=1) (by omega) (by omega) (by omega)
    have ln3:(stepM s [] i++low m1 4++low m2 1).length=(stepM s [] i).length+5:=by simp
    obtain ⟨z3,rl3,hz3⟩:=Zdk ln3
    have e3:FP 2 [pBy (stepM s [] i++low m1 4++low m2 1),pI m3,pI 1]=some [pBy (stepM s [] i++low m1 4++low m2 1++low m3 1)]:=FP2 (n:=1) (by omega) (by omega) (by omega)
    have ln4:(stepM s [] i++low m1 4++low m2 1++low m3 1).length=(stepM s [] i).length+6:=by simp
    obtain ⟨z4,rl4,hz4⟩:=Zdk ln4
    have e4:FP 2 [pBy (stepM s [] i++low m1 4++low m2 1++low m3 1),pI m4,pI 4]=some [pBy (stepM s [] (i+1))]:=by
     rw [show (4:Int)=((4:Nat):Int) from rfl,FP2 (by omega) (by omega) (by omega),hnx]
     simp only [mkB,List.append_assoc]
    have ln5:(stepM s [] (i+1)).length=(stepM s [] i).length+10:=by rw [hnx,List.length_append,Zjp]
    obtain ⟨z5,rl5,hz5⟩:=Zdk ln5
    generalize stepM s [] i++low m1 4++low m2 1++low m3 1=L4 at *
    generalize stepM s [] i++low m1 4++low m2 1=L3 at *
    generalize stepM s [] i++low m1 4=L2 at *
    generalize hT:(stepM s [] i).length=T at *
    refine Zag Zad Zac (Zai tabP) mo hx ?_ (fun qs a1 wd hq hx=>⟨fun _=>.inl ⟨rfl,s.marks.length - (i+1),by omega,i+1,rfl,by omega,?_⟩,fun h=>absurd rfl h⟩)
    ·simp [-Zae,Zab,Zaa,Base.ev,SX.ev,evs,Value.oneCell',hF,pp2,binPV,v4,c0,c1,c2,c3,ix,e1,e2,e3,e4,rl1,rl2,rl3,rl4,rl5,hlt,Zaf]
     all_goals omega
    ·simp [evs,SX.ev,hF,binPV,v4,c0,c1,c2,c3,e1,e2,e3,e4] at hq
     subst hq
     exact hx
   ·obtain rfl:i=s.marks.length:=by omega
    refine Zag Zad Zac (Zai tabP) mx hx ?_ (fun qs a1 wd hq hx=>⟨nofun,fun _=>.inr (.inl ⟨rfl,?_⟩)⟩)
    ·simp [Zab,Zaa,Base.ev,SX.ev,evs,Value.oneCell',binPV,rl1,Zaf]
    simp [evs,SX.ev] at hq
    subst hq
    have he:stepM s [] s.marks.length=stepF s [] 0:=by simp [stepM,stepF]
    rw [he] at hx
    have rl1:=r_len (stepF s [] 0)
    rw [cut2]
    refine Zag Zad Zac (Zai tabP) md hx ?_ (fun qs a1 wd hq hx=>⟨fun _=>?_,fun h=>absurd rfl h⟩)
    ·simp [Zab,Zaa,Base.ev,SX.ev,evs,Value.oneCell',rl1]
    simp [evs,SX.ev] at hq
    subst hq
    refine Zau (fun k a w=>∃ i:Nat,k=s.files.length - i/\i<=s.files.length/\Zah C shP2 [pI (i:Int),pRow encF s.files,pRow encM s.marks,pI s.epoch,pBy (stepF s [] i)] a w) ?_ (n:=s.files.length) ⟨0,by omega,by omega,hx⟩
    rintro k a w ⟨i,rfl,hi,hx⟩
    have hsl:=Zn9 (i:=i) hsm hl
    have rl1:=r_len (stepF s [] i)
    rw [<- List.append_nil (flat _)]
    by_cases hlt:i < s.files.length
    ·have v4:IntKind.i64.wrap ((i:Int)+1)=(i:Int)+1:=wrapI _ (by have:=hsm.2.1;omega) (by have:=hsm.2.1;omega)
     obtain ⟨c0,c1,c2⟩:=cellF s.files i hlt
     have ix:=Zaq encF s.files i 3 3 .i64 rfl hlt (by decide)
     have hnx:=Zsx (l:=[]) hlt
     have hb:=hsm.2.2 s.files[i] (List.getElem_mem hlt)
     have hsl2:=Zn9 (i:=i+1) hsm hl
     have ln5:(stepF s [] (i+1)).length=(stepF s [] i).length+38:=by rw [hnx,List.length_append,Zlw hb.1 hb.2]
     obtain ⟨z5,rl5,hz5⟩:=Zdk ln5
     generalize s.files[i]=f at *
     obtain ⟨na,ve,bo⟩:=f
     simp only at c0 c1 c2 hb
     obtain ⟨d1,hd1⟩:∃ d:Nat,d=8 - na.size:=⟨_,rfl⟩
     obtain ⟨d2,hd2⟩:∃ d:Nat,d=24 - bo.size:=⟨_,rfl⟩
     have u1:IntKind.i64.wrap (8 - (na.size:Int))=(d1:Int):=by rw [wrapI _ (by omega) (by omega)];omega
     have u2:IntKind.i64.wrap (24 - (bo.size:Int))=(d2:Int):=by rw [wrapI _ (by omega) (by omega)];omega
     have p1:ropPV (.rep [.int .u8 0]) [pI (d1:Int)]=some (pBy (nul (8 - na.size))):=by rw [r_rep _ (by omega),Int.toNat_natCast,hd1];rfl
     have p2:ropPV (.rep [.int .u8 0]) [pI (d2:Int)]=some (pBy (nul (24 - bo.size))):=by rw [r_rep _ (by omega),Int.toNat_natCast,hd2];rfl
     have t1:FP 3 [pBy (stepF s [] i),pS na]=some [pBy (stepF s [] i++msB na)]:=FP3 (by omega) (by omega)
     have an1:(stepF s [] i++msB na).length=(stepF s [] i).length+(na.size+1):=by rw [List.length_append,Zia]
     obtain ⟨j1,al1,hj1⟩:=Zdk an1
     have q1:=r_cat (stepF s [] i++msB na) (nul (8 - na.size))
     rw [List.append_assoc,<- Zw5] at q1
     have an2:(stepF s [] i++txB 8 na).length=(stepF s [] i).length+9:=by rw [List.length_append,Zfk hb.1]
     obtain ⟨j2,al2,hj2⟩:=Zdk an2
     have e1:FP 2 [pBy (stepF s [] i++txB 8 na),pI ve,pI 4]=some [pBy (stepF s [] i++txB 8 na++low ve 4)]:=FP2 (n:=4) (by omega) (by omega) (by omega)
     have an3:(stepF s [] i++txB 8 na++low ve 4).length=(stepF s [] i).length+13:=by rw [List.length_append,an2,Zfm]
     obtain ⟨j3,al3,hj3⟩:=Zdk an3
     have t2:FP 3 [pBy (stepF s [] i++txB 8 na++low ve 4),pS bo]=some [pBy (stepF s [] i++txB 8 na++low ve 4++msB bo)]:=FP3 (by omega) (by omega)
     have an4:(stepF s [] i++txB 8 na++low ve 4++msB bo).length=(stepF s [] i).length+13+(bo.size+1):=by rw [List.length_append,an3,Zia]
     obtain ⟨j4,al4,hj4⟩:=Zdk an4
     have q2:ropPV .cat [pBy (stepF s [] i++txB 8 na++low ve 4++msB bo),pBy (nul (24 - bo.size))]=some (pBy (stepF s [] (i+1))):=by
      rw [r_cat,hnx]
      simp only [flB,Zw5,List.append_assoc]
     generalize stepF s [] i++txB 8 na++low ve 4++msB bo=L4 at *
     generalize stepF s [] i++txB 8 na++low ve 4=L3 at *
     generalize stepF s [] i++txB 8 na=L2 at *
     generalize stepF s [] i++msB na=L1 at *
     generalize nul (8 - na.size)=n1 at *
     generalize nul (24 - bo.size)=n2 at *
     generalize hT:(stepF s [] i).length=T at *
     refine Zag Zad Zac (Zai tabP) fo hx ?_ (fun qs a1 wd hq hx=>⟨fun _=>.inl ⟨rfl,s.files.length - (i+1),by omega,i+1,rfl,by omega,?_⟩,fun h=>absurd rfl h⟩)
     ·simp [-Zae,Zab,Zaa,Base.ev,SX.ev,evs,Value.oneCell',hF,pp2,pp3,binPV,Za6,v4,c0,c1,c2,ix,t1,t2,u1,u2,p1,p2,q1,q2,al1,al2,al3,al4,e1,rl1,rl5,hlt,Zaf]
      all_goals omega
     ·simp [evs,SX.ev,hF,binPV,Za6,v4,c0,c1,c2,t1,t2,u1,u2,p1,p2,q1,q2,e1] at hq
      subst hq
      exact hx
    ·obtain rfl:i=s.files.length:=by omega
     refine Zag Zad Zac (Zai tabP) fx hx ?_ (fun qs a1 wd hq hx=>⟨nofun,fun _=>.inr (.inl ⟨rfl,?_⟩)⟩)
     ·simp [Zab,Zaa,Base.ev,SX.ev,evs,Value.oneCell',binPV,rl1,Zaf]
     simp [evs,SX.ev] at hq
     subst hq
     have hend:stepF s [] s.files.length=stB s:=by simp [stepF,stB]
     rw [hend] at hx rl1
     show wpL Tryz.prog ([]++([]++.block (Zao (nth flP 8)) (.loop (Zak (nth flP 8))) :: ((flP.drop 9).take 2++.block (Zao (nth flP 11)) (.loop (Zak (nth flP 11))) :: flP.drop 12))) _ _ _
     refine Zag Zad Zac (Zai tabP) nd hx ?_ (fun qs a1 wd hq hx=>⟨fun _=>?_,fun h=>absurd rfl h⟩)
     ·simp [Zab,Zaa,Base.ev,SX.ev,evs,Value.oneCell',rl1]
     simp [evs,SX.ev] at hq
     subst hq
     exact post_ok s C hF hm (fun a w hx=>⟨.inr rfl,shPR,_,[SX.var 0],hx,by kernel_rfl,rfl⟩) _ _ hx
  ·have hmf:mayS s=false:=by
    cases h:mayS s with
    | false=>rfl
    | true=>exact absurd (Zgw.1 h) hm
   rw [hmf] at e1
   rw [<- List.append_nil flP]
   refine Zag Zad Zac (Zai tabP) no hsh ?_ (fun qs a1 w1 hq hx=>⟨nofun,fun _=>⟨.inr rfl,shPN,_,[SX.lit 0 []],hx,by kernel_rfl,?_⟩⟩)
   ·simp [Zab,Zaa,Base.ev,SX.ev,evs,Value.oneCell',hF,pSt,e1,pp1]
   ·rw [Zvc hm]
    rfl

end Go.Proofs.YtefkakjegdjojaaGreat.imp
