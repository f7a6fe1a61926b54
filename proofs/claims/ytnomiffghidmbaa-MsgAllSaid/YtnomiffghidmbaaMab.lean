/- Package msg's askBytes, told. -/
import Derived.Test.YtnomiffghidmbaaMma
import Derived.Test.YtnomiffghidmbaaMsu
import Derived.Test.YtnomiffghidmbaaMpa
namespace Go.Proofs.Ytnomiffghidmbaa.mab
open Go Go.RowKit eng SX Fact fil ima msm
open fileFronts (Zac Zei)
open mws (tl_injW aP Zej)
open mcr (EPuR ECr RCr fCr)
open mrd (Zav)
open mpt (ETxR nilY)
open mas (AOk abox)
open mma (EMb RMb fMb Zug)
open bip (RPuB fPuB RTxB fTxB pBy_inj)
set_option linter.unusedVariables false
set_option linter.unusedSimpArgs false
set_option maxRecDepth 1000000
def EAb (k:Nat):FnE:={ k:=k,ins:=[some 8],leaks:=[false,false,false,false,false,false,false,false],outs:=[none],kinds:=[.row] }
def tabP (f:FuncId):Option FnE:=cond (Nat.beq f 76) (some (EPuR 2)) (cond (Nat.beq f 77) (some (ETxR 3)) (cond (Nat.beq f 78) (some (ECr 4)) none))
def tabPX (f:FuncId):Option (FnE × List Value):=cond (Nat.beq f 32) (some (EMb 1,[anyV])) none
def orcP:Orc:=orcOr (orcFn tabP) (orcX tabPX)
noncomputable def flB:=flat (Zam Try.prog 38)
noncomputable def lpB:=flat (Zaq (nth flB 8))
def wbx:BoxT:=⟨84,0,false,[.leaf],none,false⟩
def shB:Shape:=⟨[(0,.agg 8)],[],[none,none,none,none,none,none,none,some false],57,38⟩
def shBl:Shape:=⟨[(3,.ptr 0 0 0 0),(39,.leaf),(40,.leaf),(41,.leaf)],[wbx],[some false,none,none,some true],57,38⟩
def shBR:Shape:=⟨[(2,.leaf)],[],[some true],57,38⟩
def shB0:Shape:=⟨[],[],[],57,38⟩
def z1:List SX:=[.fn 2 [.lit 0 [],.var 0,.con (.int .i64 1)] 0,.var 1,.con (.int .i64 1)]
def z2:List SX:=[.fn 2 z1 0,.var 2,.con (.int .i64 4)]
def z3:List SX:=[.fn 2 z2 0,.var 3,.con (.int .i64 4)]
def z4:List SX:=[.fn 2 z3 0,.var 4]
def z5:List SX:=[.fn 3 z4 0,.var 5,.con (.int .i64 1)]
def z6:List SX:=[.fn 2 z5 0,.var 6,.con (.int .i64 1)]
def z7:List SX:=[.fn 2 z6 0,.len (.var 7),.con (.int .i64 1)]
@[simp] def zMab1:List SX:=[.var 0,.var 1,.var 2,.var 3,.var 4,.var 5,.var 6,.var 7]
@[simp] def zMab2:List SX:=[.var 3,.cell (.var 0) (.var 2) 2 0,.con (.int .i64 1)]
@[simp] def zMab3:SX:=.bin .add (.var 2) (.con (.int .i64 1))
@[simp] def zMab4:SX:=.bin .lss (.var 2) (.var 1)
@[simp] def zMab5:List SX:=[.var 3,.conv .i64 (.fn 4 [.var 3] 0),.con (.int .i64 2)]
theorem pb:segTo Try.prog mab.orcP 10000 (flB.take 8) shB [0] shBl [(2,0)]=some (.normal,[Fact.fx 32 (EMb 1) [.tuple { toList:=[] }] zMab1,.is (.fn 1 zMab1 0) (.int .i64 0),.fn 76 (EPuR 2) [.lit 0 [],.var 0,.con (.int .i64 1)],.fn 76 (EPuR 2) z1,.fn 76 (EPuR 2) z2,.fn 76 (EPuR 2) z3,.fn 77 (ETxR 3) z4,.ok (.len (.var 7)),.fn 76 (EPuR 2) z5,.fn 76 (EPuR 2) z6,.fn 76 (EPuR 2) z7,.ok (.len (.var 7)),.ok (.len (.var 7)),.ok (.con (.int .i64 0))],[.var 7,.len (.var 7),.con (.int .i64 0),.fn 2 z7 0]):=by kernel_rfl
theorem pu:segU Try.prog mab.orcP 10000 (flB.take 8) shB [1] shB0 []=some (.panic (.tuple { toList:=[] }),[Fact.fx 32 (EMb 1) [.tuple { toList:=[] }] zMab1,.is (.fn 1 zMab1 0) (.int .i64 1)],[]):=by kernel_rfl
theorem lx:segTo Try.prog mab.orcP 10000 lpB shBl [0] shBl [(0,0)]=some (.exit 0,[.ok zMab4,.is zMab4 (.bool false),.ok (.var 1),.ok (.var 2)],[.var 0,.var 1,.var 2,.var 3]):=by kernel_rfl
theorem lo:segTo Try.prog mab.orcP 10000 lpB shBl [1] shBl [(0,0)]=some (.normal,[.ok zMab4,.is zMab4 (.bool true),.idx (.var 0) (.var 2) 2 2,.idx (.var 0) (.var 2) 2 2,.ok (.cell (.var 0) (.var 2) 2 0),.ok (.cell (.var 0) (.var 2) 2 1),.fn 76 (EPuR 2) zMab2,.fn 77 (ETxR 3) [.fn 2 zMab2 0,.cell (.var 0) (.var 2) 2 1],.ok zMab3,.ok (.var 1),.ok zMab3],[.var 0,.var 1,zMab3,.fn 3 [.fn 2 zMab2 0,.cell (.var 0) (.var 2) 2 1] 0]):=by kernel_rfl
theorem pz:segTo Try.prog mab.orcP 10000 (flB.drop 9) shBl [] shBR []=some (.ret,[.fn 78 (ECr 4) [.var 3],.ok (.fn 4 [.var 3] 0),.ok (.conv .i64 (.fn 4 [.var 3] 0)),.fn 76 (EPuR 2) zMab5],[.fn 2 zMab5 0]):=by kernel_rfl
@[simp] theorem kTxR9 (k:Nat):(ETxR k).k=k:=rfl
@[simp] theorem kMb9 (k:Nat):(EMb k).k=k:=rfl
@[simp] theorem kAb (k:Nat):(EAb k).k=k:=rfl
@[simp] theorem holds_fxB (B:Base) (f:FuncId) (E:FnE) (pans:List Value) (es:List SX):(Fact.fx f E pans es).holds B ↔ ToldX f E pans (B.F E.k)/\∃ ps qs,evs B.s B.F es=some ps/\B.F E.k ps=some qs:=Iff.rfl
noncomputable def FP:Fns:=fun k=>match k with | 1=>spec RMb | 2=>spec RPuB | 3=>spec RTxB | 4=>spec RCr | _=>fun _=>none
theorem p1:ToldX 32 (EMb 1) [.tuple { toList:=[] }] (FP 1):=Zug 1
theorem p2:ToldF 76 (EPuR 2) (FP 2):=Zav (bip.toldPuB 2) rfl rfl rfl rfl
theorem p3:ToldF 77 (ETxR 3) (FP 3):=Zav (bip.toldTxB 3) rfl rfl rfl rfl
theorem p4:ToldF 78 (ECr 4) (FP 4):=msu.toldSu 4
theorem Zbp:OrcOk Try.prog mab.orcP:=Zg7 (Zae tabP) (Zdo tabPX)
theorem fp2 {l:List UInt8} {v:Int} {n:Nat} (h:l.length<=1000000) (z:Int) (hz:z=n) (h1:1<=n) (h2:n<=8):∃ m,m=l++low v n/\m.length=l.length+n/\FP 2 [pBy l,pI v,pI z]=some [pBy m]:=by
 subst hz
 exact ⟨_,rfl,by simp,Zaf fPuB ⟨l,v,n,h,by omega,by omega,rfl,rfl⟩⟩
theorem fp3 {l:List UInt8} {s:ByteArray} (h:l.length<=1000000) (h1:s.size<=255):∃ m,m=l++tx s/\m.length=l.length+(s.size+1)/\FP 3 [pBy l,pS s]=some [pBy m] :=
 ⟨_,rfl,by simp [Znk],Zaf fTxB ⟨l,s,h,h1,rfl,rfl⟩⟩
theorem fp4 {l:List UInt8} (h:l.length<=1000000):∃ z:Int,FP 4 [pBy l]=some [.v (.int .u16 z)]/\IntKind.i64.wrap z=z/\FP 2 [pBy l,pI z,pI 2]=some [pBy (sealB l)]:=by
 have hc:=Zll l
 exact ⟨(crcB l:Int),Zaf fCr ⟨l,h,rfl,rfl⟩,wrapI _ (by omega) (by omega),Zaf fPuB ⟨l,(crcB l:Int),2,h,by omega,by omega,rfl,rfl⟩⟩
theorem cutB:flB=flB.take 8++.block (Zat (nth flB 8)) (.loop (Zaq (nth flB 8))) :: flB.drop 9:=by kernel_rfl
def RAb (ps qs:List PV):Prop:=∃ a:AskM,AOk a/\ps=aP a/\qs=if mayA a=true then [pI 0,pBy (putA a)] else [pI 1]
theorem fAb:∀ ps q1 q2,RAb ps q1->RAb ps q2->q1=q2:=by
 rintro ps q1 q2 ⟨a,_,rfl,rfl⟩ ⟨b,_,h,rfl⟩
 rw [Zej h]
set_option maxHeartbeats 2000000 in
theorem Zro (k:Nat):ToldX 38 (EAb k) [anyV] (spec RAb):=by
 refine Zgt FP _ (Zam Try.prog 38) Try.func38 (by kernel_rfl) shB (by kernel_rfl) ?_ ?_
 ·intro ps qs h
  obtain ⟨a,_,rfl,rfl⟩:=Zag h
  exact Za7 rfl
 intro C ps qs hF h a w hsh
 obtain ⟨A,ok,rfl,hqs⟩:=Zag h
 clear h
 show wpL Try.prog flB _ a w
 have g1:FP 1 (aP A)=some (if mayA A=true then [pI 0] else [pI 1]):=Zaf fMb ⟨A,ok,rfl,rfl⟩
 rw [cutB]
 by_cases hm:mayA A=true
 ·obtain ⟨_,_,_,_,hn,_,_,h5,hws⟩:=Zp1 hm
  rw [if_pos hm] at g1
  have hq:putA A=sealB (askB A):=by rw [putA,if_pos hm]
  rw [if_pos hm,hq] at hqs
  clear hm hq ok
  obtain ⟨t1,t2,t3,t4,t5,t6,t7,ws⟩:=A
  simp only [aP] at *
  obtain ⟨l1,e1,n1,c1⟩:=fp2 (l:=[]) (v:=t1) (n:=1) (by simp) 1 rfl (by omega) (by omega)
  obtain ⟨l2,e2,n2,c2⟩:=fp2 (l:=l1) (v:=t2) (n:=1) (by simp at n1;omega) 1 rfl (by omega) (by omega)
  obtain ⟨l3,e3,n3,c3⟩:=fp2 (l:=l2) (v:=t3) (n:=4) (by simp at n1;omega) 4 rfl (by omega) (by omega)
  obtain ⟨l4,e4,n4,c4⟩:=fp2 (l:=l3) (v:=t4) (n:=4) (by simp at n1;omega) 4 rfl (by omega) (by omega)
  obtain ⟨l5,e5,n5,c5⟩:=fp3 (l:=l4) (s:=t5) (by simp at n1;omega) hn
  obtain ⟨l6,e6,n6,c6⟩:=fp2 (l:=l5) (v:=t6) (n:=1) (by simp at n1;omega) 1 rfl (by omega) (by omega)
  obtain ⟨l7,e7,n7,c7⟩:=fp2 (l:=l6) (v:=t7) (n:=1) (by simp at n1;omega) 1 rfl (by omega) (by omega)
  obtain ⟨l8,e8,n8,c8⟩:=fp2 (l:=l7) (v:=(ws.length:Int)) (n:=1) (by simp at n1;omega) 1 rfl (by omega) (by omega)
  have hl:askB ⟨t1,t2,t3,t4,t5,t6,t7,ws⟩=l8++(ws.map wrB).flatten:=by simp [e1,e2,e3,e4,e5,e6,e7,e8,askB]
  rw [hl] at hqs
  have hn8:l8.length<=1000:=by simp at n1;omega
  clear hl e1 e2 e3 e4 e5 e6 e7 e8 n1 n2 n3 n4 n5 n6 n7 n8 hn
  have hlW:lenPV (pRow encW ws)=some (pI (ws.length:Int)):=Zar ..
  refine Zad names_ok mixed_ok Zbp pb hsh ?_ ?_
  ·simp [-Zac,Zab,Zaa,Base.ev,SX.ev,evs,Value.oneCell',hF,hlW,nilY,g1,c1,c2,c3,c4,c5,c6,c7,c8,z1,z2,z3,z4,z5,z6,z7,mab.p1,mab.p2,mab.p3]
  intro qs a1 w1 hq h1
  refine ⟨fun _=>?_,fun h=>absurd rfl h⟩
  simp [evs,SX.ev,hF,hlW,nilY,c1,c2,c3,c4,c5,c6,c7,c8,z1,z2,z3,z4,z5,z6,z7] at hq
  subst hq
  clear c1 c2 c3 c4 c5 c6 c7 c8
  refine Zhe (fun q a w=>∃ (j:Nat) (l:List UInt8),j<=ws.length/\q=ws.length - j/\l=l8++((ws.take j).map wrB).flatten/\l.length<=1000+300 * j/\Zah C shBl [pRow encW ws,pI (ws.length:Int),pI (j:Int),pBy l] a w) ?_ (n:=ws.length) ⟨0,l8,by omega,by omega,by simp,by omega,h1⟩
  clear h1
  rintro q a w ⟨j,l,hj,rfl,hl,hlen,hin⟩
  show wpL Try.prog lpB _ a w
  rw [<- List.append_nil lpB]
  by_cases hlt:j < ws.length
  ·have v3:IntKind.i64.wrap ((j:Int)+1)=(j:Int)+1:=wrapI _ (by omega) (by omega)
   obtain ⟨d0,d1⟩:=Zei ws j hlt
   have ix:=Zdk encW ws j 2 2 .i64 rfl hlt (by decide)
   have ow:=Zmu (hws ws[j] (List.getElem_mem hlt))
   have hj1:((ws.take (j+1)).map wrB).flatten=((ws.take j).map wrB).flatten++(low ws[j].1 1++tx ws[j].2):=by rw [List.take_succ_eq_append_getElem hlt];simp only [List.map_append,List.map_cons,List.map_nil,List.flatten_append,List.flatten_cons,List.flatten_nil,List.append_nil];rfl
   obtain ⟨m1,f1,n1,b1⟩:=fp2 (l:=l) (v:=ws[j].1) (n:=1) (by omega) 1 rfl (by omega) (by omega)
   obtain ⟨m2,f2,n2,b2⟩:=fp3 (l:=m1) (s:=ws[j].2) (by omega) (by omega)
   have hm2:m2=l8++((ws.take (j+1)).map wrB).flatten:=by rw [hj1,f2,f1,hl];simp
   refine Zad names_ok mixed_ok Zbp lo hin ?_ (fun qs a1 w1 hq h1=>⟨fun _=>.inl ⟨rfl,ws.length - (j+1),by omega,j+1,m2,by omega,rfl,hm2,by omega,by simp [evs,SX.ev,hF,binPV,v3,d0,d1,b1,b2] at hq;subst hq;exact h1⟩,fun h=>absurd rfl h⟩)
   simp [-Zac,Zab,Zaa,Base.ev,SX.ev,evs,Value.oneCell',hF,hlW,binPV,v3,hlt,ix,d0,d1,b1,b2,mab.p2,mab.p3]
  ·have hje:j=ws.length:=by omega
   subst hje
   rw [List.take_length] at hl
   rw [<- hl] at hqs
   obtain ⟨z,k1,k2,k3⟩:=fp4 (l:=l) (by omega)
   refine Zad names_ok mixed_ok Zbp lx hin ?_ ?_
   ·simp [-Zac,Zab,Zaa,Base.ev,SX.ev,evs,Value.oneCell',hF,hlW,binPV]
   ·intro qs a1 w1 hq h1
    refine ⟨nofun,fun _=>.inr (.inl ⟨by rw [show Zat (nth flB 8)=0 by kernel_rfl];rfl,?_⟩)⟩
    simp [evs,SX.ev] at hq
    subst hq
    rw [<- List.append_nil (flB.drop 9)]
    refine Zad names_ok mixed_ok Zbp pz h1 ?_ (fun qs a1 w1 hq h1=>⟨nofun,fun _=>.inl ⟨_,hqs,.inr rfl,shBR,_,[SX.var 0],h1,by kernel_rfl,?_⟩⟩)
    ·simp [-Zac,Zab,Zaa,Base.ev,SX.ev,evs,Value.oneCell',hF,Zay,k1,k2,k3,mab.p2,mab.p4]
    ·simp [evs,SX.ev,hF,Zay,k1,k2,k3] at hq
     subst hq
     rfl
 ·rw [if_neg hm] at g1 hqs
  clear hm
  obtain ⟨t1,t2,t3,t4,t5,t6,t7,ws⟩:=A
  simp only [aP] at *
  refine Zbh names_ok mixed_ok Zbp pu hsh ?_ (fun qs a1 w1 hq h1=>⟨nofun,fun _ u=>.inr ⟨0,anyV,u,_,_,hqs,rfl,rfl,h1⟩⟩)
  simp [-Zac,Zab,Zaa,Base.ev,SX.ev,evs,Value.oneCell',hF,nilY,g1,mab.p1]
end Go.Proofs.Ytnomiffghidmbaa.mab
