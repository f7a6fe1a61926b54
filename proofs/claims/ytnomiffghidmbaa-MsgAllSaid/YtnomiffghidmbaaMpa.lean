/- The document's PutAsk, told. -/
import Derived.Test.YtnomiffghidmbaaMas
namespace Go.Proofs.Ytnomiffghidmbaa.mpa
open Go Go.RowKit eng SX Fact fil ima msm
open fileFronts (Zac Zei)
open mws (tl_injW aP Zej)
open mcr (EPuR ESl)
open mrd (Zav Zpp RSl fSl)
open mpt (ETxR nilY)
open mas (EMa RMa fMa toldMa AOk abox)
open bip (RPuB fPuB RTxB fTxB pBy_inj)
set_option linter.unusedVariables false
set_option linter.unusedSimpArgs false
set_option maxRecDepth 1000000
def EPa (k:Nat):FnE:={ k:=k,ins:=[some 8],leaks:=[false,false,false,false,false,false,false,false],outs:=[none],kinds:=[.row] }
def tabP (f:FuncId):Option FnE:=cond (Nat.beq f 14) (some (EMa 1)) (cond (Nat.beq f 39) (some (EPuR 2)) (cond (Nat.beq f 40) (some (ETxR 3)) (cond (Nat.beq f 41) (some (ESl 4)) none)))
noncomputable def flP:=flat (Zam Try.prog 16)
noncomputable def lpP:=flat (Zaq (nth flP 6))
def shP:Shape:=⟨[(0,.agg 8)],[],[none,none,none,none,none,none,none,some false],58,16⟩
def shPl:Shape:=⟨[(1,.ptr 0 0 0 0),(3,.leaf),(4,.leaf)],[abox],[some true,none,none,none,none,none,none,none,none,some false],58,16⟩
def shPR:Shape:=⟨[(2,.leaf)],[],[some true],58,16⟩
def z1:List SX:=[.fn 2 [.lit 0 [],.var 0,.con (.int .i64 1)] 0,.var 1,.con (.int .i64 1)]
def z2:List SX:=[.fn 2 z1 0,.var 2,.con (.int .i64 4)]
def z3:List SX:=[.fn 2 z2 0,.var 3,.con (.int .i64 4)]
def z4:List SX:=[.fn 2 z3 0,.var 4]
def z5:List SX:=[.fn 3 z4 0,.var 5,.con (.int .i64 1)]
def z6:List SX:=[.fn 2 z5 0,.var 6,.con (.int .i64 1)]
def z7:List SX:=[.fn 2 z6 0,.len (.var 7),.con (.int .i64 1)]
@[simp] def zMpa1:List SX:=[.var 0,.var 1,.var 2,.var 3,.var 4,.var 5,.var 6,.var 7]
@[simp] def zMpa2:List SX:=[.var 0,.cell (.var 9) (.var 1) 2 0,.con (.int .i64 1)]
@[simp] def zMpa3:SX:=.bin .lss (.var 1) (.len (.var 9))
@[simp] def zMpa4:SX:=.bin .add (.var 1) (.con (.int .i64 1))
theorem pa0:segTo Try.prog (orcFn tabP) 10000 (flP.take 3) shP [0] shPR []=some (.ret,[.fn 14 (EMa 1) zMpa1,.is (.fn 1 zMpa1 0) (.bool false)],[.lit 0 []]):=by kernel_rfl
theorem pa1:segTo Try.prog (orcFn tabP) 10000 (flP.take 6) shP [1] shPl [(1,0)]=some (.normal,[.fn 14 (EMa 1) zMpa1,.is (.fn 1 zMpa1 0) (.bool true),.fn 39 (EPuR 2) [.lit 0 [],.var 0,.con (.int .i64 1)],.fn 39 (EPuR 2) z1,.fn 39 (EPuR 2) z2,.fn 39 (EPuR 2) z3,.fn 40 (ETxR 3) z4,.fn 39 (EPuR 2) z5,.fn 39 (EPuR 2) z6,.ok (.len (.var 7)),.fn 39 (EPuR 2) z7,.ok (.con (.int .i64 0)),.ok (.var 0),.ok (.var 1),.ok (.var 2),.ok (.var 3),.ok (.var 4),.ok (.var 5),.ok (.var 6)],[.fn 2 z7 0,.con (.int .i64 0),.var 0,.var 1,.var 2,.var 3,.var 4,.var 5,.var 6,.var 7]):=by kernel_rfl
theorem pl0:segTo Try.prog (orcFn tabP) 10000 lpP shPl [0] shPl [(0,0)]=some (.exit 0,[.ok (.len (.var 9)),.ok zMpa3,.is zMpa3 (.bool false),.ok (.var 1),.ok (.var 2),.ok (.var 3),.ok (.var 4),.ok (.var 5),.ok (.var 6),.ok (.var 7),.ok (.var 8)],[.var 0,.var 1,.var 2,.var 3,.var 4,.var 5,.var 6,.var 7,.var 8,.var 9]):=by kernel_rfl
theorem pl1:segTo Try.prog (orcFn tabP) 10000 lpP shPl [1] shPl [(0,0)]=some (.normal,[.ok (.len (.var 9)),.ok zMpa3,.is zMpa3 (.bool true),.idx (.var 9) (.var 1) 2 2,.idx (.var 9) (.var 1) 2 1,.ok (.cell (.var 9) (.var 1) 2 0),.fn 39 (EPuR 2) zMpa2,.idx (.var 9) (.var 1) 2 2,.idx (.var 9) (.var 1) 2 2,.ok (.cell (.var 9) (.var 1) 2 1),.fn 40 (ETxR 3) [.fn 2 zMpa2 0,.cell (.var 9) (.var 1) 2 1],.ok zMpa4,.ok zMpa4,.ok (.var 2),.ok (.var 3),.ok (.var 4),.ok (.var 5),.ok (.var 6),.ok (.var 7),.ok (.var 8)],[.fn 3 [.fn 2 zMpa2 0,.cell (.var 9) (.var 1) 2 1] 0,zMpa4,.var 2,.var 3,.var 4,.var 5,.var 6,.var 7,.var 8,.var 9]):=by kernel_rfl
theorem pp:segTo Try.prog (orcFn tabP) 10000 (flP.drop 7) shPl [] shPR []=some (.ret,[.fn 41 (ESl 4) [.var 0]],[.fn 4 [.var 0] 0]):=by kernel_rfl
@[simp] theorem kTxR' (k:Nat):(ETxR k).k=k:=rfl
@[simp] theorem kPa (k:Nat):(EPa k).k=k:=rfl
@[simp] theorem kMa' (k:Nat):(EMa k).k=k:=rfl
noncomputable def FP:Fns:=fun k=>match k with | 1=>spec RMa | 2=>spec RPuB | 3=>spec RTxB | 4=>spec RSl | _=>fun _=>none
theorem p1:ToldF 14 (EMa 1) (FP 1):=toldMa 1
theorem p2:ToldF 39 (EPuR 2) (FP 2):=Zav (rbt.toldPuR 2) rfl rfl rfl rfl
theorem p3:ToldF 40 (ETxR 3) (FP 3):=Zav (rbt.toldTxR 3) rfl rfl rfl rfl
theorem p4:ToldF 41 (ESl 4) (FP 4):=Zpp 4
theorem fp2 {l:List UInt8} {v:Int} {n:Nat} (h:l.length<=1000000) (z:Int) (hz:z=n) (h1:1<=n) (h2:n<=8):∃ m,m=l++low v n/\m.length=l.length+n/\FP 2 [pBy l,pI v,pI z]=some [pBy m]:=by
 subst hz
 exact ⟨_,rfl,by simp,Zaf fPuB ⟨l,v,n,h,by omega,by omega,rfl,rfl⟩⟩
theorem fp3 {l:List UInt8} {s:ByteArray} (h:l.length<=1000000) (h1:s.size<=255):∃ m,m=l++tx s/\m.length=l.length+(s.size+1)/\FP 3 [pBy l,pS s]=some [pBy m] :=
 ⟨_,rfl,by simp [Znk],Zaf fTxB ⟨l,s,h,h1,rfl,rfl⟩⟩
theorem fp4 {l:List UInt8} (h:l.length<=1000000):FP 4 [pBy l]=some [pBy (sealB l)]:=Zaf fSl ⟨l,h,rfl,rfl⟩
theorem cut3:flP=flP.take 3++flP.drop 3:=(List.take_append_drop 3 flP).symm
theorem cut6:flP=flP.take 6++.block (Zat (nth flP 6)) (.loop (Zaq (nth flP 6))) :: flP.drop 7:=by kernel_rfl
set_option maxHeartbeats 2000000 in
theorem walkP {C:Base} (hF:C.F=FP) {Q:Exit->Act->World->Prop} {a:Act} {w:World} (A:AskM) (ok:AOk A) (hQ:∀ a' w',Zah C shPR [pBy (putA A)] a' w'->Q .ret a' w') (hsh:Zah C shP (aP A) a w):wpL Try.prog flP Q a w:=by
 have g1:FP 1 (aP A)=some [pB (mayA A)]:=Zaf fMa ⟨A,ok,rfl,rfl⟩
 by_cases hm:mayA A=true
 ·obtain ⟨_,_,_,_,hn,_,_,h5,hws⟩:=Zp1 hm
  rw [hm] at g1
  have hq:putA A=sealB (askB A):=by rw [putA,if_pos hm]
  rw [hq] at hQ
  clear hm hq ok
  obtain ⟨t1,t2,t3,t4,t5,t6,t7,ws⟩:=A
  simp only [aP] at *
  obtain ⟨l1,e1,n1,c1⟩:=fp2 (l:=[]) (v:=t1) (n:=1) (by simp) 1 rfl (by omega) (by omega)
  obtain ⟨l2,e2,n2,c2⟩:=fp2 (l:=l1) (v:=t2) (n:=1) (by simp at n1;omega) 1 rfl (by omega) (by omega)
  obtain ⟨l3,e3,n3,c3⟩:=fp2 (l:=l2) (v:=t3) (n:=4) (by simp at n1;omega) 4 rfl (by omega) (by omega)
  obtain ⟨l4,e4,n4,c4⟩:=fp2 (l:=l3) (v:=t4) (n:=4) (by simp at n1;omega) 4 rfl (by omega) (by omega)
  obtain ⟨l5,e5,n5,c5⟩:=fp3 (l:=l4) (s:=t5) (by simp at n1;omega) hn
  obtain ⟨l6,e6,n6,c6⟩:=fp2 (l:=l5) (v:=t6) (n:=1) (by simp at n1;omega) 1 rfl (by omega) (by omega)
  obtain ⟨l7,e7,n7,c7⟩:=fp2 (l:=l6) (v:=t7) (n:=1) (by simp at n1;omega) 1 rfl (by omega) (by omega)
  obtain ⟨l8,e8,n8,c8⟩:=fp2 (l:=l7) (v:=(ws.length:Int)) (n:=1) (by simp at n1;omega) 1 rfl (by omega) (by omega)
  have hl:askB ⟨t1,t2,t3,t4,t5,t6,t7,ws⟩=l8++(ws.map wrB).flatten:=by simp [e1,e2,e3,e4,e5,e6,e7,e8,askB]
  rw [hl] at hQ
  have hn8:l8.length<=1000:=by simp at n1;omega
  clear hl e1 e2 e3 e4 e5 e6 e7 e8 n1 n2 n3 n4 n5 n6 n7 n8 hn
  have hlW:lenPV (pRow encW ws)=some (pI (ws.length:Int)):=Zar ..
  rw [cut6]
  refine Zad names_ok mixed_ok (Zae tabP) pa1 hsh ?_ ?_
  ·simp [-Zac,Zab,Zaa,Base.ev,SX.ev,evs,Value.oneCell',hF,hlW,nilY,g1,c1,c2,c3,c4,c5,c6,c7,c8,z1,z2,z3,z4,z5,z6,z7,mpa.p1,mpa.p2,mpa.p3,mpa.p4]
  intro qs a1 w1 hq h1
  refine ⟨fun _=>?_,fun h=>absurd rfl h⟩
  simp [evs,SX.ev,hF,hlW,nilY,c1,c2,c3,c4,c5,c6,c7,c8,z1,z2,z3,z4,z5,z6,z7] at hq
  subst hq
  clear c1 c2 c3 c4 c5 c6 c7 c8
  refine Zbj (fun q a w=>∃ (j:Nat) (l:List UInt8),j<=ws.length/\q=ws.length - j/\l=l8++((ws.take j).map wrB).flatten/\l.length<=1000+300 * j/\Zah C shPl [pBy l,pI (j:Int),pI t1,pI t2,pI t3,pI t4,pS t5,pI t6,pI t7,pRow encW ws] a w) ?_ (n:=ws.length) ⟨0,l8,by omega,by omega,by simp,by omega,h1⟩
  rintro q a w ⟨j,l,hj,rfl,hl,hlen,hin⟩
  show wpL Try.prog lpP _ a w
  rw [<- List.append_nil lpP]
  by_cases hlt:j < ws.length
  ·have v3:IntKind.i64.wrap ((j:Int)+1)=(j:Int)+1:=wrapI _ (by omega) (by omega)
   obtain ⟨d0,d1⟩:=Zei ws j hlt
   have ix:=Zdk encW ws j 2 2 .i64 rfl hlt (by decide)
   have ix1:=Zdk encW ws j 2 1 .i64 rfl hlt (by decide)
   have ow:=Zmu (hws ws[j] (List.getElem_mem hlt))
   have hj1:((ws.take (j+1)).map wrB).flatten=((ws.take j).map wrB).flatten++(low ws[j].1 1++tx ws[j].2):=by rw [List.take_succ_eq_append_getElem hlt];simp only [List.map_append,List.map_cons,List.map_nil,List.flatten_append,List.flatten_cons,List.flatten_nil,List.append_nil];rfl
   obtain ⟨m1,f1,n1,b1⟩:=fp2 (l:=l) (v:=ws[j].1) (n:=1) (by omega) 1 rfl (by omega) (by omega)
   obtain ⟨m2,f2,n2,b2⟩:=fp3 (l:=m1) (s:=ws[j].2) (by omega) (by omega)
   have hm2:m2=l8++((ws.take (j+1)).map wrB).flatten:=by rw [hj1,f2,f1,hl];simp
   refine Zad names_ok mixed_ok (Zae tabP) pl1 hin ?_ (fun qs a1 w1 hq h1=>⟨fun _=>.inl ⟨rfl,ws.length - (j+1),by omega,j+1,m2,by omega,rfl,hm2,by omega,by simp [evs,SX.ev,hF,binPV,v3,d0,d1,b1,b2] at hq;subst hq;exact h1⟩,fun h=>absurd rfl h⟩)
   simp [-Zac,Zab,Zaa,Base.ev,SX.ev,evs,Value.oneCell',hF,hlW,binPV,v3,hlt,ix,ix1,d0,d1,b1,b2,mpa.p2,mpa.p3]
  ·have hje:j=ws.length:=by omega
   subst hje
   rw [List.take_length] at hl
   rw [<- hl] at hQ
   have c10:=fp4 (l:=l) (by omega)
   refine Zad names_ok mixed_ok (Zae tabP) pl0 hin ?_ ?_
   ·simp [-Zac,Zab,Zaa,Base.ev,SX.ev,evs,Value.oneCell',hF,hlW,binPV]
   ·intro qs a1 w1 hq h1
    refine ⟨nofun,fun _=>.inr (.inl ⟨by rw [show Zat (nth flP 6)=0 by kernel_rfl];rfl,?_⟩)⟩
    simp [evs,SX.ev] at hq
    subst hq
    rw [<- List.append_nil (flP.drop 7)]
    refine Zad names_ok mixed_ok (Zae tabP) pp h1 ?_ (fun qs a1 w1 hq h1=>⟨nofun,fun _=>hQ a1 w1 (by simp [evs,SX.ev,hF,c10] at hq;subst hq;exact h1)⟩)
    simp [-Zac,Zab,Zaa,Base.ev,SX.ev,evs,Value.oneCell',hF,c10,mpa.p4]
 ·have hm:mayA A=false:=by simpa using hm
  rw [hm] at g1
  have hq:putA A=[]:=by rw [putA,if_neg (by simp [hm])]
  rw [hq] at hQ
  clear hm hq
  obtain ⟨t1,t2,t3,t4,t5,t6,t7,ws⟩:=A
  simp only [aP] at *
  rw [cut3]
  refine Zad names_ok mixed_ok (Zae tabP) pa0 hsh ?_ (fun qs a1 w1 hq h1=>⟨nofun,fun _=>hQ a1 w1 (by simp [evs,SX.ev,nilY] at hq;subst hq;exact h1)⟩)
  simp [-Zac,Zab,Zaa,Base.ev,SX.ev,evs,Value.oneCell',hF,nilY,g1,mpa.p1]
def RPa (ps qs:List PV):Prop:=∃ a:AskM,AOk a/\ps=aP a/\qs=[pBy (putA a)]
theorem fPa:∀ ps q1 q2,RPa ps q1->RPa ps q2->q1=q2:=by
 rintro ps q1 q2 ⟨a,_,rfl,rfl⟩ ⟨b,_,h,rfl⟩
 rw [Zej h]
theorem toldPa (k:Nat):ToldF 16 (EPa k) (spec RPa):=by
 refine Zfx FP _ (Zam Try.prog 16) Try.func16 (by kernel_rfl) shP (by kernel_rfl) ?_ ?_
 ·intro ps qs h
  obtain ⟨a,_,rfl,rfl⟩:=Zag h
  exact Za7 rfl
 ·intro C ps qs hF h a w hsh
  obtain ⟨A,ok,rfl,rfl⟩:=Zag h
  show wpL Try.prog flP _ a w
  exact walkP hF A ok (fun a' w' h1=>⟨.inr rfl,shPR,_,[SX.var 0],h1,by kernel_rfl,rfl⟩) hsh
end Go.Proofs.Ytnomiffghidmbaa.mpa
