/- MsgLong by the symbolic engine. -/
import Derived.Test.YtnomiffghidmbaaMlf
namespace Go.Proofs.Ytnomiffghidmbaa.msgLong
open Go Go.RowKit eng SX Fact fil ima msm mlw
open fileFronts (Zac rowU Zej)
open pck (OkP encU)
open mws (aP ESa)
open myt (tP)
open mpa (EPa)
open mpt (EPt)
open mtk (EKa EKt qbx tbx)
open mka2 (mkA)
open mkt (EMk mkT Zla)
open mkm (Zih)
set_option linter.unusedVariables false
set_option linter.unusedSimpArgs false
set_option maxRecDepth 1000000
noncomputable def flL:=flat (Zam Try.prog 7)
noncomputable def lpL:=flat (Zar (nth flL 8))
def shL:Shape:=⟨[(0,.leaf),(1,.leaf)],[],[some true,some true],61,7⟩
def shLl:Shape:=⟨[(5,.ptr 0 0 0 0),(6,.ptr 1 0 0 0),(7,.leaf),(8,.leaf)],[qbx,tbx],[none,none,none,none,none,none,none,none,none,some false,none,none,none,none,none,none,none,none,none],61,7⟩
def shLR:Shape:=⟨[(4,.leaf)],[],[none],61,7⟩
@[simp] def zMlo1:SX:=.con (.int .i64 0)
@[simp] def zMlo2:List SX:=[.var 1,zMlo1]
@[simp] def zMlo3:List SX:=[.var 0,zMlo1]
@[simp] def zMlo4:List SX:=[.var 10,.var 11,.var 12,.var 13,.var 14,.var 15,.var 16,.var 17,.var 18]
@[simp] def zMlo5:SX:=.bin .gtr (.len (.var 0)) (.con (.int .i64 20))
@[simp] def zMlo6:List SX:=[.var 2,.var 3,.var 4,.var 5,.var 6,.var 7,.var 8,.var 9]
@[simp] def zMlo7:SX:=.bin .add (.bin .add (.var 0) (.con (.int .i64 2))) (.slen (.cell (.var 9) (.var 1) 2 1))
@[simp] def zMlo8:SX:=.bin .gtr (.len (.var 1)) (.con (.int .i64 20))
@[simp] def zMlo9:SX:=.bin .add (.con (.int .i64 16)) (.slen (.fn 8 zMlo3 4))
@[simp] def Zvs:SX:=.bin .add (.con (.int .i64 20)) (.slen (.var 18))
@[simp] def Zts:SX:=.bin .lss (.var 1) (.len (.var 9))
@[simp] def Zvr:SX:=.bin .add (.var 1) (.con (.int .i64 1))
@[simp] def Zo0:SX:=.con (.bool true)
theorem q1:segTo Try.prog orcL 10000 flL shL [1,1] shLR []=some (.ret,[.fn 8 (ETrue 1) [],.is (.fn 1 [] 0) (.bool true),.ok (.len (.var 0)),.ok zMlo5,.is zMlo5 (.bool true),.ok Zo0],[Zo0]):=by kernel_rfl
theorem q2:segTo Try.prog orcL 10000 flL shL [1,0,1] shLR []=some (.ret,[.fn 8 (ETrue 1) [],.is (.fn 1 [] 0) (.bool true),.ok (.len (.var 0)),.ok zMlo5,.is zMlo5 (.bool false),.ok (.len (.var 1)),.ok zMlo8,.is zMlo8 (.bool true),.ok Zo0],[Zo0]):=by kernel_rfl
theorem pre:segTo Try.prog orcL 10000 (flL.take 8) shL [1,0,0] shLl [(7,0),(8,0)]=some (.normal,[.fn 8 (ETrue 1) [],.is (.fn 1 [] 0) (.bool true),.ok (.len (.var 0)),.ok zMlo5,.is zMlo5 (.bool false),.ok (.len (.var 1)),.ok zMlo8,.is zMlo8 (.bool false),.fp 11 (EAkR 8) zMlo3,.ok (.fn 8 zMlo3 0),.ok (.fn 8 zMlo3 1),.ok (.fn 8 zMlo3 2),.ok (.fn 8 zMlo3 3),.ok (.fn 8 zMlo3 4),.ok (.fn 8 zMlo3 5),.ok (.fn 8 zMlo3 6),.ok (.fn 8 zMlo3 9),.fp 12 (EMk 9) zMlo2,.ok (.fn 9 zMlo2 0),.ok (.fn 9 zMlo2 1),.ok (.fn 9 zMlo2 2),.ok (.fn 9 zMlo2 3),.ok (.fn 9 zMlo2 4),.ok (.fn 9 zMlo2 5),.ok (.fn 9 zMlo2 6),.ok (.fn 9 zMlo2 7),.ok (.fn 9 zMlo2 8),.ok (.fn 9 zMlo2 10),.ok (.slen (.fn 8 zMlo3 4)),.ok zMlo9,.ok zMlo9,.ok zMlo1,.ok (.fn 8 zMlo3 0),.ok (.fn 8 zMlo3 1),.ok (.fn 8 zMlo3 2),.ok (.fn 8 zMlo3 3),.ok (.fn 8 zMlo3 4),.ok (.fn 8 zMlo3 5),.ok (.fn 8 zMlo3 6),.ok (.fn 9 zMlo2 0),.ok (.fn 9 zMlo2 1),.ok (.fn 9 zMlo2 2),.ok (.fn 9 zMlo2 3),.ok (.fn 9 zMlo2 4),.ok (.fn 9 zMlo2 5),.ok (.fn 9 zMlo2 6),.ok (.fn 9 zMlo2 7),.ok (.fn 9 zMlo2 8)],[zMlo9,zMlo1,.fn 8 zMlo3 0,.fn 8 zMlo3 1,.fn 8 zMlo3 2,.fn 8 zMlo3 3,.fn 8 zMlo3 4,.fn 8 zMlo3 5,.fn 8 zMlo3 6,.fn 8 zMlo3 7,.fn 9 zMlo2 0,.fn 9 zMlo2 1,.fn 9 zMlo2 2,.fn 9 zMlo2 3,.fn 9 zMlo2 4,.fn 9 zMlo2 5,.fn 9 zMlo2 6,.fn 9 zMlo2 7,.fn 9 zMlo2 8]):=by kernel_rfl
theorem lx:segTo Try.prog orcL 10000 lpL shLl [0] shLl [(0,0),(1,0)]=some (.exit 0,[.ok (.len (.var 9)),.ok Zts,.is Zts (.bool false),.ok (.var 0),.ok (.var 1),.ok (.var 2),.ok (.var 3),.ok (.var 4),.ok (.var 5),.ok (.var 6),.ok (.var 7),.ok (.var 8),.ok (.var 10),.ok (.var 11),.ok (.var 12),.ok (.var 13),.ok (.var 14),.ok (.var 15),.ok (.var 16),.ok (.var 17),.ok (.var 18)],[.var 0,.var 1,.var 2,.var 3,.var 4,.var 5,.var 6,.var 7,.var 8,.var 9,.var 10,.var 11,.var 12,.var 13,.var 14,.var 15,.var 16,.var 17,.var 18]):=by kernel_rfl
theorem lo:segTo Try.prog orcL 10000 lpL shLl [1] shLl [(0,0),(1,0)]=some (.normal,[.ok (.len (.var 9)),.ok Zts,.is Zts (.bool true),.ok (.bin .add (.var 0) (.con (.int .i64 2))),.idx (.var 9) (.var 1) 2 2,.idx (.var 9) (.var 1) 2 2,.ok (.cell (.var 9) (.var 1) 2 1),.ok (.slen (.cell (.var 9) (.var 1) 2 1)),.ok zMlo7,.ok Zvr,.ok zMlo7,.ok Zvr,.ok (.var 2),.ok (.var 3),.ok (.var 4),.ok (.var 5),.ok (.var 6),.ok (.var 7),.ok (.var 8),.ok (.var 10),.ok (.var 11),.ok (.var 12),.ok (.var 13),.ok (.var 14),.ok (.var 15),.ok (.var 16),.ok (.var 17),.ok (.var 18)],[zMlo7,Zvr,.var 2,.var 3,.var 4,.var 5,.var 6,.var 7,.var 8,.var 9,.var 10,.var 11,.var 12,.var 13,.var 14,.var 15,.var 16,.var 17,.var 18]):=by kernel_rfl
theorem pz:segTo Try.prog orcL 10000 (flL.drop 9) shLl [1,1] shLR []=some (.ret,[.fn 15 (EPa 2) zMlo6,.ok (.len (.fn 2 zMlo6 0)),.ok (.bin .eql (.len (.fn 2 zMlo6 0)) (.var 0)),.is (.bin .eql (.len (.fn 2 zMlo6 0)) (.var 0)) (.bool true),.fn 21 (EPt 3) zMlo4,.ok (.len (.fn 3 zMlo4 0)),.ok (.slen (.var 18)),.ok Zvs,.ok (.bin .eql (.len (.fn 3 zMlo4 0)) Zvs),.is (.bin .eql (.len (.fn 3 zMlo4 0)) Zvs) (.bool true),.ok Zo0],[Zo0]):=by kernel_rfl
theorem cutL:flL=flL.take 8++.block (Zax (nth flL 8)) (.loop (Zar (nth flL 8))) :: flL.drop 9:=by kernel_rfl
def ELaw (k:Nat):FnE:={ k:=k,ins:=[none,none],leaks:=[true,true],outs:=[none],kinds:=[.truth] }
def RL (ps qs:List PV):Prop:=∃ p r:List Nat,(∀ b ∈ p,b < 256)/\(∀ b ∈ r,b < 256)/\p.length<=9223372036854775807/\r.length<=9223372036854775807/\ps=[pRow encU p,pRow encU r]/\qs=[pB true]
theorem fL:∀ ps q1 q2,RL ps q1->RL ps q2->q1=q2:=by
 rintro ps q1 q2 ⟨_,_,_,_,_,_,_,rfl⟩ ⟨_,_,_,_,_,_,_,rfl⟩;rfl
theorem lenU (a:List Nat):lenPV (pRow encU a)=some (pI (a.length:Int)):=Zap ..
theorem lenW (a:List WrM):lenPV (pRow encW a)=some (pI (a.length:Int)):=Zap ..
theorem Zak:PV.v (Value.string ⟨⟨[]⟩⟩)=pS e0:=rfl
set_option maxHeartbeats 2000000 in
theorem told (k:Nat):ToldF 7 (ELaw k) (spec RL):=by
 refine Zfg G _ (Zam Try.prog 7) Try.func7 (by kernel_rfl) shL (by kernel_rfl) ?_ ?_
 ·intro ps qs h
  obtain ⟨p,r,_,_,_,_,rfl,rfl⟩:=Zaf h
  exact Za7 rfl
 ·intro C ps qs hF h a w hsh
  obtain ⟨p,r,hp,hr,hpl,hrl,rfl,rfl⟩:=Zaf h
  clear h
  show wpL Try.prog flL _ a w
  have g1:=G1
  have l1:=lenU p
  have l2:=lenU r
  by_cases c1:20 < p.length
  ·have d1:(20:Int) < (p.length:Int):=by omega
   rw [<- List.append_nil flL]
   refine Zad names_ok mixed_ok Zdo q1 hsh ?_ (fun qs a1 wd hq hx=>⟨nofun,fun _=>⟨.inr rfl,shLR,_,[SX.var 0],hx,by kernel_rfl,by simp [evs,SX.ev] at hq;subst hq;rfl⟩⟩)
   simp [-Zac,Zab,Zaa,Base.ev,SX.ev,evs,Value.oneCell',hF,binPV,g1,l1,l2,d1,mlw.u1]
  have d1:¬ (20:Int) < (p.length:Int):=by omega
  by_cases c2:20 < r.length
  ·have d2:(20:Int) < (r.length:Int):=by omega
   rw [<- List.append_nil flL]
   refine Zad names_ok mixed_ok Zdo q2 hsh ?_ (fun qs a1 wd hq hx=>⟨nofun,fun _=>⟨.inr rfl,shLR,_,[SX.var 0],hx,by kernel_rfl,by simp [evs,SX.ev] at hq;subst hq;rfl⟩⟩)
   simp [-Zac,Zab,Zaa,Base.ev,SX.ev,evs,Value.oneCell',hF,binPV,g1,l1,l2,d1,d2,mlw.u1]
  have d2:¬ (20:Int) < (r.length:Int):=by omega
  have g8:=G8z (ok0 (by omega) hp)
  have g9:=G9z (ok0 (by omega) hr)
  have hx:=Zih p 0
  have hy:=Zla r 0
  generalize (mkA p 0).2=n8 at *
  generalize (mkT r 0).2=n9 at *
  generalize (mkA p 0).1=x at *
  generalize (mkT r 0).1=y at *
  have g2:=G2 hx
  have g3:=G3 hy
  have z2:=Zap (α:=UInt8)
  have n2:lenPV (pBy (putA x))=some (pI ((putA x).length:Int)):=r_len _
  have n3:lenPV (pBy (putT y))=some (pI ((putT y).length:Int)):=r_len _
  rw [putA_len hx] at n2
  rw [putT_len hy] at n3
  obtain ⟨_,_,_,_,hn,_,_,h5,hws⟩:=Zlw hx
  have hyb:=(Zm2 hy).body
  have hsm:=Zi1 hws
  clear hx hy z2
  generalize putA x=PA at *
  generalize putT y=PT at *
  obtain ⟨x1,x2,x3,x4,x5,x6,x7,ws⟩:=x
  obtain ⟨y1,y2,y3,y4,y5,y6,y7,y8,y9⟩:=y
  simp only [aP,tP,List.cons_append,List.nil_append] at *
  have hlW:=lenW ws
  have v1:IntKind.i64.wrap (16+(x5.size:Int))=((16+x5.size:Nat):Int):=by rw [wrapI _ (by omega) (by omega)];omega
  have v2:IntKind.i64.wrap (20+(y9.size:Int))=((20+y9.size:Nat):Int):=by rw [wrapI _ (by omega) (by omega)];omega
  rw [cutL]
  refine Zad names_ok mixed_ok Zdo pre hsh ?_ (fun qs a1 w1 hq hx=>⟨fun _=>?_,fun h=>absurd rfl h⟩)
  ·simp [-Zac,Zab,Zaa,Base.ev,SX.ev,evs,Value.oneCell',hF,binPV,Zal,g1,l1,l2,d1,d2,g8,g9,v1,mlw.u1,mlw.u8,mlw.u9]
  simp [evs,SX.ev,hF,binPV,Zal,g8,g9,v1] at hq
  subst hq
  have w16:((16+x5.size:Nat):Int)=((16+x5.size+sumW (ws.take 0):Nat):Int):=by simp [sumW]
  refine Zbn (fun q a w=>∃ i:Nat,i<=ws.length/\q=ws.length - i/\Zah C shLl [pI ((16+x5.size+sumW (ws.take i):Nat):Int),pI (i:Int),pI x1,pI x2,pI x3,pI x4,pS x5,pI x6,pI x7,pRow encW ws,pI y1,pI y2,pI y3,pI y4,pI y5,pI y6,pI y7,pI y8,pS y9] a w) ?_ (n:=ws.length) ⟨0,by omega,by omega,by rw [<- w16];exact hx⟩
  clear hx w16
  rintro q a w ⟨i,hi,rfl,hin⟩
  show wpL Try.prog lpL _ a w
  rw [<- List.append_nil lpL]
  by_cases hlt:i < ws.length
  ·obtain ⟨k0,k1⟩:=Zej ws i hlt
   have ix:=Zdj encW ws i 2 2 .i64 rfl hlt (by decide)
   have hil:(i:Int) < (ws.length:Int):=by omega
   have v3:IntKind.i64.wrap ((i:Int)+1)=(i:Int)+1:=wrapI _ (by omega) (by omega)
   have hst:sumW (ws.take (i+1))=sumW (ws.take i)+(2+ws[i].2.size):=by rw [List.take_succ_eq_append_getElem hlt,sumW_app];simp [sumW]
   have hwi:=(Zi5 (hws ws[i] (List.getElem_mem hlt))).2.2.2
   have hle:sumW (ws.take i)<=26 * (ws.take i).length:=Zi1 fun w hw=>hws w (List.mem_of_mem_take hw)
   have hle2:(ws.take i).length<=5:=by rw [List.length_take];omega
   have nx:∀ a w,Zah C shLl [pI ((16+x5.size+(sumW (ws.take i)+(2+ws[i].2.size)):Nat):Int),pI ((i:Int)+1),pI x1,pI x2,pI x3,pI x4,pS x5,pI x6,pI x7,pRow encW ws,pI y1,pI y2,pI y3,pI y4,pI y5,pI y6,pI y7,pI y8,pS y9] a w->∃ n',n' < ws.length - i/\∃ i:Nat,i<=ws.length/\n'=ws.length - i/\Zah C shLl [pI ((16+x5.size+sumW (ws.take i):Nat):Int),pI (i:Int),pI x1,pI x2,pI x3,pI x4,pS x5,pI x6,pI x7,pRow encW ws,pI y1,pI y2,pI y3,pI y4,pI y5,pI y6,pI y7,pI y8,pS y9] a w:=fun a w h=>⟨ws.length - (i+1),by omega,i+1,by omega,rfl,by rw [hst];exact h⟩
   clear hst
   generalize sumW (ws.take i)=z at *
   have v4:IntKind.i64.wrap (((16+x5.size+z:Nat):Int)+2)=((16+x5.size+z+2:Nat):Int):=by rw [wrapI _ (by omega) (by omega)];omega
   have v5:IntKind.i64.wrap (((16+x5.size+z+2:Nat):Int)+(ws[i].2.size:Int))=((16+x5.size+(z+(2+ws[i].2.size)):Nat):Int):=by rw [wrapI _ (by omega) (by omega)];omega
   generalize 16+x5.size+(z+(2+ws[i].2.size))=N3 at *
   generalize 16+x5.size+z+2=N2 at *
   generalize 16+x5.size+z=N1 at *
   refine Zad names_ok mixed_ok Zdo lo hin ?_ (fun qs a1 w1 hq h1=>⟨fun _=>.inl ⟨rfl,nx a1 w1 (by simp [evs,SX.ev,binPV,Zal,v3,v4,v5,k1] at hq;subst hq;exact h1)⟩,fun h=>absurd rfl h⟩)
   simp [-Zac,Zab,Zaa,Base.ev,SX.ev,evs,Value.oneCell',hF,hlW,binPV,Zal,v3,v4,v5,hil,ix,k1]
  ·obtain rfl:i=ws.length:=by omega
   rw [List.take_length] at hin
   refine Zad names_ok mixed_ok Zdo lx hin ?_ (fun qs a1 w1 hq h1=>⟨nofun,fun _=>.inr (.inl ⟨by rw [show Zax (nth flL 8)=0 by kernel_rfl];rfl,?_⟩)⟩)
   ·simp [-Zac,Zab,Zaa,Base.ev,SX.ev,evs,Value.oneCell',hF,hlW,binPV]
   simp [evs,SX.ev] at hq
   subst hq
   rw [<- List.append_nil (flL.drop 9)]
   obtain ⟨N,hN⟩:∃ N:Nat,(N:Int)=16+(x5.size:Int)+(sumW ws:Int):=⟨16+x5.size+sumW ws,by omega⟩
   rw [<- hN] at h1
   refine Zad names_ok mixed_ok Zdo pz h1 ?_ (fun qs a1 wd hq hx=>⟨nofun,fun _=>⟨.inr rfl,shLR,_,[SX.var 0],hx,by kernel_rfl,by simp [evs,SX.ev] at hq;subst hq;rfl⟩⟩)
   simp [-Zac,Zab,Zaa,Base.ev,SX.ev,evs,Value.oneCell',hF,binPV,Zal,g2,g3,n2,n3,v2,mlw.u2,mlw.u3]
   omega
theorem walk (w:World) (v1:Value) (len1:Nat) (Z1:Nat->Int) (hg1:IsRow .u8 w v1 len1 Z1) (v2:Value) (len2:Nat) (Z2:Nat->Int) (hg2:IsRow .u8 w v2 len2 Z2) :
  Calls Try.prog 7 #[v1,v2] w fun e w'=>e=.returned (.bool true)/\Ex w w':=by
 obtain ⟨p,hp,hpl,hr1⟩:=rowU hg1
 obtain ⟨r,hr,hrl,hr2⟩:=rowU hg2
 refine Zk3 (told 0) rfl (us:=[v1,v2]) (ps:=[pRow encU p,pRow encU r]) (Zag fL ⟨p,r,hp,hr,hpl,hrl,rfl,rfl⟩) rfl rfl (fun i p u hp hu=>?_)
 match i,hp,hu with
 | 0,hp,hu=>simp at hp hu;subst hp;subst hu;exact hr1
 | 1,hp,hu=>simp at hp hu;subst hp;subst hu;exact hr2
 | i+2,hp,hu=>simp at hp
end Go.Proofs.Ytnomiffghidmbaa.msgLong
