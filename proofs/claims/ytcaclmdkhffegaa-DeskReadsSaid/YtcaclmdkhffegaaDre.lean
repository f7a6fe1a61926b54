/- DeskReads by the symbolic engine. -/
import Derived.Test.YtcaclmdkhffegaaDbg
import Derived.Test.YtcaclmdkhffegaaDdk
import Derived.Test.YtcaclmdkhffegaaDkn
import Derived.Test.YtcaclmdkhffegaaLhq
import Derived.Test.YtcaclmdkhffegaaGrd
namespace Go.Proofs.Ytcaclmdkhffegaa.deskReads
open Go Go.RowKit eng SX Fact fil lem lea grd
open lec (encN lenN)
open lhq (EHq toldHq RHq fHq holdQ hold_eq)
open leb (Zfa)
open dkm (Desk DI askD Zbu okW Zb2)
open dkn (Rd rd_ask rd_nil)
open ddk (EAk toldAk RAk fAk inDk pDk okIn)
set_option linter.unusedVariables false
set_option linter.unusedSimpArgs false
set_option maxRecDepth 1000000

def tabT (f:FuncId):Option FnE:=cond (Nat.beq f 17) (some (EAk 1)) (cond (Nat.beq f 22) (some (EHq 2)) (cond (Nat.beq f 9) (some (ETrue 8)) none))
noncomputable def flA:=flat (Zd9 Try.prog 7)
noncomputable def lpA:=flat (Zcc (nth flA 8))
def dbox:BoxT:=⟨30,0,false,[.leaf,.leaf],none,false⟩
def sh0:Shape:=⟨[(0,.leaf)],[],[some false],101,7⟩
def shA:Shape:=⟨[(0,.leaf),(3,.ptr 0 0 0 0),(4,.leaf),(5,.leaf)],[dbox],[some false,none,none,some false,some false],101,7⟩
def shR:Shape:=⟨[(2,.leaf)],[],[none],101,7⟩
@[simp] def zDre1:List SX:=[.var 3,.var 4,.bin .add (.var 1) (.conv .i64 (.bin .rem (.cell (.var 0) (.var 2) 3 2) (.con (.int .u8 20)))),.bin .add (.con (.int .i64 1)) (.conv .i64 (.bin .rem (.cell (.var 0) (.var 2) 3 0) (.con (.int .u8 3)))),.bin .add (.con (.int .i64 1)) (.var 2),.bin .add (.con (.int .i64 1)) (.conv .i64 (.bin .rem (.cell (.var 0) (.var 2) 3 1) (.con (.int .u8 3)))),.con (.int .i64 1)]
@[simp] def zDre2:SX:=.bin .add (.bin .add (.var 1) (.conv .i64 (.bin .rem (.cell (.var 0) (.var 2) 3 2) (.con (.int .u8 20))))) (.con (.int .i64 60))
@[simp] def zDre3:SX:=.bin .add (.con (.int .i64 1)) (.conv .i64 (.bin .rem (.cell (.var 0) (.var 2) 3 0) (.con (.int .u8 3))))
@[simp] def zDre4:SX:=.bin .add (.con (.int .i64 1)) (.conv .i64 (.bin .rem (.cell (.var 0) (.var 2) 3 1) (.con (.int .u8 3))))
@[simp] def zDre5:SX:=.bin .rem (.cell (.var 0) (.var 2) 3 2) (.con (.int .u8 20))
@[simp] def zDre6:List SX:=[.fn 1 zDre1 0,.bin .sub zDre2 (.con (.int .i64 1)),zDre3,zDre4]
@[simp] def zDre7:SX:=.con (.int .i64 0)
@[simp] def zDre8:SX:=.bin .gtr (.len (.var 0)) (.con (.int .i64 12))
@[simp] def zDre9:List SX:=[.fn 1 zDre1 0,zDre2,zDre3,zDre4]
@[simp] def Zkp:SX:=.bin .lss (.var 2) (.len (.var 0))
@[simp] def Zhj:SX:=.con (.int .i64 1)
@[simp] def Zk6:SX:=.bin .add (.var 1) (.conv .i64 zDre5)
@[simp] def Zko:Fact:=.idx (.var 0) (.var 2) 3 3
@[simp] def zDre14:SX:=.bin .rem (.cell (.var 0) (.var 2) 3 0) (.con (.int .u8 3))
@[simp] def zDre15:SX:=.bin .rem (.cell (.var 0) (.var 2) 3 1) (.con (.int .u8 3))
theorem q1:segTo Try.prog (orcFn tabT) 10000 flA sh0 [1,1] shR []=some (.ret,[.fn 9 (ETrue 8) [],.is (.fn 8 [] 0) (.bool true),.ok (.len (.var 0)),.ok zDre8,.is zDre8 (.bool true),.ok (.con (.bool true))],[.con (.bool true)]):=by kernel_rfl
theorem pre:segTo Try.prog (orcFn tabT) 10000 (flA.take 8) sh0 [1,0] shA [(1,0)]=some (.normal,[.fn 9 (ETrue 8) [],.is (.fn 8 [] 0) (.bool true),.ok (.len (.var 0)),.ok zDre8,.is zDre8 (.bool false),.ok zDre7,.ok zDre7],[.var 0,zDre7,zDre7,.lit 0 [],.lit 0 []]):=by kernel_rfl
theorem ex:segTo Try.prog (orcFn tabT) 10000 lpA shA [0] shA [(0,0)]=some (.exit 0,[.ok (.len (.var 0)),.ok Zkp,.is Zkp (.bool false),.ok (.var 1),.ok (.var 2)],[.var 0,.var 1,.var 2,.var 3,.var 4]):=by kernel_rfl
theorem bd:segTo Try.prog (orcFn tabT) 10000 lpA shA [1,1,0,0,0,0,0] shA [(0,0)]=some (.normal,[.ok (.len (.var 0)),.ok Zkp,.is Zkp (.bool true),Zko,Zko,.ok (.cell (.var 0) (.var 2) 3 2),.ok zDre5,.ok (.conv .i64 zDre5),.ok Zk6,Zko,.idx (.var 0) (.var 2) 3 1,.ok (.cell (.var 0) (.var 2) 3 0),.ok zDre14,.ok (.conv .i64 zDre14),.ok zDre3,Zko,.idx (.var 0) (.var 2) 3 2,.ok (.cell (.var 0) (.var 2) 3 1),.ok zDre15,.ok (.conv .i64 zDre15),.ok zDre4,.ok (.bin .add Zhj (.var 2)),.fn 17 (EAk 1) zDre1,.ok (.fn 1 zDre1 2),.ok (.fn 1 zDre1 4),.is (.fn 1 zDre1 2) (.bool true),.ok (.len (.fn 1 zDre1 3)),.ok (.bin .neq (.len (.fn 1 zDre1 3)) zDre7),.is (.bin .neq (.len (.fn 1 zDre1 3)) zDre7) (.bool false),.ok (.bin .neq (.fn 1 zDre1 4) zDre7),.is (.bin .neq (.fn 1 zDre1 4) zDre7) (.bool false),.ok (.len (.fn 1 zDre1 1)),.ok (.bin .neq (.len (.fn 1 zDre1 1)) zDre7),.is (.bin .neq (.len (.fn 1 zDre1 1)) zDre7) (.bool false),.ok zDre2,.ok (.bin .sub zDre2 Zhj),.fn 22 (EHq 2) zDre6,.ok (.fn 2 zDre6 0),.ok (.bin .neq (.fn 2 zDre6 0) Zhj),.is (.bin .neq (.fn 2 zDre6 0) Zhj) (.bool false),.ok zDre2,.fn 22 (EHq 2) zDre9,.ok (.fn 2 zDre9 0),.ok (.bin .neq (.fn 2 zDre9 0) zDre7),.is (.bin .neq (.fn 2 zDre9 0) zDre7) (.bool false),.ok (.bin .add (.var 2) Zhj),.ok Zk6,.ok (.bin .add (.var 2) Zhj)],[.var 0,Zk6,.bin .add (.var 2) Zhj,.fn 1 zDre1 0,.fn 1 zDre1 1]):=by kernel_rfl
theorem post:segTo Try.prog (orcFn tabT) 10000 (flA.drop 9) shA [] shR []=some (.ret,[.ok (.con (.bool true))],[.con (.bool true)]):=by kernel_rfl
theorem pos3:0 < 3:=by decide
abbrev E3:=encK 3 pos3
theorem cutA:flA=flA.take 8++.block (Zda (nth flA 8)) (.loop (Zcc (nth flA 8))) :: flA.drop 9:=by kernel_rfl
def ELaw (k:Nat):FnE:={ k:=k,ins:=[none],leaks:=[],outs:=[none],kinds:=[.truth] }
def RL (ps qs:List PV):Prop:=∃ l:List (Nat->Nat),(∀ f ∈ l,∀ j,f j < 256)/\l.length<=9223372036854775807/\ps=[pRow E3 l]/\qs=[pB true]
theorem fL:∀ ps q1 q2,RL ps q1->RL ps q2->q1=q2:=by
 rintro ps q1 q2 ⟨_,_,_,_,rfl⟩ ⟨_,_,_,_,rfl⟩;rfl
noncomputable def G:Fns:=fun k=>match k with | 1=>spec RAk | 2=>spec RHq | 8=>spec RTrue | _=>fun _=>none
theorem u1:ToldF 17 (EAk 1) (G 1):=toldAk 1
theorem u2:ToldF 22 (EHq 2) (G 2):=toldHq 2
theorem u8:ToldF 9 (ETrue 8) (G 8):=dkb.begunLit 8
theorem G1 {d:Desk} {s t c n f m:Int} (h:DI d s) (hs:s<=t) (h0:0<=t) (h1:t<=1000000) (hw:okW (c,n,f,m)):G 1 [pRow encL d.1,pRow encL d.2,pI t,pI c,pI n,pI f,pI m]=some [pRow encL (askD t d (c,n,f,m)).1.1,pRow encL (askD t d (c,n,f,m)).1.2,pB (askD t d (c,n,f,m)).2.1,pRow encN (askD t d (c,n,f,m)).2.2.1,pI (askD t d (c,n,f,m)).2.2.2] :=
 Zal fAk ⟨d,t,(c,n,f,m),⟨by have:=h.len;omega,by have:=h.l4;omega,h0,h1⟩,(dkm.di_prune h hs).al.may,dkm.ok_lease hw h0 h1,h.u,rfl,rfl⟩
theorem G2 {M:List LeM} {t c f:Int} (h:MayL M) (hl:M.length<=1000000):G 2 [pRow encL M,pI t,pI c,pI f]=some [pI (Zfa M t c f)]:=by
 rw [<- hold_eq h];exact Zal fHq ⟨M,t,c,f,hl,rfl,rfl⟩
theorem G8:G 8 []=some [pB true]:=Zal fTrue ⟨rfl,rfl⟩
theorem r_nil:PV.row 0 []=pRow encL []:=rfl
theorem k1:(EAk 1).k=1:=rfl
theorem k2:(EHq 2).k=2:=rfl
set_option maxHeartbeats 4000000 in
theorem told (k0:Nat):ToldF 7 (ELaw k0) (spec RL):=by
 refine Ziq G _ (Zd9 Try.prog 7) Try.func7 (by kernel_rfl) sh0 (by kernel_rfl) ?_ ?_
 ·intro ps qs h i hi
  obtain ⟨l,_,_,rfl,rfl⟩:=Zap h
  simp [sh0] at hi
  match i,hi with
  | 0,hi=>simp at hi
  | i+1,hi=>simp at hi
 ·intro C ps qs hF h a w hsh
  obtain ⟨l,hz,hl,rfl,rfl⟩:=Zap h
  show wpL Try.prog flA _ a w
  have fin:∀ qs a1 w1,qs=[pB true]->Za9 C shR qs a1 w1->(AX.ret=.normal->wpL Try.prog [] (fun e a' w'=>(e=.normal \/ e=.ret)/\∃ sh' ps' es,Za9 C sh' ps' a' w'/\resTo Try.prog Try.f7 sh' (ELaw k0)=some es/\evs (fun i=>ps'[i]?) G es=some [pB true]) a1 w1)/\(AX.ret ≠ .normal->(AX.ret.to=.normal \/ AX.ret.to=.ret)/\∃ sh' ps' es,Za9 C sh' ps' a1 w1/\resTo Try.prog Try.f7 sh' (ELaw k0)=some es/\evs (fun i=>ps'[i]?) G es=some [pB true]):=by
   rintro qs a1 w1 rfl h1
   exact ⟨fun h=>(by cases h),fun _=>⟨.inr rfl,shR,_,[SX.var 0],h1,by kernel_rfl,rfl⟩⟩
  by_cases hl1:12 < l.length
  ·rw [<- List.append_nil flA]
   refine Zaq names_ok mixed_ok (Zaw _) q1 hsh ?_ (fun qs a1 w1 hq h1=>fin qs a1 w1 (by simp [evs,SX.ev] at hq;exact hq.symm) h1)
   simp only [fmC,fmN]
   simp [Zag,Zad,Base.ev,SX.ev,evs,Value.oneCell',hF,Zae,binPV,G8,u8]
   all_goals omega
  rw [cutA]
  refine Zaq names_ok mixed_ok (Zaw _) pre hsh ?_ ?_
  ·simp only [fmC,fmN]
   simp [Zag,Zad,Base.ev,SX.ev,evs,Value.oneCell',hF,Zae,binPV,G8,u8]
   all_goals omega
  intro qs a1 w1 hq h1
  refine ⟨fun _=>?_,fun h=>absurd rfl h⟩
  simp [evs,SX.ev,r_nil] at hq
  subst hq
  refine Ze4 (fun q' a w=>∃ (i:Nat) (d:Desk) (t:Int),i<=l.length/\q'=l.length - i/\Rd d t/\0<=t/\t<=19 * (i:Int)/\Za9 C shA [pRow E3 l,pI t,pI (i:Int),pRow encL d.1,pRow encL d.2] a w) ?_ (n:=l.length) ⟨0,([],[]),0,by omega,by omega,rd_nil,by omega,by omega,h1⟩
  rintro q' a w ⟨i,d,t,hi,rfl,hR,ht0,ht1,hin⟩
  show wpL Try.prog lpA _ a w
  rw [<- List.append_nil lpA]
  by_cases hlt:i < l.length
  ·have hzi:=hz _ (List.getElem_mem hlt)
   have c0:Zdl (pRow E3 l) (pI (i:Int)) 3 0=some (pU (l[i] 0:Int)):=cellK 3 _ l i hlt 0 (by omega)
   have c1:Zdl (pRow E3 l) (pI (i:Int)) 3 1=some (pU (l[i] 1:Int)):=cellK 3 _ l i hlt 1 (by omega)
   have c2:Zdl (pRow E3 l) (pI (i:Int)) 3 2=some (pU (l[i] 2:Int)):=cellK 3 _ l i hlt 2 (by omega)
   have i1:=Zb3 E3 l i 3 1 .i64 rfl hlt (by decide)
   have i2:=Zb3 E3 l i 3 2 .i64 rfl hlt (by decide)
   have i3:=Zb3 E3 l i 3 3 .i64 rfl hlt (by decide)
   have v3:IntKind.i64.wrap ((i:Int)+1)=(i:Int)+1:=wrapI _ (by omega) (by omega)
   have v4:IntKind.i64.wrap (1+(i:Int))=1+(i:Int):=wrapI _ (by omega) (by omega)
   generalize l[i]=f at *
   obtain ⟨x0,h0⟩:∃ x0:Nat,f 0 % 3=x0:=⟨_,rfl⟩
   obtain ⟨x1,h1'⟩:∃ x1:Nat,f 1 % 3=x1:=⟨_,rfl⟩
   obtain ⟨x2,h2'⟩:∃ x2:Nat,f 2 % 20=x2:=⟨_,rfl⟩
   have t0:(f 0:Int).tmod 3=(x0:Int):=by rw [<- h0];rfl
   have t1:(f 1:Int).tmod 3=(x1:Int):=by rw [<- h1'];rfl
   have t2:(f 2:Int).tmod 20=(x2:Int):=by rw [<- h2'];rfl
   have wx0:IntKind.i64.wrap (x0:Int)=(x0:Int):=wrapI _ (by omega) (by omega)
   have wx1:IntKind.i64.wrap (x1:Int)=(x1:Int):=wrapI _ (by omega) (by omega)
   have wx2:IntKind.i64.wrap (x2:Int)=(x2:Int):=wrapI _ (by omega) (by omega)
   have wc:IntKind.i64.wrap (1+(x0:Int))=1+(x0:Int):=wrapI _ (by omega) (by omega)
   have wf:IntKind.i64.wrap (1+(x1:Int))=1+(x1:Int):=wrapI _ (by omega) (by omega)
   have hx0:x0 < 3:=by omega
   have hx1:x1 < 3:=by omega
   have hx2:x2 < 20:=by omega
   obtain ⟨s,hs⟩:∃ s:Int,t+(x2:Int)=s:=⟨_,rfl⟩
   have ws:IntKind.i64.wrap (t+(x2:Int))=s:=by rw [hs];exact wrapI _ (by omega) (by omega)
   have w60:IntKind.i64.wrap (s+60)=s+60:=wrapI _ (by omega) (by omega)
   have w59:IntKind.i64.wrap (s+60 - 1)=s+59:=by rw [show s+60 - 1=s+59 by omega];exact wrapI _ (by omega) (by omega)
   clear h0 h1' h2' hzi
   have hw:okW (1+(x0:Int),1+(i:Int),1+(x1:Int),1):=by simp only [okW];omega
   have e1:=G1 hR.di (show t<=s by omega) (by omega) (by omega) hw
   obtain ⟨ha,hR2,hh1,hh2⟩:=rd_ask hR (show t<=s by omega) hw rfl (by omega) (by omega)
   generalize askD s d (1+(x0:Int),1+(i:Int),1+(x1:Int),1)=A at *
   obtain ⟨D,A2⟩:=A
   simp only at ha
   subst ha
   simp only at e1 hR2 hh1 hh2
   have hlD:=hR2.di.len
   have e2:=G2 (t:=s+59) (c:=1+(x0:Int)) (f:=1+(x1:Int)) hR2.di.al.may (by omega)
   have e3:=G2 (t:=s+60) (c:=1+(x0:Int)) (f:=1+(x1:Int)) hR2.di.al.may (by omega)
   rw [hh1] at e2
   rw [hh2] at e3
   have hD2:D.2.length=0:=by rw [hR2.none];rfl
   refine Zaq names_ok mixed_ok (Zaw _) bd hin ?_ ?_
   ·simp only [fmC,fmN]
    simp [Zag,Zad,Base.ev,SX.ev,evs,Value.oneCell',hF,Zae,binPV,Zg5,c0,c1,c2,i1,i2,i3,t0,t1,t2,wx0,wx1,wx2,wc,wf,v3,v4,ws,w60,w59,e1,e2,e3,u1,u2,deskReads.k1,deskReads.k2,hlt,hD2,lenN]
   ·intro qs a1' w1 hq h1
    refine ⟨fun _=>.inl ⟨rfl,l.length - (i+1),by omega,i+1,D,s,by omega,rfl,hR2,by omega,by omega,?_⟩,fun h=>absurd rfl h⟩
    simp [evs,SX.ev,hF,binPV,Zg5,c0,c1,c2,t0,t1,t2,wx0,wx1,wx2,wc,wf,v3,v4,ws,e1] at hq
    subst hq
    exact h1
  ·have hie:i=l.length:=by omega
   subst hie
   refine Zaq names_ok mixed_ok (Zaw _) ex hin ?_ ?_
   ·simp only [fmC,fmN]
    simp [Zag,Zad,Base.ev,SX.ev,evs,Value.oneCell',Zae,binPV]
   ·intro qs a1' w1 hq h1
    refine ⟨fun h=>(by cases h),fun _=>.inr (.inl ⟨by rw [show Zda (nth flA 8)=0 by kernel_rfl];rfl,?_⟩)⟩
    simp [evs,SX.ev] at hq
    subst hq
    rw [<- List.append_nil (flA.drop 9)]
    refine Zaq names_ok mixed_ok (Zaw _) post h1 ?_ (fun qs a1 w1 hq h1=>fin qs a1 w1 (by simp [evs,SX.ev] at hq;exact hq.symm) h1)
    simp only [fmC,fmN]
    simp [Zag,Zad,Base.ev,SX.ev,evs,Value.oneCell',Zae,binPV]
theorem walk (w:World) (v:Value) (len:Nat) (Z:Nat->Nat->Int) (h:IsGrid 3 w v len Z) :
  Calls Try.prog 7 #[v] w fun e w'=>e=.returned (.bool true)/\Ex w w':=by
 obtain ⟨l,hb,hr⟩:=gridK pos3 h
 refine told_true (told 0) rfl (us:=[v]) (ps:=[pRow E3 l]) (Zal fL ⟨l,hb,reads_len hr,rfl,rfl⟩) rfl rfl (fun i p u hp hu=>?_)
 match i,hp,hu with
 | 0,hp,hu=>simp at hp hu;subst hp;subst hu;exact hr
 | i+1,hp,hu=>simp at hp
end Go.Proofs.Ytcaclmdkhffegaa.deskReads
