/- Picks: numbers, and a desk out of them. -/
import Derived.Test.YtcaclmdkhffegaaPck
import Derived.Test.YtcaclmdkhffegaaDkf
import Derived.Test.YtcaclmdkhffegaaLrf
namespace Go.Proofs.Ytcaclmdkhffegaa.dpk
open Go Go.RowKit eng SX Fact fil lem lea pck
open ldk (EGi toldGi RGi fGi EAs toldAs RAs fAs askQ okIn inDk pDk)
open lrf (ERd toldRd RRd fRd runQ)
open dkm (Desk DI askD giveD runD Zb5)
open lec (encN lenN)
set_option linter.unusedVariables false
set_option linter.unusedSimpArgs false
set_option maxRecDepth 1000000
noncomputable def flNu:=flat (Za1 Try.prog 25)
def shNu:Shape:=⟨[(0,.ptr 0 0 0 0),(1,.leaf)],[pbox],[none,some true,none],40,25⟩
def shNuR:Shape:=⟨[(4,.leaf)],[pbox],[none,some true,none],40,25⟩
def EDk (k:Nat):PtrE:={ k:=k,elem:=61,cells:=2,ins:=[none],outs:=[some 2,none],kinds:=[.row,.row,.num,.row,.num] }
def tabD (f:FuncId):Option FnE:=cond (Nat.beq f 13) (some (EGi 31)) (cond (Nat.beq f 15) (some (ERd 32)) (cond (Nat.beq f 18) (some (EAs 33)) none))
def tabDP (f:FuncId):Option PtrE:=cond (Nat.beq f 25) (some (ENum 20)) none
def orcPk:Orc:=orcOr (orcFn tabD) (orcP tabDP)
noncomputable def flD:=flat (Za1 Try.prog 11)
noncomputable def lpD:=flat (Zah (nth flD 4))
def dbox:BoxT:=⟨30,0,false,[.leaf,.leaf],none,false⟩
def zbox:BoxT:=⟨30,0,false,[.nil,.nil],none,false⟩
def shD:Shape:=⟨[(0,.ptr 0 0 0 0),(1,.leaf)],[pbox],[none,some true,none],67,11⟩
def shDl:Shape:=⟨[(0,.ptr 0 0 0 0),(1,.leaf),(4,.ptr 1 0 0 0),(6,.ptr 2 0 0 0),(7,.leaf),(8,.leaf)],[pbox,zbox,dbox],[none,none,none,some true,none,some true,some true],67,11⟩
noncomputable def bkD:=flat (Zbg (nth lpD 2))
def shDc:Shape:=⟨[(0,.ptr 0 0 0 0),(1,.leaf),(4,.ptr 1 0 0 0),(6,.ptr 2 0 0 0),(7,.leaf),(8,.leaf),(9,.leaf),(10,.leaf),(29,.leaf)],[pbox,zbox,dbox],[none,none,none,none,none,none,some true,none,some true,some true],67,11⟩
def shDR:Shape:=⟨[(4,.ptr 1 0 0 0),(5,.leaf)],[pbox,dbox],[none,some true,none,some true,some true],67,11⟩
@[simp] def zDpk1:List SX:=[.con (.int .i64 3),.fn 20 [.con (.int .i64 3),.var 3,.var 4] 1,.fn 20 [.con (.int .i64 3),.var 3,.var 4] 2]
@[simp] def zDpk2:List SX:=[.var 8,.var 9,.var 1,.var 3,.bin .add (.con (.int .i64 1)) (.var 2),.var 4,.bin .add (.con (.int .i64 1)) (.fn 20 [.con (.int .i64 2),.var 6,.var 7] 0)]
@[simp] def zDpk3:SX:=.con (.int .i64 1)
@[simp] def zDpk4:List SX:=[.con (.int .i64 2),.var 6,.var 7]
@[simp] def zDpk5:List SX:=[.con (.int .i64 40),.var 6,.var 7]
@[simp] def zDpk6:List SX:=[.con (.int .i64 6),.fn 20 zDpk1 1,.fn 20 zDpk1 2]
@[simp] def zDpk7:SX:=.bin .sub (.bin .add (.var 2) zDpk3) zDpk3
@[simp] def zDpk8:SX:=.bin .eql (.var 5) (.con (.int .i64 0))
@[simp] def zDpk9:List SX:=[.con (.int .i64 3),.var 3,.var 4]
@[simp] def Zln:SX:=.bin .add (.var 1) (.fn 20 zDpk5 0)
@[simp] def Zlm:SX:=.bin .lss (.var 2) (.var 0)
@[simp] def Zqr:SX:=.bin .rem (.conv .i64 (.cell (.var 1) zDpk7 1 0)) (.var 0)
@[simp] def Zqq:List SX:=[.var 0,.var 1,.var 2,.var 3,.var 4,.var 5,.var 6]
@[simp] def Zll:SX:=.bin .add (.var 2) zDpk3
@[simp] def Zlk:SX:=.bin .eql (.var 5) zDpk3
@[simp] def Zpe:SX:=.bin .geq (.var 2) (.len (.var 1))
@[simp] def Zpd:SX:=.bin .geq (.var 4) (.len (.var 3))
@[simp] def zDpk18:List SX:=[.var 0,.var 1,.var 2,.fn 20 zDpk4 1,.fn 20 zDpk4 2,.fn 33 zDpk2 0,.fn 33 zDpk2 1]
@[simp] def Zlj:SX:=.con (.int .i64 0)
@[simp] def Zgs:Fact:=.ok (.var 2)
@[simp] def Zgr:Fact:=.ok (.var 0)
@[simp] def Zqp:SX:=.bin .add zDpk3 (.fn 20 zDpk9 0)
@[simp] def Zqo:SX:=.bin .add zDpk3 (.fn 20 zDpk1 0)
@[simp] def Zqn:List SX:=[.var 8,.var 9,.var 3,.var 4]
@[simp] def Zhg:Fact:=.ok (.var 1)
theorem nuO:segTo Try.prog fil.noOrc 10000 flNu shNu [1] shNuR [(0,0)]=some (.ret,[.ok (.len (.var 1)),.ok Zpe,.is Zpe (.bool true),.ok Zlj,Zgs],[Zlj,.var 1,.var 2]):=by kernel_rfl
theorem nuI:segTo Try.prog fil.noOrc 10000 flNu shNu [0,0] shNuR [(0,0)]=some (.ret,[.ok (.len (.var 1)),.ok Zpe,.is Zpe (.bool false),.ok (.bin .lss (.var 0) zDpk3),.is (.bin .lss (.var 0) zDpk3) (.bool false),.ok Zll,.ok zDpk7,.idx (.var 1) zDpk7 1 1,.idx (.var 1) zDpk7 1 1,.ok (.cell (.var 1) zDpk7 1 0),.ok (.conv .i64 (.cell (.var 1) zDpk7 1 0)),.ok Zqr,.ok Zqr,.ok Zll],[Zqr,.var 1,Zll]):=by kernel_rfl
theorem preD:segTo Try.prog orcPk 10000 (flD.take 4) shD [] shDl [(0,0),(2,0),(3,0)]=some (.normal,[Zgr,.ok Zlj,.ok Zlj,Zgs],[.var 0,Zlj,Zlj,.var 1,.var 2,.lit 0 [],.lit 0 []]):=by kernel_rfl
theorem exD0:segTo Try.prog orcPk 10000 lpD shDl [0] shDl [(0,0),(1,0),(2,0)]=some (.exit 0,[.ok Zlm,.is Zlm (.bool false),Zgr,Zhg,Zgs,.ok (.var 4)],Zqq):=by kernel_rfl
theorem exD1:segTo Try.prog orcPk 10000 lpD shDl [1,1] shDl [(0,0),(1,0),(2,0)]=some (.exit 0,[.ok Zlm,.is Zlm (.bool true),.ok (.len (.var 3)),.ok Zpd,.is Zpd (.bool true),Zgr,Zhg,Zgs,.ok (.var 4)],Zqq):=by kernel_rfl
theorem hdD:segTo Try.prog orcPk 10000 (lpD.take 2) shDl [1,0] shDl [(0,0),(1,0),(2,0)]=some (.normal,[.ok Zlm,.is Zlm (.bool true),.ok (.len (.var 3)),.ok Zpd,.is Zpd (.bool false),Zgr,Zhg,Zgs,.ok (.var 4)],Zqq):=by kernel_rfl
theorem hd2:segTo Try.prog orcPk 10000 (bkD.take 2) shDl [] shDc [(0,0),(1,0),(2,0)]=some (.normal,[.fp 25 (ENum 20) zDpk9,.ok (.fn 20 zDpk9 0),.ok (.fn 20 zDpk9 2),.ok Zqp,.fp 25 (ENum 20) zDpk1,.ok (.fn 20 zDpk1 0),.ok (.fn 20 zDpk1 2),.ok Zqo,.fp 25 (ENum 20) zDpk6,.ok (.fn 20 zDpk6 0),.ok (.fn 20 zDpk6 2),Zgr,Zhg,Zgs,.ok Zqp,.ok Zqo,.ok (.fn 20 zDpk6 0),.ok (.fn 20 zDpk6 2)],[.var 0,.var 1,.var 2,Zqp,Zqo,.fn 20 zDpk6 0,.fn 20 zDpk6 1,.fn 20 zDpk6 2,.var 5,.var 6]):=by kernel_rfl
theorem cGi:segTo Try.prog orcPk 10000 (bkD.drop 2) shDc [1] shDl [(0,0),(1,0),(2,0)]=some (.normal,[.ok zDpk8,.is zDpk8 (.bool true),.fn 13 (EGi 31) Zqn,Zgr,Zhg,Zgs,.ok (.var 7)],[.var 0,.var 1,.var 2,.var 6,.var 7,.fn 31 Zqn 0,.fn 31 Zqn 1]):=by kernel_rfl
theorem cRu:segTo Try.prog orcPk 10000 (bkD.drop 2) shDc [0,1] shDl [(0,0),(1,0),(2,0)]=some (.normal,[.ok zDpk8,.is zDpk8 (.bool false),.ok Zlk,.is Zlk (.bool true),.fp 25 (ENum 20) zDpk5,.ok (.fn 20 zDpk5 0),.ok (.fn 20 zDpk5 2),.ok Zln,.fn 15 (ERd 32) [.var 8,.var 9,Zln],Zgr,.ok Zln,Zgs,.ok (.fn 20 zDpk5 2)],[.var 0,Zln,.var 2,.fn 20 zDpk5 1,.fn 20 zDpk5 2,.fn 32 [.var 8,.var 9,Zln] 0,.fn 32 [.var 8,.var 9,Zln] 1]):=by kernel_rfl
theorem cA0:segTo Try.prog orcPk 10000 (bkD.drop 2) shDc [0,0,0] shDl [(0,0),(1,0),(2,0)]=some (.normal,[.ok zDpk8,.is zDpk8 (.bool false),.ok Zlk,.is Zlk (.bool false),.ok (.bin .add zDpk3 (.var 2)),.fp 25 (ENum 20) zDpk4,.ok (.fn 20 zDpk4 0),.ok (.fn 20 zDpk4 2),.ok (.bin .add zDpk3 (.fn 20 zDpk4 0)),.fn 18 (EAs 33) zDpk2,.ok (.fn 33 zDpk2 2),.ok (.fn 33 zDpk2 4),.is (.fn 33 zDpk2 2) (.bool false),Zgr,Zhg,Zgs,.ok (.fn 20 zDpk4 2)],zDpk18):=by kernel_rfl
theorem cA1:segTo Try.prog orcPk 10000 (bkD.drop 2) shDc [0,0,1] shDl [(0,0),(1,0),(2,0)]=some (.normal,[.ok zDpk8,.is zDpk8 (.bool false),.ok Zlk,.is Zlk (.bool false),.ok (.bin .add zDpk3 (.var 2)),.fp 25 (ENum 20) zDpk4,.ok (.fn 20 zDpk4 0),.ok (.fn 20 zDpk4 2),.ok (.bin .add zDpk3 (.fn 20 zDpk4 0)),.fn 18 (EAs 33) zDpk2,.ok (.fn 33 zDpk2 2),.ok (.fn 33 zDpk2 4),.is (.fn 33 zDpk2 2) (.bool true),Zgr,Zhg,Zgs,.ok (.fn 20 zDpk4 2)],zDpk18):=by kernel_rfl
theorem stD:segTo Try.prog orcPk 10000 (lpD.drop 3) shDl [] shDl [(0,0),(1,0),(2,0)]=some (.normal,[.ok Zll,Zgr,Zhg,.ok Zll,.ok (.var 4)],[.var 0,.var 1,Zll,.var 3,.var 4,.var 5,.var 6]):=by kernel_rfl
theorem postD:segTo Try.prog orcPk 10000 (flD.drop 5) shDl [] shDR [(0,0),(1,0)]=some (.ret,[Zhg,.ok (.var 4)],[.var 1,.var 3,.var 4,.var 5,.var 6]):=by kernel_rfl
theorem toldNu (k:Nat):ToldP 25 (ENum k) (spec RNum):=by
 refine told_ptr (fun _ _=>none) _ (Za1 Try.prog 25) Try.func25 (by kernel_rfl) shNu (by kernel_rfl) ?_ ?_
 ·intro ps qs h
  obtain ⟨m,n,l,_,_,_,_,_,rfl,rfl⟩:=Zal h
  exact Zb3 rfl
 ·intro C ps qs hF h a w hsh
  obtain ⟨m,n,l,h1,h2,h3,h4,h5,rfl,rfl⟩:=Zal h
  show wpL Try.prog flNu _ a w
  rw [<- List.append_nil flNu]
  by_cases hlt:n < l.length
  ·have w1:IntKind.i64.wrap ((n:Int)+1)=(n:Int)+1:=wrapI _ (by omega) (by omega)
   have w2:IntKind.i64.wrap ((n:Int)+1 - 1)=(n:Int):=by rw [wrapI _ (by omega) (by omega)];omega
   have w3:IntKind.i64.wrap (n:Int)=(n:Int):=wrapI _ (by omega) (by omega)
   have hc:=cellU l n hlt
   have hz:l.getD n 0 < 256:=by
    have:l.getD n 0=l[n]:=by simp [List.getD,hlt]
    rw [this];exact h5 _ (List.getElem_mem hlt)
   have hV:numV l n m=l.getD n 0 % m:=by simp [numV,hlt]
   have hN:numN l n=n+1:=by simp [numN,hlt]
   generalize l.getD n 0=z at hc hz hV
   have w4:IntKind.i64.wrap (z:Int)=(z:Int):=wrapI _ (by omega) (by omega)
   have w5:((z:Int).tmod (m:Int))=((z % m:Nat):Int):=rfl
   have hm0:¬ (m=0):=by omega
   have ix:∀ B:Base,B.ev (.bin .sub (.bin .add (.var 2) (.con (.int .i64 1))) (.con (.int .i64 1)))=some (pI (n:Int))->B.ev (.var 1)=some (pRow encU l)->(Fact.idx (var 1) (.bin .sub (.bin .add (.var 2) (.con (.int .i64 1))) (.con (.int .i64 1))) 1 1).holds B:=fun B e1 e2=>by
    obtain ⟨a,b,c,d,q1,q2,q3⟩:=idx_row encU l n 1 1 rfl hlt (by decide)
    exact ⟨a,b,c,d,by rw [e2];exact q1,by rw [e1];exact q2,q3⟩
   refine Zad names_ok mixed_ok fil.noOrc_ok nuI hsh ?_ ?_
   ·have ix1:=ix (C.with [pI (m:Int),pRow encU l,pI (n:Int)]) (by simp [Base.ev,SX.ev,binPV,w1,w2,w3]) (by simp [Base.ev,SX.ev])
    simp [Base.ev,SX.ev,evs,Zac,binPV,Zjk,Value.oneCell',w1,w2,w3,w4,w5,hm0,hc,ix1]
    all_goals omega
   ·intro qs a1 w1' hq h1'
    refine ⟨nofun,fun _=>⟨.inr rfl,shNuR,qs,[SX.var 0,SX.var 1,SX.var 2],h1',by kernel_rfl,?_⟩⟩
    simp [evs,SX.ev,binPV,Zjk,w1,w2,w3,w4,w5,hm0,hc] at hq ⊢
    subst hq
    simp [hV,hN]
  ·refine Zad names_ok mixed_ok fil.noOrc_ok nuO hsh ?_ ?_
   ·simp [Base.ev,SX.ev,evs,Zac,binPV,Value.oneCell']
    all_goals omega
   ·intro qs a1 w1' hq h1'
    refine ⟨nofun,fun _=>⟨.inr rfl,shNuR,qs,[SX.var 0,SX.var 1,SX.var 2],h1',by kernel_rfl,?_⟩⟩
    simp [evs,SX.ev] at hq ⊢
    subst hq
    simp [numV,numN,hlt]
structure PD where
 d:Desk
 t:Int
 n:Nat
def Zfm (l:List Nat) (i:Nat) (s:PD):PD :=
 let c:=numV l s.n 3;let n1:=numN l s.n;let f:=numV l n1 3;let n2:=numN l n1;let n3:=numN l n2
 if numV l n2 6=0 then ⟨giveD s.d (1+(c:Int)) (1+(f:Int)),s.t,n3⟩
 else if numV l n2 6=1 then ⟨(runD (s.t+(numV l n3 40:Nat)) s.d).1,s.t+(numV l n3 40:Nat),numN l n3⟩
 else ⟨(askD s.t s.d (1+(c:Int),1+(i:Int),1+(f:Int),1+(numV l n3 2:Nat))).1,s.t,numN l n3⟩
def dkRun (l:List Nat):Nat->Nat->PD->PD
 | 0,_,s=>s
 | k+1,i,s=>if l.length<=s.n then s else dkRun l k (i+1) (Zfm l i s)
structure PI (l:List Nat) (s:PD) (b:Int):Prop where
 di:DI s.d s.t
 t0:0<=s.t
 t1:s.t<=39 * b
 f3:∀ x ∈ s.d.2,x.2.2.1<=3
 l3:∀ x ∈ s.d.1,x.2.1<=3
 ok:OkP l s.n
theorem loop_sub {t:Int}:∀ (n:Nat) {d:Desk} {x:LeM},x ∈ (dkm.loopD t n d).1.2->x ∈ d.2
 | 0,d,x,h=>h
 | n+1,d,x,h=>by
  unfold dkm.loopD at h
  split at h
  ·have:=loop_sub n h
   exact (List.mem_filter.1 this).1
  ·exact h
theorem ask_sub {t:Int} {d:Desk} {w x:LeM} (h:x ∈ (askD t d w).1.2):x ∈ d.2 \/ x=w:=by
 unfold askD at h
 split at h
 ·exact .inl (List.mem_filter.1 h).1
 ·split at h
  ·exact dkm.put_mem h
  ·exact .inl h
theorem lends_l3 {t:Int} {d:Desk} {w:LeM} (hm:MayL d.1) (h:∀ x ∈ d.1,x.2.1<=3) (hw:w.2.2.1<=3):∀ x ∈ (dkm.lendsD t d w).1,x.2.1<=3:=fun x hx=>by
 rcases lam.mem_grant hm hx with hx | rfl | ⟨y,hy,_,e2,rfl⟩
 ·exact h x hx
 ·exact hw
 ·exact h y hy
theorem loop_l3 {t:Int} (h0:0<=t) (h1:t<=1000000):∀ (n:Nat) {d:Desk},DI d t->(∀ x ∈ d.1,x.2.1<=3)->(∀ x ∈ d.2,x.2.2.1<=3)->∀ x ∈ (dkm.loopD t n d).1.1,x.2.1<=3
 | 0,d,h,hl,hw=>hl
 | n+1,d,h,hl,hw=>by
  unfold dkm.loopD
  split
  ·rename_i w hf
   have hm:=List.mem_of_find?_eq_some hf
   exact loop_l3 h0 h1 n (dkm.di_lends h (h.w w hm) h0 h1 (List.find?_some hf)) (lends_l3 h.al.may hl (hw w hm)) (fun x hx=>hw x (List.mem_filter.1 hx).1)
  ·exact hl
theorem Zjn {t:Int} {d:Desk} (h:∀ x ∈ d.1,x.2.1<=3):∀ x ∈ (Zb5 t d).1,x.2.1<=3:=fun x hx=>h x (List.mem_filter.1 hx).1
theorem run_l3 {d:Desk} {s t:Int} (h:DI d s) (hs:s<=t) (h0:0<=t) (h1:t<=1000000) (hl:∀ x ∈ d.1,x.2.1<=3) (hw:∀ x ∈ d.2,x.2.2.1<=3):∀ x ∈ (runD t d).1.1,x.2.1<=3 :=
 loop_l3 h0 h1 _ (dkm.di_prune h hs) (Zjn hl) hw
theorem ask_l3 {d:Desk} {s t:Int} {w:LeM} (h:DI d s) (hs:s<=t) (hl:∀ x ∈ d.1,x.2.1<=3) (hw:w.2.2.1<=3):∀ x ∈ (askD t d w).1.1,x.2.1<=3:=by
 unfold askD
 split
 ·exact lends_l3 (dkm.di_prune h hs).al.may (Zjn hl) hw
 ·split
  ·exact Zjn hl
  ·exact Zjn hl
theorem pi_step {l:List Nat} {s:PD} {b:Int} (i:Nat) (h:PI l s b) (hb:0<=b) (hb2:b<=1000):PI l (Zfm l i s) (b+1):=by
 have o1:=okN h.ok
 have o2:=okN o1
 have o3:=okN o2
 have o4:=okN o3
 have hc:numV l s.n 3 < 3:=Zft (by omega)
 have hf:numV l (numN l s.n) 3 < 3:=Zft (by omega)
 have ht:=h.t1
 have h0:=h.t0
 unfold Zfm
 simp only
 split
 ·exact ⟨dkm.di_give h.di _ _,h.t0,by show s.t<=_;omega,fun x hx=>h.f3 x hx,fun x hx=>h.l3 x (List.mem_filter.1 hx).1,o3⟩
 ·split
  ·have hk:numV l (numN l (numN l (numN l s.n))) 40 < 40:=Zft (by omega)
   exact ⟨dkm.di_run h.di (by omega) (by omega) (by omega),by show 0<=s.t+_;omega,by show s.t+_<=_;omega,fun x hx=>h.f3 x (loop_sub (d:=Zb5 (s.t+(numV l (numN l (numN l (numN l s.n))) 40:Nat)) s.d) _ hx),run_l3 h.di (by omega) (by omega) (by omega) h.l3 h.f3,o4⟩
  ·have hm:numV l (numN l (numN l (numN l s.n))) 2 < 2:=Zft (by omega)
   refine ⟨dkm.di_ask h.di (Int.le_refl _) ?_ h0 (by omega),h0,by show s.t<=_;omega,fun x hx=>?_,ask_l3 h.di (Int.le_refl _) h.l3 (by simp only;omega),o4⟩
   ·simp only [dkm.okW];omega
   ·rcases ask_sub hx with hx | rfl
    ·exact h.f3 x hx
    ·simp only;omega
theorem pi_run {l:List Nat}:∀ (k i:Nat) {s:PD} {b:Int},PI l s b->0<=b->b+k<=1000->PI l (dkRun l k i s) (b+k)
 | 0,i,s,b,h,_,_=>by simpa [dkRun] using h
 | k+1,i,s,b,h,hb,hk=>by
  unfold dkRun
  split
  ·exact ⟨h.di,h.t0,by have:=h.t1;omega,h.f3,h.l3,h.ok⟩
  ·have:=pi_run k (i+1) (pi_step i h hb (by omega)) (by omega) (by omega)
   rwa [show b+1+(k:Int)=b+((k+1:Nat):Int) by omega] at this
def RDk (ps qs:List PV):Prop:=∃ (most:Nat) (l:List Nat),most<=900/\OkP l 0/\ps=[pI (most:Int),pRow encU l,pI 0]/\qs=[pRow encL (dkRun l most 0 ⟨([],[]),0,0⟩).d.1,pRow encL (dkRun l most 0 ⟨([],[]),0,0⟩).d.2,pI (dkRun l most 0 ⟨([],[]),0,0⟩).t,pRow encU l,pI ((dkRun l most 0 ⟨([],[]),0,0⟩).n:Int)]
theorem fDk:∀ ps q1 q2,RDk ps q1->RDk ps q2->q1=q2:=by
 rintro ps q1 q2 ⟨m,l,_,_,rfl,rfl⟩ ⟨m',l',_,_,h,rfl⟩
 simp only [List.cons.injEq,PV.v.injEq,Value.int.injEq,true_and,and_true,Int.ofNat_inj] at h
 obtain ⟨rfl,h⟩:=h
 rw [fil.pRow_inj Zmt h]
noncomputable def FD:Fns:=fun k=>match k with | 20=>spec RNum | 31=>spec RGi | 32=>spec RRd | 33=>spec RAs | _=>fun _=>none
theorem d20:ToldP 25 (ENum 20) (FD 20):=toldNu 20
theorem d31:ToldF 13 (EGi 31) (FD 31):=toldGi 31
theorem d32:ToldF 15 (ERd 32) (FD 32):=toldRd 32
theorem d33:ToldF 18 (EAs 33) (FD 33):=toldAs 33
theorem FD20 {m n:Nat} {l:List Nat} (h1:1<=m) (h2:m<=1000) (ok:OkP l n):FD 20 [pI (m:Int),pRow encU l,pI (n:Int)]=some [pI (numV l n m:Int),pRow encU l,pI (numN l n:Int)]:=Zam fNum ⟨m,n,l,h1,h2,ok.n,ok.len,ok.u8,rfl,rfl⟩
theorem FD31 {d:Desk} {t:Int} (h:DI d t) (c f:Int):FD 31 [pRow encL d.1,pRow encL d.2,pI c,pI f]=some [pRow encL (giveD d c f).1,pRow encL (giveD d c f).2]:=Zam fGi ⟨d,c,f,by have:=h.len;omega,by have:=h.l4;omega,rfl,rfl⟩
theorem run_is {d:Desk} {s t:Int} (h:DI d s) (hs:s<=t) (h0:0<=t) (h1:t<=1000000):(runQ t d).1=(runD t d).1/\(runQ t d).2.1=(runD t d).2:=by
 have:=dkf.run_eq h0 h1 h hs
 simp only [runQ]
 rw [show (leb.pruneL d.1 t,d.2)=Zb5 t d from rfl,this]
 exact ⟨rfl,rfl⟩
theorem FD32 {d:Desk} {s t:Int} (h:DI d s) (hs:s<=t) (h0:0<=t) (h1:t<=1000000):FD 32 [pRow encL d.1,pRow encL d.2,pI t]=some [pRow encL (runD t d).1.1,pRow encL (runD t d).1.2,pRow encL (runD t d).2,pRow dix.encP (runQ t d).2.2]:=by
 obtain ⟨e1,e2⟩:=run_is h hs h0 h1
 rw [<- e1,<- e2]
 exact Zam fRd ⟨d,t,by have:=h.len;omega,by have:=h.l4;omega,h0,h1,rfl,rfl⟩
theorem FD33 {d:Desk} {s t:Int} (h:DI d s) (hs:s<=t) (h0:0<=t) (h1:t<=1000000) {c n f m:Int} (hw:dkm.okW (c,n,f,m)):FD 33 [pRow encL d.1,pRow encL d.2,pI t,pI c,pI n,pI f,pI m]=some [pRow encL (askD t d (c,n,f,m)).1.1,pRow encL (askD t d (c,n,f,m)).1.2,pB (askD t d (c,n,f,m)).2.1,pRow encN (askD t d (c,n,f,m)).2.2.1,pI (askD t d (c,n,f,m)).2.2.2]:=by
 rw [<- dke.ask_eq h.al.may (by have:=h.len;omega) (dkm.ok_lease hw h0 h1)]
 exact Zam fAs ⟨d,t,(c,n,f,m),⟨by have:=h.len;omega,by have:=h.l4;omega,h0,h1⟩,rfl,rfl⟩
theorem Zcp:OrcOk Try.prog orcPk:=Zgh (Zae tabD) (Zkh tabDP)
@[simp] theorem kDk (k:Nat):(EDk k).k=k:=rfl
theorem cutD:flD=flD.take 4++.block (Zaf (nth flD 4)) (.loop (Zah (nth flD 4))) :: flD.drop 5:=by kernel_rfl
theorem cutE:lpD=lpD.take 2++.block (Zaf (nth lpD 2)) (Zbg (nth lpD 2)) :: lpD.drop 3:=by kernel_rfl
theorem cutG:bkD=bkD.take 2++bkD.drop 2:=by kernel_rfl
abbrev stP (most i:Nat) (l:List Nat) (s:PD):List PV:=[pI (most:Int),pI s.t,pI (i:Int),pRow encU l,pI (s.n:Int),pRow encL s.d.1,pRow encL s.d.2]
theorem wsm (x k:Nat) (hx:x < k) (hk:k<=1000):IntKind.i64.wrap (1+(x:Int))=1+(x:Int):=wrapI _ (by omega) (by omega)
set_option maxHeartbeats 4000000 in
theorem toldDk (k:Nat):ToldP 11 (EDk k) (spec RDk):=by
 refine told_ptr FD _ (Za1 Try.prog 11) Try.func11 (by kernel_rfl) shD (by kernel_rfl) ?_ ?_
 ·intro ps qs h
  obtain ⟨m,l,_,_,rfl,rfl⟩:=Zal h
  exact Zb3 rfl
 ·intro C ps qs hF h a w hsh
  obtain ⟨most,l,hmo,ok0,rfl,rfl⟩:=Zal h
  show wpL Try.prog flD _ a w
  rw [cutD]
  generalize hres:dkRun l most 0 ⟨([],[]),0,0⟩=res
  refine Zad names_ok mixed_ok Zcp preD hsh ?_ ?_
  ·simp [Zab,Zaa,Base.ev,SX.ev,evs,Value.oneCell',hF]
  intro qs a1 w1 hq h1
  refine ⟨fun _=>?_,fun h=>absurd rfl h⟩
  simp [evs,SX.ev] at hq
  subst hq
  refine Zas (fun q a w=>∃ (i:Nat) (s:PD),i<=most/\q=most - i/\PI l s (i:Int)/\dkRun l (most - i) i s=res/\Zag C shDl (stP most i l s) a w) ?_ (n:=most) ⟨0,⟨([],[]),0,0⟩,by omega,by omega,⟨dkm.di_nil 0,by simp,by simp,by simp,by simp,ok0⟩,hres,h1⟩
  rintro q a w ⟨i,s,hi,rfl,hI,hrun,hin⟩
  show wpL Try.prog lpD _ a w
  have post:∀ a w,res=s->Zag C shDl (stP most i l s) a w->wpL Try.prog (flD.drop 5) (fun e a' w'=>(e=.normal \/ e=.ret)/\∃ sh' ps' es,Zag C sh' ps' a' w'/\Zne Try.prog Try.f11 sh' (EDk k)=some es/\evs (fun i=>ps'[i]?) FD es=some [pRow encL res.d.1,pRow encL res.d.2,pI res.t,pRow encU l,pI (res.n:Int)]) a w:=by
   intro a w hr hin
   rw [<- List.append_nil (flD.drop 5)]
   refine Zad names_ok mixed_ok Zcp postD hin ?_ ?_
   ·simp [Zab,Zaa,Base.ev,SX.ev,evs,Value.oneCell',Zac]
   ·intro qs a2 w2 hq h2
    refine ⟨nofun,fun _=>⟨.inr rfl,shDR,qs,[SX.var 3,SX.var 4,SX.var 0,SX.var 1,SX.var 2],h2,by kernel_rfl,?_⟩⟩
    simp [evs,SX.ev] at hq ⊢
    subst hq
    rw [hr];rfl
  by_cases hlt:i < most
  ·by_cases hover:l.length<=s.n
   ·have hr:res=s:=by rw [<- hrun,show most - i=(most - i - 1)+1 by omega,dkRun,if_pos hover]
    rw [<- List.append_nil lpD]
    refine Zad names_ok mixed_ok Zcp exD1 hin ?_ ?_
    ·simp [Zab,Zaa,Base.ev,SX.ev,evs,Value.oneCell',Zac,binPV,hlt,hover]
    ·intro qs a1 w1 hq h1
     refine ⟨nofun,fun _=>.inr (.inl ⟨by rw [show Zaf (nth flD 4)=0 by kernel_rfl];rfl,?_⟩)⟩
     simp [evs,SX.ev] at hq
     subst hq
     exact post a1 w1 hr h1
   ·have hnext:=pi_step i hI (by omega) (by omega)
    have hrun':dkRun l (most - (i+1)) (i+1) (Zfm l i s)=res:=by
     rw [<- hrun,show most - i=(most - (i+1))+1 by omega,dkRun,if_neg hover]
    clear post
    have hover':s.n < l.length:=by omega
    obtain ⟨Q',hQ'⟩:∃ Q':Exit->Act->World->Prop,Q'=(fun e a' w'=>(e=.normal/\∃ n',n' < most - i/\∃ (i:Nat) (s:PD),i<=most/\n'=most - i/\PI l s (i:Int)/\dkRun l (most - i) i s=res/\Zag C shDl (stP most i l s) a' w') \/ (e=.exit (Zaf (nth flD 4))/\wpL Try.prog (flD.drop 5) (fun e a' w'=>(e=.normal \/ e=.ret)/\∃ sh' ps' es,Zag C sh' ps' a' w'/\Zne Try.prog Try.f11 sh' (EDk k)=some es/\evs (fun i=>ps'[i]?) FD es=some [pRow encL res.d.1,pRow encL res.d.2,pI res.t,pRow encU l,pI (res.n:Int)]) a' w') \/ (e=.ret/\((Exit.ret=.normal \/ Exit.ret=.ret)/\∃ sh' ps' es,Zag C sh' ps' a' w'/\Zne Try.prog Try.f11 sh' (EDk k)=some es/\evs (fun i=>ps'[i]?) FD es=some [pRow encL res.d.1,pRow encL res.d.2,pI res.t,pRow encU l,pI (res.n:Int)]))):=⟨_,rfl⟩
    have step:∀ s2,s2=Zfm l i s->∀ a w,Zag C shDl (stP most i l s2) a w->wpL Try.prog (lpD.drop 3) Q' a w:=by
     rintro s2 rfl a w hin
     rw [hQ',<- List.append_nil (lpD.drop 3)]
     have v1:IntKind.i64.wrap ((i:Int)+1)=(i:Int)+1:=wrapI _ (by omega) (by omega)
     refine Zad names_ok mixed_ok Zcp stD hin ?_ ?_
     ·simp [Zab,Zaa,Base.ev,SX.ev,evs,Value.oneCell',binPV,v1]
     ·intro qs a2 w2 hq hx
      refine ⟨fun _=>.inl ⟨rfl,most - (i+1),by omega,i+1,Zfm l i s,by omega,rfl,by rw [show ((i+1:Nat):Int)=(i:Int)+1 by omega];exact hnext,hrun',?_⟩,fun h=>absurd rfl h⟩
      simp [evs,SX.ev,binPV,v1] at hq
      subst hq
      exact hx
    rw [<- hQ',cutE]
    clear hQ' hnext hrun' hrun
    refine Zad names_ok mixed_ok Zcp hdD hin ?_ ?_
    ·simp [Zab,Zaa,Base.ev,SX.ev,evs,Value.oneCell',Zac,binPV,hlt,hover,hover']
    intro qs a1 w1 hq h1
    refine ⟨fun _=>?_,fun h=>absurd rfl h⟩
    simp [evs,SX.ev] at hq
    subst hq
    refine Zcj ?_
    show wpL Try.prog bkD _ a1 w1
    rw [cutG]
    obtain ⟨D,t,n⟩:=s
    have ok:=hI.ok
    have hdi:=hI.di
    have ht0:=hI.t0
    have ht1:=hI.t1
    simp only at ok hdi ht0 ht1 h1 hover'
    have o1:=okN ok
    have o2:=okN o1
    have o3:=okN o2
    have q1:FD 20 [pI 3,pRow encU l,pI (n:Int)]=some [pI (numV l n 3:Int),pRow encU l,pI (numN l n:Int)]:=FD20 (m:=3) (by omega) (by omega) ok
    have q2:FD 20 [pI 3,pRow encU l,pI (numN l n:Int)]=some [pI (numV l (numN l n) 3:Int),pRow encU l,pI (numN l (numN l n):Int)]:=FD20 (m:=3) (by omega) (by omega) o1
    have q3:FD 20 [pI 6,pRow encU l,pI (numN l (numN l n):Int)]=some [pI (numV l (numN l (numN l n)) 6:Int),pRow encU l,pI (numN l (numN l (numN l n)):Int)]:=FD20 (m:=6) (by omega) (by omega) o2
    have q4:FD 20 [pI 40,pRow encU l,pI (numN l (numN l (numN l n)):Int)]=some [pI (numV l (numN l (numN l (numN l n))) 40:Int),pRow encU l,pI (numN l (numN l (numN l (numN l n))):Int)]:=FD20 (m:=40) (by omega) (by omega) o3
    have q5:FD 20 [pI 2,pRow encU l,pI (numN l (numN l (numN l n)):Int)]=some [pI (numV l (numN l (numN l (numN l n))) 2:Int),pRow encU l,pI (numN l (numN l (numN l (numN l n))):Int)]:=FD20 (m:=2) (by omega) (by omega) o3
    have c3:numV l n 3 < 3:=Zft (by omega)
    have f3:numV l (numN l n) 3 < 3:=Zft (by omega)
    have v40:numV l (numN l (numN l (numN l n))) 40 < 40:=Zft (by omega)
    have v2:numV l (numN l (numN l (numN l n))) 2 < 2:=Zft (by omega)
    have st1:numV l (numN l (numN l n)) 6=0->Zfm l i ⟨D,t,n⟩=⟨giveD D (1+(numV l n 3:Nat)) (1+(numV l (numN l n) 3:Nat)),t,numN l (numN l (numN l n))⟩:=fun h=>by simp only [Zfm,h,if_true]
    have st2:¬ numV l (numN l (numN l n)) 6=0->numV l (numN l (numN l n)) 6=1->Zfm l i ⟨D,t,n⟩=⟨(runD (t+(numV l (numN l (numN l (numN l n))) 40:Nat)) D).1,t+(numV l (numN l (numN l (numN l n))) 40:Nat),numN l (numN l (numN l (numN l n)))⟩:=fun h h'=>by simp only [Zfm,h',if_true];rfl
    have st3:¬ numV l (numN l (numN l n)) 6=0->¬ numV l (numN l (numN l n)) 6=1->Zfm l i ⟨D,t,n⟩=⟨(askD t D (1+(numV l n 3:Nat),1+(i:Int),1+(numV l (numN l n) 3:Nat),1+(numV l (numN l (numN l (numN l n))) 2:Nat))).1,t,numN l (numN l (numN l (numN l n)))⟩:=fun h h'=>by simp only [Zfm,h,h',if_false]
    generalize numV l n 3=c at *
    generalize numV l (numN l n) 3=f at *
    generalize numV l (numN l (numN l n)) 6=kd at *
    generalize numV l (numN l (numN l (numN l n))) 40=v at *
    generalize numV l (numN l (numN l (numN l n))) 2=m at *
    generalize numN l (numN l (numN l (numN l n)))=n4 at *
    generalize numN l (numN l (numN l n))=n3 at *
    generalize numN l (numN l n)=n2 at *
    generalize numN l n=n1 at *
    have wc:=wsm c 3 c3 (by omega)
    have wf:=wsm f 3 f3 (by omega)
    have wm:=wsm m 2 v2 (by omega)
    have wi:IntKind.i64.wrap (1+(i:Int))=1+(i:Int):=wrapI _ (by omega) (by omega)
    refine Zad names_ok mixed_ok Zcp hd2 h1 ?_ ?_
    ·simp [Zab,Zaa,Base.ev,SX.ev,evs,Value.oneCell',hF,binPV,q1,q2,q3,d20,wc,wf]
    intro qs a2 w2 hq h2
    refine ⟨fun _=>?_,fun h=>absurd rfl h⟩
    simp [evs,SX.ev,hF,binPV,q1,q2,q3,wc,wf] at hq
    subst hq
    rw [<- List.append_nil (bkD.drop 2)]
    by_cases hk0:kd=0
    ·have e:=FD31 hdi (1+(c:Int)) (1+(f:Int))
     have hs:=st1 hk0
     subst hk0
     generalize giveD D (1+(c:Int)) (1+(f:Int))=E at *
     refine Zad names_ok mixed_ok Zcp cGi h2 ?_ ?_
     ·simp [Zab,Zaa,Base.ev,SX.ev,evs,Value.oneCell',hF,binPV,e,d31]
     ·intro qs a3 w3 hq h3
      simp [evs,SX.ev,hF,e] at hq
      subst hq
      exact ⟨fun _=>.inl ⟨rfl,step _ hs.symm a3 w3 h3⟩,fun h=>absurd rfl h⟩
    ·by_cases hk1:kd=1
     ·have wt:IntKind.i64.wrap (t+(v:Int))=t+(v:Int):=wrapI _ (by omega) (by omega)
      have e:=FD32 hdi (show t<=t+(v:Int) by omega) (by omega) (by omega)
      have hs:=st2 hk0 hk1
      subst hk1
      generalize (runQ (t+(v:Int)) D).2.2=P at *
      generalize (runD (t+(v:Int)) D).2=L at *
      generalize (runD (t+(v:Int)) D).1=E at *
      refine Zad names_ok mixed_ok Zcp cRu h2 ?_ ?_
      ·simp [Zab,Zaa,Base.ev,SX.ev,evs,Value.oneCell',hF,binPV,q4,e,d20,d32,wt]
      ·intro qs a3 w3 hq h3
       simp [evs,SX.ev,hF,binPV,q4,e,wt] at hq
       subst hq
       exact ⟨fun _=>.inl ⟨rfl,step _ hs.symm a3 w3 h3⟩,fun h=>absurd rfl h⟩
     ·have hw:dkm.okW (1+(c:Int),1+(i:Int),1+(f:Int),1+(m:Int)):=by simp only [dkm.okW];omega
      have e:=FD33 hdi (Int.le_refl t) ht0 (by omega) hw
      have hs:=st3 hk0 hk1
      have hi0:¬ ((kd:Int)=0):=by omega
      have hi1:¬ ((kd:Int)=1):=by omega
      generalize askD t D (1+(c:Int),1+(i:Int),1+(f:Int),1+(m:Int))=A at *
      obtain ⟨E,b,P,er⟩:=A
      simp only at e hs
      cases b with
      | false =>
       refine Zad names_ok mixed_ok Zcp cA0 h2 ?_ ?_
       ·simp [Zab,Zaa,Base.ev,SX.ev,evs,Value.oneCell',hF,binPV,q5,e,d20,d33,hi0,hi1,hk0,wi,wm]
       ·intro qs a3 w3 hq h3
        simp [evs,SX.ev,hF,binPV,q5,e,wi,wm] at hq
        subst hq
        exact ⟨fun _=>.inl ⟨rfl,step _ hs.symm a3 w3 h3⟩,fun h=>absurd rfl h⟩
      | true =>
       refine Zad names_ok mixed_ok Zcp cA1 h2 ?_ ?_
       ·simp [Zab,Zaa,Base.ev,SX.ev,evs,Value.oneCell',hF,binPV,q5,e,d20,d33,hi0,hi1,hk0,wi,wm]
       ·intro qs a3 w3 hq h3
        simp [evs,SX.ev,hF,binPV,q5,e,wi,wm] at hq
        subst hq
        exact ⟨fun _=>.inl ⟨rfl,step _ hs.symm a3 w3 h3⟩,fun h=>absurd rfl h⟩
  ·have hie:i=most:=by omega
   subst hie
   have hr:res=s:=by rw [<- hrun,Nat.sub_self,dkRun]
   rw [<- List.append_nil lpD]
   refine Zad names_ok mixed_ok Zcp exD0 hin ?_ ?_
   ·simp [Zab,Zaa,Base.ev,SX.ev,evs,Value.oneCell',Zac,binPV]
   ·intro qs a1 w1 hq h1
    refine ⟨nofun,fun _=>.inr (.inl ⟨by rw [show Zaf (nth flD 4)=0 by kernel_rfl];rfl,?_⟩)⟩
    simp [evs,SX.ev] at hq
    subst hq
    exact post a1 w1 hr h1
theorem pi_all {l:List Nat} (ok:OkP l 0):PI l (dkRun l 25 0 ⟨([],[]),0,0⟩) 25:=by
 have:=pi_run (l:=l) 25 0 (s:=⟨([],[]),0,0⟩) (b:=0) ⟨dkm.di_nil 0,by simp,by simp,by simp,by simp,ok⟩ (by omega) (by omega)
 simpa using this
end Go.Proofs.Ytcaclmdkhffegaa.dpk
