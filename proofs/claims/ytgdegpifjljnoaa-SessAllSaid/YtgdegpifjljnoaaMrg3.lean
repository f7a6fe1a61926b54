/- Texts joined: Eng15, Eng15b, Eng16, Eng17, Eng18, Eng19, Eng20, Eng21, Eng22, Eng23, Eng24, Eng25, Eng26, Eng27, Eng28, Eng29. -/
import Derived.Test.YtgdegpifjljnoaaMrg2
import Derived.Test.YtgdegpifjljnoaaAfter
import Derived.Test.YtgdegpifjljnoaaRowE
set_option linter.unusedVariables false
set_option linter.unusedSimpArgs false
section
/- The engine: operations whose order is open, held: all orders. -/
namespace Go.Proofs.Ytgdegpifjljnoaa.eng
open Go
variable {W0 : Base}

def Ap (a b:Log):Prop:=(a.T &&& b.A=0)/\(b.T &&& a.A=0)
theorem and_zero {a b r:Nat} (h:a &&& b=0) (ha:bit a r) (hb:bit b r):False:=by
 have:(a &&& b).testBit r=true:=by rw [Nat.testBit_and,ha,hb];rfl
 rw [h] at this
 simp at this
theorem Zbj {P:Program} {E:Eng} (hG:Zbo E.call) {ops:Array Oper} {o:Oper} {x x':AAct} {st st':St} {pv:Option Value} {lg:Log} (h:opD P E ops o x st=some (pv,x',st',lg)) :
  st.next<=st'.next/\(∀ r,bit lg.T r->r < st'.next)/\(∀ r,bit lg.T r->bit lg.A r)/\Gk st st' lg/\x'.n=x.n/\x'.defers=x.defers/\(∀ t,o.dst ≠ some t->x'.tm.get t=x.tm.get t)/\(∀ v,pv=some v->x'=x):=by
 simp only [opD,Option.bind_eq_some_iff] at h
 obtain ⟨⟨pv1,x1,st1,l1⟩,hop,h⟩:=h
 cases hc:(Nat.ble st.next st1.next && Nat.beq (l1.T >>> st1.next) 0 && Nat.beq (l1.T ||| l1.A) l1.A && x1.defers.isEmpty) with
 | false=>simp [hc] at h
 | true =>
  simp only [hc,cond_true] at h
  simp only [Bool.and_eq_true,List.isEmpty_iff,Nat.ble_eq,Nat.beq_eq] at hc
  obtain ⟨⟨⟨h1,h2⟩,h3⟩,h4⟩:=hc
  have q2:∀ r,bit l1.T r->r < st1.next:=by
   intro r hr
   rcases Nat.lt_or_ge r st1.next with hlt | hge
   ·exact hlt
   ·exfalso
    have:(l1.T >>> st1.next).testBit (r - st1.next)=true:=by
     rw [Nat.testBit_shiftRight,show st1.next+(r - st1.next)=r by omega]
     exact hr
    rw [h2] at this
    simp at this
  have q3:∀ r,bit l1.T r->bit l1.A r:=by
   intro r hr
   have:(l1.T ||| l1.A).testBit r=true:=by rw [Nat.testBit_or,hr];rfl
   rw [h3] at this
   exact this
  have q4:=Zmq hG hop
  cases pv1 with
  | some v =>
   simp only [Option.some.injEq,Prod.mk.injEq] at h
   obtain ⟨rfl,rfl,rfl,rfl⟩:=h
   exact ⟨h1,q2,q3,q4,rfl,rfl,fun _ _=>rfl,fun _ _=>rfl⟩
  | none =>
   cases hd:o.dst with
   | none =>
    simp only [hd,Option.some.injEq,Prod.mk.injEq] at h
    obtain ⟨rfl,rfl,rfl,rfl⟩:=h
    exact ⟨h1,q2,q3,q4,rfl,rfl,fun _ _=>rfl,fun _ _=>rfl⟩
   | some d =>
    simp only [hd,Option.bind_eq_some_iff,Option.map_eq_some_iff] at h
    obtain ⟨y,hy,x2,hx2,he⟩:=h
    cases he
    simp only [AAct.put] at hx2
    cases hb:(Nat.blt d x.n && Nat.blt (d+1) 16777216) with
    | false=>simp [hb] at hx2
    | true =>
     simp only [hb,cond_true,Option.some.injEq] at hx2
     simp only [Bool.and_eq_true,Nat.blt_eq] at hb
     subst hx2
     refine ⟨h1,q2,q3,q4,rfl,rfl,fun t ht=>?_,fun v hv=>by cases hv⟩
     have hne:¬ t=d:=fun e=>ht (by rw [e])
     rw [T.get_set _ _ _ _ _ (show d+1 < 2 ^ 24 from hb.2),if_neg hne]

theorem Ze7 {m:Nat} {l:Log}:∀ {acc:List (Nat × Log)},Zdm m l acc=true->∀ p ∈ acc,m.testBit p.1=true \/ Ap p.2 l
 | [],h,p,hp=>by cases hp
 | (i,k) :: rest,h,p,hp=>by
  simp only [Zdm,Bool.and_eq_true,Bool.or_eq_true,Nat.beq_eq] at h
  rcases List.mem_cons.1 hp with rfl | hp
  ·exact h.1.imp_right fun ⟨a,b⟩=>⟨a,b⟩
  ·exact Ze7 h.2 p hp
theorem allBehind_ok {i:Nat}:∀ {ms:List Nat},Zff i ms=true->∀ k,k < ms.length->(ms.getD k 0).testBit i=true
 | [],h,k,hk=>by simp at hk
 | m :: ms,h,k,hk=>by
  simp only [Zff,Bool.and_eq_true] at h
  cases k with
  | zero=>simpa using h.1
  | succ k=>simpa using allBehind_ok h.2 k (by simpa using hk)

theorem accQuiet_ok {m:Nat}:∀ {acc:List (Nat × Log)},Zhd m acc=true->∀ p ∈ acc,m.testBit p.1=true \/ p.2.T=0
 | [],h,p,hp=>by cases hp
 | (i,k) :: rest,h,p,hp=>by
  simp only [Zhd,Bool.and_eq_true,Bool.or_eq_true,Nat.beq_eq] at h
  rcases List.mem_cons.1 hp with rfl | hp
  ·exact h.1
  ·exact accQuiet_ok h.2 p hp

structure Ran (P:Program) (E:Eng) (ops:Array Oper) (l:List Oper) (i:Nat) (ms:List Nat) (acc:List (Nat × Log)) (x:AAct) (st:St) (e:AX) (x':AAct) (st':St) (lg:Log) (N M:Nat) (X:Nat->AAct) (Sq:Nat->St) (L:Nat->Log):Prop where
 x0:X 0=x
 s0:Sq 0=st
 le:N<=l.length
 step:∀ k,k < N->∃ o,l[k]?=some o/\opD P E ops o (X k) (Sq k)=some (none,X (k+1),Sq (k+1),L k)
 sub:∀ k,k < M->(∀ r,bit (L k).A r->bit lg.A r)/\(∀ r,bit (L k).T r->bit lg.T r)/\(∀ p ∈ (L k).V,p ∈ lg.V)
 accs:∀ k,k < M->∀ p ∈ acc,(ms.getD k 0).testBit p.1=true \/ Ap p.2 (L k)
 sep:∀ k1 k2,k1 < k2->k2 < M->(ms.getD k2 0).testBit (i+k1)=true \/ Ap (L k1) (L k2)
 fin:(e=.normal/\N=l.length/\M=N/\x'=X N/\st'=Sq N) \/ (∃ v o x1,e=.panic v/\M=N+1/\l[N]?=some o/\opD P E ops o (X N) (Sq N)=some (some v,x1,st',L N)/\((ms.getD N 0=(1 <<< (i+N)) - 1/\x'=x1) \/ (x'={ x1 with tm:=.nil }/\(∀ p ∈ acc,(ms.getD N 0).testBit p.1=true \/ p.2.T=0)/\∀ k,k < N->(ms.getD N 0).testBit (i+k)=true \/ (L k).T=0))/\∀ k,N < k->k < ms.length->(ms.getD k 0).testBit (i+N)=true)

def consF {α:Type} (a:α) (f:Nat->α):Nat->α | 0=>a | k+1=>f k
theorem drawGo_ran {P:Program} {E:Eng} {ops:Array Oper}:∀ (l:List Oper) (i:Nat) (ms:List Nat) (acc:List (Nat × Log)) (x:AAct) (st:St) (e:AX) (x':AAct) (st':St) (lg:Log),Zdx P E ops l i ms acc x st=some (e,x',st',lg) →
  ∃ N M X Sq L,Ran P E ops l i ms acc x st e x' st' lg N M X Sq L
 | [],i,ms,acc,x,st,e,x',st',lg,h=>by
  simp only [Zdx,Option.some.injEq,Prod.mk.injEq] at h
  obtain ⟨rfl,rfl,rfl,rfl⟩:=h
  exact ⟨0,0,fun _=>x,fun _=>st,fun _=>Log.no,rfl,rfl,Nat.le_refl _,fun k hk=>absurd hk (Nat.not_lt_zero k),fun k hk=>absurd hk (Nat.not_lt_zero k),fun k hk=>absurd hk (Nat.not_lt_zero k),fun _ k _ hk=>absurd hk (Nat.not_lt_zero k),.inl ⟨rfl,rfl,rfl,rfl,rfl⟩⟩
 | o :: rest,i,[],acc,x,st,e,x',st',lg,h=>by simp [Zdx] at h
 | o :: rest,i,m :: ms,acc,x,st,e,x',st',lg,h=>by
  simp only [Zdx,Option.bind_eq_some_iff] at h
  obtain ⟨⟨pv,x1,st1,l1⟩,hop,h⟩:=h
  cases hla:Zdm m l1 acc with
  | false=>simp [hla] at h
  | true =>
   simp only [hla,cond_true] at h
   cases pv with
   | some v =>
    simp only at h
    cases hbe:Zff i ms with
    | false=>simp [hbe] at h
    | true =>
     simp only [hbe,cond_true] at h
     have fin:∀ xf,(some (AX.panic v,xf,st1,l1):CR)=some (e,x',st',lg)->((m=(1 <<< i) - 1/\xf=x1) \/ (xf={ x1 with tm:=.nil }/\∀ p ∈ acc,m.testBit p.1=true \/ p.2.T=0))->∃ N M X Sq L,Ran P E ops (o :: rest) i (m :: ms) acc x st e x' st' lg N M X Sq L:=by
      intro xf h hm
      simp only [Option.some.injEq,Prod.mk.injEq] at h
      obtain ⟨rfl,rfl,rfl,rfl⟩:=h
      refine ⟨0,1,fun _=>x,fun _=>st,fun _=>l1,rfl,rfl,Nat.zero_le _,fun k hk=>absurd hk (Nat.not_lt_zero k),fun k hk=>⟨fun _ h=>h,fun _ h=>h,fun _ h=>h⟩,fun k hk p hp=>?_,fun k1 k2 h1 h2=>by omega,.inr ⟨v,o,x1,rfl,rfl,rfl,hop,?_,fun k h1 h2=>?_⟩⟩
      ·have:k=0:=by omega
       subst this
       simpa using Ze7 hla p hp
      ·rcases hm with ⟨h1,h2⟩ | ⟨h1,h2⟩
       ·exact .inl ⟨by simpa using h1,h2⟩
       ·exact .inr ⟨h1,by simpa using h2,fun k hk=>absurd hk (Nat.not_lt_zero k)⟩
      ·obtain ⟨k',rfl⟩:∃ k',k=k'+1:=⟨k - 1,by omega⟩
       simpa using allBehind_ok hbe k' (by simpa using h2)
     cases hc:Nat.beq m ((1 <<< i) - 1) with
     | true =>
      simp only [hc,cond_true] at h
      exact fin _ h (.inl ⟨Nat.eq_of_beq_eq_true hc,rfl⟩)
     | false =>
      simp only [hc,cond_false] at h
      cases hq:Zhd m acc with
      | false=>simp [hq] at h
      | true =>
       simp only [hq,cond_true] at h
       exact fin _ h (.inr ⟨rfl,accQuiet_ok hq⟩)
   | none =>
    simp only [Option.map_eq_some_iff] at h
    obtain ⟨⟨e2,x2,st2,l2⟩,hrest,he⟩:=h
    cases he
    obtain ⟨N,M,X,Sq,L,hr⟩:=drawGo_ran rest (i+1) ms _ x1 st1 _ _ _ _ hrest
    have hacc0:∀ p ∈ acc,p ∈ (cond (Nat.beq (l1.A ||| l1.T) 0) acc ((i,l1) :: acc)):=by
     intro p hp
     cases Nat.beq (l1.A ||| l1.T) 0 <;> simp [hp]
    have hown:∀ k,k < M->(ms.getD k 0).testBit i=true \/ Ap l1 (L k):=by
     intro k hk
     cases hz:Nat.beq (l1.A ||| l1.T) 0 with
     | false=>exact hr.accs k hk (i,l1) (by rw [hz];simp)
     | true =>
      right
      have hz':=Nat.eq_of_beq_eq_true hz
      have zA:l1.A=0:=by
       apply Nat.eq_of_testBit_eq
       intro q
       have:(l1.A ||| l1.T).testBit q=false:=by rw [hz'];simp
       rw [Nat.testBit_or] at this
       simp at this ⊢
       exact this.1
      have zT:l1.T=0:=by
       apply Nat.eq_of_testBit_eq
       intro q
       have:(l1.A ||| l1.T).testBit q=false:=by rw [hz'];simp
       rw [Nat.testBit_or] at this
       simp at this ⊢
       exact this.2
      exact ⟨by rw [zT];simp,by rw [zA];simp⟩
    refine ⟨N+1,M+1,consF x X,consF st Sq,consF l1 L,rfl,rfl,by simpa using hr.le,?_,?_,?_,?_,?_⟩
    ·intro k hk
     cases k with
     | zero=>exact ⟨o,rfl,by simpa [consF,hr.x0,hr.s0] using hop⟩
     | succ k=>simpa [consF] using hr.step k (by omega)
    ·intro k hk
     cases k with
     | zero=>exact ⟨fun r h=>Zat h,fun r h=>Zat h,fun p h=>List.mem_append_left _ h⟩
     | succ k =>
      have:=hr.sub k (by omega)
      exact ⟨fun r h=>Za2 (this.1 r h),fun r h=>Za2 (this.2.1 r h),fun p h=>List.mem_append_right _ (this.2.2 p h)⟩
    ·intro k hk p hp
     cases k with
     | zero=>simpa [consF] using Ze7 hla p hp
     | succ k=>simpa [consF] using hr.accs k (by omega) p (hacc0 p hp)
    ·intro k1 k2 h1 h2
     cases k1 with
     | zero =>
      obtain ⟨k',rfl⟩:∃ k',k2=k'+1:=⟨k2 - 1,by omega⟩
      simpa [consF] using hown k' (by omega)
     | succ k1 =>
      obtain ⟨k',rfl⟩:∃ k',k2=k'+1:=⟨k2 - 1,by omega⟩
      have:=hr.sep k1 k' (by omega) (by omega)
      rw [show i+1+k1=i+(k1+1) by omega] at this
      simpa [consF] using this
    ·rcases hr.fin with ⟨h1,h2,h3,h4,h5⟩ | ⟨v,o',x1',h1,h2,h3,h4,h5,h6⟩
     ·exact .inl ⟨h1,by simp [h2],by simp [h3],by simpa [consF] using h4,by simpa [consF] using h5⟩
     ·refine .inr ⟨v,o',x1',h1,by simp [h2],by simpa using h3,by simpa [consF] using h4,?_,fun k hk hk2=>?_⟩
      ·rcases h5 with ⟨h5,h7⟩ | ⟨h7,h8,h9⟩
       ·refine .inl ⟨?_,h7⟩
        rw [show i+(N+1)=i+1+N by omega]
        simpa using h5
       ·refine .inr ⟨h7,fun p hp=>by simpa using h8 p (hacc0 p hp),fun k hk=>?_⟩
        cases k with
        | zero =>
         cases hz:Nat.beq (l1.A ||| l1.T) 0 with
         | false=>simpa [consF] using h8 (i,l1) (by rw [hz];simp)
         | true =>
          right
          have hz':=Nat.eq_of_beq_eq_true hz
          show l1.T=0
          apply Nat.eq_of_testBit_eq
          intro q
          have:(l1.A ||| l1.T).testBit q=false:=by rw [hz'];simp
          rw [Nat.testBit_or] at this
          simp at this ⊢
          exact this.2
        | succ k =>
         have:=h9 k (by omega)
         rw [show i+1+k=i+(k+1) by omega] at this
         simpa [consF] using this
      ·obtain ⟨k',rfl⟩:∃ k',k=k'+1:=⟨k - 1,by omega⟩
       have:=h6 k' (by omega) (by simpa using hk2)
       rw [show i+(N+1)=i+1+N by omega]
       simpa using this

theorem aheads_length:∀ (l:List Oper) (i:Nat) (t:T Nat),(Zbh l i t).length=l.length
 | [],_,_=>rfl
 | o :: l,i,t=>by simp [Zbh,aheads_length l]

def dstIs (ops:Array Oper) (t k:Nat):Bool:=match (ops[k]?).bind (·.dst) with | some d=>Nat.beq d t | none=>false
theorem Zbq {ops:Array Oper} {t k:Nat} {o:Oper} (ho:ops[k]?=some o):dstIs ops t k=true ↔ o.dst=some t:=by
 simp only [dstIs,ho,Option.bind_some]
 cases o.dst <;> simp

structure Inv (W0:Base) (ops:Array Oper) (N:Nat) (X:Nat->AAct) (Sq:Nat->St) (L:Nat->Log) (A:Nat->Prop) (lg:Log) (m0:Map) (g0:Heap) (w0:World) (a0:Act) (S:Nat->Bool) (m:Map) (a:Act) (w:World):Prop where
 lt:∀ j,S j=true->j < N
 closed:∀ j o,S j=true->ops[j]?=some o->∀ e ∈ o.after,Region.binds .any e=true->S e.on=true
 step:Step W0 A (bit lg.T) m0 g0 w0 m (fun r=>Zar (fun k=>(Sq k).heap.get r) (fun k=>(L k).T.testBit r) S N) w
 dom:∀ r,A r->((∃ v b,m r v=some b) \/ ∃ x,m.d r=some x)->r < (Sq 0).next \/ ∃ j,S j=true/\bit (L j).T r
 size:a.tmps.size=(X 0).n
 tm:∀ t y,Zar (fun k=>(X k).tm.get t) (dstIs ops t) S N=some y->∃ v,y.den m=some v/\a.tmps[t]?=some v
 defers:a.defers=a0.defers

section
variable {P : Program} {E : Eng} {ops : Array Oper} {x x' : AAct} {st st' : St} {e : AX} {lg : Log} {N M : Nat} {X : Nat -> AAct} {Sq : Nat -> St} {L : Nat -> Log} {A : Nat -> Prop} {m0 : Map} {g0 : Heap} {w0 : World} {a0 : Act}

theorem Ran.op (hr:Ran P E ops ops.toList 0 (Zbh ops.toList 0 .nil) [] x st e x' st' lg N M X Sq L) {k:Nat} (hk:k < M):∃ o pv x1 s1,ops[k]?=some o/\opD P E ops o (X k) (Sq k)=some (pv,x1,s1,L k)/\(k < N->pv=none/\x1=X (k+1)/\s1=Sq (k+1)):=by
 by_cases h:k < N
 ·obtain ⟨o,h1,h2⟩:=hr.step k h
  exact ⟨o,none,X (k+1),Sq (k+1),by simpa using h1,h2,fun _=>⟨rfl,rfl,rfl⟩⟩
 ·rcases hr.fin with ⟨_,_,h3,_,_⟩ | ⟨v,o',x1',h1,h2,h3,h4,h5,h6⟩
  ·omega
  ·have:k=N:=by omega
   subst this
   exact ⟨o',some v,x1',st',by simpa using h3,h4,fun h=>absurd h (Nat.lt_irrefl _)⟩
theorem Ran.leM (hr:Ran P E ops ops.toList 0 (Zbh ops.toList 0 .nil) [] x st e x' st' lg N M X Sq L):N<=M:=by
 rcases hr.fin with ⟨_,_,h3,_,_⟩ | ⟨v,o',x1',h1,h2,h3,h4,h5,h6⟩ <;> omega
theorem Ran.mono (hG:Zbo E.call) (hr:Ran P E ops ops.toList 0 (Zbh ops.toList 0 .nil) [] x st e x' st' lg N M X Sq L):∀ j i,i<=j->j<=N->(Sq i).next<=(Sq j).next:=by
 intro j
 induction j with
 | zero=>intro i h1 _;rw [show i=0 by omega];exact Nat.le_refl _
 | succ j ih =>
  intro i h1 h2
  by_cases h:i=j+1
  ·rw [h];exact Nat.le_refl _
  ·obtain ⟨o,_,ho⟩:=hr.step j (by omega)
   exact Nat.le_trans (ih i (by omega) (by omega)) (Zbj hG ho).1

theorem Inv.look (hG:Zbo E.call) (hst:Ze2 ops=true) (hr:Ran P E ops ops.toList 0 (Zbh ops.toList 0 .nil) [] x st e x' st' lg N M X Sq L) (hA:lg.Fits W0 A) {S:Nat->Bool} {m:Map} {a:Act} {w:World} (hi:Inv W0 ops N X Sq L A lg m0 g0 w0 a0 S m a w)
  {i:Nat} {o:Oper} (ho:ops[i]?=some o) (hiM:i < M) (hS:S i=false) (hp:∀ e ∈ o.after,Region.binds .any e=true->S e.on=true) :
  (∀ r,bit (L i).A r->Zar (fun k=>(Sq k).heap.get r) (fun k=>(L k).T.testBit r) S N=(Sq i).heap.get r)/\Fresh (bit (L i).A) m (Sq i).next/\Zos m ops o (X i) a/\(∀ j,S j=true->∀ r,bit (L j).T r->bit (L i).A r->j < i) ∧
  (∀ j p,S j=true->ops[j]?=some p->∀ d,p.dst=some d->(d ∈ o.looksAt ops \/ o.dst=some d)->j < i):=by
 obtain ⟨hsz,hed,hap⟩:=Zgx hst
 have hiN:i<=N:=by rcases hr.fin with ⟨_,_,h3,_,_⟩ | ⟨v,o',x1',h1,h2,h3,h4,h5,h6⟩ <;> omega
 have hNM:=hr.leM
 have hcl:∀ j o',ops[j]?=some o'->(∀ e ∈ o'.after,Region.binds .any e=true->S e.on=true)->∀ q,(pm ops j).testBit q=true->S q=true :=
  Zjq hsz (fun j=>S j=true) hi.closed
 have hpm:∀ q,(pm ops i).testBit q=true->S q=true:=hcl i o ho hp
 have hSpm:∀ j,S j=true->∀ q,(pm ops j).testBit q=true->S q=true:=fun j hj q hq=>by
  have hjs:j < ops.size:=by have:=hi.lt j hj;have:=hr.le;simp at this;omega
  have hjo:ops[j]?=some ops[j]:=Array.getElem?_eq_getElem hjs
  exact hcl j _ hjo (fun e he hb=>hi.closed j _ hj hjo e he hb) q hq
 have ord1:∀ j,S j=true->∀ r,bit (L j).T r->bit (L i).A r->j < i:=by
  intro j hj r hT hAr
  have hjN:=hi.lt j hj
  rcases Nat.lt_trichotomy j i with h | h | h
  ·exact h
  ·subst h;rw [hS] at hj;cases hj
  ·rcases hr.sep i j h (by omega) with hb | hb
   ·have:=hSpm j hj i (by simpa [pm] using hb)
    rw [hS] at this;cases this
   ·exact (and_zero hb.2 hT hAr).elim
 have ord2:∀ j,j < i->∀ r,bit (L j).T r->bit (L i).A r->S j=true:=by
  intro j hj r hT hAr
  rcases hr.sep j i hj hiM with hb | hb
  ·exact hpm j (by simpa [pm] using hb)
  ·exact (and_zero hb.1 hT hAr).elim
 have tord1:∀ j p,S j=true->ops[j]?=some p->∀ d,p.dst=some d->(d ∈ o.looksAt ops \/ o.dst=some d)->j < i:=by
  intro j p hj hp' d hd hl
  rcases Nat.lt_trichotomy j i with h | h | h
  ·exact h
  ·subst h;rw [hS] at hj;cases hj
  ·rcases hap i j o p h ho hp' with hb | hb
   ·have:=hSpm j hj i hb
    rw [hS] at this;cases this
   ·have q:=Oper.apart_spec hb.2
    rcases hl with hl | hl
    ·exact absurd hl (q.1 d hd)
    ·exact absurd hl (q.2.1 d hd)
 have tord2:∀ j p,j < i->ops[j]?=some p->∀ d,p.dst=some d->d ∈ o.looksAt ops->S j=true:=by
  intro j p hj hp' d hd hl
  rcases hap j i p o hj hp' ho with hb | hb
  ·exact hpm j hb
  ·exact absurd hl ((Oper.apart_spec hb.1).1 d hd)
 have agree:∀ r,bit (L i).A r->Zar (fun k=>(Sq k).heap.get r) (fun k=>(L k).T.testBit r) S N=(Sq i).heap.get r:=by
  intro r hAr
  rw [Zb8 i N hiN (fun j h1 h2 ht=>?_)]
  ·rw [<- Zci (S:=fun k=>S k && Nat.blt k N) (S':=S) i (fun j hj _=>by have:Nat.blt j N=true:=(by simp;omega);simp [this])]
   have key:∀ q,q<=i->Zar (fun k=>(Sq k).heap.get r) (fun k=>(L k).T.testBit r) S q=(Sq q).heap.get r:=by
    intro q
    induction q with
    | zero=>intro _;rfl
    | succ q ih =>
     intro hq
     simp only [Zar]
     by_cases ht:(L q).T.testBit r=true
     ·rw [if_pos (by rw [ord2 q (by omega) r ht hAr,ht];rfl)]
     ·rw [if_neg (by simp [ht]),ih (by omega)]
      obtain ⟨o',_,ho'⟩:=hr.step q (by omega)
      exact ((Zbj hG ho').2.2.2.1 r ht).symm
   rw [Zci (S':=S) i (fun j hj _=>by have:Nat.blt j N=true:=(by simp;omega);simp [this])]
   exact key i (Nat.le_refl _)
  ·cases hj:S j with
   | false=>rfl
   | true=>have:=ord1 j hj r ht hAr;omega
 refine ⟨agree,?_,⟨?_,?_⟩,ord1,tord1⟩
 ·intro r hAr hge
  have no:((∃ v b,m r v=some b) \/ ∃ x,m.d r=some x)->False:=by
   intro hm
   rcases hi.dom r (hA.1 r ((hr.sub i hiM).1 r hAr)) hm with h | ⟨j,hj,hT⟩
   ·have:=hr.mono hG i 0 (Nat.zero_le _) hiN;omega
   ·have hji:=ord1 j hj r hT hAr
    obtain ⟨o',_,ho'⟩:=hr.step j (hi.lt j hj)
    have h1:=(Zbj hG ho').2.1 r hT
    have h2:=hr.mono hG i (j+1) (by omega) hiN
    omega
  refine ⟨fun v=>?_,?_⟩
  ·cases hm:m r v with
   | none=>rfl
   | some b=>exact (no (.inl ⟨v,b,hm⟩)).elim
  ·cases hm:m.d r with
   | none=>rfl
   | some x=>exact (no (.inr ⟨x,hm⟩)).elim
 ·have:∀ q,q<=N->(X q).n=(X 0).n:=by
   intro q
   induction q with
   | zero=>intro _;rfl
   | succ q ih =>
    intro hq
    obtain ⟨o',_,ho'⟩:=hr.step q (by omega)
    rw [(Zbj hG ho').2.2.2.2.1,ih (by omega)]
  rw [this i hiN]
  exact hi.size
 ·intro t y ht hy
  refine hi.tm t y ?_
  rw [Zb8 i N hiN (fun j h1 h2 hd=>?_)]
  ·have key:∀ q,q<=i->Zar (fun k=>(X k).tm.get t) (dstIs ops t) S q=(X q).tm.get t:=by
    intro q
    induction q with
    | zero=>intro _;rfl
    | succ q ih =>
     intro hq
     obtain ⟨o',hl',ho'⟩:=hr.step q (by omega)
     have hoq:ops[q]?=some o':=by simpa using hl'
     simp only [Zar]
     by_cases hd:dstIs ops t q=true
     ·rw [if_pos (by rw [tord2 q o' (by omega) hoq t ((Zbq hoq).1 hd) ht,hd];rfl)]
     ·rw [if_neg (by simp [hd]),ih (by omega)]
      exact ((Zbj hG ho').2.2.2.2.2.2.1 t (fun he=>hd ((Zbq hoq).2 he))).symm
   rw [key i (Nat.le_refl _)]
   exact hy
  ·cases hj:S j with
   | false=>rfl
   | true =>
    have hjs:j < ops.size:=by have:=hr.le;simp at this;omega
    have hjo:ops[j]?=some ops[j]:=Array.getElem?_eq_getElem hjs
    have:=tord1 j _ hj hjo t ((Zbq hjo).1 hd) (.inl ht)
    omega

theorem Inv.rel (hG:Zbo E.call) (hst:Ze2 ops=true) (hr:Ran P E ops ops.toList 0 (Zbh ops.toList 0 .nil) [] x st e x' st' lg N M X Sq L) (hA:lg.Fits W0 A) {S:Nat->Bool} {m:Map} {a:Act} {w:World} (hi:Inv W0 ops N X Sq L A lg m0 g0 w0 a0 S m a w)
  {i:Nat} (hiM:i < M) (hag:∀ r,bit (L i).A r->Zar (fun k=>(Sq k).heap.get r) (fun k=>(L k).T.testBit r) S N=(Sq i).heap.get r):Rel W0 (bit (L i).A) m (Sq i).heap.get w:=by
 have h:=hi.step.rel.sub (A':=bit (L i).A) (fun r hr'=>hA.1 r ((hr.sub i hiM).1 r hr'))
 refine ⟨fun r o ha ho=>h.blk r o ha (by rw [hag r ha];exact ho),fun r r' o o' v n v' n' b b' ha ha' ho ho'=>h.inj r r' o o' v n v' n' b b' ha ha' (by rw [hag r ha];exact ho) (by rw [hag r' ha'];exact ho'),fun r o v n rest ha ho=>h.top r o v n rest ha (by rw [hag r ha];exact ho),h.size0,h.amb,fun r o v n b ha ho=>h.abv r o v n b ha (by rw [hag r ha];exact ho),fun r o R ha ho=>h.dat r o R ha (by rw [hag r ha];exact ho),fun r o R v fp r' o' u n b ha ha' ho hd hm ho'=>h.disj r o R v fp r' o' u n b ha ha' (by rw [hag r ha];exact ho) hd hm (by rw [hag r' ha'];exact ho'),h.sv,h.same,fun r o R v fp ha ho=>h.fpb r o R v fp ha (by rw [hag r ha];exact ho),fun r o e v n b ha ho=>h.row r o e v n b ha (by rw [hag r ha];exact ho)⟩

theorem Inv.next (hN:GoodP P) (hE:Zee P E.call) (hG:Zbo E.call) (hst:Ze2 ops=true) (hr:Ran P E ops ops.toList 0 (Zbh ops.toList 0 .nil) [] x st e x' st' lg N M X Sq L) (hA:lg.Fits W0 A) {S S':Nat->Bool} {m:Map} {a:Act} {w:World} (hi:Inv W0 ops N X Sq L A lg m0 g0 w0 a0 S m a w)
  {i:Nat} {o:Oper} (ho:ops[i]?=some o) (hiN:i < N) (hS:S i=false) (hp:∀ e ∈ o.after,Region.binds .any e=true->S e.on=true) (hS':∀ j,S' j=(S j || Nat.beq j i)) {K:Act->World->Prop} {Q:Exit->Act->World->Prop}
  (hK:∀ m' a' w',Inv W0 ops N X Sq L A lg m0 g0 w0 a0 S' m' a' w'->K a' w'):wpOp P ops Q i K a w:=by
 have hNM:=hr.leM
 obtain ⟨hag,hfr,hlook,ord1,tord1⟩:=hi.look hG hst hr hA ho (by omega) hS hp
 have hrel:=hi.rel hG hst hr hA (by omega) hag
 obtain ⟨o',hl',hop⟩:=hr.step i hiN
 have:o'=o:=by
  have:ops[i]?=some o':=by simpa using hl'
  rw [ho] at this;exact (Option.some.inj this).symm
 subst this
 obtain ⟨c1,c2,c3,c4,c5,c6,c7,_⟩:=Zbj hG hop
 refine Zoj hN hE ho hop (A:=bit (L i).A) ⟨fun _ h=>h,fun p hp=>hA.2 p ((hr.sub i (by omega)).2.2 p hp)⟩ hrel hfr hlook (fun _ m' a' w' hok hdef hsz hother hdst=>?_) (fun v hv=>by cases hv)
 have hself:S' i=true:=by rw [hS'];simp
 have hne:∀ j,j ≠ i->S' j=S j:=fun j hj=>by
  rw [hS']
  have:Nat.beq j i=false:=by
   cases hq:Nat.beq j i with
   | false=>rfl
   | true=>exact absurd (Nat.eq_of_beq_eq_true hq) hj
  rw [this,Bool.or_false]
 have hsub:=hr.sub i (by omega)
 refine hK m' a' w' ⟨?_,?_,?_,?_,?_,?_,?_⟩
 ·intro j hj
  by_cases h:j=i
  ·rw [h];exact hiN
  ·rw [hne j h] at hj;exact hi.lt j hj
 ·intro j p hj hpj e he hb
  have hS'of:∀ q,S q=true->S' q=true:=fun q hq=>by rw [hS',hq];rfl
  by_cases h:j=i
  ·subst h
   rw [ho] at hpj
   cases hpj
   exact hS'of _ (hp e he hb)
  ·rw [hne j h] at hj
   exact hS'of _ (hi.closed j p hj hpj e he hb)
 ·have hmerge:=Step.merge (A:=A) (Ai:=bit (L i).A) (Ti:=bit (L i).T) (g':=fun r=>Zar (fun k=>(Sq k).heap.get r) (fun k=>(L k).T.testBit r) S' N) hi.step.rel hok.step (fun r hr'=>hA.1 r (hsub.1 r hr')) c3 (fun r hr'=>(hag r hr').symm) ?_ ?_
  ·exact (hi.step.trans hmerge).more (fun r hr'=>hr'.elim (fun q=>q) (hsub.2.1 r))
  ·intro r hT
   show Zar _ _ S' N=_
   rw [Zb8 (i+1) N (by omega) (fun j h1 h2 ht=>?_)]
   ·simp only [Zar]
    rw [if_pos (by rw [hself];exact hT)]
   ·cases hj:S' j with
    | false=>rfl
    | true =>
     rw [hne j (by omega)] at hj
     have:=ord1 j hj r ht (c3 r hT)
     omega
  ·intro r hT
   show Zar _ _ S' N=Zar _ _ S N
   refine Zci N (fun j hj ht=>?_)
   by_cases h:j=i
   ·subst h;exact absurd ht hT
   ·exact hne j h
 ·intro r ha hb
  by_cases hT:bit (L i).T r
  ·exact .inr ⟨i,hself,hT⟩
  ·rw [hok.step.dkeep r hT] at hb
   simp only [hok.step.mkeep r hT] at hb
   rcases hi.dom r ha hb with h | ⟨j,hj,hT'⟩
   ·exact .inl h
   ·exact .inr ⟨j,by rw [hS',hj];rfl,hT'⟩
 ·rw [hsz];exact hi.size
 ·intro t y hy
  by_cases hd:o'.dst=some t
  ·have:Zar (fun k=>(X k).tm.get t) (dstIs ops t) S' N=(X (i+1)).tm.get t:=by
    rw [Zb8 (i+1) N (by omega) (fun j h1 h2 ht=>?_)]
    ·simp only [Zar]
     rw [if_pos (by rw [hself,(Zbq ho).2 hd];rfl)]
    ·cases hj:S' j with
     | false=>rfl
     | true =>
      rw [hne j (by omega)] at hj
      have hjs:j < ops.size:=by have:=hr.le;simp at this;omega
      have hjo:ops[j]?=some ops[j]:=Array.getElem?_eq_getElem hjs
      have:=tord1 j _ hj hjo t ((Zbq hjo).1 ht) (.inr hd)
      omega
   rw [this] at hy
   exact hdst t y hd hy
  ·have:Zar (fun k=>(X k).tm.get t) (dstIs ops t) S' N=Zar (fun k=>(X k).tm.get t) (dstIs ops t) S N:=by
    refine Zci N (fun j hj ht=>?_)
    by_cases h:j=i
    ·subst h;exact absurd ((Zbq ho).1 ht) hd
    ·exact hne j h
   rw [this] at hy
   obtain ⟨v,hv,hg⟩:=hi.tm t y hy
   exact ⟨v,AV.den_mono hok.ext y hv,by rw [hother t hd];exact hg⟩
 ·rw [hdef];exact hi.defers
end

theorem countP_lt (p q:Nat->Bool) (hpq:∀ j,q j=true->p j=true) (i:Nat) (hp:p i=true) (hq:q i=false):∀ n,i < n->(List.range n).countP q < (List.range n).countP p:=by
 intro n
 induction n with
 | zero=>intro h;omega
 | succ n ih =>
  intro h
  rw [List.range_succ,List.countP_append,List.countP_append]
  by_cases hin:i=n
  ·subst hin
   have:(List.range i).countP q<=(List.range i).countP p:=List.countP_mono_left (fun j _=>hpq j)
   simp [hp,hq]
   all_goals omega
  ·have h1:=ih (by omega)
   have h2:(List.countP q [n])<=(List.countP p [n]):=List.countP_mono_left (fun j _=>hpq j)
   omega

theorem Zfo {listed:Array Bool} {i:Nat} (hi:i < listed.size) (j:Nat):(listed.setIfInBounds i true).getD j false=(listed.getD j false || Nat.beq j i):=by
 by_cases h:j=i
 ·subst h
  simp [hi]
 ·have:Nat.beq j i=false:=by
   cases hq:Nat.beq j i with
   | false=>rfl
   | true=>exact absurd (Nat.eq_of_beq_eq_true hq) h
  rw [this,Bool.or_false]
  exact getD_set_ne false (Ne.symm h)

def ms0 (ops:Array Oper) (i:Nat):Nat:=(Zbh ops.toList 0 .nil).getD i 0
theorem drawF_ok {P:Program} (hN:GoodP P) (hM:P.follows .mixedOrders=true):Zot P (drawF P):=by
 intro E hE hG id ops x st e x' st' lg h W0 A m a w hA hR hF hT
 unfold drawF at h
 cases hst:Ze2 ops with
 | false=>simp [hst] at h
 | true =>
  simp only [hst,cond_true] at h
  obtain ⟨hsz,hed,hap⟩:=Zgx hst
  obtain ⟨N,M,X,Sq,L,hr⟩:=drawGo_ran _ _ _ _ _ _ _ _ _ _ h
  have hNM:=hr.leM
  have hNs:N<=ops.size:=by simpa using hr.le
  refine wp_region_any hM ?_
  have main:∀ (fuel:Nat) (listed:Array Bool) (m1:Map) (a1:Act) (w1:World),listed.size=ops.size->(List.range ops.size).countP (fun j=>!listed.getD j false)<=fuel →
    Inv W0 ops N X Sq L A lg m st.heap.get w a (fun j=>listed.getD j false) m1 a1 w1->wpAny P .any ops (XPost W0 A m st w e x' st' lg) fuel listed a1 w1:=by
   intro fuel
   induction fuel with
   | zero =>
    intro listed m1 a1 w1 hls hcnt hi
    have hall:∀ j,j < ops.size->listed.getD j false=true:=by
     intro j hj
     cases hq:listed.getD j false with
     | true=>rfl
     | false =>
      have hpos:0 < (List.range ops.size).countP (fun j=>!listed.getD j false):=List.countP_pos_iff.2 ⟨j,List.mem_range.2 hj,by simp only [hq];rfl⟩
      omega
    have hNn:N=ops.size:=by
     rcases Nat.lt_or_ge N ops.size with hlt | hge
     ·have:=hi.lt N (hall N hlt);omega
     ·omega
    have hready:Region.ready .any ops listed=[]:=by
     apply List.eq_nil_iff_forall_not_mem.2
     intro j hj
     obtain ⟨h1,o,ho,_⟩:=mem_ready.1 hj
     have hjs:=(Array.getElem?_eq_some_iff.1 ho).1
     have:=hall j hjs
     rw [Array.getD_eq_getD_getElem?,Array.getElem?_eq_getElem (by omega)] at h1 this
     simp at h1 this
     rw [h1] at this
     cases this
    refine ⟨hready,?_⟩
    rcases hr.fin with ⟨rfl,h2,h3,rfl,rfl⟩ | ⟨v,o',x1',h1,h2,h3,h4,h5,h6⟩
    ·have hheap:(fun r=>Zar (fun k=>(Sq k).heap.get r) (fun k=>(L k).T.testBit r) (fun j=>listed.getD j false) N)=(Sq N).heap.get:=by
      funext r
      have key:∀ q,q<=N->Zar (fun k=>(Sq k).heap.get r) (fun k=>(L k).T.testBit r) (fun j=>listed.getD j false) q=(Sq q).heap.get r:=by
       intro q
       induction q with
       | zero=>intro _;rfl
       | succ q ih =>
        intro hq
        simp only [Zar]
        by_cases ht:(L q).T.testBit r=true
        ·rw [if_pos (by rw [hall q (by omega),ht];rfl)]
        ·rw [if_neg (by simp [ht]),ih (by omega)]
         obtain ⟨o',_,ho'⟩:=hr.step q (by omega)
         exact ((Zbj hG ho').2.2.2.1 r ht).symm
      exact key N (Nat.le_refl _)
     have hstep:=hi.step
     rw [hheap] at hstep
     refine ⟨m1,⟨hstep,?_⟩,⟨?_,?_,?_⟩,undef,rfl⟩
     ·intro r ha hge
      have no:((∃ v b,m1 r v=some b) \/ ∃ x,m1.d r=some x)->False:=by
       intro hm
       rcases hi.dom r ha hm with h | ⟨j,hj,hTj⟩
       ·have:=hr.mono hG N 0 (Nat.zero_le _) (Nat.le_refl _);omega
       ·obtain ⟨o',_,ho'⟩:=hr.step j (hi.lt j hj)
        have h1:=(Zbj hG ho').2.1 r hTj
        have h2:=hr.mono hG N (j+1) (by have:=hi.lt j hj;omega) (Nat.le_refl _)
        omega
      refine ⟨fun v=>?_,?_⟩
      ·cases hm:m1 r v with
       | none=>rfl
       | some b=>exact (no (.inl ⟨v,b,hm⟩)).elim
      ·cases hm:m1.d r with
       | none=>rfl
       | some x=>exact (no (.inr ⟨x,hm⟩)).elim
     ·have:∀ q,q<=N->(X q).n=(X 0).n:=by
       intro q
       induction q with
       | zero=>intro _;rfl
       | succ q ih =>
        intro hq
        obtain ⟨o',_,ho'⟩:=hr.step q (by omega)
        rw [(Zbj hG ho').2.2.2.2.1,ih (by omega)]
      rw [this N (Nat.le_refl _)]
      exact hi.size
     ·intro t y hy
      refine hi.tm t y ?_
      have key:∀ q,q<=N->Zar (fun k=>(X k).tm.get t) (dstIs ops t) (fun j=>listed.getD j false) q=(X q).tm.get t:=by
       intro q
       induction q with
       | zero=>intro _;rfl
       | succ q ih =>
        intro hq
        obtain ⟨o',hl',ho'⟩:=hr.step q (by omega)
        have hoq:ops[q]?=some o':=by simpa using hl'
        simp only [Zar]
        by_cases hd:dstIs ops t q=true
        ·rw [if_pos (by rw [hall q (by omega),hd];rfl)]
        ·rw [if_neg (by simp [hd]),ih (by omega)]
         exact ((Zbj hG ho').2.2.2.2.2.2.1 t (fun he=>hd ((Zbq hoq).2 he))).symm
      rw [key N (Nat.le_refl _)]
      exact hy
     ·have hdx:∀ q,q<=N->(X q).defers=(X 0).defers:=by
       intro q
       induction q with
       | zero=>intro _;rfl
       | succ q ih =>
        intro hq
        obtain ⟨o',_,ho'⟩:=hr.step q (by omega)
        rw [(Zbj hG ho').2.2.2.2.2.1,ih (by omega)]
      rw [hdx N (Nat.le_refl _),hr.x0,hi.defers]
      exact Zea hi.step.ext hT.defers
    ·have:N < ops.size:=by
      have:=(List.getElem?_eq_some_iff.1 h3).1
      simpa using this
     omega
   | succ fuel ih =>
    intro listed m1 a1 w1 hls hcnt hi
    have hlist:∀ j,j < ops.size->(listed.getD j true=listed.getD j false):=by
     intro j hj
     simp only [Array.getD_eq_getD_getElem?,Array.getElem?_eq_getElem (show j < listed.size by omega)]
     rfl
    refine ⟨?_,?_⟩
    ·intro hrd
     by_cases hall:∀ j,j < ops.size->listed.getD j false=true
     ·have hz:(List.range ops.size).countP (fun j=>!listed.getD j false)=0:=by
       rw [List.countP_eq_zero]
       intro j hj
       rw [hall j (List.mem_range.1 hj)]
       simp
      have:=ih listed m1 a1 w1 hls (by omega) hi
      cases fuel with
      | zero=>exact this.2
      | succ f=>exact this.1 hrd
     ·exfalso
      have hex:∃ j,j < ops.size/\listed.getD j false=false:=by
       apply Classical.byContradiction
       intro hno
       apply hall
       intro j hj
       cases hq:listed.getD j false with
       | true=>rfl
       | false=>exact absurd ⟨j,hj,hq⟩ hno
      have hmin:∀ n,∀ j,j<=n->j < ops.size->listed.getD j false=false->False:=by
       intro n
       induction n using Nat.strongRecOn with
       | _ n ihn =>
        intro j hjn hj hq
        have hjo:ops[j]?=some ops[j]:=Array.getElem?_eq_getElem hj
        have:j ∈ Region.ready .any ops listed:=by
         refine mem_ready.2 ⟨by rw [hlist j hj];exact hq,_,hjo,fun e he hb=>?_⟩
         have hlt:=hed j _ hjo e he hb
         cases hq2:listed.getD e.on false with
         | true=>rfl
         | false=>exact (ihn e.on (by omega) e.on (Nat.le_refl _) (by omega) hq2).elim
        rw [hrd] at this
        cases this
      obtain ⟨j,hj,hq⟩:=hex
      exact hmin j j (Nat.le_refl _) hj hq
    ·intro i hmem
     obtain ⟨hq,o,ho,hpre⟩:=mem_ready.1 hmem
     have his:=(Array.getElem?_eq_some_iff.1 ho).1
     have hS:listed.getD i false=false:=by rw [<- hlist i his];exact hq
     by_cases hiN:i < N
     ·refine hi.next hN hE hG hst hr hA ho hiN hS hpre (S':=fun j=>(listed.setIfInBounds i true).getD j false) (fun j=>Zfo (by omega) j) ?_
      intro m2 a2 w2 hi2
      refine ih _ m2 a2 w2 (by simp [hls]) ?_ hi2
      have:=countP_lt (fun j=>!listed.getD j false) (fun j=>!(listed.setIfInBounds i true).getD j false) (fun j hj=>by
       rw [Zfo (by omega)] at hj
       simp at hj ⊢
       exact hj.1) i (by rw [hS];rfl) (by rw [Zfo (by omega)];simp) ops.size his
      omega
     ·rcases hr.fin with ⟨h1,h2,h3,h4,h5⟩ | ⟨v,o',x1',rfl,h2,h3,h4,h5,h6⟩
      ·simp at h2;omega
      ·have hcl:∀ j,(pm ops i).testBit j=true->listed.getD j false=true:=Zjq hsz (fun j=>listed.getD j false=true) hi.closed i o ho hpre
       by_cases hiN2:i=N
       ·subst hiN2
        have hoo:o'=o:=by
         have:ops[i]?=some o':=by simpa using h3
         rw [ho] at this;exact (Option.some.inj this).symm
        subst hoo
        have hall0:ms0 ops i=(1 <<< i) - 1->∀ j,j < i->listed.getD j false=true:=by
         intro h5 j hj
         refine hcl j ?_
         have:pm ops i=(1 <<< i) - 1:=by simpa [pm,ms0] using h5
         rw [this,Nat.shiftLeft_eq,Nat.one_mul,Nat.testBit_two_pow_sub_one]
         simpa using hj
        have hall:∀ j,j < i->∀ r,(L j).T.testBit r=true->listed.getD j false=true:=by
         intro j hj r hT
         rcases h5 with ⟨h5,_⟩ | ⟨_,_,h5⟩
         ·exact hall0 (by simpa [ms0] using h5) j hj
         ·rcases h5 j hj with h | h
          ·exact hcl j (by simpa [pm] using h)
          ·rw [h] at hT;simp at hT
        have hxt:x'.n=x1'.n/\x'.defers=x1'.defers/\∀ t y,x'.tm.get t=some y->x1'.tm.get t=some y/\∀ j,j < i->listed.getD j false=true:=by
         rcases h5 with ⟨h5,rfl⟩ | ⟨rfl,_,_⟩
         ·exact ⟨rfl,rfl,fun t y h=>⟨h,hall0 (by simpa [ms0] using h5)⟩⟩
         ·exact ⟨rfl,rfl,fun t y h=>by simp [T.get] at h⟩
        obtain ⟨hag,hfr,hlook,_,_⟩:=hi.look hG hst hr hA ho (by omega) hS hpre
        have hrel:=hi.rel hG hst hr hA (by omega) hag
        obtain ⟨c1,c2,c3,c4,c5,c6,c7,c8⟩:=Zbj hG h4
        have hxx:=c8 v rfl
        subst hxx
        have hsub:=hr.sub i (by omega)
        refine Zoj hN hE ho h4 (A:=bit (L i).A) ⟨fun _ h=>h,fun p hp=>hA.2 p ((hr.sub i (by omega)).2.2 p hp)⟩ hrel hfr hlook (fun hn=>by cases hn) (fun v' hv u m' w' hok=>?_)
        cases hv
        have hheap:∀ r,Zar (fun k=>(Sq k).heap.get r) (fun k=>(L k).T.testBit r) (fun j=>listed.getD j false) i=(Sq i).heap.get r:=by
         intro r
         have key:∀ q,q<=i->Zar (fun k=>(Sq k).heap.get r) (fun k=>(L k).T.testBit r) (fun j=>listed.getD j false) q=(Sq q).heap.get r:=by
          intro q
          induction q with
          | zero=>intro _;rfl
          | succ q ih =>
           intro hq
           simp only [Zar]
           by_cases ht:(L q).T.testBit r=true
           ·rw [if_pos (by rw [hall q (by omega) r ht,ht];rfl)]
           ·rw [if_neg (by simp [ht]),ih (by omega)]
            obtain ⟨o',_,ho'⟩:=hr.step q (by omega)
            exact ((Zbj hG ho').2.2.2.1 r ht).symm
         exact key i (Nat.le_refl _)
        have hmerge:=Step.merge (A:=A) (Ai:=bit (L i).A) (Ti:=bit (L i).T) (g':=st'.heap.get) hi.step.rel hok.step (fun r hr'=>hA.1 r (hsub.1 r hr')) c3 (fun r hr'=>(hag r hr').symm) (fun r _=>rfl) (fun r hT=>by rw [c4 r hT];exact (hheap r).symm)
        refine ⟨m',⟨(hi.step.trans hmerge).more (fun r hr'=>hr'.elim (fun q=>q) (hsub.2.1 r)),?_⟩,⟨?_,?_,?_⟩,u,rfl⟩
        ·intro r ha hge
         have no:((∃ v b,m' r v=some b) \/ ∃ x,m'.d r=some x)->False:=by
          intro hm
          by_cases hT:bit (L i).T r
          ·have:=c2 r hT;omega
          ·rw [hok.step.dkeep r hT] at hm
           simp only [hok.step.mkeep r hT] at hm
           rcases hi.dom r ha hm with h | ⟨j,hj,hTj⟩
           ·have:=hr.mono hG i 0 (Nat.zero_le _) (Nat.le_refl _);omega
           ·obtain ⟨o',_,ho'⟩:=hr.step j (hi.lt j hj)
            have h1:=(Zbj hG ho').2.1 r hTj
            have h2:=hr.mono hG i (j+1) (by have:=hi.lt j hj;omega) (Nat.le_refl _)
            omega
         refine ⟨fun v=>?_,?_⟩
         ·cases hm:m' r v with
          | none=>rfl
          | some b=>exact (no (.inl ⟨v,b,hm⟩)).elim
         ·cases hm:m'.d r with
          | none=>rfl
          | some x=>exact (no (.inr ⟨x,hm⟩)).elim
        ·rw [hxt.1];exact hlook.1
        ·intro t y hy
         obtain ⟨hy,hall⟩:=hxt.2.2 t y hy
         have key:∀ q,q<=i->Zar (fun k=>(X k).tm.get t) (dstIs ops t) (fun j=>listed.getD j false) q=(X q).tm.get t:=by
          intro q
          induction q with
          | zero=>intro _;rfl
          | succ q ih =>
           intro hq
           obtain ⟨o',hl',ho'⟩:=hr.step q (by omega)
           have hoq:ops[q]?=some o':=by simpa using hl'
           simp only [Zar]
           by_cases hd:dstIs ops t q=true
           ·rw [if_pos (by rw [hall q (by omega),hd];rfl)]
           ·rw [if_neg (by simp [hd]),ih (by omega)]
            exact ((Zbj hG ho').2.2.2.2.2.2.1 t (fun he=>hd ((Zbq hoq).2 he))).symm
         obtain ⟨u,hu,hg⟩:=hi.tm t y (by rw [key i (Nat.le_refl _)];exact hy)
         exact ⟨u,AV.den_mono hok.ext y hu,hg⟩
        ·have hdx:∀ q,q<=i->(X q).defers=(X 0).defers:=by
          intro q
          induction q with
          | zero=>intro _;rfl
          | succ q ih =>
           intro hq
           obtain ⟨o',_,ho'⟩:=hr.step q (by omega)
           rw [(Zbj hG ho').2.2.2.2.2.1,ih (by omega)]
         rw [hxt.2.1,hdx i (Nat.le_refl _),hr.x0,hi.defers]
         exact Zea (hi.step.ext.trans hok.ext) hT.defers
       ·exfalso
        have hlen:(Zbh ops.toList 0 .nil).length=ops.size:=by rw [aheads_length];simp
        have h7:=h6 i (by omega) (by omega)
        have:=hcl N (by simpa [pm] using h7)
        have:=hi.lt N this
        omega
  refine main ops.size _ m a _ (by simp) ?_ ⟨?_,?_,?_,?_,?_,?_,rfl⟩
  ·exact Nat.le_trans List.countP_le_length (by simp)
  ·intro j hj
   simp [Array.getD_eq_getD_getElem?,Array.getElem?_replicate] at hj
   split at hj <;> simp at hj
  ·intro j o hj
   simp [Array.getD_eq_getD_getElem?,Array.getElem?_replicate] at hj
   split at hj <;> simp at hj
  ·have:(fun r=>Zar (fun k=>(Sq k).heap.get r) (fun k=>(L k).T.testBit r) (fun j=>(Array.replicate ops.size false).getD j false) N)=st.heap.get:=by
    funext r
    rw [Zel N (fun j hj=>by
     simp only [Array.getD_eq_getD_getElem?,Array.getElem?_replicate]
     split <;> rfl),hr.s0]
   rw [this]
   exact Ze1 _ hR
  ·intro r ha hb
   left
   rw [hr.s0]
   rcases Nat.lt_or_ge r st.next with hlt | hge
   ·exact hlt
   ·rcases hb with ⟨v,b,hb⟩ | ⟨x,hx⟩
    ·rw [(hF r ha hge).1 v] at hb;cases hb
    ·rw [(hF r ha hge).2] at hx;cases hx
  ·rw [hr.x0];exact hT.size
  ·intro t y hy
   rw [Zel N (fun j hj=>by
    simp only [Array.getD_eq_getD_getElem?,Array.getElem?_replicate]
    split <;> rfl),hr.x0] at hy
   exact hT.get t y hy

end Go.Proofs.Ytgdegpifjljnoaa.eng
end

section
/- The engine: operations whose order is open, of which one at least panics: whichever comes first, the region panics. -/
namespace Go.Proofs.Ytgdegpifjljnoaa.eng
open Go
variable {W0 : Base}

def panGo (P:Program) (E:Eng) (ops:Array Oper):List Oper->Nat->List Nat->Nat->Bool->AAct->St->Option (Bool × AAct × St × Log)
 | o :: rest,i,m :: ms,sk,b,x,st=>cond (Nat.beq (m &&& sk) 0)
   ((opD P E ops o x st).bind fun (pv,x1,st1,l1)=>cond (Nat.beq l1.T 0 && Nat.beq st1.next st.next)
    ((panGo P E ops rest (i+1) ms (cond pv.isSome (sk ||| (1 <<< i)) sk) (b || pv.isSome) x1 st1).map fun (b2,x2,st2,l2)=>(b2,x2,st2,l1.or l2)) none)
   (panGo P E ops rest (i+1) ms (sk ||| (1 <<< i)) b x st)
 | [],_,_,_,b,x,st=>some (b,x,st,Log.no)
 | _ :: _,_,[],_,_,_,_=>none
def drawP (P:Program):Draw:=fun E ops x st=>match drawF P E ops x st with
 | some r=>some r
 | none=>cond (Ze2 ops) ((panGo P E ops ops.toList 0 (Zbh ops.toList 0 .nil) 0 false x st).bind fun (b,x1,st1,l1)=>cond b (some (.panic anyV,{ x with tm:=.nil },st1,l1)) none) none

structure RanP (P : Program) (E : Eng) (ops : Array Oper) (l : List Oper) (i : Nat) (ms : List Nat) (sk : Nat) (b : Bool) (x : AAct) (st : St) (b' : Bool) (st' : St) (lg : Log) (X : Nat -> AAct) (Sq : Nat -> St) (L : Nat -> Log) (R : Nat -> Bool) (SK : Nat -> Nat) : Prop where
  x0 : X 0 = x
  s0 : Sq 0 = st
  k0 : SK 0 = sk
  sn : Sq l.length = st'
  step : ∀ k, k < l.length -> ∃ o, l[k]? = some o /\ (L k).T = 0 /\ (Sq (k + 1)).next = (Sq k).next ∧
    ((R k = true /\ SK (k + 1) = SK k /\ opD P E ops o (X k) (Sq k) = some (none, X (k + 1), Sq (k + 1), L k)) ∨
     (R k = false /\ SK (k + 1) = SK k ||| (1 <<< (i + k)) /\ ∃ v, opD P E ops o (X k) (Sq k) = some (some v, X (k + 1), Sq (k + 1), L k)) ∨
     (R k = false /\ SK (k + 1) = SK k ||| (1 <<< (i + k)) /\ X (k + 1) = X k /\ Sq (k + 1) = Sq k /\ (ms.getD k 0) &&& SK k ≠ 0))
  sub : ∀ k, k < l.length -> (∀ r, bit (L k).A r -> bit lg.A r) /\ (∀ p ∈ (L k).V, p ∈ lg.V)
  pan : b' = true -> b = true \/ ∃ k, k < l.length /\ R k = false
  quiet : lg.T = 0

theorem Zg4 {P:Program} {E:Eng} {ops:Array Oper}:∀ (l:List Oper) (i:Nat) (ms:List Nat) (sk:Nat) (b:Bool) (x:AAct) (st:St) (b':Bool) (x':AAct) (st':St) (lg:Log),panGo P E ops l i ms sk b x st=some (b',x',st',lg) →
  ∃ X Sq L R SK,RanP P E ops l i ms sk b x st b' st' lg X Sq L R SK
 | [],i,ms,sk,b,x,st,b',x',st',lg,h=>by
  simp only [panGo,Option.some.injEq,Prod.mk.injEq] at h
  obtain ⟨rfl,rfl,rfl,rfl⟩:=h
  exact ⟨fun _=>x,fun _=>st,fun _=>Log.no,fun _=>true,fun _=>sk,rfl,rfl,rfl,rfl,fun k hk=>absurd hk (Nat.not_lt_zero k),fun k hk=>absurd hk (Nat.not_lt_zero k),.inl,rfl⟩
 | o :: rest,i,[],sk,b,x,st,b',x',st',lg,h=>by simp [panGo] at h
 | o :: rest,i,m :: ms,sk,b,x,st,b',x',st',lg,h=>by
  simp only [panGo] at h
  cases hc:Nat.beq (m &&& sk) 0 with
  | false =>
   simp only [hc,cond_false] at h
   obtain ⟨X,Sq,L,R,SK,hr⟩:=Zg4 rest (i+1) ms _ b x st _ _ _ _ h
   have hne:m &&& sk ≠ 0:=fun e=>by rw [e] at hc;cases hc
   refine ⟨consF x X,consF st Sq,consF Log.no L,consF false R,consF sk SK,rfl,rfl,rfl,by simpa [consF] using hr.sn,?_,?_,?_,hr.quiet⟩
   ·intro k hk
    cases k with
    | zero=>exact ⟨o,rfl,rfl,by simp [consF,hr.s0],.inr (.inr ⟨rfl,by simp [consF,hr.k0],by simp [consF,hr.x0],by simp [consF,hr.s0],by simpa [consF] using hne⟩)⟩
    | succ k =>
     have:=hr.step k (by simpa using hk)
     rw [show i+1+k=i+(k+1) by omega] at this
     simpa [consF] using this
   ·intro k hk
    cases k with
    | zero=>exact ⟨fun r hr'=>by simp [consF,Log.no,bit] at hr',fun p hp=>by simp [consF,Log.no] at hp⟩
    | succ k=>simpa [consF] using hr.sub k (by simpa using hk)
   ·intro hb
    exact .inr ⟨0,by simp,rfl⟩
  | true =>
   simp only [hc,cond_true,Option.bind_eq_some_iff] at h
   obtain ⟨⟨pv,x1,st1,l1⟩,hop,h⟩:=h
   cases hq:(Nat.beq l1.T 0 && Nat.beq st1.next st.next) with
   | false=>simp [hq] at h
   | true =>
    simp only [hq,cond_true,Option.map_eq_some_iff] at h
    obtain ⟨⟨b2,x2,st2,l2⟩,hrest,he⟩:=h
    cases he
    simp only [Bool.and_eq_true,Nat.beq_eq] at hq
    obtain ⟨X,Sq,L,R,SK,hr⟩:=Zg4 rest (i+1) ms _ _ x1 st1 _ _ _ _ hrest
    refine ⟨consF x X,consF st Sq,consF l1 L,consF (!pv.isSome) R,consF sk SK,rfl,rfl,rfl,by simpa [consF] using hr.sn,?_,?_,?_,?_⟩
    ·intro k hk
     cases k with
     | zero =>
      refine ⟨o,rfl,hq.1,by simpa [consF,hr.s0] using hq.2,?_⟩
      cases pv with
      | none=>exact .inl ⟨rfl,by simp [consF,hr.k0],by simpa [consF,hr.x0,hr.s0] using hop⟩
      | some v=>exact .inr (.inl ⟨rfl,by simp [consF,hr.k0],v,by simpa [consF,hr.x0,hr.s0] using hop⟩)
     | succ k =>
      have:=hr.step k (by simpa using hk)
      rw [show i+1+k=i+(k+1) by omega] at this
      simpa [consF] using this
    ·intro k hk
     cases k with
     | zero=>exact ⟨fun r h=>Zat h,fun p h=>List.mem_append_left _ h⟩
     | succ k =>
      have:=hr.sub k (by simpa using hk)
      exact ⟨fun r h=>Za2 (this.1 r h),fun p h=>List.mem_append_right _ (this.2 p h)⟩
    ·intro hb
     rcases hr.pan hb with h | ⟨k,hk,hR⟩
     ·cases pv with
      | none=>exact .inl (by simpa using h)
      | some v=>exact .inr ⟨0,by simp,rfl⟩
     ·exact .inr ⟨k+1,by simpa using hk,by simpa [consF] using hR⟩
    ·show l1.T ||| l2.T=0
     rw [hq.1,hr.quiet];rfl

structure InvP (W0:Base) (ops:Array Oper) (X:Nat->AAct) (R:Nat->Bool) (A:Nat->Prop) (nx:Nat) (m0:Map) (g0:Heap) (w0:World) (a0:Act) (S:Nat->Bool) (m:Map) (a:Act) (w:World):Prop where
 lt:∀ j,S j=true->j < ops.size/\R j=true
 closed:∀ j o,S j=true->ops[j]?=some o->∀ e ∈ o.after,Region.binds .any e=true->S e.on=true
 step:Step W0 A (fun _=>False) m0 g0 w0 m g0 w
 fresh:Fresh A m nx
 size:a.tmps.size=(X 0).n
 tm:∀ t y,Zar (fun k=>(X k).tm.get t) (dstIs ops t) S ops.size=some y->∃ v,y.den m=some v/\a.tmps[t]?=some v
 defers:a.defers=a0.defers

section
variable {P : Program} {E : Eng} {ops : Array Oper} {x : AAct} {st st' : St} {b' : Bool} {lg : Log} {X : Nat -> AAct} {Sq : Nat -> St} {L : Nat -> Log} {R : Nat -> Bool} {SK : Nat -> Nat} {A : Nat -> Prop} {m0 : Map} {g0 : Heap} {w0 : World} {a0 : Act}

theorem RanP.same (hG:Zbo E.call) (hr:RanP P E ops ops.toList 0 (Zbh ops.toList 0 .nil) 0 false x st b' st' lg X Sq L R SK):∀ k,k<=ops.size->(Sq k).heap.get=st.heap.get/\(Sq k).next=st.next/\(X k).n=x.n/\(X k).defers=x.defers:=by
 intro k
 induction k with
 | zero=>intro _;rw [hr.s0,hr.x0];exact ⟨rfl,rfl,rfl,rfl⟩
 | succ k ih =>
  intro hk
  obtain ⟨h1,h2,h3,h4⟩:=ih (by omega)
  obtain ⟨o,_,hT,hn,h⟩:=hr.step k (by simp only [Array.length_toList];omega)
  have key:∀ pv,opD P E ops o (X k) (Sq k)=some (pv,X (k+1),Sq (k+1),L k)->(Sq (k+1)).heap.get=st.heap.get/\(Sq (k+1)).next=st.next/\(X (k+1)).n=x.n/\(X (k+1)).defers=x.defers:=by
   intro pv hop
   obtain ⟨c1,c2,c3,c4,c5,c6,c7,c8⟩:=Zbj hG hop
   refine ⟨?_,hn.trans h2,c5.trans h3,c6.trans h4⟩
   rw [<- h1]
   funext r
   exact c4 r (by rw [hT];simp [bit])
  rcases h with ⟨_,_,h⟩ | ⟨_,_,v,h⟩ | ⟨_,_,hx,hs,_⟩
  ·exact key _ h
  ·exact key _ h
  ·rw [hx,hs];exact ⟨h1,h2,h3,h4⟩
theorem RanP.skd (hr:RanP P E ops ops.toList 0 (Zbh ops.toList 0 .nil) 0 false x st b' st' lg X Sq L R SK):∀ k,k<=ops.size->∀ j,(SK k).testBit j=true->j < k/\R j=false:=by
 intro k
 induction k with
 | zero=>intro _ j hj;rw [hr.k0] at hj;simp at hj
 | succ k ih =>
  intro hk j hj
  obtain ⟨o,_,_,_,h⟩:=hr.step k (by simp only [Array.length_toList];omega)
  have or:R k=false->(SK k ||| (1 <<< (0+k))).testBit j=true->j < k+1/\R j=false:=by
   intro hR hj
   rw [Nat.testBit_or,Bool.or_eq_true] at hj
   rcases hj with hj | hj
   ·obtain ⟨a,b⟩:=ih (by omega) j hj;exact ⟨by omega,b⟩
   ·have:=(Zah (0+k) j).1 hj
    have:j=k:=by omega
    subst this
    exact ⟨by omega,hR⟩
  rcases h with ⟨_,hs,_⟩ | ⟨hR,hs,_⟩ | ⟨hR,hs,_⟩
  ·rw [hs] at hj
   obtain ⟨a,b⟩:=ih (by omega) j hj;exact ⟨by omega,b⟩
  ·rw [hs] at hj;exact or hR hj
  ·rw [hs] at hj;exact or hR hj

theorem InvP.look (hG:Zbo E.call) (hst:Ze2 ops=true) (hr:RanP P E ops ops.toList 0 (Zbh ops.toList 0 .nil) 0 false x st b' st' lg X Sq L R SK) {nx:Nat} {S:Nat->Bool} {m:Map} {a:Act} {w:World} (hi:InvP W0 ops X R A nx m0 g0 w0 a0 S m a w)
  {i:Nat} {o:Oper} (ho:ops[i]?=some o) (hS:S i=false) (hp:∀ e ∈ o.after,Region.binds .any e=true->S e.on=true) :
  Zos m ops o (X i) a/\(∀ j p,S j=true->ops[j]?=some p->∀ d,p.dst=some d->(d ∈ o.looksAt ops \/ o.dst=some d)->j < i)/\∀ q,(pm ops i).testBit q=true->S q=true:=by
 obtain ⟨hsz,hed,hap⟩:=Zgx hst
 have hiN:i < ops.size:=(Array.getElem?_eq_some_iff.1 ho).1
 have hcl:∀ j o',ops[j]?=some o'->(∀ e ∈ o'.after,Region.binds .any e=true->S e.on=true)->∀ q,(pm ops j).testBit q=true->S q=true :=
  Zjq hsz (fun j=>S j=true) hi.closed
 have hpm:∀ q,(pm ops i).testBit q=true->S q=true:=hcl i o ho hp
 have hSpm:∀ j,S j=true->∀ q,(pm ops j).testBit q=true->S q=true:=fun j hj q hq=>by
  have hjs:=(hi.lt j hj).1
  have hjo:ops[j]?=some ops[j]:=Array.getElem?_eq_getElem hjs
  exact hcl j _ hjo (fun e he hb=>hi.closed j _ hj hjo e he hb) q hq
 have tord1:∀ j p,S j=true->ops[j]?=some p->∀ d,p.dst=some d->(d ∈ o.looksAt ops \/ o.dst=some d)->j < i:=by
  intro j p hj hp' d hd hl
  rcases Nat.lt_trichotomy j i with h | h | h
  ·exact h
  ·subst h;rw [hS] at hj;cases hj
  ·rcases hap i j o p h ho hp' with hb | hb
   ·have:=hSpm j hj i hb
    rw [hS] at this;cases this
   ·have q:=Oper.apart_spec hb.2
    rcases hl with hl | hl
    ·exact absurd hl (q.1 d hd)
    ·exact absurd hl (q.2.1 d hd)
 have tord2:∀ j p,j < i->ops[j]?=some p->∀ d,p.dst=some d->d ∈ o.looksAt ops->S j=true:=by
  intro j p hj hp' d hd hl
  rcases hap j i p o hj hp' ho with hb | hb
  ·exact hpm j hb
  ·exact absurd hl ((Oper.apart_spec hb.1).1 d hd)
 refine ⟨⟨?_,?_⟩,tord1,hpm⟩
 ·rw [(hr.same hG i (by omega)).2.2.1,<- hr.x0]
  exact hi.size
 ·intro t y ht hy
  refine hi.tm t y ?_
  rw [Zb8 i ops.size (by omega) (fun j h1 h2 hd=>?_)]
  ·have key:∀ q,q<=i->Zar (fun k=>(X k).tm.get t) (dstIs ops t) S q=(X q).tm.get t:=by
    intro q
    induction q with
    | zero=>intro _;rfl
    | succ q ih =>
     intro hq
     obtain ⟨o',hl',_,_,hs⟩:=hr.step q (by simpa using (by omega:q < ops.size))
     have hoq:ops[q]?=some o':=by simpa using hl'
     simp only [Zar]
     by_cases hd:dstIs ops t q=true
     ·rw [if_pos (by rw [tord2 q o' (by omega) hoq t ((Zbq hoq).1 hd) ht,hd];rfl)]
     ·rw [if_neg (by simp [hd]),ih (by omega)]
      rcases hs with ⟨_,_,ho'⟩ | ⟨_,_,v,ho'⟩ | ⟨_,_,hx,_⟩
      ·exact ((Zbj hG ho').2.2.2.2.2.2.1 t (fun he=>hd ((Zbq hoq).2 he))).symm
      ·exact ((Zbj hG ho').2.2.2.2.2.2.1 t (fun he=>hd ((Zbq hoq).2 he))).symm
      ·rw [hx]
   rw [key i (Nat.le_refl _)]
   exact hy
  ·cases hj:S j with
   | false=>rfl
   | true =>
    have hjs:=(hi.lt j hj).1
    have hjo:ops[j]?=some ops[j]:=Array.getElem?_eq_getElem hjs
    have:=tord1 j _ hj hjo t ((Zbq hjo).1 hd) (.inl ht)
    omega

theorem InvP.next (hN:GoodP P) (hE:Zee P E.call) (hG:Zbo E.call) (hst:Ze2 ops=true) (hr:RanP P E ops ops.toList 0 (Zbh ops.toList 0 .nil) 0 false x st b' st' lg X Sq L R SK) (hA:lg.Fits W0 A) {S S':Nat->Bool} {m:Map} {a:Act} {w:World} (hi:InvP W0 ops X R A st.next m0 st.heap.get w0 a0 S m a w)
  {i:Nat} {o:Oper} (ho:ops[i]?=some o) (hR:R i=true) (hS:S i=false) (hp:∀ e ∈ o.after,Region.binds .any e=true->S e.on=true) (hS':∀ j,S' j=(S j || Nat.beq j i)) {K:Act->World->Prop} {Q:Exit->Act->World->Prop}
  (hK:∀ m' a' w',InvP W0 ops X R A st.next m0 st.heap.get w0 a0 S' m' a' w'->K a' w'):wpOp P ops Q i K a w:=by
 have hiN:i < ops.size:=(Array.getElem?_eq_some_iff.1 ho).1
 obtain ⟨hlook,tord1,_⟩:=hi.look hG hst hr ho hS hp
 obtain ⟨o',hl',hT,hn,hs⟩:=hr.step i (by simpa using hiN)
 have:o'=o:=by
  have:ops[i]?=some o':=by simpa using hl'
  rw [ho] at this;exact (Option.some.inj this).symm
 subst this
 have hop:opD P E ops o' (X i) (Sq i)=some (none,X (i+1),Sq (i+1),L i):=by
  rcases hs with ⟨_,_,h⟩ | ⟨h,_⟩ | ⟨h,_⟩
  ·exact h
  ·rw [hR] at h;cases h
  ·rw [hR] at h;cases h
 obtain ⟨e1,e2,_,_⟩:=hr.same hG i (by omega)
 obtain ⟨f1,f2,_,_⟩:=hr.same hG (i+1) (by omega)
 have hsub:=hr.sub i (by simpa using hiN)
 refine Zoj hN hE ho hop (A:=A) ⟨fun r h=>hA.1 r (hsub.1 r h),fun p hp=>hA.2 p (hsub.2 p hp)⟩ (by rw [e1];exact hi.step.rel) (by rw [e2];exact hi.fresh) hlook (fun _ m' a' w' hok hdef hsz hother hdst=>?_) (fun v hv=>by cases hv)
 have hself:S' i=true:=by rw [hS'];simp
 have hne:∀ j,j ≠ i->S' j=S j:=fun j hj=>by
  rw [hS']
  have:Nat.beq j i=false:=by
   cases hq:Nat.beq j i with
   | false=>rfl
   | true=>exact absurd (Nat.eq_of_beq_eq_true hq) hj
  rw [this,Bool.or_false]
 refine hK m' a' w' ⟨?_,?_,?_,?_,?_,?_,?_⟩
 ·intro j hj
  by_cases h:j=i
  ·rw [h];exact ⟨hiN,hR⟩
  ·rw [hne j h] at hj;exact hi.lt j hj
 ·intro j p hj hpj e he hb
  have hS'of:∀ q,S q=true->S' q=true:=fun q hq=>by rw [hS',hq];rfl
  by_cases h:j=i
  ·subst h
   rw [ho] at hpj
   cases hpj
   exact hS'of _ (hp e he hb)
  ·rw [hne j h] at hj
   exact hS'of _ (hi.closed j p hj hpj e he hb)
 ·have hk:=hok.step
  rw [e1,f1,hT] at hk
  exact (hi.step.trans hk).more (fun r hr'=>hr'.elim (fun q=>q) (fun q=>by simp [bit] at q))
 ·rw [<- f2];exact hok.fresh
 ·rw [hsz];exact hi.size
 ·intro t y hy
  by_cases hd:o'.dst=some t
  ·have:Zar (fun k=>(X k).tm.get t) (dstIs ops t) S' ops.size=(X (i+1)).tm.get t:=by
    rw [Zb8 (i+1) ops.size (by omega) (fun j h1 h2 ht=>?_)]
    ·simp only [Zar]
     rw [if_pos (by rw [hself,(Zbq ho).2 hd];rfl)]
    ·cases hj:S' j with
     | false=>rfl
     | true =>
      rw [hne j (by omega)] at hj
      have hjs:=(hi.lt j hj).1
      have hjo:ops[j]?=some ops[j]:=Array.getElem?_eq_getElem hjs
      have:=tord1 j _ hj hjo t ((Zbq hjo).1 ht) (.inr hd)
      omega
   rw [this] at hy
   exact hdst t y hd hy
  ·have:Zar (fun k=>(X k).tm.get t) (dstIs ops t) S' ops.size=Zar (fun k=>(X k).tm.get t) (dstIs ops t) S ops.size:=by
    refine Zci ops.size (fun j hj ht=>?_)
    by_cases h:j=i
    ·subst h;exact absurd ((Zbq ho).1 ht) hd
    ·exact hne j h
   rw [this] at hy
   obtain ⟨v,hv,hg⟩:=hi.tm t y hy
   exact ⟨v,AV.den_mono hok.ext y hv,by rw [hother t hd];exact hg⟩
 ·rw [hdef];exact hi.defers
end

theorem panF_ok {P:Program} (hN:GoodP P) (hM:P.follows .mixedOrders=true) {E:Eng} (hE:Zee P E.call) (hG:Zbo E.call) {id:Nat} {ops:Array Oper} {x x1:AAct} {st st':St} {lg:Log} (hst:Ze2 ops=true)
  (h:panGo P E ops ops.toList 0 (Zbh ops.toList 0 .nil) 0 false x st=some (true,x1,st',lg)) {A:Nat->Prop} {m:Map} {a:Act} {w:World} (hA:lg.Fits W0 A) (hR:Rel W0 A m st.heap.get w) (hF:Fresh A m st.next) (hT:TRel m x a) :
  (Code.region id ops true).wp P (XPost W0 A m st w (.panic anyV) { x with tm:=.nil } st' lg) a w:=by
 obtain ⟨hsz,hed,hap⟩:=Zgx hst
 obtain ⟨X,Sq,L,R,SK,hr⟩:=Zg4 _ _ _ _ _ _ _ _ _ _ _ h
 obtain ⟨k0,hk0,hRk⟩:∃ k,k < ops.size/\R k=false:=by
  rcases hr.pan rfl with h | ⟨k,hk,h⟩
  ·cases h
  ·exact ⟨k,by simpa using hk,h⟩
 have hend:st'.heap.get=st.heap.get/\st'.next=st.next:=by
  have:=hr.same hG ops.size (Nat.le_refl _)
  have hs:Sq ops.size=st':=by simpa using hr.sn
  rw [hs] at this
  exact ⟨this.1,this.2.1⟩
 refine wp_region_any hM ?_
 have main:∀ (fuel:Nat) (listed:Array Bool) (m1:Map) (a1:Act) (w1:World),listed.size=ops.size->(List.range ops.size).countP (fun j=>!listed.getD j false)<=fuel →
   InvP W0 ops X R A st.next m st.heap.get w a (fun j=>listed.getD j false) m1 a1 w1->wpAny P .any ops (XPost W0 A m st w (.panic anyV) { x with tm:=.nil } st' lg) fuel listed a1 w1:=by
  intro fuel
  induction fuel with
  | zero =>
   intro listed m1 a1 w1 hls hcnt hi
   exfalso
   have:listed.getD k0 false=true:=by
    cases hq:listed.getD k0 false with
    | true=>rfl
    | false =>
     have hpos:0 < (List.range ops.size).countP (fun j=>!listed.getD j false):=List.countP_pos_iff.2 ⟨k0,List.mem_range.2 hk0,by simp only [hq];rfl⟩
     omega
   have:=(hi.lt k0 this).2
   rw [hRk] at this
   cases this
  | succ fuel ih =>
   intro listed m1 a1 w1 hls hcnt hi
   have hlist:∀ j,j < ops.size->(listed.getD j true=listed.getD j false):=by
    intro j hj
    simp only [Array.getD_eq_getD_getElem?,Array.getElem?_eq_getElem (show j < listed.size by omega)]
    rfl
   refine ⟨?_,?_⟩
   ·intro hrd
    exfalso
    have hmin:∀ n,∀ j,j<=n->j < ops.size->listed.getD j false=false->False:=by
     intro n
     induction n using Nat.strongRecOn with
     | _ n ihn =>
      intro j hjn hj hq
      have hjo:ops[j]?=some ops[j]:=Array.getElem?_eq_getElem hj
      have:j ∈ Region.ready .any ops listed:=by
       refine mem_ready.2 ⟨by rw [hlist j hj];exact hq,_,hjo,fun e he hb=>?_⟩
       have hlt:=hed j _ hjo e he hb
       cases hq2:listed.getD e.on false with
       | true=>rfl
       | false=>exact (ihn e.on (by omega) e.on (Nat.le_refl _) (by omega) hq2).elim
      rw [hrd] at this
      cases this
    refine hmin k0 k0 (Nat.le_refl _) hk0 ?_
    cases hq:listed.getD k0 false with
    | false=>rfl
    | true =>
     have:=(hi.lt k0 hq).2
     rw [hRk] at this
     cases this
   ·intro i hmem
    obtain ⟨hq,o,ho,hpre⟩:=mem_ready.1 hmem
    have his:=(Array.getElem?_eq_some_iff.1 ho).1
    have hS:listed.getD i false=false:=by rw [<- hlist i his];exact hq
    cases hRi:R i with
    | true =>
     refine hi.next hN hE hG hst hr hA ho hRi hS hpre (S':=fun j=>(listed.setIfInBounds i true).getD j false) (fun j=>Zfo (by omega) j) ?_
     intro m2 a2 w2 hi2
     refine ih _ m2 a2 w2 (by simp [hls]) ?_ hi2
     have:=countP_lt (fun j=>!listed.getD j false) (fun j=>!(listed.setIfInBounds i true).getD j false) (fun j hj=>by
      rw [Zfo (by omega)] at hj
      simp at hj ⊢
      exact hj.1) i (by rw [hS];rfl) (by rw [Zfo (by omega)];simp) ops.size his
     omega
    | false =>
     obtain ⟨hlook,_,hpm⟩:=hi.look hG hst hr ho hS hpre
     obtain ⟨o',hl',hT',hn,hs⟩:=hr.step i (by simpa using his)
     have:o'=o:=by
      have:ops[i]?=some o':=by simpa using hl'
      rw [ho] at this;exact (Option.some.inj this).symm
     subst this
     rcases hs with ⟨h1,_⟩ | ⟨_,_,v,hop⟩ | ⟨_,_,_,_,hbit⟩
     ·rw [hRi] at h1;cases h1
     ·obtain ⟨e1,e2,_,_⟩:=hr.same hG i (by omega)
      obtain ⟨f1,f2,_,_⟩:=hr.same hG (i+1) (by omega)
      have hsub:=hr.sub i (by simpa using his)
      refine Zoj hN hE ho hop (A:=A) ⟨fun r h=>hA.1 r (hsub.1 r h),fun p hp=>hA.2 p (hsub.2 p hp)⟩ (by rw [e1];exact hi.step.rel) (by rw [e2];exact hi.fresh) hlook (fun hn=>by cases hn) (fun v' hv u m' w' hok=>?_)
      have hk:=hok.step
      rw [e1,f1,hT'] at hk
      refine ⟨m',⟨?_,?_⟩,⟨?_,?_,?_⟩,pick v' u,rfl⟩
      ·rw [hend.1]
       exact (hi.step.trans hk).more (fun r hr'=>hr'.elim (fun q=>q.elim) (fun q=>by simp [bit] at q))
      ·rw [hend.2,<- f2];exact hok.fresh
      ·have:=hi.size
       rw [hr.x0] at this
       exact this
      ·intro t y hy
       simp [T.get] at hy
      ·rw [hi.defers]
       exact Zea (hi.step.ext.trans hok.ext) hT.defers
     ·exfalso
      obtain ⟨j,hj⟩:∃ j,((Zbh ops.toList 0 .nil).getD i 0 &&& SK i).testBit j=true:=by
       apply Classical.byContradiction
       intro hno
       apply hbit
       apply Nat.eq_of_testBit_eq
       intro q
       rw [Nat.zero_testBit]
       cases hq:((Zbh ops.toList 0 .nil).getD i 0 &&& SK i).testBit q with
       | false=>rfl
       | true=>exact (hno ⟨q,hq⟩).elim
      rw [Nat.testBit_and,Bool.and_eq_true] at hj
      have h1:=(hr.skd i (by omega) j hj.2).2
      have h2:=(hi.lt j (hpm j (by simpa [pm] using hj.1))).2
      rw [h1] at h2
      cases h2
 refine main ops.size _ m a _ (by simp) ?_ ⟨?_,?_,?_,?_,?_,?_,rfl⟩
 ·exact Nat.le_trans List.countP_le_length (by simp)
 ·intro j hj
  simp [Array.getD_eq_getD_getElem?,Array.getElem?_replicate] at hj
  split at hj <;> simp at hj
 ·intro j o hj
  simp [Array.getD_eq_getD_getElem?,Array.getElem?_replicate] at hj
  split at hj <;> simp at hj
 ·exact Ze1 _ hR
 ·exact hF
 ·rw [hr.x0];exact hT.size
 ·intro t y hy
  rw [Zel ops.size (fun j hj=>by
   simp only [Array.getD_eq_getD_getElem?,Array.getElem?_replicate]
   split <;> rfl),hr.x0] at hy
  exact hT.get t y hy
theorem drawP_ok {P:Program} (hN:GoodP P) (hM:P.follows .mixedOrders=true):Zot P (drawP P):=by
 intro E hE hG id ops x st e x' st' lg h W0 A m a w hA hR hF hT
 unfold drawP at h
 split at h
 ·rename_i r hr
  cases h
  exact drawF_ok hN hM E hE hG id ops x st e x' st' lg hr W0 A m a w hA hR hF hT
 ·simp only [cond_eq_ite] at h
  split at h
  ·rename_i hst
   simp only [Option.bind_eq_some_iff] at h
   obtain ⟨⟨b,x1,st1,l1⟩,hp,h⟩:=h
   split at h
   ·rename_i hb
    cases h
    have hb':b=true:=hb
    subst hb'
    exact panF_ok hN hM hE hG hst hp hA hR hF hT
   ·cases h
  ·cases h
theorem panGo_gk {P:Program} {E:Eng} (hG:Zbo E.call) {ops:Array Oper} {x x1:AAct} {st st':St} {b:Bool} {lg:Log} (h:panGo P E ops ops.toList 0 (Zbh ops.toList 0 .nil) 0 false x st=some (b,x1,st',lg)):Gk st st' lg:=by
 obtain ⟨X,Sq,L,R,SK,hr⟩:=Zg4 _ _ _ _ _ _ _ _ _ _ _ h
 have:=hr.same hG ops.size (Nat.le_refl _)
 have hs:Sq ops.size=st':=by simpa using hr.sn
 rw [hs] at this
 intro r _
 rw [this.1]

end Go.Proofs.Ytgdegpifjljnoaa.eng
end

section
/- The engine, and what a call that it runs is. -/
namespace Go.Proofs.Ytgdegpifjljnoaa.eng
open Go Go.RowKit
variable {W0 : Base}

theorem drawGo_both {P:Program} {E:Eng} (hG:Zbo E.call) {ops:Array Oper}:∀ (l:List Oper) (i:Nat) (ms:List Nat) (acc:List (Nat × Log)) (x:AAct) (st:St) (e:AX) (x':AAct) (st':St) (lg:Log),Zdx P E ops l i ms acc x st=some (e,x',st',lg)->Gk st st' lg/\∀ k,e ≠ .goto k
 | [],i,ms,acc,x,st,e,x',st',lg,h=>by
  simp only [Zdx,Option.some.injEq,Prod.mk.injEq] at h
  obtain ⟨rfl,rfl,rfl,rfl⟩:=h
  exact ⟨Gk.refl _ _,by simp⟩
 | o :: rest,i,[],acc,x,st,e,x',st',lg,h=>by simp [Zdx] at h
 | o :: rest,i,m :: ms,acc,x,st,e,x',st',lg,h=>by
  simp only [Zdx,Option.bind_eq_some_iff] at h
  obtain ⟨⟨pv,x1,st1,l1⟩,hop,h⟩:=h
  have hgk:=(Zbj hG hop).2.2.2.1
  cases hla:Zdm m l1 acc with
  | false=>simp [hla] at h
  | true =>
   simp only [hla,cond_true] at h
   cases pv with
   | some v =>
    simp only at h
    simp only [cond_eq_ite] at h
    split at h
    ·split at h
     ·simp only [Option.some.injEq,Prod.mk.injEq] at h
      obtain ⟨rfl,rfl,rfl,rfl⟩:=h
      exact ⟨hgk,by simp⟩
     ·split at h
      ·simp only [Option.some.injEq,Prod.mk.injEq] at h
       obtain ⟨rfl,rfl,rfl,rfl⟩:=h
       exact ⟨hgk,by simp⟩
      ·cases h
    ·cases h
   | none =>
    simp only [Option.map_eq_some_iff] at h
    obtain ⟨⟨e2,x2,st2,l2⟩,hrest,he⟩:=h
    cases he
    obtain ⟨h1,h2⟩:=drawGo_both hG rest _ _ _ _ _ _ _ _ _ hrest
    exact ⟨hgk.trans h1,h2⟩
theorem drawGo_noJump {P:Program} {E:Eng} {ops:Array Oper}:∀ (l:List Oper) (i:Nat) (ms:List Nat) (acc:List (Nat × Log)) (x:AAct) (st:St) (e:AX) (r:AAct × St × Log),Zdx P E ops l i ms acc x st=some (e,r)->∀ k,e ≠ .goto k
 | [],i,ms,acc,x,st,e,r,h=>by simp [Zdx] at h;rw [<- h.1];simp
 | o :: rest,i,[],acc,x,st,e,r,h=>by simp [Zdx] at h
 | o :: rest,i,m :: ms,acc,x,st,e,r,h=>by
  simp only [Zdx,Option.bind_eq_some_iff] at h
  obtain ⟨⟨pv,x1,st1,l1⟩,hop,h⟩:=h
  cases hla:Zdm m l1 acc with
  | false=>simp [hla] at h
  | true =>
   simp only [hla,cond_true] at h
   cases pv with
   | some v =>
    simp only at h
    simp only [cond_eq_ite] at h
    split at h
    ·split at h
     ·simp at h;rw [<- h.1];simp
     ·split at h
      ·simp at h;rw [<- h.1];simp
      ·cases h
    ·cases h
   | none =>
    simp only [Option.map_eq_some_iff] at h
    obtain ⟨⟨e2,x2,st2,l2⟩,hrest,he⟩:=h
    cases he
    exact drawGo_noJump rest _ _ _ _ _ _ _ hrest
theorem drawF_noJump (P:Program):Zfu (drawF P):=by
 intro E ops x st e r h
 simp only [drawF,cond_eq_ite] at h
 split at h
 ·exact drawGo_noJump _ _ _ _ _ _ _ _ h
 ·cases h
theorem drawF_gk (P:Program):Zp0 (drawF P):=by
 intro E hG ops x st e x' st' lg h
 simp only [drawF,cond_eq_ite] at h
 split at h
 ·exact (drawGo_both hG _ _ _ _ _ _ _ _ _ _ h).1
 ·cases h

theorem drawP_noJump (P:Program):Zfu (drawP P):=by
 intro E ops x st e r h
 unfold drawP at h
 split at h
 ·rename_i q hq
  cases h
  exact drawF_noJump P E ops x st e r hq
 ·simp only [cond_eq_ite] at h
  split at h
  ·simp only [Option.bind_eq_some_iff] at h
   obtain ⟨⟨b,x1,st1,l1⟩,hp,h⟩:=h
   split at h
   ·cases h;simp
   ·cases h
  ·cases h
theorem drawP_gk (P:Program):Zp0 (drawP P):=by
 intro E hG ops x st e x' st' lg h
 unfold drawP at h
 split at h
 ·rename_i q hq
  cases h
  exact drawF_gk P E hG ops x st e x' st' lg hq
 ·simp only [cond_eq_ite] at h
  split at h
  ·simp only [Option.bind_eq_some_iff] at h
   obtain ⟨⟨b,x1,st1,l1⟩,hp,h⟩:=h
   split at h
   ·cases h;exact panGo_gk hG hp
   ·cases h
  ·cases h

abbrev Orc:=FuncId->List AV->St->Option (ARet × St × Log)
structure OrcOk (P:Program) (O:Orc):Prop where
 call:Zee P O
 gk:Zbo O
def noOrc:Orc:=fun _ _ _=>none
theorem noOrc_ok (P:Program):OrcOk P noOrc:=⟨fun f args st r st' lg h=>(by cases h),fun f args st r st' lg h=>(by cases h)⟩
def Zpe (P:Program) (O:Orc) (n:Nat) (H:FuncId->Oper->Option Hint:=fun _ _=>none):Eng:=eng P (drawP P) O H n
theorem theEng_ok {P:Program} (hN:GoodP P) (hM:P.follows .mixedOrders=true) {O:Orc} (hO:OrcOk P O) (n:Nat) {H:FuncId->Oper->Option Hint}:EngOk P (Zpe P O n H) :=
 eng_ok hN (drawP_ok hN hM) (drawP_noJump P) hO.call (fun n=>(eng_gk (drawP_gk P) hO.gk n).2.2) n

def Base.none (w:World):Base:=⟨w,fun _=>Option.none,fun _ _=>Option.none,fun _=>False,fun _=>False⟩

end Go.Proofs.Ytgdegpifjljnoaa.eng
end

section
/- The engine: what is known by other means. -/
namespace Go.Proofs.Ytgdegpifjljnoaa.eng
open Go Go.RowKit
variable {W0 : Base}


def orcOr (a b:Orc):Orc:=fun f args st=>match a f args st with | some r=>some r | none=>b f args st
theorem orcOr_ok {P:Program} {a b:Orc} (ha:OrcOk P a) (hb:OrcOk P b):OrcOk P (orcOr a b):=by
 refine ⟨?_,?_⟩
 ·intro f args st r st' lg hr
  simp only [orcOr] at hr
  split at hr
  ·rename_i q hq
   cases hr
   exact ha.call f args st r st' lg hq
  ·exact hb.call f args st r st' lg hr
 ·intro f args st r st' lg hr
  simp only [orcOr] at hr
  split at hr
  ·rename_i q hq
   cases hr
   exact ha.gk f args st r st' lg hq
  ·exact hb.gk f args st r st' lg hr


end Go.Proofs.Ytgdegpifjljnoaa.eng
end

section
/- The engine: calls of functions that are told of by a contract. -/
namespace Go.Proofs.Ytgdegpifjljnoaa.eng
open Go Go.RowKit
variable {W0 : Base}

def Zbb:Sh->List AV->Option (List AV)
 | [],[]=>some []
 | none :: s,x :: xs=>(Zbb s xs).map (x :: ·)
 | some n :: s,x :: xs=>x.aggs.bind fun cs=>cond (Nat.beq cs.length n) ((Zbb s xs).map (cs++·)) none
 | _,_=>none
theorem Zc9 {m:Map}:∀ (s:Sh) (xs:List AV) {ls:List AV} {vs:List Value},Zbb s xs=some ls->denL m xs=some vs->∃ us,denL m ls=some us/\us.length=shLen s/\vs=Zak s us
 | [],[],ls,vs,h,hv=>by
  simp only [Zbb,Option.some.injEq] at h
  simp only [denL,Option.some.injEq] at hv
  subst h;subst hv
  exact ⟨[],rfl,rfl,rfl⟩
 | [],_ :: _,ls,vs,h,hv=>by simp [Zbb] at h
 | none :: s,[],ls,vs,h,hv=>by simp [Zbb] at h
 | some n :: s,[],ls,vs,h,hv=>by simp [Zbb] at h
 | none :: s,x :: xs,ls,vs,h,hv=>by
  simp only [Zbb,Option.map_eq_some_iff] at h
  obtain ⟨l,hl,rfl⟩:=h
  simp only [denL,Option.bind_eq_some_iff,Option.map_eq_some_iff] at hv
  obtain ⟨v,hv,vs',hvs,rfl⟩:=hv
  obtain ⟨us,h1,h2,rfl⟩:=Zc9 s xs hl hvs
  exact ⟨v :: us,by simp [denL,hv,h1],by simp [shLen,h2],rfl⟩
 | some n :: s,x :: xs,ls,vs,h,hv=>by
  simp only [Zbb,Option.bind_eq_some_iff] at h
  obtain ⟨cs,hcs,h⟩:=h
  cases hn:Nat.beq cs.length n with
  | false=>simp [hn] at h
  | true =>
   simp only [hn,cond_true,Option.map_eq_some_iff] at h
   obtain ⟨l,hl,rfl⟩:=h
   have hn':=Nat.eq_of_beq_eq_true hn
   simp only [denL,Option.bind_eq_some_iff,Option.map_eq_some_iff] at hv
   obtain ⟨v,hv,vs',hvs,rfl⟩:=hv
   obtain ⟨lv,rfl,hlv⟩:=Zl3 hcs hv
   obtain ⟨us,h1,h2,rfl⟩:=Zc9 s xs hl hvs
   have hll:=Zae hlv
   refine ⟨lv++us,Zag hlv h1,by simp [shLen,h2];omega,?_⟩
   have:lv.length=n:=by omega
   simp [Zak,<- this]

def Zhb (st:St):AV->Option (SX × Bool × Log)
 | .val (.slice none 0 0)=>some (.lit 0 [],true,Log.no)
 | .val v=>cond v.oneCell' (some (.con v,true,Log.no)) none
 | .sym e=>some (e,true,Log.no)
 | .dat r=>(st.heap.get r).bind fun o=>o.dat.map fun e=>(e,o.ro,Log.sees r)
 | _=>none
def May (W0:Base) (A:Nat->Prop) (m:Map) (st:St) (w:World) (k:Nat):Prop:=k < w.heap.size/\(W0.fp k \/ W0.heap.size<=k)/\Hangs A m st k
theorem Zjr {A:Nat->Prop} {m:Map} {st:St} {w:World} (hR:Rel W0 A m st.heap.get w) {x:AV} {e:SX} {ok:Bool} {lg:Log} {u:Value} (h:Zhb st x=some (e,ok,lg)) (hA:lg.Fits W0 A) (hx:x.den m=some u) :
  ∃ p,e.ev W0.s W0.F=some p/\Reads w p u/\(ok=true->∀ w2:World,(∀ k,May W0 A m st w k->w2.heap[k]?=w.heap[k]?)->Reads w2 p u):=by
 have both:∀ {p:PV},(∀ w2:World,Reads w2 p u)->Reads w p u/\(ok=true->∀ w2:World,(∀ k,May W0 A m st w k->w2.heap[k]?=w.heap[k]?)->Reads w2 p u):=fun h=>⟨h w,fun _ w2 _=>h w2⟩
 unfold Zhb at h
 split at h
 ·simp only [Option.some.injEq,Prod.mk.injEq] at h
  obtain ⟨rfl,rfl,rfl⟩:=h
  simp only [AV.den,Option.some.injEq] at hx
  subst hx
  exact ⟨.row 0 [],by simp [SX.ev,evs],both fun w2=>by simp only [Reads];exact ⟨none,0,rfl,Nat.le_refl _,Nat.zero_le _,.inl trivial⟩⟩
 ·rename_i v _
  simp only [AV.den,Option.some.injEq] at hx
  subst hx
  cases ho:v.oneCell' with
  | false=>simp [ho] at h
  | true =>
   simp only [ho,cond_true,Option.some.injEq,Prod.mk.injEq] at h
   obtain ⟨rfl,rfl,rfl⟩:=h
   exact ⟨.v v,by simp [SX.ev],both fun w2=>by simp [Reads,ho]⟩
 ·simp only [Option.some.injEq,Prod.mk.injEq] at h
  obtain ⟨rfl,rfl,rfl⟩:=h
  obtain ⟨h1,h2⟩:=Zib hR.sv hx
  exact ⟨.v u,h1,both fun w2=>by simp [Reads,h2]⟩
 ·rename_i r
  simp only [Option.bind_eq_some_iff,Option.map_eq_some_iff,Prod.mk.injEq] at h
  obtain ⟨o',ho',e',hr,rfl,rfl,rfl⟩:=h
  have ha:A r:=hA.1 r (by simp [Log.sees,Zah])
  obtain ⟨o,v,fp,p,ho,hd,hm,hone,hlt,hfb,hp,hrd⟩:=thing hR (Option.bind_eq_some_iff.2 ⟨o',ho',hr⟩) ha
  rw [ho'] at ho
  cases ho
  simp only [AV.den,hm,Option.bind_some,hone,cond_true,Option.some.injEq] at hx
  subst hx
  exact ⟨p,hp,hrd w (fun _ _=>rfl),fun hok w2 hw2=>hrd w2 (fun k hk=>hw2 k ⟨hlt k hk,hfb hok k hk,r,o',e',v,fp,ha,ho',hd,hm,hk⟩)⟩
 ·cases h
def Zfc (st:St):List AV->Option (List SX × Bool × Log)
 | []=>some ([],true,Log.no)
 | x :: xs=>(Zhb st x).bind fun (e,o1,l1)=>(Zfc st xs).map fun (es,o2,l2)=>(e :: es,o1 && o2,l1.or l2)
theorem Zeb {A:Nat->Prop} {m:Map} {st:St} {w:World} (hR:Rel W0 A m st.heap.get w):∀ {xs:List AV} {es:List SX} {ok:Bool} {lg:Log} {us:List Value},Zfc st xs=some (es,ok,lg)->lg.Fits W0 A->denL m xs=some us →
  ∃ ps,evs W0.s W0.F es=some ps/\ps.length=us.length/\∀ (i:Nat) (p:PV) (u:Value),ps[i]?=some p->us[i]?=some u->Reads w p u/\(ok=true->∀ w2:World,(∀ k,May W0 A m st w k->w2.heap[k]?=w.heap[k]?)->Reads w2 p u)
 | [],es,ok,lg,us,h,hA,hu=>by
  simp only [Zfc,Option.some.injEq,Prod.mk.injEq] at h
  obtain ⟨rfl,rfl,rfl⟩:=h
  simp only [denL,Option.some.injEq] at hu
  subst hu
  exact ⟨[],rfl,rfl,fun i p u hp=>by simp at hp⟩
 | x :: xs,es,ok,lg,us,h,hA,hu=>by
  simp only [Zfc,Option.bind_eq_some_iff,Option.map_eq_some_iff] at h
  obtain ⟨⟨e,o1,l1⟩,he,⟨es',o2,l2⟩,hes,h⟩:=h
  cases h
  simp only [denL,Option.bind_eq_some_iff,Option.map_eq_some_iff] at hu
  obtain ⟨v,hv,us',hus,rfl⟩:=hu
  obtain ⟨p,h1,h2,h2'⟩:=Zjr hR he (or_A hA).1 hv
  obtain ⟨ps,h3,h4,h5⟩:=Zeb hR hes (or_A hA).2 hus
  refine ⟨p :: ps,by simp [evs,h1,h3],by simp [h4],fun i q u hq hu=>?_⟩
  cases i with
  | zero=>simp at hq hu;subst hq;subst hu;exact ⟨h2,fun h=>h2' (by simp at h;exact h.1)⟩
  | succ i =>
   obtain ⟨h6,h7⟩:=h5 i q u (by simpa using hq) (by simpa using hu)
   exact ⟨h6,fun h=>h7 (by simp at h;exact h.2)⟩

def wantW (e len:SX):Log:=match e,len with
 | .var i,.len (.var j)=>cond (Nat.beq i j) Log.no (Zhj (.var i) (.len (.var j)))
 | e,len=>Zhj e len
theorem Zlq {A:Nat->Prop} {m:Map} {st:St} {w:World} (hR:Rel W0 A m st.heap.get w) {r v sz:Nat} {lo len e:SX} {el:TypeId} {u:Value} (hl:lookS st r v=some (e,el,sz)) (ha:A r) (hx:(AV.sliceS r v lo len sz).den m=some u) (hf:(wantW e len).Fits W0 A):(Fact.same len (.len e)).holds W0:=by
 unfold wantW at hf
 split at hf
 ·rename_i i j
  cases hij:Nat.beq i j with
  | false=>rw [hij] at hf;exact hf.2 _ (List.mem_singleton.2 rfl)
  | true =>
   have:=Nat.eq_of_beq_eq_true hij
   subst this
   obtain ⟨b,l,n,hb,h1,h2,_⟩:=Zas hR.sv hx
   obtain ⟨k,cs,c,fz,g1,_⟩:=Zba hl hR ha hb
   exact ⟨k,Zbx g1,Zbx g1⟩
 ·exact hf.2 _ (List.mem_singleton.2 rfl)
theorem Zlw {A:Nat->Prop} {m:Map} {st:St} {w:World} (hR:Rel W0 A m st.heap.get w) {r v sz:Nat} {lo len e:SX} {el:TypeId} {u:Value} (hl:lookS st r v=some (e,el,sz)) (hc:isC0 lo=true) (ha:A r) (hf:(Fact.same len (.len e)).holds W0) (hx:(AV.sliceS r v lo len sz).den m=some u) :
  ∃ (b:Nat × Nat) (n:Nat) (cs:List PV),m r v=some b/\W0.ev e=some (.row n cs)/\u=.slice (some ⟨b.1,0,none⟩) n b.2/\W0.heap.size<=b.1/\b.1 < w.heap.size/\∀ w2:World,w2.heap[b.1]?=w.heap[b.1]?->Reads w2 (.row n cs) u:=by
 obtain ⟨n,f1,f2⟩:=hf
 obtain ⟨b,l,n',hb,h1,h2,rfl⟩:=Zas hR.sv hx
 rw [Zem hc] at h1
 rw [f1] at h2
 simp only [Option.some.injEq,PV.v.injEq,Value.int.injEq,true_and,Int.ofNat_inj] at h1 h2
 have hl0:l=0:=by omega
 subst hl0
 subst h2
 obtain ⟨o,ho,hs,hv,_,_,_,hlt0⟩:=Zej hl
 obtain ⟨k,cs,c,fz,g1,g2,g3,g4,g5,g6,g7,g8,g9⟩:=Zba hl hR ha hb
 rw [Zbx g1] at f2
 simp only [Option.some.injEq,PV.v.injEq,Value.int.injEq,true_and,Int.ofNat_inj] at f2
 subst f2
 have hvm:(v,0) ∈ o.vers:=by rw [hv];simp
 refine ⟨b,k,cs,hb,g1,by rw [Nat.zero_mul,Nat.sub_zero],(hR.abv r o v 0 b ha ho hvm hb).1 hlt0,hR.lt ha ho hvm hb,fun w2 hw2=>?_⟩
 simp only [Reads]
 refine ⟨some ⟨b.1,0 * sz,none⟩,b.2 - 0,rfl,by omega,by omega,.inr ⟨b.1,0 * sz,rfl,Za8.of fun i p hp=>?_⟩⟩
 obtain ⟨x,rfl,hx1,hx2⟩:=g9 i p hp
 refine ⟨x,?_,by simp only [Reads];exact ⟨trivial,hx1⟩⟩
 simp only [World.cell?,hw2,g2,Nat.zero_mul,Nat.zero_add]
 exact hx2
theorem partReads {A:Nat->Prop} {m:Map} {st:St} {w:World} (hR:Rel W0 A m st.heap.get w) {r v sz:Nat} {lo len e:SX} {el:TypeId} {u:Value} (hl:lookS st r v=some (e,el,sz)) (ha:A r) (hf:(Fact.sub e lo (.bin .add lo len) sz).holds W0) (hf1:(Fact.upto lo 4294967296).holds W0) (hf2:(Fact.upto len 4294967296).holds W0) (hx:(AV.sliceS r v lo len sz).den m=some u) :
  ∃ (b:Nat × Nat) (p:PV),m r v=some b/\W0.ev (.sub e lo (.bin .add lo len) sz)=some p/\W0.heap.size<=b.1/\b.1 < w.heap.size/\∀ w2:World,w2.heap[b.1]?=w.heap[b.1]?->Reads w2 p u:=by
 obtain ⟨p,hp⟩:=hf
 obtain ⟨b,l,n',hb,h1,h2,rfl⟩:=Zas hR.sv hx
 obtain ⟨z1,f1,k1⟩:=hf1
 obtain ⟨z2,f2,k2⟩:=hf2
 rw [h1] at f1
 rw [h2] at f2
 simp only [Option.some.injEq,PV.v.injEq,Value.int.injEq,true_and,Int.ofNat_inj] at f1 f2
 subst f1
 subst f2
 obtain ⟨o,ho,hs,hv,_,_,_,hlt0⟩:=Zej hl
 obtain ⟨k,cs,c,fz,g1,g2,g3,g4,g5,g6,g7,g8,g9⟩:=Zba hl hR ha hb
 have hvm:(v,0) ∈ o.vers:=by rw [hv];simp
 have hw:IntKind.i64.wrap ((l:Int)+(n':Int))=(l:Int)+(n':Int):=by
  exact IntWalk.i64_in _ ⟨by omega,by omega⟩
 have hp':=hp
 simp only [Base.ev] at g1 h1 h2
 simp only [Base.ev,SX.ev,g1,h1,h2,Option.bind_some,binPV,decide_true,cond_true,hw] at hp'
 simp only [subPV,cond_eq_ite,Bool.and_eq_true,decide_eq_true_eq] at hp'
 split at hp'
 ·rename_i hc
  simp only [Option.some.injEq] at hp'
  have e1:((l:Int)+(n':Int)).toNat - (l:Int).toNat=n':=by omega
  have e2:(l:Int).toNat=l:=by omega
  rw [e1,e2] at hp'
  subst hp'
  refine ⟨b,_,hb,hp,(hR.abv r o v 0 b ha ho hvm hb).1 hlt0,hR.lt ha ho hvm hb,fun w2 hw2=>?_⟩
  simp only [Reads]
  refine ⟨some ⟨b.1,l * sz,none⟩,b.2 - l,rfl,by omega,by omega,.inr ⟨b.1,l * sz,rfl,Za8.of fun i q hq=>?_⟩⟩
  rw [List.getElem?_take] at hq
  split at hq
  ·rw [List.getElem?_drop] at hq
   obtain ⟨x,rfl,hx1,hx2⟩:=g9 _ q hq
   refine ⟨x,?_,by simp only [Reads];exact ⟨trivial,hx1⟩⟩
   simp only [World.cell?,hw2,g2]
   exact hx2
  ·cases hq
 ·cases hp'
def Zpi (st:St):AV->Option (SX × Bool × Log)
 | .slice r v lo sz len cap opn=>(look st r v).bind fun (o,n)=>cond (Nat.ble (lo * sz+len * sz) n && (cond opn (o.opn && Nat.beq o.esz sz && Nat.blt 0 sz && Nat.ble cap lo) (Nat.ble len cap && Nat.ble cap 9223372036854775807)))
   ((Zfc st (Zaw o (lo * sz) (len * sz))).map fun (es,_,lg)=>(.lit len es,false,(Log.sees r).or lg)) none
 | .sliceS r v lo len sz=>(lookS st r v).bind fun (e,el,esz)=>cond (isC0 lo && Nat.beq sz esz) (some (e,false,(Log.sees r).or (wantW e len)))
   (cond (Nat.beq sz esz) (some (.sub e lo (.bin .add lo len) sz,false,(Log.sees r).or ((Log.says (.sub e lo (.bin .add lo len) sz)).or ((Log.says (.upto lo 4294967296)).or (Log.says (.upto len 4294967296)))))) none)
 | x=>Zhb st x
theorem leafSX_ok {A:Nat->Prop} {m:Map} {st:St} {w:World} (hR:Rel W0 A m st.heap.get w) {x:AV} {e:SX} {ok:Bool} {lg:Log} {u:Value} (h:Zpi st x=some (e,ok,lg)) (hA:lg.Fits W0 A) (hx:x.den m=some u) :
  ∃ p,e.ev W0.s W0.F=some p/\Reads w p u/\(ok=true->∀ w2:World,(∀ k,May W0 A m st w k->w2.heap[k]?=w.heap[k]?)->Reads w2 p u):=by
 unfold Zpi at h
 split at h
 ·rename_i r v lo sz len cap opn
  simp only [Option.bind_eq_some_iff] at h
  obtain ⟨⟨o,n⟩,hlk,h⟩:=h
  obtain ⟨ho,hv⟩:=Ze6 hlk
  cases hc:(Nat.ble (lo * sz+len * sz) n && (cond opn (o.opn && Nat.beq o.esz sz && Nat.blt 0 sz && Nat.ble cap lo) (Nat.ble len cap && Nat.ble cap 9223372036854775807))) with
  | false=>simp [hc] at h
  | true =>
   simp only [hc,cond_true,Option.map_eq_some_iff] at h
   obtain ⟨⟨es,ok',l1⟩,hes,h⟩:=h
   cases h
   have ha:A r:=(or_A hA).1.1 r (by simp [Log.sees,Zah])
   simp only [AV.den,Option.map_eq_some_iff] at hx
   obtain ⟨b,hb,rfl⟩:=hx
   obtain ⟨b',hb',hB⟩:=hR.blkC r o ha ho (Zei hlk) v n hv
   rw [hb] at hb';cases hb'
   simp only [Bool.and_eq_true,Nat.ble_eq] at hc
   have hB':=hB
   obtain ⟨c,fz,hcc,_,hnl,hnc,_,hsize⟩:=hB'
   obtain ⟨l,hd,hll,_,hcell⟩:=hB.cells (P:=(default:Program)) hc.1
   have hcap:len<=(cond opn (b.2 - cap) cap)/\(cond opn (b.2 - cap) cap)<=maxLen:=by
    cases opn with
    | false=>simp only [cond_false] at hc ⊢;simp only [Bool.and_eq_true,Nat.ble_eq] at hc;exact ⟨hc.2.1,hc.2.2⟩
    | true =>
     simp only [cond_true,Bool.and_eq_true,Nat.beq_eq,Nat.blt_eq,Nat.ble_eq] at hc ⊢
     obtain ⟨hc1,⟨⟨hop,hez⟩,hpos⟩,hcl⟩:=hc
     simp only [hop,cond_true,hez] at hsize
     have:(lo+len) * sz<=b.2 * sz:=by rw [Nat.add_mul];omega
     have:=Nat.le_of_mul_le_mul_right this hpos
     unfold maxLen
     omega
   obtain ⟨ps,h1,h2,h3⟩:=Zeb hR hes (or_A hA).2 hd
   refine ⟨.row len ps,by simp [SX.ev,h1],?_,fun h=>by cases h⟩
   simp only [Reads]
   refine ⟨some ⟨b.1,lo * sz,none⟩,_,rfl,hcap.1,hcap.2,.inr ⟨b.1,lo * sz,rfl,Za8.of fun i p hp=>?_⟩⟩
   have hi:i < l.length:=by rw [<- h2];exact (List.getElem?_eq_some_iff.1 hp).1
   exact ⟨l[i],hcell i _ (List.getElem?_eq_getElem hi),(h3 i p _ hp (List.getElem?_eq_getElem hi)).1⟩
 ·rename_i r v lo len sz
  simp only [Option.bind_eq_some_iff] at h
  obtain ⟨⟨e',el,esz⟩,hl,h⟩:=h
  simp only [cond_eq_ite,Bool.and_eq_true,Nat.beq_eq] at h
  split at h
  ·rename_i hc
   have hz:=hc.2
   subst hz
   cases h
   have ha:A r:=(or_A hA).1.1 r (by simp [Log.sees,Zah])
   obtain ⟨b,n,cs,h1,h2,h3,_,_,h4⟩:=Zlw hR hl hc.1 ha (Zlq hR hl ha hx (or_A hA).2) hx
   exact ⟨_,h2,h4 w rfl,fun h=>by cases h⟩
  ·split at h
   ·rename_i hz
    subst hz
    cases h
    have ha:A r:=(or_A hA).1.1 r (by simp [Log.sees,Zah])
    obtain ⟨b,p,h1,h2,h3,_,h4⟩:=partReads hR hl ha ((or_A (or_A hA).2).1.2 _ (List.mem_singleton.2 rfl)) ((or_A (or_A (or_A hA).2).2).1.2 _ (List.mem_singleton.2 rfl)) ((or_A (or_A (or_A hA).2).2).2.2 _ (List.mem_singleton.2 rfl)) hx
    exact ⟨p,h2,h4 w rfl,fun h=>by cases h⟩
   ·cases h
 ·exact Zjr hR h hA hx
def Zjo (st:St):List AV->List Bool->Option (List SX × Log)
 | [],_=>some ([],Log.no)
 | x :: xs,lk=>(Zpi st x).bind fun (e,ok,l1)=>cond (ok || !(lk.headD false)) ((Zjo st xs lk.tail).map fun (es,l2)=>(e :: es,l1.or l2)) none
theorem leafAll_ok {A:Nat->Prop} {m:Map} {st:St} {w:World} (hR:Rel W0 A m st.heap.get w):∀ {xs:List AV} {lk:List Bool} {es:List SX} {lg:Log} {us:List Value},Zjo st xs lk=some (es,lg)->lg.Fits W0 A->denL m xs=some us →
  ∃ ps,evs W0.s W0.F es=some ps/\ps.length=us.length/\∀ (i:Nat) (p:PV) (u:Value),ps[i]?=some p->us[i]?=some u->Reads w p u/\(lk.getD i false=true->∀ w2:World,(∀ k,May W0 A m st w k->w2.heap[k]?=w.heap[k]?)->Reads w2 p u)
 | [],lk,es,lg,us,h,hA,hu=>by
  simp only [Zjo,Option.some.injEq,Prod.mk.injEq] at h
  obtain ⟨rfl,rfl⟩:=h
  simp only [denL,Option.some.injEq] at hu
  subst hu
  exact ⟨[],rfl,rfl,fun i p u hp=>by simp at hp⟩
 | x :: xs,lk,es,lg,us,h,hA,hu=>by
  simp only [Zjo,Option.bind_eq_some_iff] at h
  obtain ⟨⟨e,ok,l1⟩,he,h⟩:=h
  cases hc:(ok || !(lk.headD false)) with
  | false=>simp only [hc,cond_false] at h;cases h
  | true =>
   simp only [hc,cond_true,Option.map_eq_some_iff] at h
   obtain ⟨⟨es',l2⟩,hes,h⟩:=h
   cases h
   simp only [denL,Option.bind_eq_some_iff,Option.map_eq_some_iff] at hu
   obtain ⟨v,hv,us',hus,rfl⟩:=hu
   obtain ⟨p,h1,h2,h2'⟩:=leafSX_ok hR he (or_A hA).1 hv
   obtain ⟨ps,h3,h4,h5⟩:=leafAll_ok hR hes (or_A hA).2 hus
   refine ⟨p :: ps,by simp [evs,h1,h3],by simp [h4],fun i q u hq hu=>?_⟩
   cases i with
   | zero =>
    simp at hq hu
    subst hq;subst hu
    refine ⟨h2,fun hl=>h2' ?_⟩
    cases lk with
    | nil=>simp at hl
    | cons a lk=>simp at hl hc;subst hl;simpa using hc
   | succ i =>
    obtain ⟨h6,h7⟩:=h5 i q u (by simpa using hq) (by simpa using hu)
    refine ⟨h6,fun hl=>h7 ?_⟩
    cases lk with
    | nil=>simp at hl
    | cons a lk=>simpa using hl

def Zal:List CK->Nat->List Nat
 | [],_=>[]
 | .row :: ks,j=>j :: Zal ks (j+1)
 | _ :: ks,j=>Zal ks (j+1)
def outD (g:Nat->SX):List CK->Nat->Nat->Nat->List Nat->Option (List AV × List Fact × List Nat × List (Nat × TypeId × Nat))
 | [],_,_,_,p=>some ([],[],p,[])
 | .row :: ks,j,nx,no,p=>(outD g ks (j+1) (nx+1) no p).map fun (cs,fs,p',os)=>(.dat nx :: cs,fs,p',os)
 | .num :: ks,j,nx,no,p=>(outD g ks (j+1) nx no p).map fun (cs,fs,p',os)=>(.sym (g j) :: cs,.ok (g j) :: fs,p',os)
 | .truth :: ks,j,nx,no,p=>match p with
  | b :: p=>(outD g ks (j+1) nx no p).map fun (cs,fs,p',os)=>(.val (.bool (Nat.beq b 1)) :: cs,.is (g j) (.bool (Nat.beq b 1)) :: fs,p',os)
  | []=>none
 | .own el sz false :: ks,j,nx,no,p=>(outD g ks (j+1) nx (no+1) p).map fun (cs,fs,p',os)=>(.sliceS no 0 c0 (.len (g j)) sz :: cs,fs,p',(j,el,sz) :: os)
 | .own el sz true :: ks,j,nx,no,p=>match p with
  | 0 :: p=>(outD g ks (j+1) nx no p).map fun (cs,fs,p',os)=>(.val (.slice none 0 0) :: cs,.is (.len (g j)) (.int .i64 0) :: fs,p',os)
  | (_+1) :: p=>(outD g ks (j+1) nx (no+1) p).map fun (cs,fs,p',os)=>(.sliceS no 0 c0 (.len (g j)) sz :: cs,.rng c0 (.len (g j)) :: fs,p',(j,el,sz) :: os)
  | []=>none
theorem Zbw:∀ (ks:List CK) (j x:Nat),x ∈ Zal ks j->j<=x/\x < j+ks.length
 | [],j,x,h=>by simp [Zal] at h
 | .row :: ks,j,x,h=>by
  rcases List.mem_cons.1 h with rfl | h
  ·simp
  ·have:=Zbw ks (j+1) x h;simp;omega
 | .num :: ks,j,x,h=>by have:=Zbw ks (j+1) x h;simp;omega
 | .truth :: ks,j,x,h=>by have:=Zbw ks (j+1) x h;simp;omega
 | .own _ _ _ :: ks,j,x,h=>by have:=Zbw ks (j+1) x h;simp;omega
theorem outD_os {g:Nat->SX}:∀ (ks:List CK) (j nx no:Nat) (p:List Nat) {cs:List AV} {fs:List Fact} {p':List Nat} {os:List (Nat × TypeId × Nat)},outD g ks j nx no p=some (cs,fs,p',os) →
  os.length<=ks.length/\(∀ (t x:Nat) (el:TypeId) (sz:Nat),os[t]?=some (x,el,sz)->j<=x/\∃ may,ks[x - j]?=some (.own el sz may)/\(may=true->Fact.rng c0 (.len (g x)) ∈ fs))/\∀ (t t' x x':Nat) (el el':TypeId) (sz sz':Nat),os[t]?=some (x,el,sz)->os[t']?=some (x',el',sz')->x=x'->t=t':=by
 have key:∀ (k:CK) (ks:List CK) (j:Nat) {fs1 fs:List Fact} {os:List (Nat × TypeId × Nat)},(os.length<=ks.length/\(∀ (t x:Nat) (el:TypeId) (sz:Nat),os[t]?=some (x,el,sz)->j+1<=x/\∃ may,ks[x - (j+1)]?=some (.own el sz may)/\(may=true->Fact.rng c0 (.len (g x)) ∈ fs1))/\∀ (t t' x x':Nat) (el el':TypeId) (sz sz':Nat),os[t]?=some (x,el,sz)->os[t']?=some (x',el',sz')->x=x'->t=t')->(∀ f ∈ fs1,f ∈ fs) →
   os.length<=(k :: ks).length/\(∀ (t x:Nat) (el:TypeId) (sz:Nat),os[t]?=some (x,el,sz)->j<=x/\∃ may,(k :: ks)[x - j]?=some (.own el sz may)/\(may=true->Fact.rng c0 (.len (g x)) ∈ fs))/\∀ (t t' x x':Nat) (el el':TypeId) (sz sz':Nat),os[t]?=some (x,el,sz)->os[t']?=some (x',el',sz')->x=x'->t=t':=by
  intro k ks j fs1 fs os h hs
  refine ⟨by have:=h.1;simp;omega,fun t x el sz ht=>?_,h.2.2⟩
  obtain ⟨h1,may,h2,h3⟩:=h.2.1 t x el sz ht
  exact ⟨by omega,may,by rw [show x - j=(x - (j+1))+1 by omega];simpa using h2,fun hm=>hs _ (h3 hm)⟩
 have key2:∀ (el0:TypeId) (sz0:Nat) (may0:Bool) (ks:List CK) (j:Nat) {fs1 fs:List Fact} {os:List (Nat × TypeId × Nat)},(os.length<=ks.length/\(∀ (t x:Nat) (el:TypeId) (sz:Nat),os[t]?=some (x,el,sz)->j+1<=x/\∃ may,ks[x - (j+1)]?=some (.own el sz may)/\(may=true->Fact.rng c0 (.len (g x)) ∈ fs1))/\∀ (t t' x x':Nat) (el el':TypeId) (sz sz':Nat),os[t]?=some (x,el,sz)->os[t']?=some (x',el',sz')->x=x'->t=t')->(∀ f ∈ fs1,f ∈ fs)->(may0=true->Fact.rng c0 (.len (g j)) ∈ fs) →
   ((j,el0,sz0) :: os).length<=(CK.own el0 sz0 may0 :: ks).length/\(∀ (t x:Nat) (el:TypeId) (sz:Nat),((j,el0,sz0) :: os)[t]?=some (x,el,sz)->j<=x/\∃ may,(CK.own el0 sz0 may0 :: ks)[x - j]?=some (.own el sz may)/\(may=true->Fact.rng c0 (.len (g x)) ∈ fs))/\∀ (t t' x x':Nat) (el el':TypeId) (sz sz':Nat),((j,el0,sz0) :: os)[t]?=some (x,el,sz)->((j,el0,sz0) :: os)[t']?=some (x',el',sz')->x=x'->t=t':=by
  intro el0 sz0 may0 ks j fs1 fs os h hs h0
  refine ⟨by have:=h.1;simp;omega,fun t x el sz ht=>?_,fun t t' x x' el el' sz sz' ht ht' hx=>?_⟩
  ·cases t with
   | zero =>
    simp only [List.getElem?_cons_zero,Option.some.injEq,Prod.mk.injEq] at ht
    obtain ⟨rfl,rfl,rfl⟩:=ht
    exact ⟨Nat.le_refl _,may0,by simp,h0⟩
   | succ t =>
    obtain ⟨h1,may,h2,h3⟩:=h.2.1 t x el sz (by simpa using ht)
    exact ⟨by omega,may,by rw [show x - j=(x - (j+1))+1 by omega];simpa using h2,fun hm=>hs _ (h3 hm)⟩
  ·cases t with
   | zero =>
    simp only [List.getElem?_cons_zero,Option.some.injEq,Prod.mk.injEq] at ht
    cases t' with
    | zero=>rfl
    | succ t' =>
     have:=(h.2.1 t' x' el' sz' (by simpa using ht')).1
     omega
   | succ t =>
    cases t' with
    | zero =>
     simp only [List.getElem?_cons_zero,Option.some.injEq,Prod.mk.injEq] at ht'
     have:=(h.2.1 t x el sz (by simpa using ht)).1
     omega
    | succ t'=>rw [h.2.2 t t' x x' el el' sz sz' (by simpa using ht) (by simpa using ht') hx]
 intro ks
 induction ks with
 | nil =>
  intro j nx no p cs fs p' os h
  simp only [outD,Option.some.injEq,Prod.mk.injEq] at h
  obtain ⟨_,_,_,rfl⟩:=h
  exact ⟨Nat.le_refl _,fun t x el sz ht=>by simp at ht,fun t t' x x' el el' sz sz' ht=>by simp at ht⟩
 | cons k ks ih =>
  intro j nx no p cs fs p' os h
  match k,p,h with
  | .row,p,h =>
   simp only [outD,Option.map_eq_some_iff] at h
   obtain ⟨⟨cs',fs',p1,os'⟩,h1,he⟩:=h
   cases he
   exact key _ _ _ (ih _ _ _ _ h1) (fun f hf=>hf)
  | .num,p,h =>
   simp only [outD,Option.map_eq_some_iff] at h
   obtain ⟨⟨cs',fs',p1,os'⟩,h1,he⟩:=h
   cases he
   exact key _ _ _ (ih _ _ _ _ h1) (fun f hf=>by simp [hf])
  | .truth,[],h=>simp [outD] at h
  | .truth,b :: p,h =>
   simp only [outD,Option.map_eq_some_iff] at h
   obtain ⟨⟨cs',fs',p1,os'⟩,h1,he⟩:=h
   cases he
   exact key _ _ _ (ih _ _ _ _ h1) (fun f hf=>by simp [hf])
  | .own el sz false,p,h =>
   simp only [outD,Option.map_eq_some_iff] at h
   obtain ⟨⟨cs',fs',p1,os'⟩,h1,he⟩:=h
   cases he
   exact key2 _ _ _ _ _ (ih _ _ _ _ h1) (fun f hf=>hf) (fun h=>by cases h)
  | .own el sz true,[],h=>simp [outD] at h
  | .own el sz true,0 :: p,h =>
   simp only [outD,Option.map_eq_some_iff] at h
   obtain ⟨⟨cs',fs',p1,os'⟩,h1,he⟩:=h
   cases he
   exact key _ _ _ (ih _ _ _ _ h1) (fun f hf=>by simp [hf])
  | .own el sz true,(b+1) :: p,h =>
   simp only [outD,Option.map_eq_some_iff] at h
   obtain ⟨⟨cs',fs',p1,os'⟩,h1,he⟩:=h
   cases he
   exact key2 _ _ _ _ _ (ih _ _ _ _ h1) (fun f hf=>by simp [hf]) (fun _=>by simp)
theorem Ze5 {m:Map} (hs:∀ e,m.s e=W0.sv e) {g:Nat->SX} {val:Nat->Value} {w:World}:∀ (ks:List CK) (j nx no:Nat) (p:List Nat) {cs:List AV} {fs:List Fact} {p':List Nat} {os:List (Nat × TypeId × Nat)},outD g ks j nx no p=some (cs,fs,p',os)->(∀ f ∈ fs,f.holds W0) →
  (∀ i,j<=i->i < j+ks.length->∃ q,W0.ev (g i)=some q/\Reads w q (val i))->(∀ q x,(Zal ks j)[q]?=some x->∃ fp,m.d (nx+q)=some (val x,fp)) →
  (∀ (t x:Nat) (el:TypeId) (sz:Nat),os[t]?=some (x,el,sz)->∃ b cap n cs,m (no+t) 0=some (b,cap)/\W0.ev (g x)=some (.row n cs)/\val x=.slice (some ⟨b,0,none⟩) n cap) →
  (∀ i el sz,j<=i->ks[i - j]?=some (.own el sz true)->W0.ev (.len (g i))=some (.v (.int .i64 0))->val i=.slice none 0 0)->denL m cs=some ((List.range' j ks.length).map val)
 | [],j,nx,no,p,cs,fs,p',os,h,_,_,_,_,_=>by
  simp only [outD,Option.some.injEq,Prod.mk.injEq] at h
  obtain ⟨rfl,_⟩:=h
  rfl
 | .row :: ks,j,nx,no,p,cs,fs,p',os,h,hf,hv,hd,ho,hn=>by
  simp only [outD,Option.map_eq_some_iff] at h
  obtain ⟨⟨cs',fs',p1,os'⟩,h1,he⟩:=h
  cases he
  have ih:=Ze5 hs ks (j+1) (nx+1) no p h1 hf (fun i h1 h2=>hv i (by omega) (by simp;omega)) (fun q x hq=>by
   have:=hd (q+1) x (by simpa [Zal] using hq)
   rwa [show nx+(q+1)=nx+1+q by omega] at this) ho (fun i el sz hi hk=>hn i el sz (by omega) (by rw [show i - j=(i - (j+1))+1 by omega];simpa using hk))
  obtain ⟨fp,hfp⟩:=hd 0 j (by simp [Zal])
  obtain ⟨q,_,hq⟩:=hv j (Nat.le_refl _) (by simp)
  rw [Nat.add_zero] at hfp
  simp [denL,AV.den,hfp,hq.one,ih,List.range'_succ]
 | .num :: ks,j,nx,no,p,cs,fs,p',os,h,hf,hv,hd,ho,hn=>by
  simp only [outD,Option.map_eq_some_iff] at h
  obtain ⟨⟨cs',fs',p1,os'⟩,h1,he⟩:=h
  cases he
  have ih:=Ze5 hs ks (j+1) nx no p h1 (fun f h=>hf f (by simp [h])) (fun i h1 h2=>hv i (by omega) (by simp;omega)) (fun q x hq=>hd q x (by simpa [Zal] using hq)) ho (fun i el sz hi hk=>hn i el sz (by omega) (by rw [show i - j=(i - (j+1))+1 by omega];simpa using hk))
  obtain ⟨x,hx,ho⟩:=hf (.ok (g j)) (by simp)
  obtain ⟨q,hq1,hq⟩:=hv j (Nat.le_refl _) (by simp)
  rw [hx] at hq1
  cases hq1
  simp only [Reads] at hq
  rw [denL,Zdp hs hx ho]
  simp [ih,List.range'_succ,hq.1]
 | .truth :: ks,j,nx,no,[],cs,fs,p',os,h,hf,hv,hd,ho,hn=>by simp [outD] at h
 | .truth :: ks,j,nx,no,b :: p,cs,fs,p',os,h,hf,hv,hd,ho,hn=>by
  simp only [outD,Option.map_eq_some_iff] at h
  obtain ⟨⟨cs',fs',p1,os'⟩,h1,he⟩:=h
  cases he
  have ih:=Ze5 hs ks (j+1) nx no p h1 (fun f h=>hf f (by simp [h])) (fun i h1 h2=>hv i (by omega) (by simp;omega)) (fun q x hq=>hd q x (by simpa [Zal] using hq)) ho (fun i el sz hi hk=>hn i el sz (by omega) (by rw [show i - j=(i - (j+1))+1 by omega];simpa using hk))
  have hx:W0.ev (g j)=some (.v (.bool (Nat.beq b 1))):=hf (.is (g j) (.bool (Nat.beq b 1))) (by simp)
  obtain ⟨q,hq1,hq⟩:=hv j (Nat.le_refl _) (by simp)
  rw [hx] at hq1
  cases hq1
  simp only [Reads] at hq
  simp [denL,AV.den,ih,List.range'_succ,hq.1]
 | .own el sz false :: ks,j,nx,no,p,cs,fs,p',os,h,hf,hv,hd,ho,hn=>by
  simp only [outD,Option.map_eq_some_iff] at h
  obtain ⟨⟨cs',fs',p1,os'⟩,h1,he⟩:=h
  cases he
  have ih:=Ze5 hs ks (j+1) nx (no+1) p h1 hf (fun i h1 h2=>hv i (by omega) (by simp;omega)) (fun q x hq=>hd q x (by simpa [Zal] using hq)) (fun t x el sz ht=>by
   have:=ho (t+1) x el sz (by simpa using ht)
   rwa [show no+(t+1)=no+1+t by omega] at this) (fun i el sz hi hk=>hn i el sz (by omega) (by rw [show i - j=(i - (j+1))+1 by omega];simpa using hk))
  obtain ⟨b,cap,n,cs2,g1,g2,g3⟩:=ho 0 j el sz rfl
  rw [Nat.add_zero] at g1
  have:=Zgb (W0:=W0) (m:=m) (r:=no) (v:=0) (b:=(b,cap)) (lo:=c0) (len:=.len (g j)) (l:=0) (sz:=sz) hs g1 rfl (Zbx g2)
  simp only [Nat.zero_mul,Nat.sub_zero] at this
  rw [denL,this]
  simp [ih,List.range'_succ,g3]
 | .own el sz true :: ks,j,nx,no,[],cs,fs,p',os,h,hf,hv,hd,ho,hn=>by simp [outD] at h
 | .own el sz true :: ks,j,nx,no,0 :: p,cs,fs,p',os,h,hf,hv,hd,ho,hn=>by
  simp only [outD,Option.map_eq_some_iff] at h
  obtain ⟨⟨cs',fs',p1,os'⟩,h1,he⟩:=h
  cases he
  have ih:=Ze5 hs ks (j+1) nx no p h1 (fun f h=>hf f (by simp [h])) (fun i h1 h2=>hv i (by omega) (by simp;omega)) (fun q x hq=>hd q x (by simpa [Zal] using hq)) ho (fun i el sz hi hk=>hn i el sz (by omega) (by rw [show i - j=(i - (j+1))+1 by omega];simpa using hk))
  have hx:W0.ev (.len (g j))=some (.v (.int .i64 0)):=hf (.is (.len (g j)) (.int .i64 0)) (by simp)
  have:=hn j el sz (Nat.le_refl _) (by simp) hx
  simp [denL,AV.den,ih,List.range'_succ,this]
 | .own el sz true :: ks,j,nx,no,(b+1) :: p,cs,fs,p',os,h,hf,hv,hd,ho,hn=>by
  simp only [outD,Option.map_eq_some_iff] at h
  obtain ⟨⟨cs',fs',p1,os'⟩,h1,he⟩:=h
  cases he
  have ih:=Ze5 hs ks (j+1) nx (no+1) p h1 (fun f h=>hf f (by simp [h])) (fun i h1 h2=>hv i (by omega) (by simp;omega)) (fun q x hq=>hd q x (by simpa [Zal] using hq)) (fun t x el sz ht=>by
   have:=ho (t+1) x el sz (by simpa using ht)
   rwa [show no+(t+1)=no+1+t by omega] at this) (fun i el sz hi hk=>hn i el sz (by omega) (by rw [show i - j=(i - (j+1))+1 by omega];simpa using hk))
  obtain ⟨b,cap,n,cs2,g1,g2,g3⟩:=ho 0 j el sz rfl
  rw [Nat.add_zero] at g1
  have:=Zgb (W0:=W0) (m:=m) (r:=no) (v:=0) (b:=(b,cap)) (lo:=c0) (len:=.len (g j)) (l:=0) (sz:=sz) hs g1 rfl (Zbx g2)
  simp only [Nat.zero_mul,Nat.sub_zero] at this
  rw [denL,this]
  simp [ih,List.range'_succ,g3]
def Zc1:Sh->List AV->List AV
 | none :: s,u :: us=>u :: Zc1 s us
 | some n :: s,us=>.agg (us.take n) :: Zc1 s (us.drop n)
 | _,_=>[]
theorem Zd1 {m:Map}:∀ (s:Sh) (xs:List AV) {us:List Value},denL m xs=some us->us.length=shLen s->denL m (Zc1 s xs)=some (Zak s us)
 | [],xs,us,h,hl=>by
  have:us=[]:=List.eq_nil_of_length_eq_zero (by simpa [shLen] using hl)
  subst this
  have:=Zae h
  have:xs=[]:=List.eq_nil_of_length_eq_zero (by simpa using this.symm)
  subst this
  rfl
 | none :: s,[],us,h,hl=>by
  simp only [denL,Option.some.injEq] at h
  subst h
  simp [shLen] at hl
 | none :: s,x :: xs,us,h,hl=>by
  simp only [denL,Option.bind_eq_some_iff,Option.map_eq_some_iff] at h
  obtain ⟨v,hv,us',hus,rfl⟩:=h
  simp [Zc1,Zak,denL,hv,Zd1 s xs hus (by simpa [shLen] using hl)]
 | some n :: s,xs,us,h,hl=>by
  have ih:=Zd1 s (xs.drop n) (Zb1 n h) (by simp [shLen] at hl ⊢;omega)
  simp [Zc1,Zak,denL,AV.den,Zb0 n h,ih]
def Zl2 (s:Sh) (xs:List AV):AV:=match Zc1 s xs with | [x]=>x | xs=>.tuple xs
theorem answerA_ok {m:Map} {s:Sh} {xs:List AV} {us:List Value} (h:denL m xs=some us) (hl:us.length=shLen s):(Zl2 s xs).den m=some (Zec s us):=by
 have h1:=Zd1 s xs h hl
 unfold Zl2 Zec
 generalize Zc1 s xs=ys at *
 generalize Zak s us=vs at *
 have hlen:=Zae h1
 match ys,vs,hlen with
 | [],[],_=>rfl
 | [y],[v],_ =>
  simp only [denL,Option.bind_eq_some_iff,Option.map_eq_some_iff] at h1
  obtain ⟨v',hv,b,hb,he⟩:=h1
  cases he
  exact hv
 | y1 :: y2 :: ys,v1 :: v2 :: vs,_=>simp only [AV.den,h1,Option.map_some]

def Zhm:List (SX × TypeId × Nat)->Nat->T ARoot->T ARoot
 | [],_,h=>h
 | R :: Rs,n,h=>Zhm Rs (n+1) (T.set 24 h n (some (Zai R.1 R.2.1 R.2.2 0)))
theorem newOwns_get:∀ (Rs:List (SX × TypeId × Nat)) (n:Nat) (h:T ARoot) (r:Nat),n+Rs.length < 16777215->(¬ (n<=r/\r < n+Rs.length))->(Zhm Rs n h).get r=h.get r
 | [],n,h,r,_,_=>rfl
 | R :: Rs,n,h,r,hb,hr=>by
  simp only [List.length_cons] at hb hr
  rw [Zhm,newOwns_get Rs (n+1) _ r (by omega) (by omega),T.get_set _ _ _ _ _ (show n+1 < 16777216 by omega),if_neg (by omega)]
def St.owns (st:St) (es:List (SX × TypeId × Nat)):St:={ st with heap:=Zhm es st.next st.heap,next:=st.next+es.length }
theorem adoptS {A Tc:Nat->Prop} {m m1:Map} {g g1:Heap} {w w1:World} {r:Nat} {e:SX} {el:TypeId} {sz:Nat} {b:Nat × Nat} (S:Step W0 A Tc m g w m1 g1 w1) (hr1:∀ v,m1 r v=none) (hrow:RowAt W0 w1 (Zai e el sz 0) b e) (hb:w.heap.size<=b.1) (h0:W0.heap.size<=w.heap.size)
  (hno:∀ r' o v n b',A r'->g1 r'=some o->(v,n) ∈ o.vers->m1 r' v=some b'->b'.1 ≠ b.1) (hnd:∀ r' o R v fp,A r'->g1 r'=some o->o.dat=some R->m1.d r'=some (v,fp)->¬ fp b.1) :
  Step W0 A (fun k=>Tc k \/ k=r) m g w (m1.new r b) (g1.upd r (Zai e el sz 0)) w1:=by
 have hle:m1.Le (m1.new r b):=⟨fun k v x hx=>by
  show (if k=r/\v=0 then some b else m1 k v)=some x
  split
  ·rename_i h;rw [h.1,hr1 v] at hx;cases hx
  ·exact hx,fun _ _ h=>h,fun _ _ h=>h⟩
 have hmk:∀ k,k ≠ r->∀ v,(m1.new r b) k v=m1 k v:=fun k hk v=>by simp [Map.new,hk]
 have hmr:∀ v x,(m1.new r b) r v=some x->v=0/\x=b:=fun v x hx=>by
  by_cases hv:v=0
  ·subst hv;simp [Map.new] at hx;exact ⟨rfl,hx.symm⟩
  ·simp [Map.new,hv,hr1] at hx
 have hup:∀ k o,(g1.upd r (Zai e el sz 0)) k=some o->(k=r/\o=Zai e el sz 0) \/ (k ≠ r/\g1 k=some o):=fun k o ho=>by
  by_cases hk:k=r
  ·simp [Heap.upd,hk] at ho;exact .inl ⟨hk,ho.symm⟩
  ·simp [Heap.upd,hk] at ho;exact .inr ⟨hk,ho⟩
 have hR:=S.rel
 refine ⟨S.ext.trans hle,⟨?_,?_,?_,hR.size0,hR.amb,?_,?_,?_,hR.sv,hR.same,?_,?_⟩,fun k hk v=>?_,fun k hk=>S.dkeep k (fun h=>hk (.inl h)),fun k hk=>?_,S.os,S.tape,S.output,S.size,?_,?_,?_⟩
 ·intro k o hA ho v n hv
  rcases hup k o ho with ⟨rfl,rfl⟩ | ⟨hk,ho1⟩
  ·simp only [Zai,List.mem_singleton,Prod.mk.injEq] at hv
   obtain ⟨rfl,rfl⟩:=hv
   exact ⟨b,by simp [Map.new],hrow.blk⟩
  ·obtain ⟨b',hb',hB⟩:=hR.blk k o hA ho1 v n hv
   exact ⟨b',hle.1 _ _ _ hb',hB.mono hle rfl⟩
 ·intro k k' o o' v n v' n' b1 b2 hA hA' ho ho' hv hv' hb1 hb2 he
  rcases hup k o ho with ⟨rfl,rfl⟩ | ⟨hk,ho1⟩
  ·rcases hup k' o' ho' with ⟨rfl,rfl⟩ | ⟨hk',ho2⟩
   ·rfl
   ·exfalso
    obtain ⟨_,rfl⟩:=hmr v b1 hb1
    rw [hmk k' hk'] at hb2
    exact hno k' o' v' n' b2 hA' ho2 hv' hb2 he.symm
  ·rw [hmk k hk] at hb1
   rcases hup k' o' ho' with ⟨rfl,rfl⟩ | ⟨hk',ho2⟩
   ·exfalso
    obtain ⟨_,rfl⟩:=hmr v' b2 hb2
    exact hno k o v n b1 hA ho1 hv hb1 he
   ·rw [hmk k' hk'] at hb2
    exact hR.inj k k' o o' v n v' n' b1 b2 hA hA' ho1 ho2 hv hv' hb1 hb2 he
 ·intro k o v n rest hA ho hv v' hlt
  rcases hup k o ho with ⟨rfl,rfl⟩ | ⟨hk,ho1⟩
  ·have:¬ v'=0:=by omega
   simp [Map.new,this,hr1]
  ·rw [hmk k hk];exact hR.top k o v n rest hA ho1 hv v' hlt
 ·intro k o v n b1 hA ho hv hb1
  rcases hup k o ho with ⟨rfl,rfl⟩ | ⟨hk,ho1⟩
  ·obtain ⟨_,rfl⟩:=hmr v b1 hb1
   exact ⟨fun _=>Nat.le_trans h0 hb,fun h=>by cases h⟩
  ·rw [hmk k hk] at hb1;exact hR.abv k o v n b1 hA ho1 hv hb1
 ·intro k o R hA ho hd
  rcases hup k o ho with ⟨rfl,rfl⟩ | ⟨hk,ho1⟩
  ·cases hd
  ·exact hR.dat k o R hA ho1 hd
 ·intro k o R v fp k' o' u n b1 hA hA' ho hd hm ho' hu hb1 hfp
  rcases hup k o ho with ⟨rfl,rfl⟩ | ⟨hk,ho1⟩
  ·cases hd
  ·rcases hup k' o' ho' with ⟨rfl,rfl⟩ | ⟨hk',ho2⟩
   ·obtain ⟨_,rfl⟩:=hmr u b1 hb1
    exact hnd k o R v fp hA ho1 hd hm hfp
   ·rw [hmk k' hk'] at hb1
    exact hR.disj k o R v fp k' o' u n b1 hA hA' ho1 hd hm ho2 hu hb1 hfp
 ·intro k o R v fp hA ho hd hm
  rcases hup k o ho with ⟨rfl,rfl⟩ | ⟨hk,ho1⟩
  ·cases hd
  ·exact hR.fpb k o R v fp hA ho1 hd hm
 ·intro k o R v n b1 hA ho hs hv hb1
  rcases hup k o ho with ⟨rfl,rfl⟩ | ⟨hk,ho1⟩
  ·simp only [Zai,Option.some.injEq] at hs
   subst hs
   obtain ⟨_,rfl⟩:=hmr v b1 hb1
   exact hrow
  ·rw [hmk k hk] at hb1
   exact hR.row k o R v n b1 hA ho1 hs hv hb1
 ·have hk':k ≠ r:=fun h=>hk (.inr h)
  rw [hmk k hk'];exact S.mkeep k (fun h=>hk (.inl h)) v
 ·have hk':k ≠ r:=fun h=>hk (.inr h)
  simp only [Heap.upd,hk',if_false];exact S.gk k (fun h=>hk (.inl h))
 ·intro k hk hno'
  exact S.keep k hk (fun r' o v n b' ht=>hno' r' o v n b' (.inl ht))
 ·intro k o v n b1 ht ho hv hb1 hlt
  rcases hup k o ho with ⟨rfl,rfl⟩ | ⟨hk,ho1⟩
  ·obtain ⟨_,rfl⟩:=hmr v b1 hb1
   omega
  ·rw [hmk k hk] at hb1
   exact S.own k o v n b1 (ht.resolve_right hk) ho1 hv hb1 hlt
 ·intro k o R v fp hA ht ho hd hm q hq hlt
  rcases hup k o ho with ⟨rfl,rfl⟩ | ⟨hk,ho1⟩
  ·cases hd
  ·exact S.dfp k o R v fp hA (ht.resolve_right hk) ho1 hd hm q hq hlt
theorem adopts {A:Nat->Prop} {m:Map} {g:Heap} {w w1:World} (h0:W0.heap.size<=w.heap.size):∀ (es:List (SX × TypeId × Nat)) (bs:List (Nat × Nat)) {Tc:Nat->Prop} {m1:Map} {st1:St},bs.length=es.length->Step W0 A Tc m g w m1 st1.heap.get w1->Fresh A m1 st1.next->st1.next+es.length < 16777215->(∀ r,st1.next<=r->r < st1.next+es.length->A r) →
  (∀ (i:Nat) (e:SX × TypeId × Nat) (b:Nat × Nat),es[i]?=some e->bs[i]?=some b->RowAt W0 w1 (Zai e.1 e.2.1 e.2.2 0) b e.1/\w.heap.size<=b.1)->(∀ (i j:Nat) (bi bj:Nat × Nat),bs[i]?=some bi->bs[j]?=some bj->bi.1=bj.1->i=j) →
  (∀ r' o v n b',A r'->st1.heap.get r'=some o->(v,n) ∈ o.vers->m1 r' v=some b'->∀ b ∈ bs,b'.1 ≠ b.1)->(∀ r' o R v fp,A r'->st1.heap.get r'=some o->o.dat=some R->m1.d r'=some (v,fp)->∀ b ∈ bs,¬ fp b.1) →
  ∃ m2,Step W0 A (fun k=>Tc k \/ (st1.next<=k/\k < st1.next+es.length)) m g w m2 (st1.owns es).heap.get w1/\Fresh A m2 (st1.owns es).next/\m1.Le m2/\(∀ e,m2.s e=m1.s e)/\m2.d=m1.d/\∀ i b,bs[i]?=some b->m2 (st1.next+i) 0=some b
 | [],bs,Tc,m1,st1,hl,S,hF,_,_,_,_,_,_=>by
  have:bs=[]:=List.eq_nil_of_length_eq_zero hl
  subst this
  exact ⟨m1,S.more (fun k hk=>.inl hk),by simpa [St.owns] using hF,Map.Le.refl _,fun _=>rfl,rfl,fun i b hb=>by simp at hb⟩
 | e :: es,[],Tc,m1,st1,hl,S,hF,hlt,hA,hrow,hd,hno,hnd=>by simp at hl
 | e :: es,b :: bs,Tc,m1,st1,hl,S,hF,hlt,hA,hrow,hd,hno,hnd=>by
  simp only [List.length_cons] at hlt hA hl
  have ha:A st1.next:=hA _ (Nat.le_refl _) (by omega)
  obtain ⟨r1,r2⟩:=hrow 0 e b rfl rfl
  have S1:=adoptS S (hF st1.next ha (Nat.le_refl _)).1 r1 r2 h0 (fun r' o v n b' ha' ho hv hb'=>hno r' o v n b' ha' ho hv hb' b (by simp)) (fun r' o R v fp ha' ho hd' hm=>hnd r' o R v fp ha' ho hd' hm b (by simp))
  let st2:St:={ st1 with heap:=T.set 24 st1.heap st1.next (some (Zai e.1 e.2.1 e.2.2 0)),next:=st1.next+1 }
  have hg2:st2.heap.get=Heap.upd st1.heap.get st1.next (Zai e.1 e.2.1 e.2.2 0):=by
   funext k
   show (T.set 24 st1.heap st1.next _).get k=_
   rw [T.get_set _ _ _ _ _ (by omega)]
   rfl
  rw [<- hg2] at S1
  have hF2:Fresh A (m1.new st1.next b) st2.next:=fun r hr hr'=>by
   have hr2:st1.next+1<=r:=hr'
   have h:=hF r hr (by omega)
   have hne:¬ r=st1.next:=by omega
   exact ⟨fun v=>by simp [Map.new,hne,h.1 v],h.2⟩
  have hmr:∀ v x,(m1.new st1.next b) st1.next v=some x->x=b:=fun v x hx=>by
   by_cases hv:v=0
   ·subst hv;simp [Map.new] at hx;exact hx.symm
   ·simp [Map.new,hv,(hF st1.next ha (Nat.le_refl _)).1] at hx
  have hup:∀ k o,st2.heap.get k=some o->(k=st1.next/\o=Zai e.1 e.2.1 e.2.2 0) \/ (k ≠ st1.next/\st1.heap.get k=some o):=fun k o ho=>by
   rw [hg2] at ho
   by_cases hk:k=st1.next
   ·simp [Heap.upd,hk] at ho;exact .inl ⟨hk,ho.symm⟩
   ·simp [Heap.upd,hk] at ho;exact .inr ⟨hk,ho⟩
  have hbne:∀ b' ∈ bs,b.1 ≠ b'.1:=fun b' hb' he=>by
   obtain ⟨j,hj⟩:=List.getElem?_of_mem hb'
   have:=hd 0 (j+1) b b' rfl (by simpa using hj) he
   omega
  obtain ⟨m2,S2,F2,L2,s2,d2,at2⟩:=adopts h0 es bs (Tc:=fun k=>Tc k \/ k=st1.next) (m1:=m1.new st1.next b) (st1:=st2) (by omega) S1 hF2 (by show st1.next+1+es.length < _;omega) (fun r h1 h2=>hA r (by have:st1.next+1<=r:=h1;omega) (by have:r < st1.next+1+es.length:=h2;omega))
   (fun i e' b' he hb=>hrow (i+1) e' b' (by simpa using he) (by simpa using hb)) (fun i j bi bj hi hj he=>by have:=hd (i+1) (j+1) bi bj (by simpa using hi) (by simpa using hj) he;omega)
   (fun r' o v n b' ha' ho hv hb' b2 hb2=>by
    rcases hup r' o ho with ⟨rfl,rfl⟩ | ⟨hk,ho⟩
    ·rw [hmr v b' hb'];exact hbne b2 hb2
    ·have:(m1.new st1.next b) r' v=m1 r' v:=by simp [Map.new,hk]
     rw [this] at hb'
     exact hno r' o v n b' ha' ho hv hb' b2 (by simp [hb2]))
   (fun r' o R v fp ha' ho hd' hm b2 hb2=>by
    rcases hup r' o ho with ⟨rfl,rfl⟩ | ⟨hk,ho⟩
    ·cases hd'
    ·exact hnd r' o R v fp ha' ho hd' hm b2 (by simp [hb2]))
  have hle1:m1.Le (m1.new st1.next b):=⟨fun k v x hx=>by
   show (if k=st1.next/\v=0 then some b else m1 k v)=some x
   split
   ·rename_i h;rw [h.1,(hF st1.next ha (Nat.le_refl _)).1 v] at hx;cases hx
   ·exact hx,fun _ _ h=>h,fun _ _ h=>h⟩
  have hst:(st1.owns (e :: es))=st2.owns es:=by simp only [St.owns,Zhm,st2,List.length_cons,St.mk.injEq,true_and,and_true];omega
  refine ⟨m2,?_,by rw [hst];exact F2,hle1.trans L2,s2,d2,fun i b' hb'=>?_⟩
  ·rw [hst]
   refine S2.more (fun k hk=>?_)
   have e2:st2.next=st1.next+1:=rfl
   rw [e2] at hk
   simp only [List.length_cons]
   rcases hk with (hk | hk) | hk
   ·exact .inl hk
   ·exact .inr ⟨by omega,by omega⟩
   ·exact .inr ⟨by omega,by omega⟩
  ·cases i with
   | zero =>
    simp only [List.getElem?_cons_zero,Option.some.injEq] at hb'
    subst hb'
    exact L2.1 _ _ _ (by simp [Map.new])
   | succ i =>
    have:=at2 i b' (by simpa using hb')
    rwa [show st2.next+i=st1.next+(i+1) by show st1.next+1+i=_;omega] at this

def resSt (st:St) (g:Nat->SX) (ks:List CK) (p':List Nat) (os:List (Nat × TypeId × Nat)):St:=(St.dats { st with path:=p' } ((Zal ks 0).map fun j=>(g j,true))).owns (os.map fun o=>(g o.1,o.2.1,o.2.2))
def Zd4 (st:St) (ks:List CK) (os:List (Nat × TypeId × Nat)):Nat:=Za0 st.next ((Zal ks 0).length+os.length)
theorem Ze4:∀ (ks:List CK) (j x:Nat),x ∈ Zal ks j->ks[x - j]?=some .row
 | [],j,x,h=>by simp [Zal] at h
 | .row :: ks,j,x,h=>by
  rcases List.mem_cons.1 h with rfl | h
  ·simp
  ·have h1:=Zbw ks (j+1) x h
   rw [show x - j=(x - (j+1))+1 by omega]
   simpa using Ze4 ks (j+1) x h
 | .num :: ks,j,x,h=>by
  have h1:=Zbw ks (j+1) x h
  rw [show x - j=(x - (j+1))+1 by omega]
  simpa using Ze4 ks (j+1) x h
 | .truth :: ks,j,x,h=>by
  have h1:=Zbw ks (j+1) x h
  rw [show x - j=(x - (j+1))+1 by omega]
  simpa using Ze4 ks (j+1) x h
 | .own _ _ _ :: ks,j,x,h=>by
  have h1:=Zbw ks (j+1) x h
  rw [show x - j=(x - (j+1))+1 by omega]
  simpa using Ze4 ks (j+1) x h
theorem results {A:Nat->Prop} {m:Map} {st:St} {w w1:World} (hR:Rel W0 A m st.heap.get w) (hF:Fresh A m st.next) (hex:Ex w w1) {ks:List CK} {g:Nat->SX} {us:List Value} {qs:List PV} {ow:Nat->Option Nat} {cs:List AV} {fs:List Fact} {p':List Nat} {os:List (Nat × TypeId × Nat)}
  (hul:us.length=ks.length) (hql:qs.length=ks.length) (hev:∀ i q,qs[i]?=some q->W0.ev (g i)=some q) (how:Owns w w1 ks qs us ow)
  (hrd:∀ (i:Nat) (q:PV) (u:Value),qs[i]?=some q->us[i]?=some u->∀ w2:World,(∀ k,May W0 A m st w k \/ (w.heap.size<=k/\k < w1.heap.size)->(∀ j,j ≠ i->ow j ≠ some k)->w2.heap[k]?=w1.heap[k]?)->Reads w2 q u)
  (hout:outD g ks 0 st.next (st.next+(Zal ks 0).length) st.path=some (cs,fs,p',os)) (hfs:∀ f ∈ fs,f.holds W0) (hsm:st.next+(Zal ks 0).length+os.length < 16777215) (hA:∀ r,bit (Zd4 st ks os) r->A r) :
  ∃ m',Step W0 A (bit (Zd4 st ks os)) m st.heap.get w m' (resSt st g ks p' os).heap.get w1/\Fresh A m' (resSt st g ks p' os).next/\denL m' cs=some us:=by
 obtain ⟨d1,d2,d3⟩:=outD_os ks 0 _ _ _ hout
 have hbit:∀ r,bit (Zd4 st ks os) r ↔ (st.next<=r/\r < st.next+((Zal ks 0).length+os.length)):=fun r=>Za9 _ _ _
 have hq':∀ i,i < ks.length->∃ q u,qs[i]?=some q/\us[i]?=some u/\us.getD i undef=u:=fun i hi=>by
  have h1:i < qs.length:=by omega
  have h2:i < us.length:=by omega
  exact ⟨qs[i],us[i],List.getElem?_eq_getElem h1,List.getElem?_eq_getElem h2,by simp [List.getD,h2]⟩
 have hrowNo:∀ x,x ∈ Zal ks 0->ow x=none:=fun x hx=>by
  cases h:ow x with
  | none=>rfl
  | some b =>
   obtain ⟨el,sz,may,q,u,h1,_⟩:=how.at' x b h
   have:=Ze4 ks 0 x hx
   rw [Nat.sub_zero,h1] at this
   cases this
 obtain ⟨m1,hok,hd1,hd2⟩:=Zj0 (st:={ st with path:=p' }) (lg:=⟨0,Za0 st.next (Zal ks 0).length,[]⟩) hR hF hex ((Zal ks 0).map fun j=>(g j,true)) ((Zal ks 0).map fun i=>us.getD i undef)
  (fun _ k=>May W0 A m st w k \/ ((w.heap.size<=k/\k < w1.heap.size)/\∀ j,ow j ≠ some k)) (by simp) (by simp) (by simp;omega) (fun k k1 k2=>hA k ((hbit k).2 ⟨k1,by simp at k2;omega⟩)) (by
   intro i e u he hu
   rw [List.getElem?_map,Option.map_eq_some_iff] at he hu
   obtain ⟨x,hx,rfl⟩:=he
   obtain ⟨y,hy,rfl⟩:=hu
   rw [hx] at hy
   cases hy
   have hxm:=List.mem_of_getElem? hx
   have hxl:=(Zbw ks 0 x hxm).2
   obtain ⟨q,u,g1,g2,g3⟩:=hq' x (by omega)
   have hq:=hrd x q u g1 g2
   rw [g3]
   refine ⟨(hq w1 (fun _ _ _=>rfl)).one,?_,fun w2 hw2=>⟨q,hev x q g1,hq w2 (fun k hk hne=>hw2 k ?_)⟩⟩
   ·rintro k (hk | ⟨hk,_⟩)
    ·exact ⟨Nat.lt_of_lt_of_le hk.1 hex.size,fun _=>hk.2.1,fun _=>hk.2.2⟩
    ·exact ⟨hk.2,fun _=>.inr (Nat.le_trans hR.size0 hk.1),fun hlt=>absurd hk.1 (by omega)⟩
   ·rcases hk with hk | hk
    ·exact .inl hk
    ·refine .inr ⟨hk,fun j=>?_⟩
     by_cases hj:j=x
     ·rw [hj,hrowNo x hxm];simp
     ·exact hne j hj)
 have hblk:∀ (t x:Nat) (el:TypeId) (sz:Nat),os[t]?=some (x,el,sz)->∃ b n cap cs2,ow x=some b/\qs[x]?=some (.row n cs2)/\us[x]?=some (.slice (some ⟨b,0,none⟩) n cap)/\OwnAt w w1 el sz b (.row n cs2) (.slice (some ⟨b,0,none⟩) n cap):=fun t x el sz ht=>by
  obtain ⟨_,may,h1,h2⟩:=d2 t x el sz ht
  rw [Nat.sub_zero] at h1
  cases h:ow x with
  | none =>
   exfalso
   obtain ⟨h3,h4,h5⟩:=how.no x el sz may h1 h
   obtain ⟨k,z,mm,f1,f2,f3,f4⟩:=hfs _ (h2 h3)
   have:=Zbx (hev x _ h5)
   rw [f2] at this
   have f1':some (PV.v (.int .i64 0))=some (PV.v (.int k z)):=f1
   simp only [Option.some.injEq,PV.v.injEq,Value.int.injEq,true_and] at this f1'
   omega
  | some b =>
   obtain ⟨el',sz',may',q,u,h3,h4,h5,h6,_⟩:=how.at' x b h
   rw [h1] at h3
   cases h3
   have h6':=h6
   obtain ⟨_,_,n,cap,cs2,c,fz,rfl,rfl,_⟩:=h6
   exact ⟨b,n,cap,cs2,rfl,h4,h5,h6'⟩
 let bs:List (Nat × Nat):=os.map fun o=>((ow o.1).getD 0,match us.getD o.1 undef with | .slice _ _ cap=>cap | _=>0)
 have hbs:∀ (t x:Nat) (el:TypeId) (sz:Nat),os[t]?=some (x,el,sz)->∃ b n cap cs2,bs[t]?=some (b,cap)/\ow x=some b/\qs[x]?=some (.row n cs2)/\us[x]?=some (.slice (some ⟨b,0,none⟩) n cap)/\OwnAt w w1 el sz b (.row n cs2) (.slice (some ⟨b,0,none⟩) n cap):=fun t x el sz ht=>by
  obtain ⟨b,n,cap,cs2,h1,h2,h3,h4⟩:=hblk t x el sz ht
  refine ⟨b,n,cap,cs2,?_,h1,h2,h3,h4⟩
  simp only [bs,List.getElem?_map,ht,Option.map_some,h1,Option.getD_some,List.getD,h3]
 have hbsOf:∀ b' ∈ bs,∃ x b,ow x=some b/\b'.1=b/\w.heap.size<=b:=fun b' hb'=>by
  obtain ⟨t,ht⟩:=List.getElem?_of_mem hb'
  have hto:t < os.length:=by
   have:=(List.getElem?_eq_some_iff.1 ht).1
   simpa [bs] using this
  obtain ⟨b,n,cap,cs2,h1,h2,_,_,h5⟩:=hbs t _ _ _ (List.getElem?_eq_getElem hto)
  rw [ht] at h1
  cases h1
  exact ⟨_,b,h2,rfl,h5.1⟩
 have hnx:(St.dats { st with path:=p' } ((Zal ks 0).map fun j=>(g j,true))).next=st.next+(Zal ks 0).length:=by simp [St.dats]
 obtain ⟨m2,S2,F2,L2,s2,dd2,at2⟩:=adopts (W0:=W0) (A:=A) (m:=m) (g:=st.heap.get) (w:=w) (w1:=w1) hR.size0 (os.map fun o=>(g o.1,o.2.1,o.2.2)) bs (by simp [bs]) hok.step hok.fresh (by rw [hnx];simp;omega) (fun r h1 h2=>hA r ((hbit r).2 (by rw [hnx] at h1 h2;simp at h2;omega)))
  (fun i e b he hb=>by
   rw [List.getElem?_map,Option.map_eq_some_iff] at he
   obtain ⟨⟨x,el,sz⟩,hx,rfl⟩:=he
   obtain ⟨b1,n,cap,cs2,h1,h2,h3,h4,h5⟩:=hbs i x el sz hx
   rw [hb] at h1
   cases h1
   obtain ⟨k1,k2,n',cap',cs',c,fz,e1,e2,k3,k4,k5,k6,k7,k8,k9,k10⟩:=h5
   simp only [PV.row.injEq] at e1
   simp only [Value.slice.injEq,true_and] at e2
   obtain ⟨rfl,rfl⟩:=e1
   obtain ⟨_,rfl⟩:=e2
   exact ⟨⟨n,cs2,c,fz,hev x _ h3,k3,k4,k5,k6,k7,k8,k9,k10⟩,k1⟩)
  (fun i j bi bj hi hj he=>by
   have hil:i < os.length:=by have:=(List.getElem?_eq_some_iff.1 hi).1;simpa [bs] using this
   have hjl:j < os.length:=by have:=(List.getElem?_eq_some_iff.1 hj).1;simpa [bs] using this
   obtain ⟨b1,_,_,_,h1,h2,_⟩:=hbs i _ _ _ (List.getElem?_eq_getElem hil)
   obtain ⟨b2,_,_,_,h3,h4,_⟩:=hbs j _ _ _ (List.getElem?_eq_getElem hjl)
   rw [hi] at h1
   rw [hj] at h3
   cases h1
   cases h3
   simp only at he
   subst he
   exact d3 i j _ _ _ _ _ _ (List.getElem?_eq_getElem hil) (List.getElem?_eq_getElem hjl) (how.inj _ _ _ h2 h4))
  (fun r' o v n b' ha' ho hv hb' b2 hb2 he=>by
   obtain ⟨x,b,h1,h2,h3⟩:=hbsOf b2 hb2
   have hr':st.heap.get r'=some o:=by
    by_cases hr:st.next<=r'/\r' < st.next+(Zal ks 0).length
    ·exfalso
     have ho':(Zbg ((Zal ks 0).map fun j=>(g j,true)) st.next st.heap).get r'=some o:=ho
     rw [Zbp _ _ _ _ (by simp;omega),if_pos (by simpa using hr),Option.map_eq_some_iff] at ho'
     obtain ⟨R,_,rfl⟩:=ho'
     simp [Zcj] at hv
    ·have ho':(Zbg ((Zal ks 0).map fun j=>(g j,true)) st.next st.heap).get r'=some o:=ho
     rwa [Zbp _ _ _ _ (by simp;omega),if_neg (by simpa using hr)] at ho'
   obtain ⟨b0,hb0,_⟩:=hR.blk r' o ha' hr' v n hv
   have:=hok.step.ext.1 _ _ _ hb0
   rw [hb'] at this
   cases this
   have:=hR.lt ha' hr' hv hb0
   omega)
  (fun r' o R v fp ha' ho hd' hm b2 hb2 hfp=>by
   obtain ⟨x,b,h1,h2,h3⟩:=hbsOf b2 hb2
   have ho':(Zbg ((Zal ks 0).map fun j=>(g j,true)) st.next st.heap).get r'=some o:=ho
   by_cases hr:st.next<=r'/\r' < st.next+(Zal ks 0).length
   ·have hi:r' - st.next < (Zal ks 0).length:=by omega
    have:=hd1 (r' - st.next) (us.getD ((Zal ks 0)[r' - st.next]) undef) (by rw [List.getElem?_map,List.getElem?_eq_getElem hi];rfl)
    simp only [show st.next+(r' - st.next)=r' by omega] at this
    rw [hm] at this
    cases this
    rcases hfp with hk | ⟨_,hk⟩
    ·have:=hk.1;omega
    ·exact hk x (by rw [h1,h2])
   ·rw [Zbp _ _ _ _ (by simp;omega),if_neg (by simpa using hr)] at ho'
    have hm0:m.d r'=some (v,fp):=by
     have hk:=hok.step.dkeep r' (fun h=>hr ((Za9 _ _ _).1 h))
     rw [<- hk];exact hm
    obtain ⟨v',fp',hm',_,hlt,_⟩:=hR.dat r' o R ha' ho' hd'
    rw [hm0] at hm'
    cases hm'
    have:=hlt _ hfp
    omega)
 have hden:=Ze5 (W0:=W0) (w:=w1) (m:=m2) (val:=fun i=>us.getD i undef) (fun e=>by rw [s2];exact hok.rel.sv e) ks 0 st.next _ st.path hout hfs (fun i _ hi=>by
   obtain ⟨q,u,g1,g2,g3⟩:=hq' i (by omega)
   exact ⟨q,hev i q g1,by simp only [g3];exact hrd i q u g1 g2 w1 (fun _ _ _=>rfl)⟩)
  (fun q x hq=>⟨_,by rw [dd2];exact hd1 q _ (by rw [List.getElem?_map,hq];rfl)⟩)
  (fun t x el sz ht=>by
   obtain ⟨b,n,cap,cs2,h1,h2,h3,h4,_⟩:=hbs t x el sz ht
   refine ⟨b,cap,n,cs2,?_,hev x _ h3,by simp [List.getD,h4]⟩
   have:=at2 t _ h1
   rwa [hnx] at this)
  (fun i el sz _ hk h0=>by
   rw [Nat.sub_zero] at hk
   cases h:ow i with
   | none =>
    obtain ⟨_,h4,_⟩:=how.no i el sz true hk h
    simp [List.getD,h4]
   | some b =>
    exfalso
    obtain ⟨el',sz',may',q,u,h3,h4,h5,h6,h7⟩:=how.at' i b h
    rw [hk] at h3
    cases h3
    obtain ⟨n,cs2,rfl⟩:=h7 rfl
    have:=Zbx (hev i _ h4)
    rw [h0] at this
    simp only [Option.some.injEq,PV.v.injEq,Value.int.injEq,true_and] at this
    omega)
 have hus':(List.range' 0 ks.length).map (fun i=>us.getD i undef)=us:=by
  apply List.ext_getElem?
  intro i
  by_cases hi:i < us.length
  ·rw [List.getElem?_map,List.getElem?_range' (by omega)]
   simp [List.getD,hi]
  ·rw [List.getElem?_eq_none (by simp;omega),List.getElem?_eq_none (by omega)]
 rw [hus'] at hden
 refine ⟨m2,S2.more (fun k hk=>(hbit k).2 ?_),F2,hden⟩
 rcases hk with hk | hk
 ·have:=(Za9 _ _ _).1 hk
  omega
 ·rw [hnx] at hk
  simp at hk
  omega

def Zmy (f:FuncId) (E:FnE) (args:List AV) (st:St):Option (ARet × St × Log):=(Zbb E.ins args).bind fun ls=>(Zjo st ls E.leaks).bind fun (es,lA)=>(outD (.fn E.k es) E.kinds 0 st.next (st.next+(Zal E.kinds 0).length) st.path).bind fun (cs,fs,p',os) =>
 cond (Nat.blt (st.next+(Zal E.kinds 0).length+os.length) 16777215 && Nat.beq E.kinds.length (shLen E.outs))
  (some (.ret (Zl2 E.outs cs),resSt st (.fn E.k es) E.kinds p' os,⟨lA.A ||| Zd4 st E.kinds os,Zd4 st E.kinds os,.fn f E es :: (lA.V++fs)⟩)) none
def orcFn (tab:FuncId->Option FnE):Orc:=fun f args st=>(tab f).bind fun E=>Zmy f E args st
theorem Zd6:∀ (ks:List CK) (j:Nat),(Zal ks j).length<=ks.length
 | [],j=>Nat.le_refl _
 | .row :: ks,j=>by simp [Zal,Zd6 ks]
 | .num :: ks,j=>by have:=Zd6 ks (j+1);simp [Zal];omega
 | .truth :: ks,j=>by have:=Zd6 ks (j+1);simp [Zal];omega
 | .own _ _ _ :: ks,j=>by have:=Zd6 ks (j+1);simp [Zal];omega
theorem callFn_ok {f:FuncId} {E:FnE} {args:List AV} {st st':St} {r:ARet} {lg:Log} (hr:Zmy f E args st=some (r,st',lg)) (W0:Base) (A:Nat->Prop) (m:Map) (w:World) (vs:List Value) (hA:lg.Fits W0 A) (hR:Rel W0 A m st.heap.get w) (hF:Fresh A m st.next) (hvs:denL m args=some vs) :
  Calls Try.prog f vs.toArray w (CPost W0 A m st w r st' lg):=by
 simp only [Zmy,Option.bind_eq_some_iff] at hr
 obtain ⟨ls,hls,⟨es,lA⟩,hes,⟨cs,fs,p',os⟩,hout,hr⟩:=hr
 cases hc:(Nat.blt (st.next+(Zal E.kinds 0).length+os.length) 16777215 && Nat.beq E.kinds.length (shLen E.outs)) with
 | false=>simp [hc] at hr
 | true =>
  simp only [hc,cond_true,Option.some.injEq,Prod.mk.injEq] at hr
  obtain ⟨rfl,rfl,rfl⟩:=hr
  simp only [Bool.and_eq_true,Nat.blt_eq,Nat.beq_eq] at hc
  have hlA:lA.Fits W0 A:=⟨fun r hr=>hA.1 r (Zat hr),fun f hf=>hA.2 f (by simp [hf])⟩
  obtain ⟨us,hus,hul,rfl⟩:=Zc9 E.ins args hls hvs
  obtain ⟨ps,hps,hpl,hrd⟩:=leafAll_ok hR hes hlA hus
  obtain ⟨htold,ps',qs,hps',hqs⟩:=hA.2 (.fn f E es) (by simp)
  rw [hps] at hps'
  cases hps'
  refine (htold w (May W0 A m st w) us ps qs hqs hpl.symm (by omega) (fun k hk=>hk.1) hrd).mono ?_
  rintro e w' ⟨us',ow,h1,h2,how,h3,rfl,hex⟩
  obtain ⟨m',S,F',hden⟩:=results hR hF hex (g:=.fn E.k es) (by omega) (by omega) (fun i q hq=>by simp [Base.ev,SX.ev,hps,hqs,hq]) how h3 hout (fun f hf=>hA.2 f (by simp [hf])) hc.1 (fun r hr=>hA.1 r (Za2 hr))
  exact ⟨m',⟨S,F'⟩,_,answerA_ok hden (by omega),rfl⟩
theorem Zls {st:St} {g:Nat->SX} {ks:List CK} {p':List Nat} {os:List (Nat × TypeId × Nat)} {lg:Log} (hsm:st.next+(Zal ks 0).length+os.length < 16777215) (h:∀ r,bit (Zd4 st ks os) r->bit lg.T r):Gk st (resSt st g ks p' os) lg:=by
 intro r hr
 have hr':¬ (st.next<=r/\r < st.next+((Zal ks 0).length+os.length)):=fun h'=>hr (h r ((Za9 _ _ _).2 h'))
 show (Zhm _ (st.next+((Zal ks 0).map fun j=>(g j,true)).length) (Zbg _ st.next st.heap)).get r=_
 rw [newOwns_get _ _ _ _ (by simp;omega) (by simp;omega),Zbp _ _ _ _ (by simp;omega),if_neg (by simp;omega)]
theorem callFn_gk {f:FuncId} {E:FnE} {args:List AV} {st st':St} {r:ARet} {lg:Log} (hr:Zmy f E args st=some (r,st',lg)):Gk st st' lg:=by
 simp only [Zmy,Option.bind_eq_some_iff] at hr
 obtain ⟨ls,hls,⟨es,lA⟩,hes,⟨cs,fs,p',os⟩,hout,hr⟩:=hr
 cases hc:(Nat.blt (st.next+(Zal E.kinds 0).length+os.length) 16777215 && Nat.beq E.kinds.length (shLen E.outs)) with
 | false=>simp [hc] at hr
 | true =>
  simp only [hc,cond_true,Option.some.injEq,Prod.mk.injEq] at hr
  obtain ⟨rfl,rfl,rfl⟩:=hr
  simp only [Bool.and_eq_true,Nat.blt_eq,Nat.beq_eq] at hc
  exact Zls hc.1 (fun r hr=>hr)
theorem Zax (tab:FuncId->Option FnE):OrcOk Try.prog (orcFn tab):=by
 refine ⟨?_,?_⟩
 ·intro f args st r st' lg hr W0 A m w vs hA hR hF hvs
  simp only [orcFn,Option.bind_eq_some_iff] at hr
  obtain ⟨E,hE,hr⟩:=hr
  exact callFn_ok hr W0 A m w vs hA hR hF hvs
 ·intro f args st r st' lg hr
  simp only [orcFn,Option.bind_eq_some_iff] at hr
  obtain ⟨E,hE,hr⟩:=hr
  exact callFn_gk hr
end Go.Proofs.Ytgdegpifjljnoaa.eng
end

section
/- The engine: a contract out of a run. -/
namespace Go.Proofs.Ytgdegpifjljnoaa.eng
open Go Go.RowKit
variable {W0 : Base}

theorem Zge:∀ (s:Sh) (xs:List AV) {ls:List AV},Zbb s xs=some ls->s.length=xs.length
 | [],[],ls,h=>rfl
 | [],_ :: _,ls,h=>by simp [Zbb] at h
 | none :: s,[],ls,h=>by simp [Zbb] at h
 | some n :: s,[],ls,h=>by simp [Zbb] at h
 | none :: s,x :: xs,ls,h=>by
  simp only [Zbb,Option.map_eq_some_iff] at h
  obtain ⟨l,hl,rfl⟩:=h
  simp [Zge s xs hl]
 | some n :: s,x :: xs,ls,h=>by
  simp only [Zbb,Option.bind_eq_some_iff] at h
  obtain ⟨cs,hcs,h⟩:=h
  cases hn:Nat.beq cs.length n with
  | false=>simp [hn] at h
  | true =>
   simp only [hn,cond_true,Option.map_eq_some_iff] at h
   obtain ⟨l,hl,rfl⟩:=h
   simp [Zge s xs hl]
def Zhl (s:Sh) (y:AV):Option (List AV):=match s,y with
 | [_],y=>some [y]
 | _,.tuple cs=>some cs
 | _,.val (.tuple vs)=>some (vs.toList.map .val)
 | _,_=>none
theorem Zij {m:Map} {s:Sh} {y:AV} {ys ls:List AV} {v:Value} (h:Zhl s y=some ys) (hv:y.den m=some v) (hl:Zbb s ys=some ls):∃ us,denL m ls=some us/\us.length=shLen s/\v=Zec s us:=by
 have hlen:=Zge s ys hl
 have key:∀ vs:List Value,denL m ys=some vs->(vs.length ≠ 1->v=.tuple vs.toArray)->(∀ u,vs=[u]->v=u)->∃ us,denL m ls=some us/\us.length=shLen s/\v=Zec s us:=by
  intro vs hvs h1 h2
  obtain ⟨us,g1,g2,g3⟩:=Zc9 s ys hl hvs
  refine ⟨us,g1,g2,?_⟩
  unfold Zec
  rw [<- g3]
  match vs,h1,h2 with
  | [],h1,_=>exact h1 (by simp)
  | [u],_,h2=>exact h2 u rfl
  | a :: b :: c,h1,_=>exact h1 (by simp)
 unfold Zhl at h
 split at h
 ·simp only [Option.some.injEq] at h
  subst h
  exact key [v] (by simp [denL,hv]) (fun h=>absurd rfl h) (fun u hu=>by simpa using hu)
 ·rename_i s1 cs hne
  simp only [Option.some.injEq] at h
  subst h
  simp only [AV.den,Option.map_eq_some_iff] at hv
  obtain ⟨vs,hvs,rfl⟩:=hv
  refine key vs hvs (fun _=>rfl) (fun u hu=>?_)
  exfalso
  have:=Zae hvs
  rw [hu] at this
  match s,hlen,hne with
  | [],hlen,_=>simp at hlen this;omega
  | [x],_,hne=>exact hne x rfl
  | _ :: _ :: _,hlen,_=>simp at hlen this;omega
 ·rename_i s1 vs hne
  simp only [Option.some.injEq] at h
  subst h
  simp only [AV.den,Option.some.injEq] at hv
  subst hv
  refine key vs.toList (Zbl m _) (fun _=>by simp) (fun u hu=>?_)
  exfalso
  simp only [List.length_map] at hlen
  rw [hu] at hlen
  match s,hlen,hne with
  | [],hlen,_=>simp at hlen
  | [x],_,hne=>exact hne x rfl
  | _ :: _ :: _,hlen,_=>simp at hlen
 ·cases h

def resSX (st:St):AV->Option (SX × Log)
 | .slice r v lo sz len cap opn=>(look st r v).bind fun (o,n)=>cond (!o.lent && Nat.ble (lo * sz+len * sz) n && (cond opn (o.opn && Nat.beq o.esz sz && Nat.blt 0 sz && Nat.ble cap lo) (Nat.ble len cap && Nat.ble cap 9223372036854775807)))
   ((Zfc st (Zaw o (lo * sz) (len * sz))).bind fun (es,ok,lg)=>cond ok (some (.lit len es,(Log.sees r).or lg)) none) none
 | .sliceS r v lo len sz=>(lookS st r v).bind fun (e,el,esz)=>cond (isC0 lo && Nat.beq sz esz) (some (e,(Log.sees r).or (wantW e len)))
   (cond (Nat.beq sz esz) (some (.sub e lo (.bin .add lo len) sz,(Log.sees r).or ((Log.says (.sub e lo (.bin .add lo len) sz)).or ((Log.says (.upto lo 4294967296)).or (Log.says (.upto len 4294967296)))))) none)
 | x=>(Zhb st x).bind fun (e,ok,lg)=>cond ok (some (e,lg)) none
def Mine (W0:Base) (w:World) (k:Nat):Prop:=k < w.heap.size/\(W0.fp k \/ W0.heap.size<=k)
def Zjj:AV->Option Nat | .slice r ..=>some r | .sliceS r ..=>some r | _=>none
def Zor (A:Nat->Prop) (m:Map) (st:St) (x:AV) (k:Nat):Prop:=∀ r' o v n (b:Nat × Nat),A r'->st.heap.get r'=some o->(v,n) ∈ o.vers->m r' v=some b->b.1=k->Zjj x=some r'
theorem may_noRoot {A:Nat->Prop} {m:Map} {st:St} {w:World} (hR:Rel W0 A m st.heap.get w) {k:Nat} (h:May W0 A m st w k) (x:AV):Zor A m st x k:=fun r' o v n b ha ho hv hb he=>by
 obtain ⟨r3,o3,e3,v3,fp3,a3,h3,d3,m3,k3⟩:=h.2.2
 exact absurd (he ▸ k3) (hR.disj r3 o3 e3 v3 fp3 r' o v n b a3 ha h3 d3 m3 ho hv hb)
theorem resSX_ok {A:Nat->Prop} {m:Map} {st:St} {w:World} (hR:Rel W0 A m st.heap.get w) {x:AV} {e:SX} {lg:Log} {u:Value} (h:resSX st x=some (e,lg)) (hA:lg.Fits W0 A) (hx:x.den m=some u) :
  ∃ p,e.ev W0.s W0.F=some p/\∀ w2:World,(∀ k,Mine W0 w k->Zor A m st x k->w2.heap[k]?=w.heap[k]?)->Reads w2 p u:=by
 unfold resSX at h
 split at h
 ·rename_i r v lo sz len cap opn
  simp only [Option.bind_eq_some_iff] at h
  obtain ⟨⟨o,n⟩,hlk,h⟩:=h
  obtain ⟨ho,hv⟩:=Ze6 hlk
  cases hc:(!o.lent && Nat.ble (lo * sz+len * sz) n && (cond opn (o.opn && Nat.beq o.esz sz && Nat.blt 0 sz && Nat.ble cap lo) (Nat.ble len cap && Nat.ble cap 9223372036854775807))) with
  | false=>simp [hc] at h
  | true =>
   simp only [hc,cond_true,Option.bind_eq_some_iff] at h
   obtain ⟨⟨es,ok,l1⟩,hes,h⟩:=h
   cases ok with
   | false=>simp at h
   | true =>
    simp only [cond_true,Option.some.injEq,Prod.mk.injEq] at h
    obtain ⟨rfl,rfl⟩:=h
    have ha:A r:=(or_A hA).1.1 r (by simp [Log.sees,Zah])
    simp only [AV.den,Option.map_eq_some_iff] at hx
    obtain ⟨b,hb,rfl⟩:=hx
    obtain ⟨b',hb',hB⟩:=hR.blkC r o ha ho (Zei hlk) v n hv
    rw [hb] at hb';cases hb'
    simp only [Bool.and_eq_true,Nat.ble_eq,Bool.not_eq_true'] at hc
    obtain ⟨⟨hlt0,hc1⟩,hc2⟩:=hc
    have hc:lo * sz+len * sz<=n/\_:=⟨hc1,hc2⟩
    have hB':=hB
    obtain ⟨c,fz,hcc,_,hnl,hnc,_,hsize⟩:=hB'
    obtain ⟨l,hd,hll,_,hcell⟩:=hB.cells (P:=(default:Program)) hc.1
    have hcap:len<=(cond opn (b.2 - cap) cap)/\(cond opn (b.2 - cap) cap)<=maxLen:=by
     cases opn with
     | false=>simp only [cond_false] at hc ⊢;simp only [Bool.and_eq_true,Nat.ble_eq] at hc;exact ⟨hc.2.1,hc.2.2⟩
     | true =>
      simp only [cond_true,Bool.and_eq_true,Nat.beq_eq,Nat.blt_eq,Nat.ble_eq] at hc ⊢
      obtain ⟨hc1,⟨⟨hop,hez⟩,hpos⟩,hcl⟩:=hc
      simp only [hop,cond_true,hez] at hsize
      have:(lo+len) * sz<=b.2 * sz:=by rw [Nat.add_mul];omega
      have:=Nat.le_of_mul_le_mul_right this hpos
      unfold maxLen
      omega
    obtain ⟨ps,h1,h2,h3⟩:=Zeb hR hes (or_A hA).2 hd
    refine ⟨.row len ps,by simp [SX.ev,h1],fun w2 hw2=>?_⟩
    have hbm:w2.heap[b.1]?=w.heap[b.1]?:=hw2 b.1 ⟨hR.lt ha ho hv hb,.inr ((hR.abv r o v n b ha ho hv hb).1 hlt0)⟩ (fun r' o' v' n' b' ha' ho' hv' hb' he=>by rw [hR.inj r' r o' o v' n' v n b' b ha' ha ho' ho hv' hv hb' hb he];rfl)
    simp only [Reads]
    refine ⟨some ⟨b.1,lo * sz,none⟩,_,rfl,hcap.1,hcap.2,.inr ⟨b.1,lo * sz,rfl,Za8.of fun i p hp=>?_⟩⟩
    have hi:i < l.length:=by rw [<- h2];exact (List.getElem?_eq_some_iff.1 hp).1
    refine ⟨l[i],?_,(h3 i p _ hp (List.getElem?_eq_getElem hi)).2 rfl w2 (fun k hk=>hw2 k ⟨hk.1,hk.2.1⟩ (may_noRoot hR hk _))⟩
    rw [<- hcell i _ (List.getElem?_eq_getElem hi)]
    simp only [World.cell?,hbm]
 ·rename_i r v lo len sz
  simp only [Option.bind_eq_some_iff] at h
  obtain ⟨⟨e',el,esz⟩,hl,h⟩:=h
  simp only [cond_eq_ite,Bool.and_eq_true,Nat.beq_eq] at h
  split at h
  ·rename_i hc
   have hz:=hc.2
   subst hz
   cases h
   have ha:A r:=(or_A hA).1.1 r (by simp [Log.sees,Zah])
   obtain ⟨b,n,cs,h1,h2,h3,h5,h6,h4⟩:=Zlw hR hl hc.1 ha (Zlq hR hl ha hx (or_A hA).2) hx
   obtain ⟨o,ho,_,hvs,_⟩:=Zej hl
   exact ⟨_,h2,fun w2 hw2=>h4 w2 (hw2 b.1 ⟨h6,.inr h5⟩ (fun r' o' v' n' b' ha' ho' hv' hb' he=>by rw [hR.inj r' r o' o v' n' v 0 b' b ha' ha ho' ho hv' (by rw [hvs];exact List.mem_singleton.2 rfl) hb' h1 he];rfl))⟩
  ·split at h
   ·rename_i hz
    subst hz
    cases h
    have ha:A r:=(or_A hA).1.1 r (by simp [Log.sees,Zah])
    have hA2:=(or_A hA).2
    obtain ⟨b,p,h1,h2,h5,h6,h4⟩:=partReads hR hl ha ((or_A hA2).1.2 _ (List.mem_singleton.2 rfl)) ((or_A (or_A hA2).2).1.2 _ (List.mem_singleton.2 rfl)) ((or_A (or_A hA2).2).2.2 _ (List.mem_singleton.2 rfl)) hx
    obtain ⟨o,ho,_,hvs,_⟩:=Zej hl
    exact ⟨_,h2,fun w2 hw2=>h4 w2 (hw2 b.1 ⟨h6,.inr h5⟩ (fun r' o' v' n' b' ha' ho' hv' hb' he=>by rw [hR.inj r' r o' o v' n' v 0 b' b ha' ha ho' ho hv' (by rw [hvs];exact List.mem_singleton.2 rfl) hb' h1 he];rfl))⟩
   ·cases h
 ·simp only [Option.bind_eq_some_iff] at h
  obtain ⟨⟨e',ok,l1⟩,he,h⟩:=h
  cases ok with
  | false=>simp at h
  | true =>
   simp only [cond_true,Option.some.injEq,Prod.mk.injEq] at h
   obtain ⟨rfl,rfl⟩:=h
   obtain ⟨p,h1,_,h2⟩:=Zjr hR he hA hx
   exact ⟨p,h1,fun w2 hw2=>h2 rfl w2 (fun k hk=>hw2 k ⟨hk.1,hk.2.1⟩ (may_noRoot hR hk _))⟩
def Zes (st:St):List AV->Option (List SX × Log)
 | []=>some ([],Log.no)
 | x :: xs=>(resSX st x).bind fun (e,l1)=>(Zes st xs).map fun (es,l2)=>(e :: es,l1.or l2)
theorem Zd7 {A:Nat->Prop} {m:Map} {st:St} {w:World} (hR:Rel W0 A m st.heap.get w):∀ {xs:List AV} {es:List SX} {lg:Log} {us:List Value},Zes st xs=some (es,lg)->lg.Fits W0 A->denL m xs=some us →
  ∃ ps,evs W0.s W0.F es=some ps/\ps.length=us.length/\∀ (i:Nat) (p:PV) (u:Value) (x:AV),ps[i]?=some p->us[i]?=some u->xs[i]?=some x->∀ w2:World,(∀ k,Mine W0 w k->Zor A m st x k->w2.heap[k]?=w.heap[k]?)->Reads w2 p u
 | [],es,lg,us,h,hA,hu=>by
  simp only [Zes,Option.some.injEq,Prod.mk.injEq] at h
  obtain ⟨rfl,rfl⟩:=h
  simp only [denL,Option.some.injEq] at hu
  subst hu
  exact ⟨[],rfl,rfl,fun i p u x hp=>by simp at hp⟩
 | x :: xs,es,lg,us,h,hA,hu=>by
  simp only [Zes,Option.bind_eq_some_iff,Option.map_eq_some_iff] at h
  obtain ⟨⟨e,l1⟩,he,⟨es',l2⟩,hes,h⟩:=h
  cases h
  simp only [denL,Option.bind_eq_some_iff,Option.map_eq_some_iff] at hu
  obtain ⟨v,hv,us',hus,rfl⟩:=hu
  obtain ⟨p,h1,h2⟩:=resSX_ok hR he (or_A hA).1 hv
  obtain ⟨ps,h3,h4,h5⟩:=Zd7 hR hes (or_A hA).2 hus
  refine ⟨p :: ps,by simp [evs,h1,h3],by simp [h4],fun i q u y hq hu hy=>?_⟩
  cases i with
  | zero=>simp at hq hu hy;subst hq;subst hu;subst hy;exact h2
  | succ i=>exact h5 i q u y (by simpa using hq) (by simpa using hu) (by simpa using hy)

mutual
theorem Reads.keep {w w2:World} (h:∀ k,k < w.heap.size->w2.heap[k]?=w.heap[k]?):∀ (p:PV) {u:Value},Reads w p u->Reads w2 p u
 | .v x,u,hr=>by simp only [Reads] at hr ⊢;exact hr
 | .row n cs,u,hr=>by
  simp only [Reads] at hr ⊢
  obtain ⟨a,cap,h1,h2,h3,h4⟩:=hr
  refine ⟨a,cap,h1,h2,h3,?_⟩
  rcases h4 with h4 | ⟨b,off,h4,h5⟩
  ·exact .inl h4
  ·exact .inr ⟨b,off,h4,Za8.keep h b cs off h5⟩
theorem Za8.keep {w w2:World} (h:∀ k,k < w.heap.size->w2.heap[k]?=w.heap[k]?) (b:Nat):∀ (cs:List PV) (off:Nat),Za8 w b cs off->Za8 w2 b cs off
 | [],off,_=>by simp [Za8]
 | c :: cs,off,hr=>by
  simp only [Za8] at hr ⊢
  obtain ⟨⟨u,hu,hc⟩,hs⟩:=hr
  refine ⟨⟨u,?_,Reads.keep h c hc⟩,Za8.keep h b cs (off+1) hs⟩
  have hb:b < w.heap.size:=World.block_lt_of_cell? w ⟨b,off,none⟩ hu
  rw [<- hu]
  simp only [World.cell?,h b hb]
end

def Zmn (E:FnE) (inK:List CK) (path:List Nat):Option (List AV × St × List Fact):=(outD .var inK 0 0 0 path).bind fun (cs,fs,p',os) =>
 cond (Nat.beq inK.length (shLen E.ins) && Nat.blt inK.length 16777215 && inK.all CK.plain) (some (Zc1 E.ins cs,⟨Zbg ((Zal inK 0).map fun j=>(.var j,E.leaks.getD j false)) 0 .nil,(Zal inK 0).length,p'⟩,fs)) none
def runTo (P:Program) (O:Orc) (n:Nat) (f:FuncId) (E:FnE) (inK:List CK) (path:List Nat) (H:FuncId->Oper->Option Hint:=fun _ _=>none):Option (List Fact × List SX) :=
 (Zmn E inK path).bind fun (args,st,fs)=>((Zpe P O n H).call f args st).bind fun (r,st',lg)=>match r with
  | .pan _=>none
  | .ret y=>(Zhl E.outs y).bind fun ys=>(Zbb E.outs ys).bind fun ls=>(Zes st' ls).bind fun (es,l2)=>some (fs++(lg.V++l2.V),es)

theorem Zgy {E:FnE} {inK:List CK} {path:List Nat} {args:List AV} {st:St} {fs:List Fact} (h:Zmn E inK path=some (args,st,fs)) {w:World} {FP:Nat->Prop} {us:List Value} {ps:List PV} {F:Fns} {X:Nat->Prop} (hul:us.length=ps.length) (hpl:ps.length=shLen E.ins) (hFP:∀ k,FP k->k < w.heap.size)
  (hrd:∀ (i:Nat) (p:PV) (u:Value),ps[i]?=some p->us[i]?=some u->Reads w p u/\(E.leaks.getD i false=true->∀ w2:World,(∀ k,FP k->w2.heap[k]?=w.heap[k]?)->Reads w2 p u)) (hf:∀ x ∈ fs,x.holds ⟨w,fun i=>ps[i]?,F,FP,X⟩) :
  ∃ m,Rel ⟨w,fun i=>ps[i]?,F,FP,X⟩ (fun _=>True) m st.heap.get w/\Fresh (fun _=>True) m st.next/\denL m args=some (Zak E.ins us)/\(∀ r o,st.heap.get r=some o->o.vers=[])/\(∀ r v fp,m.d r=some (v,fp)->∀ k,fp k->FP k \/ ∃ x,x < us.length/\E.leaks.getD x false=false):=by
 simp only [Zmn,Option.bind_eq_some_iff] at h
 obtain ⟨⟨cs,fs',p',os⟩,hout,h⟩:=h
 cases hc:(Nat.beq inK.length (shLen E.ins) && Nat.blt inK.length 16777215 && inK.all CK.plain) with
 | false=>simp [hc] at h
 | true =>
  simp only [hc,cond_true,Option.some.injEq,Prod.mk.injEq] at h
  obtain ⟨rfl,rfl,rfl⟩:=h
  simp only [Bool.and_eq_true,Nat.beq_eq,Nat.blt_eq] at hc
  obtain ⟨hc,hplain⟩:=hc
  have hnoOwn:∀ (i:Nat) (el:TypeId) (sz:Nat) (may:Bool),inK[i]? ≠ some (.own el sz may):=fun i el sz may hi=>by
   have:=List.all_eq_true.1 hplain _ (List.mem_of_getElem? hi)
   simp [CK.plain] at this
  obtain ⟨_,hos,_⟩:=outD_os inK 0 _ _ _ hout
  let B:Base:=⟨w,fun i=>ps[i]?,F,FP,X⟩
  let m:Map:=⟨fun _ _=>none,fun r=>((Zal inK 0)[r]?).bind fun x=>(us[x]?).map fun u=>(u,fun k=>(E.leaks.getD x false=true/\FP k) \/ (E.leaks.getD x false=false/\k < w.heap.size)),B.sv⟩
  have hrl:=Zd6 inK 0
  have hget:∀ r o,(Zbg ((Zal inK 0).map fun j=>((.var j:SX),E.leaks.getD j false)) 0 .nil).get r=some o->∃ x p u,(Zal inK 0)[r]?=some x/\ps[x]?=some p/\us[x]?=some u/\o=Zcj (.var x,E.leaks.getD x false):=by
   intro r o ho
   rw [Zbp _ _ _ _ (by simp;omega)] at ho
   split at ho
   ·rename_i hr
    rw [List.getElem?_map] at ho
    simp only [Option.map_map,Option.map_eq_some_iff] at ho
    obtain ⟨x,hx,rfl⟩:=ho
    rw [Nat.sub_zero] at hx
    have hxl:=(Zbw inK 0 x (List.mem_of_getElem? hx)).2
    have h1:x < ps.length:=by omega
    have h2:x < us.length:=by omega
    exact ⟨x,ps[x],us[x],hx,List.getElem?_eq_getElem h1,List.getElem?_eq_getElem h2,rfl⟩
   ·simp [T.get] at ho
  have hv:∀ r o,(Zbg ((Zal inK 0).map fun j=>((.var j:SX),E.leaks.getD j false)) 0 .nil).get r=some o->o.vers=[]:=fun r o ho=>by
   obtain ⟨x,p,u,_,_,_,rfl⟩:=hget r o ho
   rfl
  have hmd:∀ r x u,(Zal inK 0)[r]?=some x->us[x]?=some u->m.d r=some (u,fun k=>(E.leaks.getD x false=true/\FP k) \/ (E.leaks.getD x false=false/\k < w.heap.size)):=fun r x u hx hu=>by simp [m,hx,hu]
  have hrel:Rel B (fun _=>True) m (Zbg ((Zal inK 0).map fun j=>((.var j:SX),E.leaks.getD j false)) 0 .nil).get w:=by
   refine ⟨?_,?_,?_,Nat.le_refl _,fun _ _ _=>rfl,?_,?_,?_,fun e=>rfl,⟨rfl,rfl,rfl⟩,?_,fun r o e v n b _ ho _ hvn=>by rw [hv r o ho] at hvn;cases hvn⟩
   ·intro r o _ ho v n hvn;rw [hv r o ho] at hvn;cases hvn
   ·intro r r' o o' v n v' n' b b' _ _ ho _ hvn;rw [hv r o ho] at hvn;cases hvn
   ·intro r o v n rest _ ho hvn;rw [hv r o ho] at hvn;cases hvn
   ·intro r o v n b _ ho hvn;rw [hv r o ho] at hvn;cases hvn
   ·intro r o e _ ho hd
    obtain ⟨x,p,u,h1,h2,h3,rfl⟩:=hget r o ho
    simp only [Zcj,Option.some.injEq] at hd
    subst hd
    obtain ⟨g1,g2⟩:=hrd x p u h2 h3
    refine ⟨u,_,hmd r x u h1 h3,g1.one,?_,fun w2 hw2=>⟨p,by simpa [Base.ev,SX.ev] using h2,?_⟩⟩
    ·rintro k (⟨_,hk⟩ | ⟨_,hk⟩)
     ·exact hFP k hk
     ·exact hk
    ·cases hl:E.leaks.getD x false with
     | true=>exact g2 hl w2 (fun k hk=>hw2 k (.inl ⟨hl,hk⟩))
     | false=>exact Reads.keep (fun k hk=>hw2 k (.inr ⟨hl,hk⟩)) p g1
   ·intro r o R v fp r' o' u n b _ _ _ _ _ ho' hvn;rw [hv r' o' ho'] at hvn;cases hvn
   ·intro r o e v fp _ ho hd hm hro k hk
    obtain ⟨x,p,u,h1,h2,h3,rfl⟩:=hget r o ho
    rw [hmd r x u h1 h3] at hm
    cases hm
    simp only [Zcj] at hro
    rcases hk with ⟨_,hk⟩ | ⟨hl,_⟩
    ·exact .inl hk
    ·rw [hro] at hl;cases hl
  refine ⟨m,hrel,?_,?_,hv,?_⟩
  ·intro r _ hr
   refine ⟨fun v=>rfl,?_⟩
   have:(Zal inK 0)[r]?=none:=List.getElem?_eq_none hr
   simp [m,this]
  ·have hden:=Ze5 (W0:=B) (w:=w) (m:=m) (val:=fun i=>us.getD i undef) (fun e=>rfl) inK 0 0 0 path hout hf (fun i _ hi=>by
    have h1:i < ps.length:=by omega
    have h2:i < us.length:=by omega
    refine ⟨ps[i],by simp [Base.ev,SX.ev,B,h1],?_⟩
    have:=(hrd i ps[i] us[i] (List.getElem?_eq_getElem h1) (List.getElem?_eq_getElem h2)).1
    simpa [List.getD,h2] using this) (fun q x hq=>by
    have hxl:=(Zbw inK 0 x (List.mem_of_getElem? hq)).2
    have h2:x < us.length:=by omega
    rw [Nat.zero_add]
    exact ⟨_,by rw [hmd q x us[x] hq (List.getElem?_eq_getElem h2)];simp [List.getD,h2];rfl⟩)
    (fun t x el sz ht=>by obtain ⟨_,may,h,_⟩:=hos t x el sz ht;exact absurd h (hnoOwn _ _ _ _)) (fun i el sz _ hi _=>absurd hi (hnoOwn _ _ _ _))
   have hus':(List.range' 0 inK.length).map (fun i=>us.getD i undef)=us:=by
    apply List.ext_getElem?
    intro i
    by_cases hi:i < us.length
    ·rw [List.getElem?_map,List.getElem?_range' (by omega)]
     simp [List.getD,hi]
    ·rw [List.getElem?_eq_none (by simp;omega),List.getElem?_eq_none (by omega)]
   rw [hus'] at hden
   exact Zd1 E.ins cs hden (by omega)
  ·intro r v fp hm k hk
   simp only [m,Option.bind_eq_some_iff,Option.map_eq_some_iff,Prod.mk.injEq] at hm
   obtain ⟨x,hx,u,hu,rfl,rfl⟩:=hm
   rcases hk with ⟨_,h⟩ | ⟨h,_⟩
   ·exact .inl h
   ·exact .inr ⟨x,(List.getElem?_eq_some_iff.1 hu).1,h⟩

theorem Zjg (hM:Try.prog.follows .mixedOrders=true) (hN:GoodP Try.prog) {f:FuncId} {E:FnE} {spec:List PV->Option (List PV)} (F:Fns) (inK:List CK)
  (h:∀ ps qs,spec ps=some qs->ps.length=shLen E.ins->∃ O n path H fs es,OrcOk Try.prog O/\runTo Try.prog O n f E inK path H=some (fs,es)/\(∀ w FP,∀ x ∈ fs,x.holds ⟨w,fun i=>ps[i]?,F,FP,fun _=>False⟩)/\evs (fun i=>ps[i]?) F es=some qs) (hpl0:E.kinds.all CK.plain=true:=by rfl):ToldF f E spec:=by
 intro w FP us ps qs hsp hul hpl hFP hrd
 obtain ⟨O,n,path,H,fs,es,hO,hrun,hfacts,hqs⟩:=h ps qs hsp hpl
 simp only [runTo,Option.bind_eq_some_iff] at hrun
 obtain ⟨⟨args,st,fs0⟩,hst,⟨r,st',lg⟩,hcall,hrun⟩:=hrun
 cases r with
 | pan v=>simp at hrun
 | ret y =>
  simp only [Option.bind_eq_some_iff] at hrun
  obtain ⟨ys,hys,ls,hls,⟨es',l2⟩,hes,hrun⟩:=hrun
  simp only [Option.some.injEq,Prod.mk.injEq] at hrun
  obtain ⟨rfl,rfl⟩:=hrun
  have hf:=hfacts w FP
  obtain ⟨m,hR,hF,hargs,hv0,_⟩:=Zgy hst hul hpl hFP hrd (fun x hx=>hf x (by simp [hx]))
  refine ((theEng_ok hN hM hO n).call f args st _ _ _ hcall ⟨w,fun i=>ps[i]?,F,FP,fun _=>False⟩ (fun _=>True) m w _ ⟨fun _ _=>trivial,fun x hx=>hf x (by simp [hx])⟩ hR hF hargs).mono ?_
  rintro e w' ⟨m',hok,v,hv,rfl⟩
  obtain ⟨us',h1,h2,rfl⟩:=Zij hys hv hls
  obtain ⟨qs',h3,h4,h5⟩:=Zd7 hok.rel hes ⟨fun _ _=>trivial,fun x hx=>hf x (by simp [hx])⟩ h1
  rw [hqs] at h3
  cases h3
  have hll:=Zae h1
  refine ⟨us',fun _=>none,h4.symm,by omega,Zd8 hpl0,fun i q u hq hu w2 hw2=>h5 i q u _ hq hu (List.getElem?_eq_getElem (show i < ls.length by have:=(List.getElem?_eq_some_iff.1 hu).1;omega)) w2 (fun k hk _=>hw2 k ?_ (fun _ _ h=>by cases h)),rfl,?_⟩
  ·rcases hk.2 with h | h
   ·exact .inl h
   ·exact .inr ⟨h,hk.1⟩
  ·exact ⟨hok.rel.same.1,hok.rel.same.2.1,hok.rel.same.2.2,hok.rel.size0,fun k hk=>hok.rel.amb k hk (fun h=>h)⟩
end Go.Proofs.Ytgdegpifjljnoaa.eng
end

section
/- The engine: states of a call by their shape; pieces of code from shape to shape; loops; a contract out of pieces. -/
namespace Go.Proofs.Ytgdegpifjljnoaa.eng
open Go Go.RowKit
variable {W0 : Base}

inductive Pt where
 | leaf
 | ptr (j idx sz sub:Nat)
 | agg (n:Nat)
 | own (j k sz:Nat)
 | nil
 | map (j:Nat)
 deriving Inhabited
structure BoxT where
 elem:TypeId
 esz:Nat
 opn:Bool
 cells:List Pt
 own:Option Nat
 lent:Bool
 deriving Inhabited
def BoxT.mp (b:BoxT):Bool:=b.own.isSome && Nat.beq b.esz 0
structure Shape where
 slots:List (Nat × Pt)
 boxes:List BoxT
 rows:List (Option Bool)
 n:Nat
 f:FuncId
 deriving Inhabited

def Zfa:List (Option Bool)->Nat->Nat->List AV
 | [],_,_=>[]
 | some _ :: ks,i,q=>.dat q :: Zfa ks (i+1) (q+1)
 | none :: ks,i,q=>.sym (.var i) :: Zfa ks (i+1) q
def Zay:List (Option Bool)->Nat->List (SX × Bool)
 | [],_=>[]
 | some b :: ks,i=>(.var i,b) :: Zay ks (i+1)
 | none :: ks,i=>Zay ks (i+1)
def fillP:List Pt->List AV->Option (List AV × List AV)
 | [],ls=>some ([],ls)
 | .leaf :: ps,l :: ls=>(fillP ps ls).map fun (xs,r)=>(l :: xs,r)
 | .leaf :: _,[]=>none
 | .ptr j idx sz sub :: ps,ls=>(fillP ps ls).map fun (xs,r)=>(.ptr j 0 idx sz sub :: xs,r)
 | .own j k sz :: ps,ls=>(fillP ps ls).map fun (xs,r)=>(.sliceS j 0 c0 (.len (.var k)) sz :: xs,r)
 | .nil :: ps,ls=>(fillP ps ls).map fun (xs,r)=>(.val (.slice none 0 0) :: xs,r)
 | .map j :: ps,ls=>(fillP ps ls).map fun (xs,r)=>(.mapV j :: xs,r)
 | .agg n :: ps,ls=>cond (Nat.ble n ls.length) ((fillP ps (ls.drop n)).map fun (xs,r)=>(.agg (ls.take n) :: xs,r)) none
def fillB:List BoxT->List AV->Option (List (List AV) × List AV)
 | [],ls=>some ([],ls)
 | b :: bs,ls=>(fillP b.cells ls).bind fun (xs,r)=>(fillB bs r).map fun (yss,r')=>(xs :: yss,r')
def tmOf:List Nat->List AV->T AV->T AV
 | t :: ts,y :: ys,tm=>tmOf ts ys (T.set 24 tm t (some y))
 | _,_,tm=>tm
def Zbt (b:BoxT) (cells:List AV):ARoot:={ cells,elem:=b.elem,esz:=b.esz,ro:=false,opn:=b.opn,vers:=[(0,cells.length)],sym:=b.own.map SX.var,lent:=b.lent,mp:=b.mp }
def Zfd:List BoxT->List (List AV)->Nat->T ARoot->T ARoot
 | b :: bs,c :: cs,j,h=>Zfd bs cs (j+1) (T.set 24 h j (some (Zbt b c)))
 | _,_,_,h=>h
def Zg5:List BoxT->Nat->Bool
 | [],_=>true
 | b :: bs,k=>match b.own with
  | none=>Zg5 bs k
  | some k'=>Nat.beq k k' && b.cells.isEmpty && Zg5 bs (k+1)
def ownsN:List BoxT->Nat
 | []=>0
 | b :: bs=>match b.own with
  | none=>ownsN bs
  | some _=>ownsN bs+1
def small (l:List Nat):Bool:=l.all fun t=>Nat.blt (t+1) 16777216
def canon (sh:Shape) (path:List Nat):Option (AAct × St) :=
 (fillP (sh.slots.map (·.2)) (Zfa sh.rows 0 sh.boxes.length)).bind fun (xs,r)=>(fillB sh.boxes r).bind fun (css,r') =>
  cond (r'.isEmpty && small (sh.slots.map (·.1)) && Nat.blt (sh.boxes.length+sh.rows.length) 16777215 && Zg5 sh.boxes sh.rows.length)
   (some ({ tm:=tmOf (sh.slots.map (·.1)) xs .nil,n:=sh.n,defers:=[],f:=sh.f },⟨Zbg (Zay sh.rows 0) sh.boxes.length (Zfd sh.boxes css 0 .nil),sh.boxes.length+(Zay sh.rows 0).length,path⟩)) none

structure At (B:Base) (m:Map) (x:AAct) (st:St) (a:Act) (w:World):Prop where
 rel:Rel B (fun _=>True) m st.heap.get w
 fresh:Fresh (fun _=>True) m st.next
 tm:TRel m x a
def Base.with (B:Base) (ps:List PV):Base:={ B with s:=fun i=>ps[i]? }
def Zao (B:Base) (sh:Shape) (ps:List PV) (a:Act) (w:World):Prop:=∃ x st m,canon sh []=some (x,st)/\ps.length=sh.rows.length+ownsN sh.boxes/\At (B.with ps) m x st a w

def isNil:AV->Bool | .val (.slice none n c)=>Nat.beq n 0 && Nat.beq c 0 | _=>false
theorem isNil_ok {x:AV} (h:isNil x=true):x=.val (.slice none 0 0):=by
 unfold isNil at h
 split at h
 ·simp only [Bool.and_eq_true,Nat.beq_eq] at h
  obtain ⟨rfl,rfl⟩:=h
  rfl
 ·cases h
def Zaq (rho:List (Nat × Nat)):List Pt->List AV->Option (List AV)
 | [],[]=>some []
 | .leaf :: ps,x :: xs=>(Zaq rho ps xs).map (x :: ·)
 | .ptr j idx sz sub :: ps,.ptr r v idx' sz' sub' :: xs=>match rho[j]? with
  | some (r',v')=>cond (Nat.beq r r' && Nat.beq v v' && Nat.beq idx idx' && Nat.beq sz sz' && Nat.beq sub sub') (Zaq rho ps xs) none
  | none=>none
 | .agg n :: ps,x :: xs=>x.aggs.bind fun cs=>cond (Nat.beq cs.length n) ((Zaq rho ps xs).map (cs++·)) none
 | .own j k sz :: ps,.sliceS r v lo len sz' :: xs=>match rho[j]? with
  | some (r',v')=>cond (Nat.beq r r' && Nat.beq v v' && Nat.beq sz sz' && isC0 lo) (Zaq rho ps xs) none
  | none=>none
 | .nil :: ps,x :: xs=>cond (isNil x) (Zaq rho ps xs) none
 | .map j :: ps,.mapV r :: xs=>match rho[j]? with
  | some (r',v')=>cond (Nat.beq r r' && Nat.beq v' 0) (Zaq rho ps xs) none
  | none=>none
 | _,_=>none
def Zbu:List Pt->List AV->List (Nat × Nat × SX)
 | .own j k sz :: ps,.sliceS r v lo len sz' :: xs=>(j,k,len) :: Zbu ps xs
 | _ :: ps,_ :: xs=>Zbu ps xs
 | _,_=>[]
def Zcb:List BoxT->List (List AV)->List (Nat × Nat × SX)
 | b :: bs,c :: cs=>Zbu b.cells c++Zcb bs cs
 | _,_=>[]
def lookX (st:St) (r v:Nat):Option SX:=(st.heap.get r).bind fun o=>o.sym.bind fun e=>match o.vers with
 | [(v',0)]=>cond (Nat.beq v v' && !o.ro && !o.lent) (some e) none
 | _=>none
theorem Zly {st:St} {r v:Nat} {e:SX} (h:lookX st r v=some e):∃ o,st.heap.get r=some o/\o.sym=some e/\o.vers=[(v,0)]/\o.ro=false/\o.lent=false:=by
 simp only [lookX,Option.bind_eq_some_iff] at h
 obtain ⟨o,ho,e',he,h⟩:=h
 split at h
 ·rename_i v' hv
  simp only [cond_eq_ite,Bool.and_eq_true,Nat.beq_eq,Bool.not_eq_true'] at h
  split at h
  ·rename_i hc
   obtain ⟨⟨rfl,hro⟩,hlt⟩:=hc
   cases h
   exact ⟨o,ho,he,hv,hro,hlt⟩
  ·cases h
 ·cases h
theorem RowAt.ev {W0:Base} {w:World} {o:ARoot} {b:Nat × Nat} {e:SX} (h:RowAt W0 w o b e):∃ n cs,W0.ev e=some (.row n cs):=by
 cases hm:o.mp with
 | true =>
  cases ho:o.opn with
  | true=>obtain ⟨cs,es,ck,h1,_⟩:=h.mi hm ho;exact ⟨_,cs,h1⟩
  | false=>obtain ⟨cs,es,ck,h1,_⟩:=h.m hm ho;exact ⟨_,cs,h1⟩
 | false=>obtain ⟨n,cs,c,fz,h1,_⟩:=h.c hm;exact ⟨n,cs,h1⟩
def ownSX (st:St):List (Nat × Nat)->List BoxT->Option (List SX)
 | r :: rs,b :: bs=>match b.own with
  | none=>ownSX st rs bs
  | some _=>(lookX st r.1 r.2).bind fun e=>(ownSX st rs bs).map (e :: ·)
 | [],[]=>some []
 | _,_=>none
def Zop (st:St) (rho:List (Nat × Nat)) (j:Nat):SX:=match rho[j]? with | some r=>(match lookX st r.1 r.2 with | some e=>e | none=>c0) | none=>c0
def Zpc (bs:List BoxT) (l:List (Nat × Nat × SX)):Bool:=l.all fun t=>match bs[t.1]? with | some b=>(match b.own with | some k=>Nat.beq k t.2.1 | none=>false) | none=>false
def usesF (st:St) (rho:List (Nat × Nat)) (l:List (Nat × Nat × SX)):List Fact:=l.map fun t=>.same t.2.2 (.len (Zop st rho t.1))
def Zji (x:AAct):List Nat->Option (List AV)
 | []=>some []
 | t :: ts=>(x.tm.get t).bind fun y=>(Zji x ts).map (y :: ·)
def boxOk (st:St) (rho:Nat × Nat) (b:BoxT):Option (List AV):=(st.heap.get rho.1).bind fun o=>match o.vers with
 | (v,n) :: _=>cond (Nat.beq v rho.2 && Nat.beq n o.cells.length && Nat.beq o.elem b.elem && Nat.beq o.esz b.esz && (o.opn == b.opn) && Nat.beq o.cells.length b.cells.length && (o.sym.isSome == b.own.isSome) && (o.lent == b.lent) && (o.mp == b.mp)) (some o.cells) none
 | []=>none
def Zgh (st:St):List (Nat × Nat)->List BoxT->Option (List (List AV))
 | [],[]=>some []
 | r :: rs,b :: bs=>(boxOk st r b).bind fun c=>(Zgh st rs bs).map (c :: ·)
 | _,_=>none
def Zc3 (rho:List (Nat × Nat)):List BoxT->List (List AV)->Option (List AV)
 | [],[]=>some []
 | b :: bs,c :: cs=>(Zaq rho b.cells c).bind fun l=>(Zc3 rho bs cs).map (l++·)
 | _,_=>none
def Zmr:List Nat->Bool
 | []=>true
 | r :: rs=>rs.all (fun q=>!(Nat.beq r q)) && Zmr rs
def Zek (st:St):List (Option Bool)->List AV->Option (List SX × List Fact)
 | [],[]=>some ([],[])
 | k :: ks,x :: xs=>(Zhb st x).bind fun (e,ok,_)=>(Zek st ks xs).bind fun (es,fs)=>match k with
  | none=>some (e :: es,.ok e :: fs)
  | some b=>cond (ok || !b) (some (e :: es,fs)) none
 | _,_=>none
def Zmp (sh:Shape) (rho:List (Nat × Nat)) (x:AAct) (st:St):Option (List SX × List Fact) :=
 cond (x.defers.isEmpty && Nat.beq x.n sh.n && Zmr (rho.map (·.1)) && Nat.beq rho.length sh.boxes.length) ((Zji x (sh.slots.map (·.1))).bind fun ys=>(Zaq rho (sh.slots.map (·.2)) ys).bind fun l1=>(Zgh st rho sh.boxes).bind fun css=>(Zc3 rho sh.boxes css).bind fun l2=>(Zek st sh.rows (l1++l2)).bind fun (es,fs)=>(ownSX st rho sh.boxes).bind fun os=>cond (Zpc sh.boxes (Zbu (sh.slots.map (·.2)) ys++Zcb sh.boxes css)) (some (es++os,fs++usesF st rho (Zbu (sh.slots.map (·.2)) ys++Zcb sh.boxes css))) none) none

structure Leafs (B:Base) (m:Map) (st:St) (w:World) (k:Option Bool) (p:PV) (u:Value) (fp:Nat->Prop):Prop where
 lt:∀ q,fp q->q < w.heap.size
 fpb:k=some true->∀ q,fp q->B.fp q \/ B.heap.size<=q
 hangs:∀ q,fp q->Hangs (fun _=>True) m st q
 reads:∀ w2:World,(∀ q,fp q->w2.heap[q]?=w.heap[q]?)->Reads w2 p u
 plain:k=none->∃ v,p=.v v
theorem cellSX_fp {B:Base} {m:Map} {st:St} {w:World} (hR:Rel B (fun _=>True) m st.heap.get w) {x:AV} {e:SX} {ok:Bool} {lg:Log} {u:Value} (h:Zhb st x=some (e,ok,lg)) (hx:x.den m=some u) :
  ∃ (p:PV) (fp:Nat->Prop),e.ev B.s B.F=some p/\(∀ q,fp q->q < w.heap.size)/\(ok=true->∀ q,fp q->B.fp q \/ B.heap.size<=q)/\(∀ q,fp q->Hangs (fun _=>True) m st q)/\∀ w2:World,(∀ q,fp q->w2.heap[q]?=w.heap[q]?)->Reads w2 p u:=by
 unfold Zhb at h
 split at h
 ·simp only [Option.some.injEq,Prod.mk.injEq] at h
  obtain ⟨rfl,rfl,rfl⟩:=h
  simp only [AV.den,Option.some.injEq] at hx
  subst hx
  exact ⟨.row 0 [],fun _=>False,by simp [SX.ev,evs],fun _ h=>h.elim,fun _ _ h=>h.elim,fun _ h=>h.elim,fun w2 _=>by simp only [Reads];exact ⟨none,0,rfl,Nat.le_refl _,Nat.zero_le _,.inl trivial⟩⟩
 ·rename_i v _
  simp only [AV.den,Option.some.injEq] at hx
  subst hx
  cases ho:v.oneCell' with
  | false=>simp [ho] at h
  | true =>
   simp only [ho,cond_true,Option.some.injEq,Prod.mk.injEq] at h
   obtain ⟨rfl,rfl,rfl⟩:=h
   exact ⟨.v v,fun _=>False,by simp [SX.ev],fun _ h=>h.elim,fun _ _ h=>h.elim,fun _ h=>h.elim,fun w2 _=>by simp [Reads,ho]⟩
 ·simp only [Option.some.injEq,Prod.mk.injEq] at h
  obtain ⟨rfl,rfl,rfl⟩:=h
  obtain ⟨h1,h2⟩:=Zib hR.sv hx
  exact ⟨.v u,fun _=>False,h1,fun _ h=>h.elim,fun _ _ h=>h.elim,fun _ h=>h.elim,fun w2 _=>by simp [Reads,h2]⟩
 ·rename_i r
  simp only [Option.bind_eq_some_iff,Option.map_eq_some_iff,Prod.mk.injEq] at h
  obtain ⟨o',ho',e',hr,rfl,rfl,rfl⟩:=h
  obtain ⟨o,v,fp,p,ho,hd,hm,hone,hlt,hfb,hp,hrd⟩:=thing hR (Option.bind_eq_some_iff.2 ⟨o',ho',hr⟩) trivial
  rw [ho'] at ho
  cases ho
  simp only [AV.den,hm,Option.bind_some,hone,cond_true,Option.some.injEq] at hx
  subst hx
  exact ⟨p,fp,hp,hlt,hfb,fun q hq=>⟨r,o',e',v,fp,trivial,ho',hd,hm,hq⟩,hrd⟩
 ·cases h
theorem leavesSX_ok {B:Base} {m:Map} {st:St} {w:World} (hR:Rel B (fun _=>True) m st.heap.get w):∀ (ks:List (Option Bool)) (xs:List AV) {es:List SX} {fs:List Fact} {us:List Value},Zek st ks xs=some (es,fs)->denL m xs=some us->(∀ f ∈ fs,f.holds B) →
  ∃ ps,evs B.s B.F es=some ps/\ps.length=ks.length/\us.length=ks.length/\∃ fps:Nat->Nat->Prop,∀ (i:Nat) (k:Option Bool) (p:PV) (u:Value),ks[i]?=some k->ps[i]?=some p->us[i]?=some u->Leafs B m st w k p u (fps i)
 | [],[],es,fs,us,h,hu,hf=>by
  simp only [Zek,Option.some.injEq,Prod.mk.injEq] at h
  obtain ⟨rfl,rfl⟩:=h
  simp only [denL,Option.some.injEq] at hu
  subst hu
  exact ⟨[],rfl,rfl,rfl,fun _ _=>False,fun i k p u hk=>by simp at hk⟩
 | [],_ :: _,es,fs,us,h,hu,hf=>by simp [Zek] at h
 | _ :: _,[],es,fs,us,h,hu,hf=>by simp [Zek] at h
 | k :: ks,x :: xs,es,fs,us,h,hu,hf=>by
  simp only [Zek,Option.bind_eq_some_iff] at h
  obtain ⟨⟨e,ok,l⟩,he,⟨es',fs'⟩,hes,h⟩:=h
  simp only [denL,Option.bind_eq_some_iff,Option.map_eq_some_iff] at hu
  obtain ⟨v,hv,us',hus,rfl⟩:=hu
  obtain ⟨p,fp,h1,h2,h3,h4,h5⟩:=cellSX_fp hR he hv
  have fin:es=e :: es'->(∀ f ∈ fs',f.holds B)->Leafs B m st w k p v fp->∃ ps,evs B.s B.F es=some ps/\ps.length=(k :: ks).length/\(v :: us').length=(k :: ks).length/\∃ fps:Nat->Nat->Prop,∀ (i:Nat) (k1:Option Bool) (p:PV) (u:Value),(k :: ks)[i]?=some k1->ps[i]?=some p->(v :: us')[i]?=some u->Leafs B m st w k1 p u (fps i):=by
   rintro rfl hf' hl
   obtain ⟨ps,g1,g2,g3,fps,g4⟩:=leavesSX_ok hR ks xs hes hus hf'
   refine ⟨p :: ps,by simp [evs,h1,g1],by simp [g2],by simp [g3],fun i=>match i with | 0=>fp | i+1=>fps i,fun i k1 q u hk hq hu=>?_⟩
   cases i with
   | zero=>simp at hk hq hu;subst hk;subst hq;subst hu;exact hl
   | succ i=>exact g4 i k1 q u (by simpa using hk) (by simpa using hq) (by simpa using hu)
  cases k with
  | none =>
   simp only [Option.some.injEq,Prod.mk.injEq] at h
   obtain ⟨rfl,rfl⟩:=h
   refine fin rfl (fun f hf'=>hf f (by simp [hf'])) ⟨h2,nofun,h4,h5,fun _=>?_⟩
   obtain ⟨y,hy,_⟩:=hf (.ok e) (by simp)
   have:e.ev B.s B.F=some (.v y):=hy
   rw [h1] at this
   exact ⟨y,Option.some.inj this⟩
  | some b =>
   simp only [cond_eq_ite] at h
   split at h
   ·rename_i hc
    simp only [Option.some.injEq,Prod.mk.injEq] at h
    obtain ⟨rfl,rfl⟩:=h
    refine fin rfl hf ⟨h2,fun h=>?_,h4,h5,fun h=>by cases h⟩
    cases h
    exact h3 (by simpa using hc)
   ·cases h

theorem Zcz {m:Map} {rho:List (Nat × Nat)}:∀ (ps:List Pt) (xs:List AV) {ls:List AV} {vs:List Value},Zaq rho ps xs=some ls->denL m xs=some vs->∃ us,denL m ls=some us
 | [],[],ls,vs,h,hv=>by
  simp only [Zaq,Option.some.injEq] at h
  subst h
  exact ⟨[],rfl⟩
 | [],_ :: _,ls,vs,h,hv=>by simp [Zaq] at h
 | .leaf :: ps,[],ls,vs,h,hv=>by simp [Zaq] at h
 | .agg n :: ps,[],ls,vs,h,hv=>by simp [Zaq] at h
 | .ptr .. :: ps,[],ls,vs,h,hv=>by simp [Zaq] at h
 | .own .. :: ps,[],ls,vs,h,hv=>by simp [Zaq] at h
 | .nil :: ps,[],ls,vs,h,hv=>by simp [Zaq] at h
 | .map .. :: ps,[],ls,vs,h,hv=>by simp [Zaq] at h
 | .map j :: ps,x :: xs,ls,vs,h,hv=>by
  cases x with
  | mapV r =>
   simp only [Zaq] at h
   split at h
   ·simp only [cond_eq_ite] at h
    split at h
    ·simp only [denL,Option.bind_eq_some_iff,Option.map_eq_some_iff] at hv
     obtain ⟨v1,hv1,vs',hvs,rfl⟩:=hv
     exact Zcz ps xs h hvs
    ·cases h
   ·cases h
  | _=>simp [Zaq] at h
 | .nil :: ps,x :: xs,ls,vs,h,hv=>by
  cases hn:isNil x with
  | false=>simp [Zaq,hn] at h
  | true =>
   simp only [Zaq,hn,cond_true] at h
   simp only [denL,Option.bind_eq_some_iff,Option.map_eq_some_iff] at hv
   obtain ⟨v1,hv1,vs',hvs,rfl⟩:=hv
   exact Zcz ps xs h hvs
 | .leaf :: ps,x :: xs,ls,vs,h,hv=>by
  simp only [Zaq,Option.map_eq_some_iff] at h
  obtain ⟨l,hl,rfl⟩:=h
  simp only [denL,Option.bind_eq_some_iff,Option.map_eq_some_iff] at hv
  obtain ⟨v,hv,vs',hvs,rfl⟩:=hv
  obtain ⟨us,h1⟩:=Zcz ps xs hl hvs
  exact ⟨v :: us,by simp [denL,hv,h1]⟩
 | .agg n :: ps,x :: xs,ls,vs,h,hv=>by
  simp only [Zaq,Option.bind_eq_some_iff] at h
  obtain ⟨cs,hcs,h⟩:=h
  cases hn:Nat.beq cs.length n with
  | false=>simp [hn] at h
  | true =>
   simp only [hn,cond_true,Option.map_eq_some_iff] at h
   obtain ⟨l,hl,rfl⟩:=h
   simp only [denL,Option.bind_eq_some_iff,Option.map_eq_some_iff] at hv
   obtain ⟨v,hv,vs',hvs,rfl⟩:=hv
   obtain ⟨lv,rfl,hlv⟩:=Zl3 hcs hv
   obtain ⟨us,h1⟩:=Zcz ps xs hl hvs
   exact ⟨lv++us,Zag hlv h1⟩
 | .ptr j idx sz sub :: ps,x :: xs,ls,vs,h,hv=>by
  cases x with
  | ptr r v idx' sz' sub' =>
   simp only [Zaq] at h
   split at h
   ·simp only [cond_eq_ite] at h
    split at h
    ·simp only [denL,Option.bind_eq_some_iff,Option.map_eq_some_iff] at hv
     obtain ⟨v1,hv1,vs',hvs,rfl⟩:=hv
     exact Zcz ps xs h hvs
    ·cases h
   ·cases h
  | _=>simp [Zaq] at h
 | .own j k sz :: ps,x :: xs,ls,vs,h,hv=>by
  cases x with
  | sliceS r v lo len sz' =>
   simp only [Zaq] at h
   split at h
   ·simp only [cond_eq_ite] at h
    split at h
    ·simp only [denL,Option.bind_eq_some_iff,Option.map_eq_some_iff] at hv
     obtain ⟨v1,hv1,vs',hvs,rfl⟩:=hv
     exact Zcz ps xs h hvs
    ·cases h
   ·cases h
  | _=>simp [Zaq] at h
def OwnGo (m m2:Map) (rho:List (Nat × Nat)) (W:List (Nat × Nat × SX)):Prop:=∀ j k sz r v lo len u,rho[j]?=some (r,v)->isC0 lo=true->(j,k,len) ∈ W->(AV.sliceS r v lo len sz).den m=some u->(AV.sliceS j 0 c0 (.len (.var k)) sz).den m2=some u
theorem Zc0 {m m2:Map} {rho:List (Nat × Nat)} (hm:∀ j r v,rho[j]?=some (r,v)->m2 j 0=m r v) {W:List (Nat × Nat × SX)} (ho:OwnGo m m2 rho W):∀ (ps:List Pt) (xs:List AV) {ls:List AV} {vs:List Value},Zaq rho ps xs=some ls->denL m xs=some vs->(∀ t ∈ Zbu ps xs,t ∈ W) →
  ∃ us,denL m ls=some us/\∀ (ls' rest:List AV),denL m2 ls'=some us->∃ xs',fillP ps (ls'++rest)=some (xs',rest)/\denL m2 xs'=some vs
 | [],[],ls,vs,h,hv,hW=>by
  simp only [Zaq,Option.some.injEq] at h
  subst h
  refine ⟨[],rfl,fun ls' rest hl=>?_⟩
  have:=Zae hl
  have:ls'=[]:=List.eq_nil_of_length_eq_zero (by simpa using this.symm)
  subst this
  exact ⟨[],rfl,hv⟩
 | [],_ :: _,ls,vs,h,hv,hW=>by simp [Zaq] at h
 | .leaf :: ps,[],ls,vs,h,hv,hW=>by simp [Zaq] at h
 | .agg n :: ps,[],ls,vs,h,hv,hW=>by simp [Zaq] at h
 | .ptr .. :: ps,[],ls,vs,h,hv,hW=>by simp [Zaq] at h
 | .own .. :: ps,[],ls,vs,h,hv,hW=>by simp [Zaq] at h
 | .nil :: ps,[],ls,vs,h,hv,hW=>by simp [Zaq] at h
 | .nil :: ps,x :: xs,ls,vs,h,hv,hW=>by
  cases hn:isNil x with
  | false=>simp [Zaq,hn] at h
  | true =>
   simp only [Zaq,hn,cond_true] at h
   have hx:=isNil_ok hn
   subst hx
   simp only [denL,Option.bind_eq_some_iff,Option.map_eq_some_iff] at hv
   obtain ⟨v1,hv1,vs',hvs,rfl⟩:=hv
   obtain ⟨us,h1,h2⟩:=Zc0 hm ho ps xs h hvs (fun t ht=>hW t (by simpa [Zbu] using ht))
   refine ⟨us,h1,fun ls' rest hl'=>?_⟩
   obtain ⟨xs',g1,g2⟩:=h2 ls' rest hl'
   refine ⟨.val (.slice none 0 0) :: xs',by simp [fillP,g1],?_⟩
   simp only [AV.den,Option.some.injEq] at hv1
   subst hv1
   simp [denL,AV.den,g2]
 | .leaf :: ps,x :: xs,ls,vs,h,hv,hW=>by
  simp only [Zaq,Option.map_eq_some_iff] at h
  obtain ⟨l,hl,rfl⟩:=h
  simp only [denL,Option.bind_eq_some_iff,Option.map_eq_some_iff] at hv
  obtain ⟨v,hv,vs',hvs,rfl⟩:=hv
  obtain ⟨us,h1,h2⟩:=Zc0 hm ho ps xs hl hvs (fun t ht=>hW t (by simpa [Zbu] using ht))
  refine ⟨v :: us,by simp [denL,hv,h1],fun ls' rest hl'=>?_⟩
  match ls',hl' with
  | [],hl'=>simp [denL] at hl'
  | y :: ys,hl' =>
   simp only [denL,Option.bind_eq_some_iff,Option.map_eq_some_iff] at hl'
   obtain ⟨v',hv',us',hus',he⟩:=hl'
   cases he
   obtain ⟨xs',g1,g2⟩:=h2 ys rest hus'
   exact ⟨y :: xs',by simp [fillP,g1],by simp [denL,hv',g2]⟩
 | .agg n :: ps,x :: xs,ls,vs,h,hv,hW=>by
  simp only [Zaq,Option.bind_eq_some_iff] at h
  obtain ⟨cs,hcs,h⟩:=h
  cases hn:Nat.beq cs.length n with
  | false=>simp [hn] at h
  | true =>
   simp only [hn,cond_true,Option.map_eq_some_iff] at h
   obtain ⟨l,hl,rfl⟩:=h
   have hn':=Nat.eq_of_beq_eq_true hn
   simp only [denL,Option.bind_eq_some_iff,Option.map_eq_some_iff] at hv
   obtain ⟨v,hv,vs',hvs,rfl⟩:=hv
   obtain ⟨lv,rfl,hlv⟩:=Zl3 hcs hv
   obtain ⟨us,h1,h2⟩:=Zc0 hm ho ps xs hl hvs (fun t ht=>hW t (by simpa [Zbu] using ht))
   have hll:=Zae hlv
   refine ⟨lv++us,Zag hlv h1,fun ls' rest hl'=>?_⟩
   have hlen:=Zae hl'
   simp only [List.length_append] at hlen
   have t1:=Zb0 n hl'
   have t2:=Zb1 n hl'
   have e1:(lv++us).take n=lv:=by rw [List.take_append_of_le_length (by omega),List.take_of_length_le (by omega)]
   have e2:(lv++us).drop n=us:=by rw [List.drop_append_of_le_length (by omega),List.drop_of_length_le (by omega),List.nil_append]
   rw [e1] at t1
   rw [e2] at t2
   obtain ⟨xs',g1,g2⟩:=h2 _ rest t2
   refine ⟨.agg (ls'.take n) :: xs',?_,by simp [denL,AV.den,t1,g2]⟩
   have hle:Nat.ble n (ls'++rest).length=true:=by simp;omega
   simp only [fillP,hle,cond_true]
   rw [List.drop_append_of_le_length (by omega),g1,List.take_append_of_le_length (by omega)]
   rfl
 | .ptr j idx sz sub :: ps,x :: xs,ls,vs,h,hv,hW=>by
  cases x with
  | ptr r v idx' sz' sub' =>
   simp only [Zaq] at h
   split at h
   ·rename_i r' v' hj
    simp only [cond_eq_ite,Bool.and_eq_true,Nat.beq_eq] at h
    split at h
    ·rename_i hc
     obtain ⟨⟨⟨⟨rfl,rfl⟩,rfl⟩,rfl⟩,rfl⟩:=hc
     simp only [denL,Option.bind_eq_some_iff,Option.map_eq_some_iff] at hv
     obtain ⟨v1,hv1,vs',hvs,rfl⟩:=hv
     obtain ⟨us,h1,h2⟩:=Zc0 hm ho ps xs h hvs (fun t ht=>hW t (by simpa [Zbu] using ht))
     refine ⟨us,h1,fun ls' rest hl'=>?_⟩
     obtain ⟨xs',g1,g2⟩:=h2 ls' rest hl'
     refine ⟨.ptr j 0 idx sz sub :: xs',by simp [fillP,g1],?_⟩
     have:(AV.ptr j 0 idx sz sub).den m2=some v1:=by
      rw [<- hv1];simp only [AV.den,hm j r v hj]
     simp [denL,this,g2]
    ·cases h
   ·cases h
  | _=>simp [Zaq] at h
 | .map j :: ps,x :: xs,ls,vs,h,hv,hW=>by
  cases x with
  | mapV r =>
   simp only [Zaq] at h
   split at h
   ·rename_i r' v' hj
    simp only [cond_eq_ite,Bool.and_eq_true,Nat.beq_eq] at h
    split at h
    ·rename_i hc
     obtain ⟨rfl,rfl⟩:=hc
     simp only [denL,Option.bind_eq_some_iff,Option.map_eq_some_iff] at hv
     obtain ⟨v1,hv1,vs',hvs,rfl⟩:=hv
     obtain ⟨us,h1,h2⟩:=Zc0 hm ho ps xs h hvs (fun t ht=>hW t (by simpa [Zbu] using ht))
     refine ⟨us,h1,fun ls' rest hl'=>?_⟩
     obtain ⟨xs',g1,g2⟩:=h2 ls' rest hl'
     refine ⟨.mapV j :: xs',by simp [fillP,g1],?_⟩
     have:(AV.mapV j).den m2=some v1:=by
      rw [<- hv1];simp only [AV.den,hm j r 0 hj]
     simp [denL,this,g2]
    ·cases h
   ·cases h
  | _=>simp [Zaq] at h
 | .own j k sz :: ps,x :: xs,ls,vs,h,hv,hW=>by
  cases x with
  | sliceS r v lo len sz' =>
   simp only [Zaq] at h
   split at h
   ·rename_i r' v' hj
    simp only [cond_eq_ite,Bool.and_eq_true,Nat.beq_eq] at h
    split at h
    ·rename_i hc
     obtain ⟨⟨⟨rfl,rfl⟩,rfl⟩,hc0⟩:=hc
     simp only [denL,Option.bind_eq_some_iff,Option.map_eq_some_iff] at hv
     obtain ⟨v1,hv1,vs',hvs,rfl⟩:=hv
     obtain ⟨us,h1,h2⟩:=Zc0 hm ho ps xs h hvs (fun t ht=>hW t (by simp [Zbu,ht]))
     refine ⟨us,h1,fun ls' rest hl'=>?_⟩
     obtain ⟨xs',g1,g2⟩:=h2 ls' rest hl'
     refine ⟨.sliceS j 0 c0 (.len (.var k)) sz :: xs',by simp [fillP,g1],?_⟩
     have:=ho j k sz r v lo len v1 hj hc0 (hW _ (by simp [Zbu])) hv1
     simp [denL,this,g2]
    ·cases h
   ·cases h
  | _=>simp [Zaq] at h
theorem slotsOf_ok {m:Map} {x:AAct} {a:Act} (h:TRel m x a):∀ {ts:List Nat} {ys:List AV},Zji x ts=some ys->∃ vs,denL m ys=some vs/\vs.length=ts.length/\∀ (i t:Nat) (v:Value),ts[i]?=some t->vs[i]?=some v->a.tmps[t]?=some v
 | [],ys,hy=>by simp [Zji] at hy;subst hy;exact ⟨[],rfl,rfl,fun i t v h=>by simp at h⟩
 | t :: ts,ys,hy=>by
  simp only [Zji,Option.bind_eq_some_iff,Option.map_eq_some_iff] at hy
  obtain ⟨y,hy,zs,hz,rfl⟩:=hy
  obtain ⟨v,hv,hg⟩:=h.get t y hy
  obtain ⟨vs,h1,h2,h3⟩:=slotsOf_ok h hz
  refine ⟨v :: vs,by simp [denL,hv,h1],by simp [h2],fun i t' u ht hu=>?_⟩
  cases i with
  | zero=>simp at ht hu;subst ht;subst hu;exact hg
  | succ i=>exact h3 i t' u (by simpa using ht) (by simpa using hu)
theorem tmOf_get:∀ (ts:List Nat) (ys:List AV) (tm:T AV) (k:Nat) (y:AV),small ts=true->(tmOf ts ys tm).get k=some y->(∃ i:Nat,ts[i]?=some k/\ys[i]?=some y) \/ tm.get k=some y
 | [],ys,tm,k,y,_,h=>.inr (by simpa [tmOf] using h)
 | t :: ts,[],tm,k,y,_,h=>.inr (by simpa [tmOf] using h)
 | t :: ts,z :: ys,tm,k,y,hs,h=>by
  simp only [small,List.all_cons,Bool.and_eq_true,Nat.blt_eq] at hs
  simp only [tmOf] at h
  rcases tmOf_get ts ys _ k y hs.2 h with ⟨i,h1,h2⟩ | h
  ·exact .inl ⟨i+1,by simpa using h1,by simpa using h2⟩
  ·rw [T.get_set _ _ _ _ _ (show t+1 < 2 ^ 24 from hs.1)] at h
   by_cases hk:k=t
   ·subst hk
    simp at h
    exact .inl ⟨0,rfl,by simp [h]⟩
   ·rw [if_neg hk] at h
    exact .inr h
theorem boxesOf_get:∀ (bs:List BoxT) (css:List (List AV)) (j:Nat) (h:T ARoot) (k:Nat) (o:ARoot),j+bs.length < 16777215->(Zfd bs css j h).get k=some o->(∃ (i:Nat) (b:BoxT) (c:List AV),bs[i]?=some b/\css[i]?=some c/\k=j+i/\o=Zbt b c) \/ h.get k=some o
 | [],css,j,h,k,o,_,hh=>.inr (by simpa [Zfd] using hh)
 | b :: bs,[],j,h,k,o,_,hh=>.inr (by simpa [Zfd] using hh)
 | b :: bs,c :: css,j,h,k,o,hl,hh=>by
  simp only [Zfd] at hh
  simp only [List.length_cons] at hl
  rcases boxesOf_get bs css (j+1) _ k o (by omega) hh with ⟨i,b',c',h1,h2,h3,h4⟩ | hh
  ·exact .inl ⟨i+1,b',c',by simpa using h1,by simpa using h2,by omega,h4⟩
  ·rw [T.get_set _ _ _ _ _ (show j+1 < 2 ^ 24 by omega)] at hh
   by_cases hk:k=j
   ·subst hk
    simp at hh
    exact .inl ⟨0,b,c,rfl,rfl,rfl,hh.symm⟩
   ·rw [if_neg hk] at hh
    exact .inr hh
theorem nodupN_ok:∀ {l:List Nat} (h:Zmr l=true) (i j:Nat) (r:Nat),l[i]?=some r->l[j]?=some r->i=j
 | [],_,i,j,r,hi,_=>by simp at hi
 | q :: l,h,i,j,r,hi,hj=>by
  simp only [Zmr,Bool.and_eq_true,List.all_eq_true,Bool.not_eq_true'] at h
  have hno:∀ k,l[k]? ≠ some q:=fun k hk=>by
   have:=h.1 q (List.mem_of_getElem? hk)
   simp at this
  cases i with
  | zero =>
   cases j with
   | zero=>rfl
   | succ j=>simp at hi hj;subst hi;exact absurd hj (hno j)
  | succ i =>
   cases j with
   | zero=>simp at hi hj;subst hj;exact absurd hi (hno i)
   | succ j=>rw [nodupN_ok h.2 i j r (by simpa using hi) (by simpa using hj)]
theorem Ze9:∀ (ks:List (Option Bool)) (i q:Nat) (x:SX × Bool),(Zay ks i)[q]?=some x->∃ (j:Nat) (b:Bool),ks[j]?=some (some b)/\x=(.var (i+j),b)/\(ks.take j).countP (·.isSome)=q
 | [],i,q,x,h=>by simp [Zay] at h
 | some b :: ks,i,q,x,h=>by
  cases q with
  | zero=>simp [Zay] at h;exact ⟨0,b,rfl,by simp [<- h],rfl⟩
  | succ q =>
   obtain ⟨j,b',h1,h2,h3⟩:=Ze9 ks (i+1) q x (by simpa [Zay] using h)
   exact ⟨j+1,b',by simpa using h1,by rw [h2];congr 2;omega,by simp [h3]⟩
 | none :: ks,i,q,x,h=>by
  obtain ⟨j,b',h1,h2,h3⟩:=Ze9 ks (i+1) q x (by simpa [Zay] using h)
  exact ⟨j+1,b',by simpa using h1,by rw [h2];congr 2;omega,by simp [h3]⟩
theorem Ze8:∀ (ks:List (Option Bool)) (i:Nat),(Zay ks i).length=ks.countP (·.isSome)
 | [],i=>rfl
 | some b :: ks,i=>by simp [Zay,Ze8 ks]
 | none :: ks,i=>by simp [Zay,Ze8 ks]
theorem Zgg {m:Map}:∀ (ks:List (Option Bool)) (i q:Nat) (us:List Value),us.length=ks.length->(∀ (j:Nat) (u:Value),ks[j]?=some none->us[j]?=some u->(AV.sym (.var (i+j))).den m=some u) →
  (∀ (j:Nat) (b:Bool) (u:Value),ks[j]?=some (some b)->us[j]?=some u->(AV.dat (q+(ks.take j).countP (·.isSome))).den m=some u)->denL m (Zfa ks i q)=some us
 | [],i,q,us,hl,_,_=>by
  have:us=[]:=List.eq_nil_of_length_eq_zero (by simpa using hl)
  subst this;rfl
 | some b :: ks,i,q,[],hl,_,_=>by simp at hl
 | none :: ks,i,q,[],hl,_,_=>by simp at hl
 | some b :: ks,i,q,u :: us,hl,h1,h2=>by
  have ih:=Zgg (m:=m) ks (i+1) (q+1) us (by simpa using hl) (fun j v hk hv=>by
   have:=h1 (j+1) v (by simpa using hk) (by simpa using hv)
   rwa [show i+(j+1)=i+1+j by omega] at this) (fun j b' v hk hv=>by
   have:=h2 (j+1) b' v (by simpa using hk) (by simpa using hv)
   simp only [List.take_succ_cons,List.countP_cons,Option.isSome_some,if_true] at this
   rwa [show q+((ks.take j).countP (·.isSome)+1)=q+1+(ks.take j).countP (·.isSome) by omega] at this)
  have h0:=h2 0 b u rfl rfl
  simp only [List.take_zero,List.countP_nil,Nat.add_zero] at h0
  simp only [Zfa,denL,h0,ih,Option.bind_some,Option.map_some]
 | none :: ks,i,q,u :: us,hl,h1,h2=>by
  have ih:=Zgg (m:=m) ks (i+1) q us (by simpa using hl) (fun j v hk hv=>by
   have:=h1 (j+1) v (by simpa using hk) (by simpa using hv)
   rwa [show i+(j+1)=i+1+j by omega] at this) (fun j b' v hk hv=>by
   have:=h2 (j+1) b' v (by simpa using hk) (by simpa using hv)
   simpa using this)
  have h0:=h1 0 u rfl rfl
  simp only [Nat.add_zero] at h0
  simp only [Zfa,denL,h0,ih,Option.bind_some,Option.map_some]
end Go.Proofs.Ytgdegpifjljnoaa.eng
end

section
/- The engine: from a state by names to a shape, held; pieces of code, loops, contracts. -/
namespace Go.Proofs.Ytgdegpifjljnoaa.eng
open Go Go.RowKit
variable {W0 : Base}

theorem Zgf:∀ (ks:List (Option Bool)) (i j:Nat) (b:Bool),ks[j]?=some (some b)->(Zay ks i)[(ks.take j).countP (·.isSome)]?=some (.var (i+j),b)
 | [],i,j,b,h=>by simp at h
 | some b' :: ks,i,j,b,h=>by
  cases j with
  | zero=>simp at h;subst h;simp [Zay]
  | succ j =>
   have:=Zgf ks (i+1) j b (by simpa using h)
   simp only [List.take_succ_cons,List.countP_cons,Option.isSome_some,if_true,Zay,List.getElem?_cons_succ]
   rw [this,show i+1+j=i+(j+1) by omega]
 | none :: ks,i,j,b,h=>by
  cases j with
  | zero=>simp at h
  | succ j =>
   have:=Zgf ks (i+1) j b (by simpa using h)
   simp only [List.take_succ_cons,List.countP_cons,Zay]
   simp only [Option.isSome_none,Bool.false_eq_true,if_false,Nat.add_zero]
   rw [this,show i+1+j=i+(j+1) by omega]
theorem unfillB_us {m:Map} {rho:List (Nat × Nat)}:∀ (bs:List BoxT) (css:List (List AV)) {ls:List AV},Zc3 rho bs css=some ls->(∀ (j:Nat) (c:List AV),css[j]?=some c->∃ vs,denL m c=some vs)->∃ us,denL m ls=some us
 | [],[],ls,h,hd=>by
  simp only [Zc3,Option.some.injEq] at h
  subst h
  exact ⟨[],rfl⟩
 | [],_ :: _,ls,h,hd=>by simp [Zc3] at h
 | _ :: _,[],ls,h,hd=>by simp [Zc3] at h
 | b :: bs,c :: css,ls,h,hd=>by
  simp only [Zc3,Option.bind_eq_some_iff,Option.map_eq_some_iff] at h
  obtain ⟨l1,hl1,l2,hl2,rfl⟩:=h
  obtain ⟨vs,hvs⟩:=hd 0 c rfl
  obtain ⟨us1,g1⟩:=Zcz b.cells c hl1 hvs
  obtain ⟨us2,g3⟩:=unfillB_us bs css hl2 (fun j c hc=>hd (j+1) c (by simpa using hc))
  exact ⟨us1++us2,Zag g1 g3⟩
theorem unfillB_ok {m m2:Map} {rho:List (Nat × Nat)} (hm:∀ j r v,rho[j]?=some (r,v)->m2 j 0=m r v) {W:List (Nat × Nat × SX)} (ho:OwnGo m m2 rho W):∀ (bs:List BoxT) (css:List (List AV)) {ls:List AV},Zc3 rho bs css=some ls->(∀ (j:Nat) (c:List AV),css[j]?=some c->∃ vs,denL m c=some vs)->(∀ t ∈ Zcb bs css,t ∈ W) →
  css.length=bs.length/\∃ us,denL m ls=some us/\∀ (ls' rest:List AV),denL m2 ls'=some us->∃ css',fillB bs (ls'++rest)=some (css',rest)/\css'.length=bs.length/\∀ (j:Nat) (c c':List AV) (vs:List Value),css[j]?=some c->css'[j]?=some c'->denL m c=some vs->denL m2 c'=some vs
 | [],[],ls,h,hd,hW=>by
  simp only [Zc3,Option.some.injEq] at h
  subst h
  refine ⟨rfl,[],rfl,fun ls' rest hl=>?_⟩
  have:=Zae hl
  have:ls'=[]:=List.eq_nil_of_length_eq_zero (by simpa using this.symm)
  subst this
  exact ⟨[],rfl,rfl,fun j c c' vs h=>by simp at h⟩
 | [],_ :: _,ls,h,hd,hW=>by simp [Zc3] at h
 | _ :: _,[],ls,h,hd,hW=>by simp [Zc3] at h
 | b :: bs,c :: css,ls,h,hd,hW=>by
  simp only [Zc3,Option.bind_eq_some_iff,Option.map_eq_some_iff] at h
  obtain ⟨l1,hl1,l2,hl2,rfl⟩:=h
  obtain ⟨vs,hvs⟩:=hd 0 c rfl
  obtain ⟨us1,g1,g2⟩:=Zc0 hm ho b.cells c hl1 hvs (fun t ht=>hW t (by simp [Zcb,ht]))
  obtain ⟨e0,us2,g3,g4⟩:=unfillB_ok hm ho bs css hl2 (fun j c hc=>hd (j+1) c (by simpa using hc)) (fun t ht=>hW t (by simp [Zcb,ht]))
  refine ⟨by simp [e0],us1++us2,Zag g1 g3,fun ls' rest hl=>?_⟩
  have hlen:=Zae hl
  simp only [List.length_append] at hlen
  have t1:=Zb0 us1.length hl
  have t2:=Zb1 us1.length hl
  rw [List.take_left' rfl] at t1
  rw [List.drop_left' rfl] at t2
  obtain ⟨c',f1,f2⟩:=g2 _ (ls'.drop us1.length++rest) t1
  rw [<- List.append_assoc,List.take_append_drop] at f1
  obtain ⟨css',f3,f4,f5⟩:=g4 _ rest t2
  refine ⟨c' :: css',by simp [fillB,f1,f3],by simp [f4],fun j d d' ws hd' hd2 hw=>?_⟩
  cases j with
  | zero =>
   simp at hd' hd2
   subst hd';subst hd2
   rw [hvs] at hw;cases hw
   exact f2
  | succ j=>exact f5 j d d' ws (by simpa using hd') (by simpa using hd2) hw
theorem Zhp {st:St}:∀ {rho:List (Nat × Nat)} {bs:List BoxT} {css:List (List AV)},Zgh st rho bs=some css->∀ (j:Nat) (c:List AV),css[j]?=some c->∃ r b,rho[j]?=some r/\bs[j]?=some b/\boxOk st r b=some c
 | [],[],css,h,j,c,hj=>by simp [Zgh] at h;subst h;simp at hj
 | [],_ :: _,css,h,j,c,hj=>by simp [Zgh] at h
 | _ :: _,[],css,h,j,c,hj=>by simp [Zgh] at h
 | r :: rho,b :: bs,css,h,j,c,hj=>by
  simp only [Zgh,Option.bind_eq_some_iff,Option.map_eq_some_iff] at h
  obtain ⟨c0,hc0,css',hcs,rfl⟩:=h
  cases j with
  | zero=>simp at hj;subst hj;exact ⟨r,b,rfl,rfl,hc0⟩
  | succ j =>
   obtain ⟨r',b',h1,h2,h3⟩:=Zhp hcs j c (by simpa using hj)
   exact ⟨r',b',by simpa using h1,by simpa using h2,h3⟩
theorem boxOk_ok {st:St} {rho:Nat × Nat} {b:BoxT} {c:List AV} (h:boxOk st rho b=some c):∃ o rest,st.heap.get rho.1=some o/\o.vers=(rho.2,o.cells.length) :: rest/\o.elem=b.elem/\o.esz=b.esz/\o.opn=b.opn/\c=o.cells/\o.sym.isSome=b.own.isSome/\o.lent=b.lent/\o.mp=b.mp:=by
 simp only [boxOk,Option.bind_eq_some_iff] at h
 obtain ⟨o,ho,h⟩:=h
 split at h
 ·rename_i v n rest hv
  simp only [cond_eq_ite,Bool.and_eq_true,Nat.beq_eq,beq_iff_eq] at h
  split at h
  ·rename_i hc
   obtain ⟨⟨⟨⟨⟨⟨⟨⟨rfl,rfl⟩,h3⟩,h4⟩,h5⟩,h6⟩,h7⟩,h8⟩,h9⟩:=hc
   simp only [Option.some.injEq] at h
   exact ⟨o,rest,ho,hv,h3,h4,h5,h.symm,h7,h8,h9⟩
  ·cases h
 ·cases h

theorem Zlv {st:St}:∀ {rho:List (Nat × Nat)} {bs:List BoxT} {es:List SX} {base j k:Nat} {b:BoxT},ownSX st rho bs=some es->Zg5 bs base=true->bs[j]?=some b->b.own=some k->∃ r e,rho[j]?=some r/\lookX st r.1 r.2=some e/\base<=k/\es[k - base]?=some e
 | [],[],es,base,j,k,b,h,ho,hb,hk=>by simp at hb
 | [],_ :: _,es,base,j,k,b,h,ho,hb,hk=>by simp [ownSX] at h
 | _ :: _,[],es,base,j,k,b,h,ho,hb,hk=>by simp [ownSX] at h
 | r :: rs,b0 :: bs,es,base,j,k,b,h,ho,hb,hk=>by
  cases hb0:b0.own with
  | none =>
   simp only [ownSX,hb0] at h
   simp only [Zg5,hb0] at ho
   cases j with
   | zero=>simp at hb;subst hb;rw [hb0] at hk;cases hk
   | succ j=>obtain ⟨r',e,h1,h2,h3,h4⟩:=Zlv h ho (j:=j) (by simpa using hb) hk;exact ⟨r',e,by simpa using h1,h2,h3,h4⟩
  | some k0 =>
   simp only [ownSX,hb0,Option.bind_eq_some_iff,Option.map_eq_some_iff] at h
   obtain ⟨e,hl,es',hes,rfl⟩:=h
   simp only [Zg5,hb0,Bool.and_eq_true,Nat.beq_eq] at ho
   cases j with
   | zero =>
    simp at hb;subst hb
    rw [hb0] at hk;cases hk
    exact ⟨r,e,rfl,hl,by omega,by rw [<- ho.1.1];simp⟩
   | succ j =>
    obtain ⟨r',e',h1,h2,h3,h4⟩:=Zlv hes ho.2 (j:=j) (by simpa using hb) hk
    exact ⟨r',e',by simpa using h1,h2,by omega,by rw [show k - base=(k - (base+1))+1 by omega];simpa using h4⟩
theorem Zlu {B:Base} {m:Map} {st:St} {w:World} (hR:Rel B (fun _=>True) m st.heap.get w):∀ {rho:List (Nat × Nat)} {bs:List BoxT} {es:List SX},ownSX st rho bs=some es->∃ qs,evs B.s B.F es=some qs/\qs.length=ownsN bs
 | [],[],es,h=>by simp [ownSX] at h;subst h;exact ⟨[],rfl,rfl⟩
 | [],_ :: _,es,h=>by simp [ownSX] at h
 | _ :: _,[],es,h=>by simp [ownSX] at h
 | r :: rs,b0 :: bs,es,h=>by
  cases hb0:b0.own with
  | none =>
   simp only [ownSX,hb0] at h
   obtain ⟨qs,h1,h2⟩:=Zlu hR h
   exact ⟨qs,h1,by simp [ownsN,hb0,h2]⟩
  | some k0 =>
   simp only [ownSX,hb0,Option.bind_eq_some_iff,Option.map_eq_some_iff] at h
   obtain ⟨e,hl,es',hes,rfl⟩:=h
   obtain ⟨qs,h1,h2⟩:=Zlu hR hes
   obtain ⟨o,ho,hs,hv,_⟩:=Zly hl
   obtain ⟨b,hb,_⟩:=hR.blk r.1 o trivial ho r.2 0 (by rw [hv];simp)
   obtain ⟨n,cs,g1⟩:=(hR.row r.1 o e r.2 0 b trivial ho hs (by rw [hv];simp) hb).ev
   have g1':e.ev B.s B.F=some (.row n cs):=g1
   exact ⟨.row n cs :: qs,by simp [evs,g1',h1],by simp [ownsN,hb0,h2]⟩
theorem evs_app {s:Nat->Option PV} {F:Fns}:∀ {a b:List SX} {x y:List PV},evs s F a=some x->evs s F b=some y->evs s F (a++b)=some (x++y)
 | [],b,x,y,h1,h2=>by simp [evs] at h1;subst h1;simpa using h2
 | e :: a,b,x,y,h1,h2=>by
  simp only [evs,Option.bind_eq_some_iff,Option.map_eq_some_iff] at h1
  obtain ⟨p,hp,ps,hps,rfl⟩:=h1
  simp [evs,hp,evs_app hps h2]
theorem Zon {s:Nat->Option PV} {F:Fns}:∀ {a:List SX} {x:List PV} {i:Nat} {e:SX},evs s F a=some x->a[i]?=some e->∃ p,e.ev s F=some p/\x[i]?=some p
 | [],x,i,e,h,hi=>by simp at hi
 | e0 :: a,x,i,e,h,hi=>by
  simp only [evs,Option.bind_eq_some_iff,Option.map_eq_some_iff] at h
  obtain ⟨p,hp,ps,hps,rfl⟩:=h
  cases i with
  | zero=>simp at hi;subst hi;exact ⟨p,hp,rfl⟩
  | succ i=>obtain ⟨q,h1,h2⟩:=Zon hps (by simpa using hi);exact ⟨q,h1,by simpa using h2⟩

theorem canon_owns {sh:Shape} {path:List Nat} {x:AAct} {st:St} (h:canon sh path=some (x,st)):Zg5 sh.boxes sh.rows.length=true:=by
 unfold canon at h
 simp only [Option.bind_eq_some_iff] at h
 obtain ⟨⟨xs,r⟩,h1,⟨css,r'⟩,h2,h⟩:=h
 simp only [cond_eq_ite,Bool.and_eq_true] at h
 split at h
 ·rename_i hc;exact hc.2
 ·cases h
theorem reabs {B:Base} {m:Map} {x:AAct} {st:St} {a:Act} {w:World} (h:At B m x st a w) {sh:Shape} {rho:List (Nat × Nat)} {es:List SX} {fs:List Fact} (hr:Zmp sh rho x st=some (es,fs)) (hf:∀ f ∈ fs,f.holds B) (hc:(canon sh []).isSome=true) :
  ∃ qs,evs B.s B.F es=some qs/\Zao B sh qs a w:=by
 obtain ⟨⟨x2,st2⟩,hcan⟩:=Option.isSome_iff_exists.1 hc
 have hR:=h.rel
 unfold Zmp at hr
 cases hck:(x.defers.isEmpty && Nat.beq x.n sh.n && Zmr (rho.map (·.1)) && Nat.beq rho.length sh.boxes.length) with
 | false=>simp [hck] at hr
 | true =>
  simp only [hck,cond_true,Option.bind_eq_some_iff] at hr
  simp only [Bool.and_eq_true,List.isEmpty_iff,Nat.beq_eq] at hck
  obtain ⟨⟨⟨hdef,hn⟩,hnd⟩,hrl⟩:=hck
  obtain ⟨ys,hys,l1,hl1,css,hcss,l2,hl2,⟨es1,fs1⟩,hlv,os,hos,hr⟩:=hr
  obtain ⟨huo,rfl,rfl⟩:Zpc sh.boxes (Zbu (sh.slots.map (·.2)) ys++Zcb sh.boxes css)=true/\es=es1++os/\fs=fs1++usesF st rho (Zbu (sh.slots.map (·.2)) ys++Zcb sh.boxes css):=by
   cases hu:Zpc sh.boxes (Zbu (sh.slots.map (·.2)) ys++Zcb sh.boxes css) with
   | false=>simp [hu] at hr
   | true=>simp only [hu,cond_true,Option.some.injEq,Prod.mk.injEq] at hr;exact ⟨rfl,hr.1.symm,hr.2.symm⟩
  have hfu:∀ t ∈ Zbu (sh.slots.map (·.2)) ys++Zcb sh.boxes css,(Fact.same t.2.2 (.len (Zop st rho t.1))).holds B:=fun t ht=>hf _ (List.mem_append_right _ (List.mem_map.2 ⟨t,ht,rfl⟩))
  have hf1:∀ f ∈ fs1,f.holds B:=fun f hf'=>hf f (List.mem_append_left _ hf')
  have hown:=canon_owns hcan
  generalize hW:Zbu (sh.slots.map (·.2)) ys++Zcb sh.boxes css=W at huo hfu
  obtain ⟨svs,s1,s2,s3⟩:=slotsOf_ok h.tm hys
  have hbox:∀ (j:Nat) (c:List AV),css[j]?=some c->∃ r b o rest b',rho[j]?=some r/\sh.boxes[j]?=some b/\st.heap.get r.1=some o/\o.vers=(r.2,o.cells.length) :: rest/\o.elem=b.elem/\o.esz=b.esz/\o.opn=b.opn/\c=o.cells/\m r.1 r.2=some b'/\Blk m w o b' o.cells.length/\∃ vs,denL m c=some vs:=by
   intro j c hj
   obtain ⟨r,b,g1,g2,g3⟩:=Zhp hcss j c hj
   obtain ⟨o,rest,g4,g5,g6,g7,g8,rfl,g9⟩:=boxOk_ok g3
   obtain ⟨b',hb',hB⟩:=hR.blk r.1 o trivial g4 r.2 o.cells.length (by rw [g5];simp)
   obtain ⟨l,hd⟩:∃ l,denL m o.cells=some l:=by
    cases hmp:o.mp with
    | false =>
     obtain ⟨l,hd,_⟩:=(hB.c hmp).cells (P:=(default:Program)) (off:=0) (k:=o.cells.length) (by omega)
     simp only [Zaw,List.drop_zero,List.take_length] at hd
     exact ⟨l,hd⟩
    | true =>
     have h0:=hB
     unfold Blk at h0
     rw [hmp] at h0
     rw [List.eq_nil_of_length_eq_zero h0.1]
     exact ⟨[],rfl⟩
   exact ⟨r,b,o,rest,b',g1,g2,g4,g5,g6,g7,g8,rfl,hb',hB,l,hd⟩
  have hles:=hlv
  let nb:=sh.boxes.length
  obtain ⟨us1,u1⟩:=Zcz (sh.slots.map (·.2)) ys hl1 s1
  obtain ⟨us2,u2⟩:=unfillB_us sh.boxes css hl2 (fun j c hj=>by
   obtain ⟨_,_,_,_,_,_,_,_,_,_,_,_,_,_,_,hv⟩:=hbox j c hj
   exact hv)
  obtain ⟨qs1,qe1,q2,q3,fps,q4⟩:=leavesSX_ok hR sh.rows (l1++l2) hlv (Zag u1 u2) hf1
  obtain ⟨qs2,qe2,q5⟩:=Zlu hR hos
  obtain ⟨qs,hqs⟩:∃ qs,qs=qs1++qs2:=⟨_,rfl⟩
  have q1:evs B.s B.F (es1++os)=some qs:=by rw [hqs];exact evs_app qe1 qe2
  refine ⟨qs,q1,x2,st2,?_⟩
  let us:=us1++us2
  let B2:=B.with qs
  let m2:Map:=⟨fun j v=>if v=0 then (rho[j]?).bind fun r=>m r.1 r.2 else none,fun k=>if nb<=k then match (Zay sh.rows 0)[k - nb]? with | some (.var j,_)=>(us[j]?).map fun u=>(u,fps j) | _=>none else none,B2.sv⟩
  have hm2:∀ j r v,rho[j]?=some (r,v)->m2 j 0=m r v:=fun j r v hj=>by
   show (if (0:Nat)=0 then (rho[j]?).bind fun r=>m r.1 r.2 else none)=_
   rw [if_pos rfl,hj];rfl
  have hcont:∀ (j k:Nat) (b:BoxT),sh.boxes[j]?=some b->b.own=some k->∃ r e,rho[j]?=some r/\lookX st r.1 r.2=some e/\∀ p,B.ev e=some p->B2.ev (.var k)=some p:=fun j k b hb hk=>by
   obtain ⟨r,e,h1,h2,h3,h4⟩:=Zlv hos hown hb hk
   obtain ⟨p,p1,p2⟩:=Zon qe2 h4
   refine ⟨r,e,h1,h2,fun p' hp'=>?_⟩
   have hp'':e.ev B.s B.F=some p':=hp'
   rw [p1] at hp''
   cases hp''
   show qs[k]?=some p
   rw [hqs,List.getElem?_append_right (by omega),q2]
   exact p2
  have hgo:OwnGo m m2 rho W:=fun j k sz r v lo len u hj hc0 hjW hden=>by
   have hu:=List.all_eq_true.1 huo _ hjW
   simp only at hu
   split at hu
   ·rename_i b hb
    split at hu
    ·rename_i k' hk
     simp only [Nat.beq_eq] at hu
     subst hu
     obtain ⟨r',e,h1,h2,h3⟩:=hcont j k' b hb hk
     rw [hj] at h1
     cases h1
     obtain ⟨n,f1,f2⟩:=hfu _ hjW
     have hce:Zop st rho j=e:=by simp only [Zop,hj,h2]
     simp only [hce] at f2
     obtain ⟨bb,l,n',hb',g1,g2,rfl⟩:=Zas hR.sv hden
     rw [Zem hc0] at g1
     rw [f1] at g2
     simp only [Option.some.injEq,PV.v.injEq,Value.int.injEq,true_and,Int.ofNat_inj] at g1 g2
     have hl0:l=0:=by omega
     subst hl0
     subst g2
     obtain ⟨oX,hoX,hsX,hvX,_⟩:=Zly h2
     obtain ⟨k2,cs,z1⟩:=(hR.row _ oX e _ 0 _ trivial hoX hsX (by rw [hvX];simp) hb').ev
     rw [Zbx z1] at f2
     simp only [Option.some.injEq,PV.v.injEq,Value.int.injEq,true_and,Int.ofNat_inj] at f2
     subst f2
     exact Zgb (W0:=B2) (fun e=>rfl) (by rw [hm2 j r v hj];exact hb') (l:=0) rfl (Zbx (h3 _ z1))
    ·cases hu
   ·cases hu
  obtain ⟨us1',u1',f1⟩:=Zc0 hm2 hgo (sh.slots.map (·.2)) ys hl1 s1 (fun t ht=>by rw [<- hW];exact List.mem_append_left _ ht)
  rw [u1] at u1';cases u1'
  obtain ⟨hbl,us2',u2',f2⟩:=unfillB_ok hm2 hgo sh.boxes css hl2 (fun j c hj=>by
   obtain ⟨_,_,_,_,_,_,_,_,_,_,_,_,_,_,_,hv⟩:=hbox j c hj
   exact hv) (fun t ht=>by rw [<- hW];exact List.mem_append_right _ ht)
  rw [u2] at u2';cases u2'
  have hlnm:∀ (j:Nat) (r:Nat × Nat) (b:BoxT) (o:ARoot),rho[j]?=some r->sh.boxes[j]?=some b->st.heap.get r.1=some o->o.lent=b.lent/\o.mp=b.mp:=fun j r b o hr hb ho=>by
   have hj:j < css.length:=by rw [hbl];exact (List.getElem?_eq_some_iff.1 hb).1
   obtain ⟨r',b',g1,g2,g3⟩:=Zhp hcss j css[j] (List.getElem?_eq_getElem hj)
   obtain ⟨o',rest,g4,_,_,_,_,_,_,g9⟩:=boxOk_ok g3
   rw [hr] at g1
   rw [hb] at g2
   cases g1
   cases g2
   rw [ho] at g4
   cases g4
   exact g9
  have hlnt:∀ (j:Nat) (r:Nat × Nat) (b:BoxT) (o:ARoot),rho[j]?=some r->sh.boxes[j]?=some b->st.heap.get r.1=some o->o.lent=b.lent:=fun j r b o hr hb ho=>(hlnm j r b o hr hb ho).1
  have hmpe:∀ (j:Nat) (r:Nat × Nat) (b:BoxT) (o:ARoot),rho[j]?=some r->sh.boxes[j]?=some b->st.heap.get r.1=some o->o.mp=b.mp:=fun j r b o hr hb ho=>(hlnm j r b o hr hb ho).2
  have husl:us.length=sh.rows.length:=q3
  have hleaf:∀ (j:Nat) (k:Option Bool) (u:Value),sh.rows[j]?=some k->us[j]?=some u->∃ p,qs[j]?=some p/\Leafs B m st w k p u (fps j):=fun j k u hk hu=>by
   have:j < qs1.length:=by rw [q2];exact (List.getElem?_eq_some_iff.1 hk).1
   exact ⟨qs1[j],by rw [hqs,List.getElem?_append_left this];exact List.getElem?_eq_getElem this,q4 j k _ u hk (List.getElem?_eq_getElem this) hu⟩
  have hd2:∀ (j:Nat) (b:Bool) (u:Value),sh.rows[j]?=some (some b)->us[j]?=some u->m2.d (nb+(sh.rows.take j).countP (·.isSome))=some (u,fps j):=fun j b u hk hu=>by
   have:=Zgf sh.rows 0 j b hk
   show (if nb<=nb+_ then _ else _)=_
   rw [if_pos (Nat.le_add_right _ _),Nat.add_sub_cancel_left,this]
   simp only [Nat.zero_add,hu,Option.map_some]
  have hden:denL m2 (Zfa sh.rows 0 nb)=some us:=Zgg sh.rows 0 nb us husl (fun j u hk hu=>by
   obtain ⟨p,hp,hl⟩:=hleaf j none u hk hu
   obtain ⟨v,rfl⟩:=hl.plain rfl
   have hrd:=hl.reads w (fun _ _=>rfl)
   simp only [Reads] at hrd
   obtain ⟨rfl,hone⟩:=hrd
   exact Zdp (W0:=B2) (fun e=>rfl) (by simp [Base.ev,SX.ev,B2,Base.with,hp]) hone) (fun j b u hk hu=>by
   obtain ⟨p,hp,hl⟩:=hleaf j _ u hk hu
   simp only [AV.den,hd2 j b u hk hu,Option.bind_some,(hl.reads w (fun _ _=>rfl)).one,cond_true])
  have hll:=Zae hden
  have t1:=Zb0 us1.length hden
  have t2:=Zb1 us1.length hden
  rw [show us=us1++us2 from rfl,List.take_left' rfl] at t1
  rw [show us=us1++us2 from rfl,List.drop_left' rfl] at t2
  obtain ⟨xs',g1,g2⟩:=f1 _ ((Zfa sh.rows 0 nb).drop us1.length) t1
  rw [List.take_append_drop] at g1
  obtain ⟨css',g3,g4,g5⟩:=f2 _ [] t2
  rw [List.append_nil] at g3
  have hcan0:=hcan
  unfold canon at hcan
  rw [g1] at hcan
  simp only [Option.bind_some,g3] at hcan
  cases hck2:(([]:List AV).isEmpty && small (sh.slots.map (·.1)) && Nat.blt (sh.boxes.length+sh.rows.length) 16777215 && Zg5 sh.boxes sh.rows.length) with
  | false=>simp only [hck2,cond_false] at hcan;cases hcan
  | true =>
   have hcan':=hcan
   simp only [hck2,cond_true,Option.some.injEq,Prod.mk.injEq] at hcan'
   simp only [Bool.and_eq_true,Nat.blt_eq] at hck2
   obtain ⟨⟨⟨_,hsm⟩,hsz⟩,_⟩:=hck2
   obtain ⟨rfl,rfl⟩:=hcan'
   have hld:(Zay sh.rows 0).length<=sh.rows.length:=by rw [Ze8];exact List.countP_le_length
   have hget:∀ r o,(Zbg (Zay sh.rows 0) sh.boxes.length (Zfd sh.boxes css' 0 .nil)).get r=some o →
     (∃ j b u p,r=nb+(sh.rows.take j).countP (·.isSome)/\sh.rows[j]?=some (some b)/\us[j]?=some u/\qs[j]?=some p/\o=Zcj (.var j,b)/\Leafs B m st w (some b) p u (fps j)) ∨
     (∃ b c',sh.boxes[r]?=some b/\css'[r]?=some c'/\o=Zbt b c'):=by
    intro r o ho
    rw [Zbp _ _ _ _ (by omega)] at ho
    split at ho
    ·rename_i hr
     obtain ⟨y,hy,rfl⟩:=Option.map_eq_some_iff.1 ho
     obtain ⟨j,b,h1,rfl,h3⟩:=Ze9 sh.rows 0 _ y hy
     have hj:j < us.length:=by rw [husl];exact (List.getElem?_eq_some_iff.1 h1).1
     obtain ⟨p,hp,hl⟩:=hleaf j _ us[j] h1 (List.getElem?_eq_getElem hj)
     exact .inl ⟨j,b,us[j],p,by omega,h1,List.getElem?_eq_getElem hj,hp,by simp,hl⟩
    ·rcases boxesOf_get _ _ _ _ _ _ (by omega) ho with ⟨i,b,c,h1,h2,h3,h4⟩ | ho
     ·rw [Nat.zero_add] at h3
      subst h3
      exact .inr ⟨b,c,h1,h2,h4⟩
     ·simp [T.get] at ho
   have hbx:∀ r b c',sh.boxes[r]?=some b->css'[r]?=some c'->∃ q o rest b' c vs,rho[r]?=some q/\st.heap.get q.1=some o/\o.vers=(q.2,o.cells.length) :: rest/\o.elem=b.elem/\o.esz=b.esz/\o.opn=b.opn/\c=o.cells/\m q.1 q.2=some b'/\Blk m w o b' o.cells.length/\denL m c=some vs/\denL m2 c'=some vs/\m2 r 0=some b':=by
    intro r b c' hb hc'
    have hrl':r < css.length:=by rw [hbl];exact (List.getElem?_eq_some_iff.1 hb).1
    obtain ⟨q,b1,o,rest,b',k1,k2,k3,k4,k5,k6,k7,k8,k9,k10,vs,k11⟩:=hbox r css[r] (List.getElem?_eq_getElem hrl')
    rw [hb] at k2
    cases k2
    exact ⟨q,o,rest,b',css[r],vs,k1,k3,k4,k5,k6,k7,k8,k9,k10,k11,g5 r _ _ vs (List.getElem?_eq_getElem hrl') hc' k11,by rw [hm2 r q.1 q.2 k1];exact k9⟩
   have hv0:∀ r o v n,(Zbg (Zay sh.rows 0) sh.boxes.length (Zfd sh.boxes css' 0 .nil)).get r=some o->(v,n) ∈ o.vers->∃ b c',sh.boxes[r]?=some b/\css'[r]?=some c'/\o=Zbt b c'/\v=0/\n=c'.length:=by
    intro r o v n ho hv
    rcases hget r o ho with ⟨j,b,u,p,_,_,_,_,rfl,_⟩ | ⟨b,c',h1,h2,rfl⟩
    ·simp [Zcj] at hv
    ·simp only [Zbt,List.mem_singleton,Prod.mk.injEq] at hv
     exact ⟨b,c',h1,h2,rfl,hv.1,hv.2⟩
   refine ⟨m2,hcan0,by rw [hqs,List.length_append,q2,q5],⟨⟨?_,?_,?_,hR.size0,hR.amb,?_,?_,?_,fun e=>rfl,hR.same,?_,?_⟩,?_,⟨?_,?_,?_⟩⟩⟩
   ·intro r o _ ho v n hv
    obtain ⟨b,c',h1,h2,rfl,rfl,rfl⟩:=hv0 r o v n ho hv
    obtain ⟨q,o,rest,b',c,vs,k1,k2,k3,k4,k5,k6,k7,k8,k9,k10,k11,k12⟩:=hbx r b c' h1 h2
    refine ⟨b',k12,?_⟩
    have hme:=hmpe r q b o k1 h1 k2
    cases hmp:o.mp with
    | true =>
     unfold Blk at k9
     rw [hmp] at k9
     obtain ⟨k90,k91⟩:=k9
     unfold Blk
     rw [show (Zbt b c').mp=true by show b.mp=true;rw [<- hme,hmp]]
     subst k7
     have hlc:c'.length=o.cells.length:=(Zae k11).symm.trans (Zae k10)
     exact ⟨by omega,k91⟩
    | false =>
    replace k9:=k9.c hmp
    refine BlkC.b ?_ (show b.mp=false by rw [<- hme,hmp])
    obtain ⟨cc,fz,z1,z2,z3,z4,z5,z6⟩:=k9
    subst k7
    have hlc:c'.length=o.cells.length:=(Zae k11).symm.trans (Zae k10)
    refine ⟨cc,fz,by simp only [Zbt];rw [<- k4];exact z1,z2,Nat.le_refl _,by omega,fun i y hi hy=>?_,?_⟩
    ·obtain ⟨v,hv1,hv2⟩:=Za7 k11 hy
     have hio:i < o.cells.length:=by omega
     obtain ⟨v',hv3,hv4⟩:=z5 i o.cells[i] (by omega) (List.getElem?_eq_getElem hio)
     obtain ⟨v'',hv5,hv6⟩:=Za7 k10 (List.getElem?_eq_getElem hio)
     rw [hv3] at hv5
     cases hv5
     rw [hv2] at hv6
     cases hv6
     exact ⟨v,hv1,hv4⟩
    ·simp only [Zbt]
     rw [<- k6,<- k5]
     cases ho:o.opn with
     | true=>simp only [ho,cond_true] at z6 ⊢;exact z6
     | false=>simp only [ho,cond_false] at z6 ⊢;omega
   ·intro r r' o o' v n v' n' b1 b1' _ _ ho ho' hv hv' hb hb' he
    obtain ⟨b,c',h1,h2,rfl,rfl,rfl⟩:=hv0 r o v n ho hv
    obtain ⟨bb,cc',h1',h2',rfl,rfl,rfl⟩:=hv0 r' o' v' n' ho' hv'
    obtain ⟨q,oo,rest,b',c,vs,k1,k2,k3,k4,k5,k6,k7,k8,k9,k10,k11,k12⟩:=hbx r b c' h1 h2
    obtain ⟨q',oo',rest',b'',c'',vs',j1,j2,j3,j4,j5,j6,j7,j8,j9,j10,j11,j12⟩:=hbx r' bb cc' h1' h2'
    rw [k12] at hb
    rw [j12] at hb'
    cases hb;cases hb'
    have:=hR.inj q.1 q'.1 oo oo' q.2 oo.cells.length q'.2 oo'.cells.length _ _ trivial trivial k2 j2 (by rw [k3];simp) (by rw [j3];simp) k8 j8 he
    exact nodupN_ok hnd r r' q.1 (by rw [List.getElem?_map,k1];rfl) (by rw [List.getElem?_map,j1,this];rfl)
   ·intro r o v n rest _ ho hv v' hlt
    obtain ⟨b,c',h1,h2,rfl,rfl,rfl⟩:=hv0 r o v n ho (by rw [hv];simp)
    show (if v'=0 then _ else none)=none
    rw [if_neg (by omega)]
   ·intro r o v n b1 _ ho hv hb
    obtain ⟨b,c',h1,h2,rfl,rfl,rfl⟩:=hv0 r o v n ho hv
    obtain ⟨q,oo,rest,b',c,vs,k1,k2,k3,k4,k5,k6,k7,k8,k9,k10,k11,k12⟩:=hbx r b c' h1 h2
    rw [k12] at hb
    cases hb
    have hl:oo.lent=b.lent:=hlnt r q b oo k1 h1 k2
    have:=hR.abv q.1 oo q.2 oo.cells.length _ trivial k2 (by rw [k3];simp) k8
    rw [hl] at this
    exact this
   ·intro r o e _ ho hd
    rcases hget r o ho with ⟨j,b,u,p,rfl,h1,h2,h3,rfl,hl⟩ | ⟨b,c',h1,h2,rfl⟩
    ·simp only [Zcj,Option.some.injEq] at hd
     subst hd
     refine ⟨u,fps j,hd2 j b u h1 h2,(hl.reads w (fun _ _=>rfl)).one,hl.lt,fun w2 hw2=>⟨p,by simp [Base.ev,SX.ev,Base.with,h3],hl.reads w2 hw2⟩⟩
    ·simp [Zbt] at hd
   ·intro r o e v fp r' o' u' n b1 _ _ ho hd hm ho' hu' hb hfp
    obtain ⟨b,c',h1',h2',rfl,rfl,rfl⟩:=hv0 r' o' u' n ho' hu'
    obtain ⟨q,oo,rest,b',c,vs,k1,k2,k3,k4,k5,k6,k7,k8,k9,k10,k11,k12⟩:=hbx r' b c' h1' h2'
    rw [k12] at hb
    cases hb
    rcases hget r o ho with ⟨j,b2,u,p,rfl,h1,h2,h3,rfl,hl⟩ | ⟨b2,c2,h1,h2,rfl⟩
    ·rw [hd2 j b2 u h1 h2] at hm
     cases hm
     obtain ⟨r3,o3,e3,v3,fp3,_,h3',d3,m3,k3'⟩:=hl.hangs _ hfp
     exact hR.disj r3 o3 e3 v3 fp3 q.1 oo q.2 oo.cells.length _ trivial trivial h3' d3 m3 k2 (by rw [k3];simp) k8 k3'
    ·simp [Zbt] at hd
   ·intro r o e v fp _ ho hd hm hro k hk
    rcases hget r o ho with ⟨j,b2,u,p,rfl,h1,h2,h3,rfl,hl⟩ | ⟨b2,c2,h1,h2,rfl⟩
    ·rw [hd2 j b2 u h1 h2] at hm
     cases hm
     simp only [Zcj] at hro
     subst hro
     exact hl.fpb rfl k hk
    ·simp [Zbt] at hd
   ·intro r o e v n b1 _ ho hs hv hb
    obtain ⟨b,c',h1,h2,rfl,rfl,rfl⟩:=hv0 r o v n ho hv
    obtain ⟨q,oo,rest,b',c,vs,k1,k2,k3,k4,k5,k6,k7,k8,k9,k10,k11,k12⟩:=hbx r b c' h1 h2
    rw [k12] at hb
    cases hb
    simp only [Zbt,Option.map_eq_some_iff] at hs
    obtain ⟨k,hk,rfl⟩:=hs
    obtain ⟨r',e,g1,g2,g3⟩:=hcont r k b h1 hk
    rw [k1] at g1
    cases g1
    obtain ⟨o2,y1,y2,y3,y4,y5⟩:=Zly g2
    rw [k2] at y1
    cases y1
    have hro:=hR.row q.1 oo e q.2 0 _ trivial k2 y2 (by rw [y3];simp) k8
    have hme:=hmpe r q b oo k1 h1 k2
    cases hmp:oo.mp with
    | true =>
     cases hop:oo.opn with
     | false =>
      obtain ⟨cs,es,ck,z1,z2⟩:=hro.m hmp hop
      unfold RowAt
      rw [show (Zbt b c').mp=true by show b.mp=true;rw [<- hme,hmp],show (Zbt b c').opn=false by show b.opn=false;rw [<- k6,hop]]
      exact ⟨cs,es,ck,g3 _ z1,z2⟩
     | true =>
      obtain ⟨cs,es,ck,z1,z2⟩:=hro.mi hmp hop
      unfold RowAt
      rw [show (Zbt b c').mp=true by show b.mp=true;rw [<- hme,hmp],show (Zbt b c').opn=true by show b.opn=true;rw [<- k6,hop]]
      exact ⟨cs,es,ck,g3 _ z1,z2⟩
    | false =>
     obtain ⟨n2,cs,cc,fz,z1,z2,z3,z4,z5⟩:=hro.c hmp
     unfold RowAt
     rw [show (Zbt b c').mp=false by show b.mp=false;rw [<- hme,hmp]]
     refine ⟨n2,cs,cc,fz,g3 _ z1,?_,z3,?_⟩
     ·simp only [Zbt];rw [<- k4];exact z2
     ·simp only [Zbt];rw [<- k5];exact ⟨z4,z5⟩
   ·intro r _ hr
    have hr':sh.boxes.length+(Zay sh.rows 0).length<=r:=hr
    refine ⟨fun v=>?_,?_⟩
    ·show (if v=0 then (rho[r]?).bind fun r=>m r.1 r.2 else none)=none
     have:rho[r]?=none:=List.getElem?_eq_none (by omega)
     rw [this];simp
    ·show (if nb<=r then _ else none)=none
     have:(Zay sh.rows 0)[r - nb]?=none:=List.getElem?_eq_none (by show _<=r - sh.boxes.length;omega)
     rw [this];simp
   ·rw [h.tm.size];exact hn
   ·intro t y hy
    simp only at hy
    rcases tmOf_get _ _ _ _ _ hsm hy with ⟨i,h1,h2⟩ | hy
    ·obtain ⟨v,hv1,hv2⟩:=Za7 g2 h2
     exact ⟨v,hv1,s3 i t v h1 hv2⟩
    ·simp [T.get] at hy
   ·have:=h.tm.defers
    rw [hdef] at this
    exact this
end Go.Proofs.Ytgdegpifjljnoaa.eng
end

section
/- The engine: pieces of code from shape to shape; loops; contracts out of pieces. -/
namespace Go.Proofs.Ytgdegpifjljnoaa.eng
open Go Go.RowKit
variable {W0 : Base}

def flat:Code->List Code
 | .seq a b=>flat a++flat b
 | c=>[c]
def wpL (P:Program):List Code->(Exit->Act->World->Prop)->Act->World->Prop
 | [],Q,a,w=>Q .normal a w
 | c :: cs,Q,a,w=>c.wp P (Exit.then (wpL P cs Q) Q) a w
theorem then_mono {P:Program} {K K':Act->World->Prop} {Q Q':Exit->Act->World->Prop} (hK:∀ a w,K a w->K' a w) (hQ:∀ e a w,e ≠ .normal->Q e a w->Q' e a w) {e:Exit} {a:Act} {w:World} (h:Exit.then K Q e a w):Exit.then K' Q' e a w:=by
 cases e with
 | normal=>exact hK _ _ h
 | _=>exact hQ _ _ _ (by simp) h
theorem wpL_mono {P:Program}:∀ (cs:List Code) {Q Q':Exit->Act->World->Prop} {a:Act} {w:World},(∀ e a w,Q e a w->Q' e a w)->wpL P cs Q a w->wpL P cs Q' a w
 | [],Q,Q',a,w,hQ,h=>hQ _ _ _ h
 | c :: cs,Q,Q',a,w,hQ,h=>wp_mono h fun e a w he=>then_mono (P:=P) (fun a w h=>wpL_mono cs hQ h) (fun e a w _ h=>hQ e a w h) he
theorem Zm5 {P:Program}:∀ (c:Code) (k:List Code) {Q:Exit->Act->World->Prop} {a:Act} {w:World},wpL P (flat c++k) Q a w->c.wp P (Exit.then (wpL P k Q) Q) a w
 | .seq p q,k,Q,a,w,h=>by
  simp only [flat,List.append_assoc] at h
  refine wp_seq (wp_mono (Zm5 p (flat q++k) h) ?_)
  intro e a w he
  cases e with
  | normal=>exact Zm5 q k he
  | _=>exact he
 | .skip,k,Q,a,w,h=>h
 | .region ..,k,Q,a,w,h=>h
 | .cond ..,k,Q,a,w,h=>h
 | .block ..,k,Q,a,w,h=>h
 | .loop ..,k,Q,a,w,h=>h
 | .rangeFunc ..,k,Q,a,w,h=>h
 | .exit ..,k,Q,a,w,h=>h
 | .scope ..,k,Q,a,w,h=>h
 | .label ..,k,Q,a,w,h=>h
 | .goto ..,k,Q,a,w,h=>h
 | .ret,k,Q,a,w,h=>h
 | .refuse ..,k,Q,a,w,h=>h
theorem Zfl {P:Program} {c:Code} {Q:Exit->Act->World->Prop} {a:Act} {w:World} (h:wpL P (flat c) Q a w):c.wp P Q a w:=by
 refine wp_mono (Zm5 c [] (by rwa [List.append_nil])) ?_
 intro e a w he
 cases e with
 | normal=>exact he
 | _=>exact he

def Zmx (E:Eng):List Code->AAct->St->CR
 | [],x,st=>some (.normal,x,st,Log.no)
 | c :: cs,x,st=>seqA (E.code c x st) (Zmx E cs)
theorem codesA_ok {P:Program} {E:Eng} (hE:EngOk P E):∀ (l l2:List Code) (x:AAct) (st:St) (e:AX) (x':AAct) (st':St) (lg:Log),Zmx E l x st=some (e,x',st',lg)->∀ (A:Nat->Prop) (m:Map) (a:Act) (w:World),lg.Fits W0 A->Rel W0 A m st.heap.get w->Fresh A m st.next->TRel m x a →
  ∀ (Q:Exit->Act->World->Prop),(∀ m' a' w',Ok W0 A m st w m' st' lg w'->TRel m' x' a'->(e=.normal->wpL P l2 Q a' w')/\(e ≠ .normal->∀ u:Value,Q (e.to u) a' w'))->wpL P (l++l2) Q a w
 | [],l2,x,st,e,x',st',lg,h,A,m,a,w,hA,hR,hF,hT,Q,hQ=>by
  simp only [Zmx,Option.some.injEq,Prod.mk.injEq] at h
  obtain ⟨rfl,rfl,rfl,rfl⟩:=h
  exact (hQ m a w (Ok.refl hR hF) hT).1 rfl
 | c :: l,l2,x,st,e,x',st',lg,h,A,m,a,w,hA,hR,hF,hT,Q,hQ=>by
  simp only [Zmx,seqA,Option.bind_eq_some_iff] at h
  obtain ⟨⟨e1,x1,st1,l1⟩,hp,h⟩:=h
  show c.wp P (Exit.then (wpL P (l++l2) Q) Q) a w
  cases e1 with
  | normal =>
   simp only [Option.map_eq_some_iff] at h
   obtain ⟨⟨e2,x2,st2,lg2⟩,hq,he⟩:=h
   cases he
   refine wp_mono (hE.code c x st _ _ _ _ hp W0 A m a w (or_A hA).1 hR hF hT) ?_
   rintro ex a1 w1 ⟨m1,hok,hT1,u1,rfl⟩
   exact codesA_ok hE l l2 x1 st1 _ _ _ lg2 hq A m1 a1 w1 (or_A hA).2 hok.rel hok.fresh hT1 Q (fun m' a' w' hok' hT'=>hQ m' a' w' (hok.trans hok') hT')
  | _ =>
   simp only [Option.some.injEq,Prod.mk.injEq] at h
   obtain ⟨rfl,rfl,rfl,rfl⟩:=h
   refine wp_mono (hE.code c x st _ _ _ _ hp W0 A m a w hA hR hF hT) ?_
   rintro ex a1 w1 ⟨m1,hok,hT1,u1,rfl⟩
   exact (hQ m1 a1 w1 hok hT1).2 (by simp) u1

def segTo (P:Program) (O:Orc) (n:Nat) (cs:List Code) (sh:Shape) (path:List Nat) (sh':Shape) (rho:List (Nat × Nat)) (H:FuncId->Oper->Option Hint:=fun _ _=>none):Option (AX × List Fact × List SX) :=
 (canon sh path).bind fun (x,st)=>(Zmx (Zpe P O n H) cs x st).bind fun (e,x',st',lg)=>(Zmp sh' rho x' st').bind fun (es,fs)=>cond ((canon sh' []).isSome && e.tame) (some (e,lg.V++fs,es)) none
theorem canon_path {sh:Shape} {path:List Nat} {x:AAct} {st:St} (h:canon sh path=some (x,st)):∃ st0,canon sh []=some (x,st0)/\st={ st0 with path:=path }:=by
 unfold canon at h ⊢
 simp only [Option.bind_eq_some_iff] at h
 obtain ⟨⟨xs,r⟩,h1,⟨css,r'⟩,h2,h⟩:=h
 simp only [h1,h2,Option.bind_some]
 cases hc:(r'.isEmpty && small (sh.slots.map (·.1)) && Nat.blt (sh.boxes.length+sh.rows.length) 16777215 && Zg5 sh.boxes sh.rows.length) with
 | false=>simp only [hc,cond_false] at h;cases h
 | true =>
  simp only [hc,cond_true,Option.some.injEq,Prod.mk.injEq] at h
  obtain ⟨rfl,rfl⟩:=h
  exact ⟨_,rfl,rfl⟩
theorem Zan (hN:GoodP Try.prog) (hM:Try.prog.follows .mixedOrders=true) {O:Orc} (hO:OrcOk Try.prog O) {n:Nat} {l l2:List Code} {sh sh':Shape} {path:List Nat} {rho:List (Nat × Nat)} {H:FuncId->Oper->Option Hint} {e:AX} {fs:List Fact} {es:List SX}
  (hrun:segTo Try.prog O n l sh path sh' rho H=some (e,fs,es)) {C:Base} {ps:List PV} {a:Act} {w:World} (h:Zao C sh ps a w) (hf:∀ x ∈ fs,x.holds (C.with ps)) {Q:Exit->Act->World->Prop}
  (hQ:∀ qs a' w',evs (fun i=>ps[i]?) C.F es=some qs->Zao C sh' qs a' w'->(e=.normal->wpL Try.prog l2 Q a' w')/\(e ≠ .normal->Q e.to a' w')):wpL Try.prog (l++l2) Q a w:=by
 simp only [segTo,Option.bind_eq_some_iff] at hrun
 obtain ⟨⟨x,st⟩,hcan,⟨e',x',st',lg⟩,hcode,⟨es',fs'⟩,hrd,hrun⟩:=hrun
 cases hc:(canon sh' []).isSome with
 | false=>simp [hc] at hrun
 | true =>
  cases htame:e'.tame with
  | false=>simp [htame] at hrun
  | true =>
  simp only [hc,htame,Bool.and_self,cond_true,Option.some.injEq,Prod.mk.injEq] at hrun
  obtain ⟨rfl,rfl,rfl⟩:=hrun
  obtain ⟨x0,st0,m,h0,hl,hat⟩:=h
  obtain ⟨st1,h1,rfl⟩:=canon_path hcan
  rw [h0] at h1
  cases h1
  refine codesA_ok (W0:=C.with ps) (theEng_ok hN hM hO n) l l2 x _ _ _ _ _ hcode (fun _=>True) m a w ⟨fun _ _=>trivial,fun f hf'=>hf f (by simp [hf'])⟩ hat.rel hat.fresh hat.tm Q ?_
  intro m' a' w' hok hT'
  obtain ⟨qs,q1,q2⟩:=reabs (B:=C.with ps) ⟨hok.rel,hok.fresh,hT'⟩ hrd (fun f hf'=>hf f (by simp [hf'])) hc
  have hq:=hQ qs a' w' q1 q2
  exact ⟨hq.1,fun hne u=>by rw [AX.to_tame htame u undef];exact hq.2 hne⟩

theorem loop_rule {P:Program} {c:Code} {Q:Exit->Act->World->Prop} (I:Nat->Act->World->Prop) (h:∀ n a w,I n a w->c.wp P (fun e a' w'=>(e=.normal/\∃ n',n' < n/\I n' a' w') \/ (e ≠ .normal/\(∀ l,e ≠ .goto l)/\Q e a' w')) a w):∀ n a w,I n a w->(Code.loop c).wp P Q a w:=by
 have key:∀ n a w,I n a w->LoopWp P c Q a w:=by
  intro n
  induction n using Nat.strongRecOn with
  | ind n ih =>
   intro a w hI b k cs
   obtain ⟨e,a1,w1,hq,harr⟩:=h n a w hI b (.inLoop c :: k) cs
   rcases hq with ⟨rfl,n',hn',hI'⟩ | ⟨hne,hng,hq⟩
   ·obtain ⟨e2,a2,w2,hq2,harr2⟩:=ih n' hn' a1 w1 hI' b k cs
    exact ⟨e2,a2,w2,hq2,.of_steps (Steps.trans harr (.one step_inLoop)) harr2⟩
   ·refine ⟨e,a1,w1,hq,?_⟩
    cases e with
    | normal=>exact absurd rfl hne
    | goto l=>exact absurd rfl (hng l)
    | exit id=>exact .pass (x:=.inLoop c) rfl (fun _ _=>.inl (by simp)) harr
    | ret=>exact .pass (x:=.inLoop c) rfl (fun _ _=>.inl (by simp)) harr
    | panic ch=>exact .pass (x:=.inLoop c) rfl (fun _ _=>.inl (by simp)) harr
    | outgrown=>exact .pass (x:=.inLoop c) rfl (fun _ _=>.inl (by simp)) harr
 intro n a w hI b k cs
 obtain ⟨e,a',w',hq,harr⟩:=key n a w hI b k cs
 exact ⟨e,a',w',hq,.of_steps (.one step_loop) harr⟩
theorem Zhq {P:Program} {id:Nat} {b:Code} {k:List Code} {Q:Exit->Act->World->Prop} (I:Nat->Act->World->Prop)
  (h:∀ n a w,I n a w->wpL P (flat b) (fun e a' w'=>(e=.normal/\∃ n',n' < n/\I n' a' w') \/ (e=.exit id/\wpL P k Q a' w') \/ (e=.ret/\Q .ret a' w')) a w) {n:Nat} {a:Act} {w:World} (hI:I n a w):wpL P (.block id (.loop b) :: k) Q a w:=by
 refine wp_block (loop_rule I (fun n a w hI=>wp_mono (Zfl (h n a w hI)) ?_) n a w hI)
 rintro e a' w' (⟨rfl,hn⟩ | ⟨rfl,hk⟩ | ⟨rfl,hq⟩)
 ·exact .inl ⟨rfl,hn⟩
 ·refine .inr ⟨by simp,by simp,?_⟩
  simp only [Exit.inBlock,if_true]
  exact hk
 ·exact .inr ⟨by simp,by simp,hq⟩

def Zmu:List SX->Nat->Bool
 | [],_=>true
 | .var j :: es,i=>Nat.beq j i && Zmu es (i+1)
 | _,_=>false
theorem Zg6 {s:Nat->Option PV} {F:Fns} {ps:List PV}:∀ (es:List SX) (i:Nat),Zmu es i=true->es.length+i=ps.length->(∀ j p,ps[j]?=some p->s j=some p)->evs s F es=some (ps.drop i)
 | [],i,_,hl,_=>by
  have:ps.drop i=[]:=List.drop_eq_nil_of_le (by simp at hl;omega)
  simp [evs,this]
 | e :: es,i,h,hl,hs=>by
  cases e <;> simp [Zmu] at h
  rename_i j
  obtain ⟨rfl,h⟩:=h
  have hi:j < ps.length:=by simp at hl;omega
  have ih:=Zg6 (F:=F) es (j+1) h (by simp at hl ⊢;omega) hs
  simp only [evs,SX.ev,hs j _ (List.getElem?_eq_getElem hi),Option.bind_some,ih,Option.map_some]
  rw [List.drop_eq_getElem_cons hi]
def Zeg (rows:List (Option Bool)):List Fact->Bool
 | []=>true
 | .ok (.var j) :: fs=>(match rows[j]? with | some none=>true | _=>false) && Zeg rows fs
 | _=>false
theorem Zb4 {B:Base} {rows:List (Option Bool)} (h:∀ j:Nat,rows[j]?=some none->∃ x,B.s j=some (.v x)/\x.oneCell'=true):∀ (fs:List Fact),Zeg rows fs=true->∀ f ∈ fs,f.holds B
 | [],_,f,hf=>by simp at hf
 | g :: fs,hv,f,hf=>by
  unfold Zeg at hv
  split at hv
  ·rename_i e;cases e
  ·rename_i j fs' e
   cases e
   simp only [Bool.and_eq_true] at hv
   rcases List.mem_cons.1 hf with rfl | hf
   ·have:rows[j]?=some none:=by
     revert hv
     cases hr:rows[j]? with
     | none=>simp
     | some o=>cases o <;> simp
    obtain ⟨x,hx,ho⟩:=h j this
    exact ⟨x,by simpa [Base.ev,SX.ev] using hx,ho⟩
   ·exact Zb4 h _ hv.2 f hf
  ·cases hv
def startOk (E:FnE) (fn:Func) (f:FuncId) (sh:Shape):Bool:=match Zmn E (sh.rows.map fun k=>match k with | some _=>.row | none=>.num) [] with
 | some (args,st,fs)=>Nat.blt args.length 16777215 && Nat.beq sh.rows.length (shLen E.ins) && (canon sh []).isSome && Zeg sh.rows fs && (match Zmp sh [] (Zjh fn args f) st with | some (es,fs')=>Zmu es 0 && Nat.beq es.length sh.rows.length && Zeg sh.rows fs' | none=>false)
 | none=>false
def resTo (P:Program) (fn:Func) (sh:Shape) (E:FnE):Option (List SX):=(canon sh []).bind fun (x,st)=>(Zen P fn x st).bind fun (y,l1)=>(Zhl E.outs y).bind fun ys=>(Zbb E.outs ys).bind fun ls=>(Zes st ls).bind fun (es,l2)=>cond (l1.V.isEmpty && l2.V.isEmpty) (some es) none
theorem Zm9 {f:FuncId} {E:FnE} {spec:List PV->Option (List PV)} (F:Fns) (fn:Func) (c:Code) (hfn:Try.prog.funcs[f]?=some fn) (hc:fn.body=some c) (sh0:Shape) (hsh:startOk E fn f sh0=true)
  (hk:∀ ps qs,spec ps=some qs->∀ i:Nat,sh0.rows[i]?=some none->∃ x,ps[i]?=some (.v x)/\x.oneCell'=true)
  (h:∀ (C:Base) ps qs,C.F=F->spec ps=some qs->∀ a w,Zao C sh0 ps a w->wpL Try.prog (flat c) (fun e a' w'=>(e=.normal \/ e=.ret)/\∃ sh' ps' es,Zao C sh' ps' a' w'/\resTo Try.prog fn sh' E=some es/\evs (fun i=>ps'[i]?) F es=some qs) a w) (hpl0:E.kinds.all CK.plain=true:=by rfl):ToldF f E spec:=by
 intro w FP us ps qs hsp hul hpl hFP hrd
 unfold startOk at hsh
 split at hsh
 ·rename_i args st fs hst
  simp only [Bool.and_eq_true,Nat.blt_eq,Nat.beq_eq] at hsh
  obtain ⟨⟨⟨⟨hal,hrl⟩,hcan⟩,hvf⟩,hread⟩:=hsh
  split at hread
  ·rename_i es fs' hre
   simp only [Bool.and_eq_true,Nat.beq_eq] at hread
   obtain ⟨⟨hiv,hel⟩,hvf'⟩:=hread
   have hk':=hk ps qs hsp
   obtain ⟨m,hR,hF,hargs,hv0,_⟩:=Zgy (F:=F) hst hul hpl hFP hrd (Zb4 (B:=⟨w,fun i=>ps[i]?,F,FP,fun _=>False⟩) hk' fs hvf)
   have hT:=Zgz (f:=f) (fn:=fn) hargs hal
   obtain ⟨qs',q1,q2⟩:=reabs (B:=⟨w,fun i=>ps[i]?,F,FP,fun _=>False⟩) ⟨hR,hF,hT⟩ hre (Zb4 (B:=⟨w,fun i=>ps[i]?,F,FP,fun _=>False⟩) hk' fs' hvf') hcan
   have:=Zg6 (s:=fun i=>ps[i]?) (F:=F) (ps:=ps) es 0 hiv (by omega) (fun j p hp=>hp)
   rw [List.drop_zero] at this
   simp only at q1
   rw [this] at q1
   cases q1
   refine calls_of_wp_defers hfn hc (wp_mono (Zfl (h _ ps qs rfl hsp _ w q2)) ?_)
   rintro e a' w' ⟨he,sh',ps',es',⟨x,st1,m1,hc1,hl1,hat⟩,hres,hev⟩
   simp only [resTo,hc1,Option.bind_some,Option.bind_eq_some_iff] at hres
   obtain ⟨⟨y,l1⟩,hy,ys,hys,ls,hls,⟨es2,l2⟩,hes2,hres⟩:=hres
   cases hv:(l1.V.isEmpty && l2.V.isEmpty) with
   | false=>simp [hv] at hres
   | true =>
    simp only [hv,cond_true,Option.some.injEq] at hres
    subst hres
    simp only [Bool.and_eq_true,List.isEmpty_iff] at hv
    obtain ⟨v,hvv,hrun⟩:=Zdq hy ⟨fun _ _=>trivial,fun f hf=>by rw [hv.1] at hf;cases hf⟩ hat.rel hat.tm
    obtain ⟨us',h1,h2,rfl⟩:=Zij hys hvv hls
    obtain ⟨qs2,h3,h4,h5⟩:=Zd7 hat.rel hes2 ⟨fun _ _=>trivial,fun f hf=>by rw [hv.2] at hf;cases hf⟩ h1
    have h3':evs (fun i=>ps'[i]?) F es2=some qs2:=h3
    rw [hev] at h3'
    cases h3'
    have hdef:a'.defers=[]:=by
     have:=hat.tm.defers
     have hx:x.defers=[]:=by
      unfold canon at hc1
      simp only [Option.bind_eq_some_iff] at hc1
      obtain ⟨⟨xs,r⟩,_,⟨css,r'⟩,_,hc1⟩:=hc1
      simp only [cond_eq_ite] at hc1
      split at hc1
      ·cases hc1;rfl
      ·cases hc1
     rw [hx] at this
     simpa [denD] using this.symm
    have fin:Leaves Try.prog fn a'.tmps (fun e w'=>∃ (us':List Value) (ow:Nat->Option Nat),us'.length=qs.length/\qs.length=shLen E.outs/\Owns w w' E.kinds qs us' ow/\(∀ (i:Nat) (q:PV) (u:Value),qs[i]?=some q->us'[i]?=some u->∀ w2:World,(∀ k,FP k \/ (w.heap.size<=k/\k < w'.heap.size)->(∀ j,j ≠ i->ow j ≠ some k)->w2.heap[k]?=w'.heap[k]?)->Reads w2 q u)/\e=.returned (Zec E.outs us')/\Ex w w') a'.defers .returning w':=by
     rw [hdef]
     have hll:=Zae h1
     refine ⟨_,hrun,us',fun _=>none,h4.symm,by omega,Zd8 hpl0,fun i q u hq hu w2 hw2=>h5 i q u _ hq hu (List.getElem?_eq_getElem (show i < ls.length by have:=(List.getElem?_eq_some_iff.1 hu).1;omega)) w2 (fun k hk _=>hw2 k ?_ (fun _ _ h=>by cases h)),rfl,⟨hat.rel.same.1,hat.rel.same.2.1,hat.rel.same.2.2,hat.rel.size0,fun k hk=>hat.rel.amb k hk (fun h=>h)⟩⟩
     rcases hk.2 with h | h
     ·exact .inl h
     ·exact .inr ⟨h,hk.1⟩
    rcases he with rfl | rfl
    ·exact fin
    ·exact fin
  ·cases hread
 ·cases hsh

def Zdy (P:Program) (f:FuncId):Code:=((P.funcs[f]?).bind (·.body)).getD .skip
def nth (l:List Code) (i:Nat):Code:=(l[i]?).getD .skip
def Zfn:Code->Code | .block _ (.loop b)=>b | _=>.skip
def Zgi:Code->Nat | .block i _=>i | _=>0
end Go.Proofs.Ytgdegpifjljnoaa.eng
end

section
/- The engine: calls of functions that are told of by a contract and turn what their first argument points to. -/
namespace Go.Proofs.Ytgdegpifjljnoaa.eng
open Go Go.RowKit
variable {W0 : Base}

def callP (f:FuncId) (E:PtrE) (args:List AV) (st:St):Option (ARet × St × Log):=match args with
 | .ptr r v idx sz sub :: rest=>(getC st r).bind fun o=>match o.vers with
  | (v',n) :: _=>(Zbb E.ins rest).bind fun ls=>(Zfc st (ls++o.cells)).bind fun (es,ok,lA)=>(outD (.fn E.k es) E.kinds 0 st.next (st.next+(Zal E.kinds 0).length) st.path).bind fun (cs,fs,p',os) =>
   cond (Nat.beq v v' && Nat.beq (idx * sz+sub) 0 && ok && !o.ro && !o.opn && Nat.beq n o.cells.length && Nat.beq n E.cells && Nat.beq o.elem E.elem && Nat.blt (st.next+(Zal E.kinds 0).length+os.length) 16777215 && Nat.beq E.kinds.length (shLen E.outs+E.cells) && (cs.drop (shLen E.outs)).all AV.one)
    ((St.put (resSt st (.fn E.k es) E.kinds p' os) r { o with cells:=cs.drop (shLen E.outs),vers:=[(v,n)],dat:=none,sym:=none }).map fun st' =>
     (.ret (Zl2 E.outs (cs.take (shLen E.outs))),st',⟨(1 <<< r) ||| (lA.A ||| Zd4 st E.kinds os),(1 <<< r) ||| Zd4 st E.kinds os,.fp f E es :: (lA.V++fs)⟩)) none
  | []=>none
 | _=>none
def orcP (tab:FuncId->Option PtrE):Orc:=fun f args st=>(tab f).bind fun E=>callP f E args st
theorem callP_ok {f:FuncId} {E:PtrE} {args:List AV} {st st':St} {r:ARet} {lg:Log} (hr:callP f E args st=some (r,st',lg)) (W0:Base) (A:Nat->Prop) (m:Map) (w:World) (vs:List Value) (hA:lg.Fits W0 A) (hR:Rel W0 A m st.heap.get w) (hF:Fresh A m st.next) (hvs:denL m args=some vs) :
  Calls Try.prog f vs.toArray w (CPost W0 A m st w r st' lg):=by
 unfold callP at hr
 split at hr
 ·rename_i r0 v idx sz sub rest
  simp only [Option.bind_eq_some_iff] at hr
  obtain ⟨o,ho,hr⟩:=hr
  obtain ⟨ho,hmp⟩:=Zjp ho
  split at hr
  ·rename_i v' n rest' hvers
   simp only [Option.bind_eq_some_iff] at hr
   obtain ⟨ls,hls,⟨es,ok,lA⟩,hes,⟨cs,fs,p',os⟩,hout,hr⟩:=hr
   cases hc:(Nat.beq v v' && Nat.beq (idx * sz+sub) 0 && ok && !o.ro && !o.opn && Nat.beq n o.cells.length && Nat.beq n E.cells && Nat.beq o.elem E.elem && Nat.blt (st.next+(Zal E.kinds 0).length+os.length) 16777215 && Nat.beq E.kinds.length (shLen E.outs+E.cells) && (cs.drop (shLen E.outs)).all AV.one) with
   | false=>simp [hc] at hr
   | true =>
    simp only [hc,cond_true,Option.map_eq_some_iff,Prod.mk.injEq] at hr
    obtain ⟨s1,hput,rfl,rfl,rfl⟩:=hr
    simp only [Bool.and_eq_true,Nat.blt_eq,Nat.beq_eq,Bool.not_eq_true',List.all_eq_true] at hc
    obtain ⟨⟨⟨⟨⟨⟨⟨⟨⟨⟨rfl,hz⟩,rfl⟩,hro⟩,hop⟩,hnl⟩,hnE⟩,hel⟩,hsm⟩,hkl⟩,hone⟩:=hc
    have har:A r0:=hA.1 r0 (Zat ((Zah _ _).2 rfl))
    have hlA:lA.Fits W0 A:=⟨fun r hr=>hA.1 r (Za2 (Zat hr)),fun f hf=>hA.2 f (by simp [hf])⟩
    simp only [denL,Option.bind_eq_some_iff,Option.map_eq_some_iff] at hvs
    obtain ⟨pv,hpv,rv,hrv,rfl⟩:=hvs
    simp only [AV.den,Option.map_eq_some_iff] at hpv
    obtain ⟨b,hb,rfl⟩:=hpv
    rw [hz]
    obtain ⟨b',hb',hB⟩:=hR.blkC r0 o har ho hmp v n (by rw [hvers];simp)
    rw [hb] at hb';cases hb'
    have hB':=hB
    obtain ⟨c,fz,hcc,hfz,hn1,hn2,hcell,hsize⟩:=hB'
    simp only [hop,cond_false] at hsize
    obtain ⟨l,hd,hll,_,hlc⟩:=hB.cells (P:=(default:Program)) (off:=0) (k:=n) (by omega)
    have hcl:Zaw o 0 n=o.cells:=by simp [Zaw,hnl]
    rw [hcl] at hd
    have hl:l=c.toList:=by
     apply List.ext_getElem?
     intro i
     by_cases hi:i < l.length
     ·have:=hlc i l[i] (List.getElem?_eq_getElem hi)
      simp only [World.cell?,hcc,Nat.zero_add] at this
      rw [List.getElem?_eq_getElem hi]
      simpa using this.symm
     ·rw [List.getElem?_eq_none (by omega),List.getElem?_eq_none (by simp;omega)]
    subst hl
    obtain ⟨us,hus,hul,rfl⟩:=Zc9 E.ins rest hls hrv
    obtain ⟨ps,hps,hpl,hrd⟩:=Zeb hR hes hlA (Zag hus hd)
    obtain ⟨htold,ps',qs,hps',hqs⟩:=hA.2 (.fp f E es) (by simp)
    rw [hps] at hps'
    cases hps'
    have hbm:∀ k,May W0 A m st w k->k < w.heap.size/\k ≠ b.1:=fun k hk=>⟨hk.1,fun he=>by
     obtain ⟨r3,o3,e3,v3,fp3,a3,h3,d3,m3,k3⟩:=hk.2.2
     exact hR.disj r3 o3 e3 v3 fp3 r0 o v n b a3 har h3 d3 m3 ho (by rw [hvers];simp) hb (he ▸ k3)⟩
    have hcl2:c.toList.length=n:=hll
    refine (htold w (May W0 A m st w) b.1 c fz us ps qs hqs hul (by rw [hpl,List.length_append];omega) (by omega) (by rw [<- hel];exact hcc) hfz hbm (fun i p u hp hu w2 hw2=>(hrd i p u hp hu).2 rfl w2 hw2)).mono ?_
    rintro e w' ⟨us',c',fz',ow,h1,h2,h3,h4,hfz',how,h5,rfl,hos,htape,hout2,hsz,hkeep⟩
    rw [<- hel] at h4
    have hlt0:r0 < st.next:=by
     rcases Nat.lt_or_ge r0 st.next with h | h
     ·exact h
     ·rw [(hF r0 har h).1 v] at hb;cases hb
    have hblt:b.1 < w.heap.size:=hR.lt har ho (show (v,n) ∈ o.vers by rw [hvers];simp) hb
    let w1:World:={ w' with heap:=w'.heap.setIfInBounds b.1 (.cells c o.elem fz) }
    have hw1:∀ k,k ≠ b.1->w1.heap[k]?=w'.heap[k]?:=fun k hk=>by
     show (w'.heap.setIfInBounds b.1 _)[k]?=_
     rw [Array.getElem?_setIfInBounds_ne (Ne.symm hk)]
    have hw1s:w1.heap.size=w'.heap.size:=by show (w'.heap.setIfInBounds b.1 _).size=_;simp
    have hex:Ex w w1:=⟨hos,htape,hout2,by rw [hw1s];exact hsz,fun k hk=>by
     by_cases hkb:k=b.1
     ·subst hkb
      show (w'.heap.setIfInBounds b.1 _)[b.1]?=_
      rw [hcc,Array.getElem?_setIfInBounds_self_of_lt (by omega)]
     ·rw [hw1 k hkb];exact hkeep k hk hkb⟩
    have hrb:∀ k,(May W0 A m st w k \/ (w.heap.size<=k/\k < w'.heap.size))->k ≠ b.1:=fun k hk=>by
     rcases hk with hk | hk
     ·exact (hbm k hk).2
     ·omega
    have hall:(us'++c'.toList).length=E.kinds.length:=by simp [h1,h2];omega
    have how1:Owns w w1 E.kinds qs (us'++c'.toList) ow:=⟨fun i bb hi=>by
     obtain ⟨el,sz,may,q,u,g1,g2,g3,⟨g4,g5,n2,cap,cs2,c2,fz2,g6,g7,g8,g9⟩,g10⟩:=how.at' i bb hi
     exact ⟨el,sz,may,q,u,g1,g2,g3,⟨g4,by rw [hw1s];exact g5,n2,cap,cs2,c2,fz2,g6,g7,(hw1 bb (by omega)).trans g8,g9⟩,g10⟩,how.no,how.inj⟩
    obtain ⟨m',S,F',hden⟩:=results hR hF hex (g:=.fn E.k es) (us:=us'++c'.toList) hall (by omega) (fun i q hq=>by simp [Base.ev,SX.ev,hps,hqs,hq]) how1
     (fun i q u hq hu w2 hw2=>h5 i q u hq hu w2 (fun k hk hj=>(hw2 k (by rw [hw1s];exact hk) hj).trans (hw1 k (hrb k hk)))) hout (fun f hf=>hA.2 f (by simp [hf])) hsm (fun r hr=>hA.1 r (Za2 (Za2 hr)))
    have t1:=Zb0 (shLen E.outs) hden
    have t2:=Zb1 (shLen E.outs) hden
    rw [<- h1,List.take_left' rfl,h1] at t1
    rw [<- h1,List.drop_left' rfl,h1] at t2
    obtain ⟨hpt,hnext⟩:=put_ok hput
    have hg1:(resSt st (.fn E.k es) E.kinds p' os).heap.get r0=some o:=by
     rw [Zls (lg:=⟨0,Zd4 st E.kinds os,[]⟩) hsm (fun _ h=>h) r0 (fun h=>by have:=(Za9 _ _ _).1 h;omega)]
     exact ho
    have hb1:m' r0 v=some b:=S.ext.1 _ _ _ hb
    have hcsl:(cs.drop (shLen E.outs)).length=n:=by
     have:=Zae t2
     rw [<- this,Array.length_toList,h2]
     omega
    have hrel1:=S.rel
    have hstep2:Step W0 A (fun k=>k=r0) m' (resSt st (.fn E.k es) E.kinds p' os).heap.get w1 m' s1.heap.get w':=by
     rw [hpt]
     refine Step.put hrel1 har (Map.Le.refl m') (fun _ _ _=>rfl) rfl rfl (fun o2 _ _ _ ho2 _ _=>by rw [hg1] at ho2;cases ho2;exact hro) rfl (fun _ _ _ _ he _ _=>by simp at he) (fun o2 _ _ _ ho2 _ _=>by rw [hg1] at ho2;cases ho2;rfl) (fun _ v1 n1 b1 hv1 hb1'=>by
      simp only [List.mem_singleton,Prod.mk.injEq] at hv1
      obtain ⟨rfl,rfl⟩:=hv1
      rw [hb1] at hb1'
      cases hb1'
      exact Nat.lt_of_lt_of_le hblt hex.size) rfl rfl rfl (by rw [hw1s];exact Nat.le_refl _) ?_ ?_ ?_ ?_
     ·intro k hk hno
      exact (hw1 k (fun e=>hno o v n b hg1 (by rw [hvers];simp) hb1 e.symm)).symm
     ·intro v1 n1 hv1
      simp only [List.mem_singleton,Prod.mk.injEq] at hv1
      obtain ⟨rfl,rfl⟩:=hv1
      refine ⟨b,hb1,BlkC.b ⟨c',fz',h4,hfz',by simp only;omega,by omega,fun i x hi hx=>?_,by simp only [hop,cond_false];omega⟩ hmp⟩
      obtain ⟨u,hu1,hu2⟩:=Za7 t2 hx
      exact ⟨u,hu1,by simpa using hu2⟩
     ·intro v1 n1 rest1 he v2 hlt
      simp only [List.cons.injEq,Prod.mk.injEq] at he
      obtain ⟨⟨rfl,rfl⟩,_⟩:=he
      exact hrel1.top r0 o v n rest' har hg1 hvers v2 hlt
     ·intro v1 n1 b1 hv1 hb1' _
      simp only [List.mem_singleton,Prod.mk.injEq] at hv1
      obtain ⟨rfl,rfl⟩:=hv1
      exact ⟨o,v1,n1,b1,hg1,by rw [hvers];simp,hb1',rfl⟩
    refine ⟨m',⟨(S.trans hstep2).more (fun k hk=>?_),by rw [hnext];exact F'⟩,_,answerA_ok t1 h1,rfl⟩
    rcases hk with hk | hk
    ·exact Za2 hk
    ·exact Zat ((Zah _ _).2 hk)
  ·cases hr
 ·cases hr
theorem callP_gk {f:FuncId} {E:PtrE} {args:List AV} {st st':St} {r:ARet} {lg:Log} (hr:callP f E args st=some (r,st',lg)):Gk st st' lg:=by
 unfold callP at hr
 split at hr
 ·rename_i r0 v idx sz sub rest
  simp only [Option.bind_eq_some_iff] at hr
  obtain ⟨o,ho,hr⟩:=hr
  split at hr
  ·rename_i v' n rest' hvers
   simp only [Option.bind_eq_some_iff] at hr
   obtain ⟨ls,hls,⟨es,ok,lA⟩,hes,⟨cs,fs,p',os⟩,hout,hr⟩:=hr
   cases hc:(Nat.beq v v' && Nat.beq (idx * sz+sub) 0 && ok && !o.ro && !o.opn && Nat.beq n o.cells.length && Nat.beq n E.cells && Nat.beq o.elem E.elem && Nat.blt (st.next+(Zal E.kinds 0).length+os.length) 16777215 && Nat.beq E.kinds.length (shLen E.outs+E.cells) && (cs.drop (shLen E.outs)).all AV.one) with
   | false=>simp [hc] at hr
   | true =>
    simp only [hc,cond_true,Option.map_eq_some_iff,Prod.mk.injEq] at hr
    obtain ⟨s1,hput,rfl,rfl,rfl⟩:=hr
    simp only [Bool.and_eq_true,Nat.blt_eq,Nat.beq_eq] at hc
    have hsm:=hc.1.1.2
    have g1:Gk st (resSt st (.fn E.k es) E.kinds p' os) ⟨0,Zd4 st E.kinds os,[]⟩:=Zls hsm (fun _ h=>h)
    have g2:=Zgc hput
    intro r hr
    rw [g2 r (fun h=>hr (Zat h)),g1 r (fun h=>hr (Za2 h))]
  ·cases hr
 ·cases hr
theorem Zc4 (tab:FuncId->Option PtrE):OrcOk Try.prog (orcP tab):=by
 refine ⟨?_,?_⟩
 ·intro f args st r st' lg hr W0 A m w vs hA hR hF hvs
  simp only [orcP,Option.bind_eq_some_iff] at hr
  obtain ⟨E,hE,hr⟩:=hr
  exact callP_ok hr W0 A m w vs hA hR hF hvs
 ·intro f args st r st' lg hr
  simp only [orcP,Option.bind_eq_some_iff] at hr
  obtain ⟨E,hE,hr⟩:=hr
  exact callP_gk hr
end Go.Proofs.Ytgdegpifjljnoaa.eng
end

section
/- The engine: a contract out of pieces, of a function that turns what its first argument points to. -/
namespace Go.Proofs.Ytgdegpifjljnoaa.eng
open Go Go.RowKit
variable {W0 : Base}

def PtrE.all (E:PtrE):FnE:={ k:=E.k,ins:=E.ins++List.replicate E.cells none,leaks:=List.replicate (shLen E.ins+E.cells) true,outs:=[],kinds:=[] }
def Zbe (E:PtrE) (cells:List AV):ARoot:={ cells:=cells,elem:=E.elem,esz:=0,ro:=false,opn:=false,vers:=[(0,E.cells)],dat:=none,sym:=none,lent:=true }
def Zpp (E:PtrE) (sh:Shape):Option (List AV × St × List Fact):=(Zmn E.all (sh.rows.map fun k=>match k with | some _=>.row | none=>.num) []).bind fun (args,st,fs) =>
 cond (Nat.beq args.length (E.ins.length+E.cells)) ((St.put { st with next:=st.next+1 } st.next (Zbe E (args.drop E.ins.length))).map fun st'=>(.ptr st.next 0 0 0 0 :: args.take E.ins.length,st',fs)) none
def Zii (E:PtrE) (fn:Func) (f:FuncId) (sh:Shape):Bool:=match Zpp E sh with
 | some (args,st,fs)=>Nat.blt args.length 16777215 && Nat.beq sh.rows.length (shLen E.ins+E.cells) && (canon sh []).isSome && Zeg sh.rows fs && (match Zmp sh [(st.next - 1,0)] (Zjh fn args f) st with | some (es,fs')=>Zmu es 0 && Nat.beq es.length sh.rows.length && Zeg sh.rows fs' | none=>false)
 | none=>false
def resToP (P:Program) (fn:Func) (sh:Shape) (E:PtrE):Option (List SX):=(canon sh []).bind fun (x,st)=>(Zen P fn x st).bind fun (y,l1)=>(Zhl E.outs y).bind fun ys=>(Zbb E.outs ys).bind fun ls=>(getC st 0).bind fun o=>match o.vers with
 | (v,n) :: _=>(Zes st (ls++o.cells)).bind fun (es,l2)=>cond (l1.V.isEmpty && l2.V.isEmpty && o.lent && !o.opn && Nat.beq n o.cells.length && Nat.beq n E.cells && Nat.beq o.elem E.elem) (some es) none
 | []=>none
theorem Zg0:∀ (a b:Sh),shLen (a++b)=shLen a+shLen b
 | [],b=>by simp [shLen]
 | none :: a,b=>by simp only [List.cons_append,shLen,Zg0 a b];omega
 | some n :: a,b=>by simp only [List.cons_append,shLen,Zg0 a b];omega
theorem shLen_nones (n:Nat):shLen (List.replicate n none)=n:=by
 induction n with
 | zero=>rfl
 | succ n ih=>simp [List.replicate_succ,shLen,ih]
theorem Zd5:∀ (vs:List Value),Zak (List.replicate vs.length none) vs=vs
 | []=>rfl
 | v :: vs=>by simp [List.replicate_succ,Zak,Zd5 vs]
theorem Zd0:∀ (a:Sh) (b:Sh) (us vs:List Value),us.length=shLen a->Zak (a++b) (us++vs)=Zak a us++Zak b vs
 | [],b,us,vs,h=>by
  have:us=[]:=List.eq_nil_of_length_eq_zero (by simpa [shLen] using h)
  subst this
  simp [Zak]
 | none :: a,b,[],vs,h=>by simp [shLen] at h
 | none :: a,b,u :: us,vs,h=>by
  have ih:=Zd0 a b us vs (by simpa [shLen] using h)
  simp [Zak,ih]
 | some n :: a,b,us,vs,h=>by
  simp only [shLen] at h
  have ih:=Zd0 a b (us.drop n) vs (by simp;omega)
  simp only [List.cons_append,Zak]
  rw [List.take_append_of_le_length (by omega),List.drop_append_of_le_length (by omega),ih]
theorem Zdz:∀ (a:Sh) (us:List Value),us.length=shLen a->(Zak a us).length=a.length
 | [],us,h=>by simp [Zak]
 | none :: a,[],h=>by simp [shLen] at h
 | none :: a,u :: us,h=>by simp [Zak,Zdz a us (by simpa [shLen] using h)]
 | some n :: a,us,h=>by
  simp only [shLen] at h
  simp [Zak,Zdz a (us.drop n) (by simp;omega)]
theorem told_ptr {f:FuncId} {E:PtrE} {spec:List PV->Option (List PV)} (F:Fns) (fn:Func) (c:Code) (hfn:Try.prog.funcs[f]?=some fn) (hc:fn.body=some c) (sh0:Shape) (hsh:Zii E fn f sh0=true)
  (hk:∀ ps qs,spec ps=some qs->∀ i:Nat,sh0.rows[i]?=some none->∃ x,ps[i]?=some (.v x)/\x.oneCell'=true)
  (h:∀ (C:Base) ps qs,C.F=F->spec ps=some qs->∀ a w,Zao C sh0 ps a w->wpL Try.prog (flat c) (fun e a' w'=>(e=.normal \/ e=.ret)/\∃ sh' ps' es,Zao C sh' ps' a' w'/\resToP Try.prog fn sh' E=some es/\evs (fun i=>ps'[i]?) F es=some qs) a w) (hpl0:E.kinds.all CK.plain=true:=by rfl):ToldP f E spec:=by
 intro w FP b cc fz us ps qs hsp hul hpl hcs hcc hfz hFP hrd
 unfold Zii at hsh
 split at hsh
 ·rename_i args st fs hst
  simp only [Bool.and_eq_true,Nat.blt_eq,Nat.beq_eq] at hsh
  obtain ⟨⟨⟨⟨hal,hrl⟩,hcan⟩,hvf⟩,hread⟩:=hsh
  split at hread
  ·rename_i es fs' hre
   simp only [Bool.and_eq_true,Nat.beq_eq] at hread
   obtain ⟨⟨hiv,hel⟩,hvf'⟩:=hread
   have hk':=hk ps qs hsp
   let B:Base:=⟨w,fun i=>ps[i]?,F,FP,fun k=>k=b⟩
   simp only [Zpp,Option.bind_eq_some_iff] at hst
   obtain ⟨⟨args0,st0,fs0⟩,hst0,hst⟩:=hst
   cases hlen:Nat.beq args0.length (E.ins.length+E.cells) with
   | false=>simp [hlen] at hst
   | true =>
    simp only [hlen,cond_true,Option.map_eq_some_iff,Prod.mk.injEq] at hst
    obtain ⟨st1,hput,rfl,rfl,rfl⟩:=hst
    have hlen:=Nat.eq_of_beq_eq_true hlen
    have hcl:cc.toList.length=E.cells:=by simpa using hcs
    have hall:shLen E.all.ins=shLen E.ins+E.cells:=by simp [PtrE.all,Zg0,shLen_nones]
    obtain ⟨m,hR,hF,hargs,hv0,hfps⟩:=Zgy (F:=F) (X:=fun k=>k=b) (us:=us++cc.toList) (ps:=ps) hst0 (by simp [hul,hpl,hcl]) (by rw [hall];exact hpl) (fun k hk=>(hFP k hk).1)
     (fun i p u hp hu=>⟨hrd i p u hp hu w (fun _ _=>rfl),fun _ w2 hw2=>hrd i p u hp hu w2 hw2⟩) (Zb4 (B:=B) hk' fs0 hvf)
    have hfp:∀ r v fp,m.d r=some (v,fp)->∀ k,fp k->FP k:=fun r v fp hm k hk=>by
     rcases hfps r v fp hm k hk with h | ⟨x,hx,hl⟩
     ·exact h
     ·exfalso
      have hx':x < shLen E.ins+E.cells:=by simp [hul,hcl] at hx;omega
      simp [PtrE.all,List.getD,List.getElem?_replicate,hx'] at hl
    have hasm:Zak E.all.ins (us++cc.toList)=Zak E.ins us++cc.toList:=by
     simp only [PtrE.all]
     rw [Zd0 _ _ _ _ hul,<- hcl,Zd5]
    rw [hasm] at hargs
    have hail:=Zdz E.ins us hul
    have t1:=Zb0 E.ins.length hargs
    have t2:=Zb1 E.ins.length hargs
    rw [<- hail,List.take_left' rfl,hail] at t1
    rw [<- hail,List.drop_left' rfl,hail] at t2
    obtain ⟨hpt,hnext⟩:=put_ok hput
    have hblt:b < w.heap.size:=by
     rcases Nat.lt_or_ge b w.heap.size with h | h
     ·exact h
     ·rw [Array.getElem?_eq_none h] at hcc;cases hcc
    have hcells:(args0.drop E.ins.length).length=E.cells:=by simp;omega
    have hle:m.Le (m.new st0.next (b,0)):=⟨fun r v x hx=>by
     show (if r=st0.next/\v=0 then some (b,0) else m r v)=some x
     split
     ·rename_i e
      rw [e.1,(hF st0.next trivial (Nat.le_refl _)).1 v] at hx
      cases hx
     ·exact hx,fun _ _ h=>h,fun _ _ h=>h⟩
    have hup:∀ r o,st1.heap.get r=some o->(r=st0.next/\o=Zbe E (args0.drop E.ins.length)) \/ (r ≠ st0.next/\st0.heap.get r=some o):=fun r o ho=>by
     rw [hpt] at ho
     by_cases hr:r=st0.next
     ·simp [Heap.upd,hr] at ho;exact .inl ⟨hr,ho.symm⟩
     ·simp [Heap.upd,hr] at ho;exact .inr ⟨hr,ho⟩
    have hvr:∀ r o v n,st1.heap.get r=some o->(v,n) ∈ o.vers->r=st0.next/\o=Zbe E (args0.drop E.ins.length)/\v=0/\n=E.cells:=fun r o v n ho hv=>by
     rcases hup r o ho with ⟨h1,h2⟩ | ⟨h1,h2⟩
     ·subst h2
      simp only [Zbe,List.mem_singleton,Prod.mk.injEq] at hv
      exact ⟨h1,rfl,hv.1,hv.2⟩
     ·rw [hv0 r o h2] at hv;cases hv
    have hmb:(m.new st0.next (b,0)) st0.next 0=some (b,0):=by simp [Map.new]
    have hR1:Rel B (fun _=>True) (m.new st0.next (b,0)) st1.heap.get w:=by
     refine ⟨?_,?_,?_,Nat.le_refl _,fun _ _ _=>rfl,?_,?_,?_,hR.sv,⟨rfl,rfl,rfl⟩,?_,?_⟩
     ·intro r o _ ho v n hv
      obtain ⟨rfl,rfl,rfl,rfl⟩:=hvr r o v n ho hv
      refine ⟨(b,0),hmb,cc,fz,hcc,hfz,by simp only [Zbe];omega,by omega,fun i x hi hx=>?_,by simp only [Zbe,cond_false];exact hcs⟩
      obtain ⟨u,hu1,hu2⟩:=Za7 t2 hx
      exact ⟨u,AV.den_mono hle x hu1,by simpa using hu2⟩
     ·intro r r' o o' v n v' n' b1 b1' _ _ ho ho' hv hv' _ _ _
      obtain ⟨rfl,_⟩:=hvr r o v n ho hv
      obtain ⟨rfl,_⟩:=hvr r' o' v' n' ho' hv'
      rfl
     ·intro r o v n rest _ ho hv v' hlt
      obtain ⟨rfl,rfl,rfl,rfl⟩:=hvr r o v n ho (by rw [hv];simp)
      have:¬ v'=0:=by omega
      simp [Map.new,this,(hF st0.next trivial (Nat.le_refl _)).1]
     ·intro r o v n b1 _ ho hv hb
      obtain ⟨rfl,rfl,rfl,rfl⟩:=hvr r o v n ho hv
      rw [hmb] at hb
      cases hb
      exact ⟨fun hl=>(by simp [Zbe] at hl),fun _=>rfl⟩
     ·intro r o e _ ho hd
      rcases hup r o ho with ⟨h1,h2⟩ | ⟨h1,h2⟩
      ·subst h2;simp [Zbe] at hd
      ·exact hR.dat r o e trivial h2 hd
     ·intro r o e v fp r' o' u n b1 _ _ ho hd hm ho' hu hb hfpb
      obtain ⟨rfl,rfl,rfl,rfl⟩:=hvr r' o' u n ho' hu
      rw [hmb] at hb
      cases hb
      exact (hFP _ (hfp r v fp hm _ hfpb)).2 rfl
     ·intro r o e v fp _ ho hd hm hro k hk
      exact .inl (hfp r v fp hm k hk)
     ·intro r o e v n b1 _ ho hs hv hb
      obtain ⟨rfl,rfl,rfl,rfl⟩:=hvr r o v n ho hv
      simp [Zbe] at hs
    have hF1:Fresh (fun _=>True) (m.new st0.next (b,0)) st1.next:=by
     intro r _ hr
     rw [hnext] at hr
     have hr':st0.next+1<=r:=hr
     have:¬ r=st0.next:=by omega
     have h:=hF r trivial (by omega)
     refine ⟨fun v=>?_,h.2⟩
     simp only [Map.new,this,false_and,if_false]
     exact h.1 v
    have hdenargs:denL (m.new st0.next (b,0)) (.ptr st0.next 0 0 0 0 :: args0.take E.ins.length)=some (.pointer (some ⟨b,0,none⟩) :: Zak E.ins us):=by
     simp [denL,AV.den,hmb,Zcd hle _ t1]
    have hT:=Zgz (f:=f) (fn:=fn) hdenargs hal
    have hnx:st1.next - 1=st0.next:=by rw [hnext];simp
    obtain ⟨qs',q1,q2⟩:=reabs (B:=B) ⟨hR1,hF1,hT⟩ hre (Zb4 (B:=B) hk' fs' hvf') hcan
    have:=Zg6 (s:=fun i=>ps[i]?) (F:=F) (ps:=ps) es 0 hiv (by omega) (fun j p hp=>hp)
    rw [List.drop_zero] at this
    simp only [B] at q1
    rw [this] at q1
    cases q1
    refine calls_of_wp_defers hfn hc (wp_mono (Zfl (h B ps qs rfl hsp _ w q2)) ?_)
    rintro e a' w' ⟨he,sh',ps',es',⟨x,st2,m1,hc1,hl1,hat⟩,hres,hev⟩
    simp only [resToP,hc1,Option.bind_some,Option.bind_eq_some_iff] at hres
    obtain ⟨⟨y,l1⟩,hy,ys,hys,ls,hls,o,ho,hres⟩:=hres
    obtain ⟨ho,hmp⟩:=Zjp ho
    split at hres
    ·rename_i v n rest hvers
     simp only [Option.bind_eq_some_iff] at hres
     obtain ⟨⟨es2,l2⟩,hes2,hres⟩:=hres
     cases hv:(l1.V.isEmpty && l2.V.isEmpty && o.lent && !o.opn && Nat.beq n o.cells.length && Nat.beq n E.cells && Nat.beq o.elem E.elem) with
     | false=>simp [hv] at hres
     | true =>
      simp only [hv,cond_true,Option.some.injEq] at hres
      subst hres
      simp only [Bool.and_eq_true,List.isEmpty_iff,Nat.beq_eq,Bool.not_eq_true'] at hv
      obtain ⟨⟨⟨⟨⟨⟨hv1,hv2⟩,hlent⟩,hop⟩,hnl⟩,hnE⟩,hel2⟩:=hv
      obtain ⟨vv,hvv,hrun⟩:=Zdq hy ⟨fun _ _=>trivial,fun f hf=>by rw [hv1] at hf;cases hf⟩ hat.rel hat.tm
      obtain ⟨us',h1,h2,rfl⟩:=Zij hys hvv hls
      obtain ⟨b',hb',hB⟩:=hat.rel.blkC 0 o trivial ho hmp v n (by rw [hvers];simp)
      have hmine:b'.1=b:=(hat.rel.abv 0 o v n b' trivial ho (by rw [hvers];simp) hb').2 hlent
      obtain ⟨l,hd,hll,_,hlc⟩:=hB.cells (P:=(default:Program)) (off:=0) (k:=n) (by omega)
      have hca:Zaw o 0 n=o.cells:=by simp [Zaw,hnl]
      rw [hca] at hd
      obtain ⟨c',fz',hcc',hfz',hn1,hn2,_,hsz'⟩:=hB
      simp only [hop,cond_false] at hsz'
      have hlc':l=c'.toList:=by
       apply List.ext_getElem?
       intro i
       by_cases hi:i < l.length
       ·have:=hlc i l[i] (List.getElem?_eq_getElem hi)
        simp only [World.cell?,hcc',Nat.zero_add] at this
        rw [List.getElem?_eq_getElem hi]
        simpa using this.symm
       ·rw [List.getElem?_eq_none (by omega),List.getElem?_eq_none (by simp;omega)]
      subst hlc'
      obtain ⟨qs2,h3,h4,h5⟩:=Zd7 hat.rel hes2 ⟨fun _ _=>trivial,fun f hf=>by rw [hv2] at hf;cases hf⟩ (Zag h1 hd)
      have h3':evs (fun i=>ps'[i]?) F es2=some qs2:=h3
      rw [hev] at h3'
      cases h3'
      have hdef:a'.defers=[]:=by
       have:=hat.tm.defers
       have hx:x.defers=[]:=by
        unfold canon at hc1
        simp only [Option.bind_eq_some_iff] at hc1
        obtain ⟨⟨xs,r⟩,_,⟨css,r'⟩,_,hc1⟩:=hc1
        simp only [cond_eq_ite] at hc1
        split at hc1
        ·cases hc1;rfl
        ·cases hc1
       rw [hx] at this
       simpa [denD] using this.symm
      rw [hmine] at hcc'
      have fin:Leaves Try.prog fn a'.tmps (fun e w'=>∃ (us':List Value) (c':Array Value) (fz':Nat × Nat) (ow:Nat->Option Nat),us'.length=shLen E.outs/\c'.size=E.cells/\qs.length=shLen E.outs+E.cells/\w'.heap[b]?=some (.cells c' E.elem fz')/\(∀ i,i < c'.size->¬ (fz'.1<=i/\i < fz'.2))/\Owns w w' E.kinds qs (us'++c'.toList) ow ∧
        (∀ (i:Nat) (q:PV) (u:Value),qs[i]?=some q->(us'++c'.toList)[i]?=some u->∀ w2:World,(∀ k,FP k \/ (w.heap.size<=k/\k < w'.heap.size)->(∀ j,j ≠ i->ow j ≠ some k)->w2.heap[k]?=w'.heap[k]?)->Reads w2 q u) ∧
        e=.returned (Zec E.outs us')/\w'.os=w.os/\w'.tape=w.tape/\w'.output=w.output/\w.heap.size<=w'.heap.size/\∀ k,k < w.heap.size->k ≠ b->w'.heap[k]?=w.heap[k]?) a'.defers .returning w':=by
       rw [hdef]
       have hll2:=Zae (Zag h1 hd)
       refine ⟨_,hrun,us',c',fz',fun _=>none,h2,by omega,by rw [h4,List.length_append,h2];omega,by rw [<- hel2];exact hcc',hfz',Zd8 hpl0,fun i q u hq hu w2 hw2=>h5 i q u _ hq hu (List.getElem?_eq_getElem (show i < (ls++o.cells).length by have:=(List.getElem?_eq_some_iff.1 hu).1;omega)) w2 (fun k hk _=>hw2 k ?_ (fun _ _ h=>by cases h)),rfl,hat.rel.same.1,hat.rel.same.2.1,hat.rel.same.2.2,hat.rel.size0,fun k hk hkb=>hat.rel.amb k hk hkb⟩
       rcases hk.2 with h | h
       ·exact .inl h
       ·exact .inr ⟨h,hk.1⟩
      rcases he with rfl | rfl
      ·exact fin
      ·exact fin
    ·cases hres
  ·cases hread
 ·cases hsh
end Go.Proofs.Ytgdegpifjljnoaa.eng
end

section
/- The engine: contracts out of pieces, of functions that Zec rows of their own. -/
namespace Go.Proofs.Ytgdegpifjljnoaa.eng
open Go Go.RowKit
variable {W0 : Base}

def okOwn (st:St) (k:CK) (x:AV):Bool:=match k with
 | .own el sz may=>match x with
  | .sliceS r v lo len s=>isC0 lo && Nat.beq s sz && (match lookS st r v with | some (_,el',sz')=>Nat.beq el' el && Nat.beq sz' sz | none=>false)
  | x=>may && isNil x
 | _=>true
def Zic (st:St):List CK->List AV->Bool
 | k :: ks,x :: xs=>okOwn st k x && Zic st ks xs
 | [],[]=>true
 | _,_=>false
theorem okOwns_at {st:St}:∀ (ks:List CK) (xs:List AV),Zic st ks xs=true->ks.length=xs.length/\∀ (i:Nat) (k:CK) (x:AV),ks[i]?=some k->xs[i]?=some x->okOwn st k x=true
 | [],[],_=>⟨rfl,fun i k x h=>by simp at h⟩
 | [],_ :: _,h=>by simp [Zic] at h
 | _ :: _,[],h=>by simp [Zic] at h
 | k :: ks,x :: xs,h=>by
  simp only [Zic,Bool.and_eq_true] at h
  obtain ⟨h1,h2⟩:=okOwns_at ks xs h.2
  refine ⟨by simp [h1],fun i k' x' hk hx=>?_⟩
  cases i with
  | zero=>simp at hk hx;subst hk;subst hx;exact h.1
  | succ i=>exact h2 i k' x' (by simpa using hk) (by simpa using hx)
def clash (k:CK) (x:AV) (k':CK) (x':AV):Bool:=(!k.plain || !k'.plain) && (match Zjj x,Zjj x' with | some r,some r'=>Nat.beq r r' | _,_=>false)
def Zlj:List CK->List AV->Bool
 | k :: ks,x :: xs=>((ks.zip xs).all fun t=>!clash k x t.1 t.2) && Zlj ks xs
 | _,_=>true
theorem clash_no {k k':CK} {x x':AV} (h:clash k x k' x'=false) (hk:k.plain=false \/ k'.plain=false) {r:Nat} (h1:Zjj x=some r) (h2:Zjj x'=some r):False:=by
 unfold clash at h
 rw [h1,h2] at h
 rcases hk with hk | hk <;> simp [hk] at h
theorem Zjv:∀ (ks:List CK) (xs:List AV),Zlj ks xs=true->∀ (i j:Nat) (k k':CK) (x x':AV),i ≠ j->ks[i]?=some k->xs[i]?=some x->ks[j]?=some k'->xs[j]?=some x'->k.plain=false->∀ r,Zjj x=some r->Zjj x'=some r->False
 | [],_,_,i,j,k,k',x,x',_,hk,_,_,_,_,_,_,_=>by simp at hk
 | _ :: _,[],_,i,j,k,k',x,x',_,_,hx,_,_,_,_,_,_=>by simp at hx
 | k0 :: ks,x0 :: xs,h,i,j,k,k',x,x',hij,hk,hx,hk',hx',hp,r,hr,hr'=>by
  simp only [Zlj,Bool.and_eq_true,List.all_eq_true] at h
  have zip_mem:∀ (n:Nat) (a:CK) (b:AV),ks[n]?=some a->xs[n]?=some b->(a,b) ∈ ks.zip xs:=fun n a b ha hb=>List.mem_of_getElem? (i:=n) (by rw [List.getElem?_zip_eq_some];exact ⟨ha,hb⟩)
  cases i with
  | zero =>
   cases j with
   | zero=>exact hij rfl
   | succ j =>
    simp at hk hx
    subst hk;subst hx
    have:=h.1 _ (zip_mem j k' x' (by simpa using hk') (by simpa using hx'))
    simp only [Bool.not_eq_true'] at this
    exact clash_no this (.inl hp) hr hr'
  | succ i =>
   cases j with
   | zero =>
    simp at hk' hx'
    subst hk';subst hx'
    have:=h.1 _ (zip_mem i k x (by simpa using hk) (by simpa using hx))
    simp only [Bool.not_eq_true'] at this
    exact clash_no this (.inr hp) hr' hr
   | succ j=>exact Zjv ks xs h.2 i j k k' x x' (by omega) (by simpa using hk) (by simpa using hx) (by simpa using hk') (by simpa using hx') hp r hr hr'
def posOf:List CK->List AV->Nat->List Nat
 | .own _ _ true :: ks,.sliceS .. :: xs,i=>i :: posOf ks xs (i+1)
 | _ :: ks,_ :: xs,i=>posOf ks xs (i+1)
 | _,_,_=>[]
theorem posOf_mem:∀ (ks:List CK) (xs:List AV) (j i:Nat) {el:TypeId} {sz r v s:Nat} {lo len:SX},ks[i]?=some (.own el sz true)->xs[i]?=some (.sliceS r v lo len s)->j+i ∈ posOf ks xs j
 | [],_,j,i,_,_,_,_,_,_,_,hk,_=>by simp at hk
 | _ :: _,[],j,i,_,_,_,_,_,_,_,_,hx=>by simp at hx
 | k :: ks,x :: xs,j,i,el,sz,r,v,s,lo,len,hk,hx=>by
  cases i with
  | zero =>
   simp at hk hx
   subst hk;subst hx
   simp [posOf]
  | succ i =>
   have ih:=posOf_mem ks xs (j+1) i (by simpa using hk) (by simpa using hx)
   rw [show j+(i+1)=j+1+i by omega]
   unfold posOf
   split
   ·rename_i e1 e2;cases e1;cases e2;exact List.mem_cons_of_mem _ ih
   ·rename_i e1 e2;cases e1;cases e2;exact ih
   ·rename_i h1 h2;exact absurd rfl (h2 _ _ _ _ rfl)
theorem Zjk {st:St}:∀ {xs:List AV} {es:List SX} {lg:Log} {i:Nat} {x:AV},Zes st xs=some (es,lg)->xs[i]?=some x->∃ e l1,resSX st x=some (e,l1)/\es[i]?=some e/\∀ A:Nat->Prop,lg.Fits W0 A->l1.Fits W0 A
 | [],es,lg,i,x,h,hx=>by simp at hx
 | y :: ys,es,lg,i,x,h,hx=>by
  simp only [Zes,Option.bind_eq_some_iff,Option.map_eq_some_iff] at h
  obtain ⟨⟨e,l1⟩,he,⟨es',l2⟩,hes,h⟩:=h
  cases h
  cases i with
  | zero =>
   simp at hx
   subst hx
   exact ⟨e,l1,he,rfl,fun A hf=>(or_A hf).1⟩
  | succ i =>
   obtain ⟨e',l',h1,h2,h3⟩:=Zjk (i:=i) hes (by simpa using hx)
   exact ⟨e',l',h1,by simpa using h2,fun A hf=>h3 A (or_A hf).2⟩
theorem owns_of {m:Map} {st:St} {w':World} (hR:Rel W0 (fun _=>True) m st.heap.get w') {ks:List CK} {ls:List AV} {es:List SX} {lg:Log} {us:List Value} {qs:List PV} (hok:Zic st ks ls=true) (hap:Zlj ks ls=true) (hes:Zes st ls=some (es,lg)) (hA:lg.Fits W0 (fun _=>True)) (hus:denL m ls=some us) (hev:evs W0.s W0.F es=some qs) (hpos:∀ i ∈ posOf ks ls 0,∃ n cs,qs[i]?=some (.row (n+1) cs)) :
  ∃ ow,Owns W0.w w' ks qs us ow/\∀ (i j:Nat) (x:AV) (k:Nat),ow j=some k->j ≠ i->ls[i]?=some x->Zor (fun _=>True) m st x k->False:=by
 obtain ⟨hkl,hat⟩:=okOwns_at ks ls hok
 let ow:Nat->Option Nat:=fun i=>match ks[i]?,ls[i]? with | some (.own _ _ _),some (.sliceS r v _ _ _)=>(m r v).map (·.1) | _,_=>none
 have how:∀ i b,ow i=some b->∃ (el:TypeId) (sz:Nat) (may:Bool) (r v:Nat) (lo len:SX) (s:Nat) (b':Nat × Nat),ks[i]?=some (.own el sz may)/\ls[i]?=some (.sliceS r v lo len s)/\m r v=some b'/\b'.1=b:=by
  intro i b h
  simp only [ow] at h
  split at h
  ·rename_i h1 h2
   rw [Option.map_eq_some_iff] at h
   obtain ⟨b',h3,h4⟩:=h
   exact ⟨_,_,_,_,_,_,_,_,b',h1,h2,h3,h4⟩
  ·cases h
 have full:∀ (i:Nat) (el:TypeId) (sz:Nat) (may:Bool) (r v:Nat) (lo len:SX) (s:Nat) (b':Nat × Nat),ks[i]?=some (.own el sz may)->ls[i]?=some (.sliceS r v lo len s)->m r v=some b'->∃ (q:PV) (u:Value) (o:ARoot),qs[i]?=some q/\us[i]?=some u/\OwnAt W0.w w' el sz b'.1 q u/\(may=true->∃ n cs,q=.row (n+1) cs)/\st.heap.get r=some o/\(v,0) ∈ o.vers:=by
  intro i el sz may r v lo len s b' hk hl hb
  have h0:=hat i _ _ hk hl
  simp only [okOwn,Bool.and_eq_true,Nat.beq_eq] at h0
  obtain ⟨⟨hc,hs⟩,h0⟩:=h0
  obtain ⟨u,hu1,hu2⟩:=Za7 hus hl
  obtain ⟨e,l1,g1,g2,g3⟩:=Zjk (W0:=W0) hes hl
  obtain ⟨p,p1,p2⟩:=Zon hev g2
  cases hlk:lookS st r v with
  | none=>simp [hlk] at h0
  | some t =>
   obtain ⟨e',el',sz'⟩:=t
   rw [hlk] at h0
   simp only [Bool.and_eq_true,Nat.beq_eq] at h0
   obtain ⟨rfl,rfl⟩:=h0
   subst hs
   simp only [resSX,hlk,Option.bind_some,hc,Nat.beq_refl,Bool.and_self,cond_true,Option.some.injEq,Prod.mk.injEq] at g1
   obtain ⟨rfl,rfl⟩:=g1
   have hf:=g3 _ hA
   obtain ⟨b,n,cs,k1,k2,rfl,k4,k5,_⟩:=Zlw hR hlk hc trivial (Zlq hR hlk trivial hu1 (or_A hf).2) hu1
   rw [hb] at k1
   cases k1
   obtain ⟨n',cs',c,fz,j1,j2,j3,j4,j5,j6,j7,j8,j9⟩:=Zba hlk hR trivial hb
   rw [k2] at j1
   cases j1
   have hp:p=.row n cs:=by
    have:e'.ev W0.s W0.F=some (.row n cs):=k2
    rw [p1] at this
    exact Option.some.inj this
   subst hp
   obtain ⟨o,ho,_,hvs,_⟩:=Zej hlk
   refine ⟨_,_,o,p2,hu2,⟨k4,k5,n,b'.2,cs,c,fz,rfl,rfl,j2,j3,j4,j5,j6,j7,j8,j9⟩,fun hm=>?_,ho,by rw [hvs];simp⟩
   subst hm
   obtain ⟨n2,cs2,h2⟩:=hpos _ (by have:=posOf_mem ks ls 0 i hk hl;rwa [Nat.zero_add] at this)
   rw [p2] at h2
   exact ⟨n2,cs2,Option.some.inj h2⟩
 refine ⟨ow,⟨?_,?_,?_⟩,?_⟩
 ·intro i b h
  obtain ⟨el,sz,may,r,v,lo,len,s,b',h1,h2,h3,rfl⟩:=how i b h
  obtain ⟨q,u,o,g1,g2,g3,g4,_⟩:=full i el sz may r v lo len s b' h1 h2 h3
  exact ⟨el,sz,may,q,u,h1,g1,g2,g3,g4⟩
 ·intro i el sz may hk hno
  have hi:i < ls.length:=by have:=(List.getElem?_eq_some_iff.1 hk).1;omega
  have hl:=List.getElem?_eq_getElem hi
  generalize ls[i]=x at hl
  have h0:=hat i _ _ hk hl
  obtain ⟨u,hu1,hu2⟩:=Za7 hus hl
  obtain ⟨e,l1,g1,g2,g3⟩:=Zjk (W0:=W0) hes hl
  obtain ⟨p,p1,p2⟩:=Zon hev g2
  unfold okOwn at h0
  simp only at h0
  split at h0
  ·rename_i r v lo len s
   exfalso
   simp only [AV.den,Option.bind_eq_some_iff] at hu1
   obtain ⟨b',hb',_⟩:=hu1
   simp [ow,hk,hl,hb'] at hno
  ·simp only [Bool.and_eq_true] at h0
   have:=isNil_ok h0.2
   subst this
   simp only [AV.den,Option.some.injEq] at hu1
   subst hu1
   simp only [resSX,Zhb,Option.bind_some,cond_true,Option.some.injEq,Prod.mk.injEq] at g1
   obtain ⟨rfl,_⟩:=g1
   simp only [SX.ev,evs,Option.map_some,Option.some.injEq] at p1
   subst p1
   exact ⟨h0.1,hu2,p2⟩
 ·intro i j b hi hj
  obtain ⟨el,sz,may,r,v,lo,len,s,b',h1,h2,h3,h4⟩:=how i b hi
  obtain ⟨el',sz',may',r',v',lo',len',s',b'',k1,k2,k3,k4⟩:=how j b hj
  refine Classical.byContradiction fun hne=>?_
  obtain ⟨_,_,o,_,_,_,_,f1,f2⟩:=full i el sz may r v lo len s b' h1 h2 h3
  obtain ⟨_,_,o',_,_,_,_,f3,f4⟩:=full j el' sz' may' r' v' lo' len' s' b'' k1 k2 k3
  have:=hR.inj r r' o o' v 0 v' 0 b' b'' trivial trivial f1 f3 f2 f4 h3 k3 (h4.trans k4.symm)
  subst this
  exact Zjv ks ls hap i j _ _ _ _ hne h1 h2 k1 k2 rfl r rfl rfl
 ·intro i j x k hj hne hx hno
  obtain ⟨el,sz,may,r,v,lo,len,s,b',h1,h2,h3,h4⟩:=how j k hj
  obtain ⟨_,_,o,_,_,_,_,f1,f2⟩:=full j el sz may r v lo len s b' h1 h2 h3
  have hr:=hno r o v 0 b' trivial f1 f2 h3 h4
  have hi:i < ks.length:=by have:=(List.getElem?_eq_some_iff.1 hx).1;omega
  exact Zjv ks ls hap j i _ _ _ _ hne h1 h2 (List.getElem?_eq_getElem hi) hx rfl r rfl hr

def resToPO (P:Program) (fn:Func) (sh:Shape) (E:PtrE):Option (List SX × List Nat):=(canon sh []).bind fun (x,st)=>(Zen P fn x st).bind fun (y,l1)=>(Zhl E.outs y).bind fun ys=>(Zbb E.outs ys).bind fun ls=>(getC st 0).bind fun o=>match o.vers with
 | (v,n) :: _=>(Zes st (ls++o.cells)).bind fun (es,l2)=>cond (l1.V.isEmpty && l2.V.isEmpty && o.lent && !o.opn && Nat.beq n o.cells.length && Nat.beq n E.cells && Nat.beq o.elem E.elem && Zic st E.kinds (ls++o.cells) && Zlj E.kinds (ls++o.cells)) (some (es,posOf E.kinds (ls++o.cells) 0)) none
 | []=>none
theorem told_ptrO {f:FuncId} {E:PtrE} {spec:List PV->Option (List PV)} (F:Fns) (fn:Func) (c:Code) (hfn:Try.prog.funcs[f]?=some fn) (hc:fn.body=some c) (sh0:Shape) (hsh:Zii E fn f sh0=true)
  (hk:∀ ps qs,spec ps=some qs->∀ i:Nat,sh0.rows[i]?=some none->∃ x,ps[i]?=some (.v x)/\x.oneCell'=true)
  (h:∀ (C:Base) ps qs,C.F=F->spec ps=some qs->∀ a w,Zao C sh0 ps a w->wpL Try.prog (flat c) (fun e a' w'=>(e=.normal \/ e=.ret)/\∃ sh' ps' es pos,Zao C sh' ps' a' w'/\resToPO Try.prog fn sh' E=some (es,pos)/\evs (fun i=>ps'[i]?) F es=some qs/\∀ i ∈ pos,∃ n cs,qs[i]?=some (.row (n+1) cs)) a w):ToldP f E spec:=by
 intro w FP b cc fz us ps qs hsp hul hpl hcs hcc hfz hFP hrd
 unfold Zii at hsh
 split at hsh
 ·rename_i args st fs hst
  simp only [Bool.and_eq_true,Nat.blt_eq,Nat.beq_eq] at hsh
  obtain ⟨⟨⟨⟨hal,hrl⟩,hcan⟩,hvf⟩,hread⟩:=hsh
  split at hread
  ·rename_i es fs' hre
   simp only [Bool.and_eq_true,Nat.beq_eq] at hread
   obtain ⟨⟨hiv,hel⟩,hvf'⟩:=hread
   have hk':=hk ps qs hsp
   let B:Base:=⟨w,fun i=>ps[i]?,F,FP,fun k=>k=b⟩
   simp only [Zpp,Option.bind_eq_some_iff] at hst
   obtain ⟨⟨args0,st0,fs0⟩,hst0,hst⟩:=hst
   cases hlen:Nat.beq args0.length (E.ins.length+E.cells) with
   | false=>simp [hlen] at hst
   | true =>
    simp only [hlen,cond_true,Option.map_eq_some_iff,Prod.mk.injEq] at hst
    obtain ⟨st1,hput,rfl,rfl,rfl⟩:=hst
    have hlen:=Nat.eq_of_beq_eq_true hlen
    have hcl:cc.toList.length=E.cells:=by simpa using hcs
    have hall:shLen E.all.ins=shLen E.ins+E.cells:=by simp [PtrE.all,Zg0,shLen_nones]
    obtain ⟨m,hR,hF,hargs,hv0,hfps⟩:=Zgy (F:=F) (X:=fun k=>k=b) (us:=us++cc.toList) (ps:=ps) hst0 (by simp [hul,hpl,hcl]) (by rw [hall];exact hpl) (fun k hk=>(hFP k hk).1)
     (fun i p u hp hu=>⟨hrd i p u hp hu w (fun _ _=>rfl),fun _ w2 hw2=>hrd i p u hp hu w2 hw2⟩) (Zb4 (B:=B) hk' fs0 hvf)
    have hfp:∀ r v fp,m.d r=some (v,fp)->∀ k,fp k->FP k:=fun r v fp hm k hk=>by
     rcases hfps r v fp hm k hk with h | ⟨x,hx,hl⟩
     ·exact h
     ·exfalso
      have hx':x < shLen E.ins+E.cells:=by simp [hul,hcl] at hx;omega
      simp [PtrE.all,List.getD,List.getElem?_replicate,hx'] at hl
    have hasm:Zak E.all.ins (us++cc.toList)=Zak E.ins us++cc.toList:=by
     simp only [PtrE.all]
     rw [Zd0 _ _ _ _ hul,<- hcl,Zd5]
    rw [hasm] at hargs
    have hail:=Zdz E.ins us hul
    have t1:=Zb0 E.ins.length hargs
    have t2:=Zb1 E.ins.length hargs
    rw [<- hail,List.take_left' rfl,hail] at t1
    rw [<- hail,List.drop_left' rfl,hail] at t2
    obtain ⟨hpt,hnext⟩:=put_ok hput
    have hblt:b < w.heap.size:=by
     rcases Nat.lt_or_ge b w.heap.size with h | h
     ·exact h
     ·rw [Array.getElem?_eq_none h] at hcc;cases hcc
    have hcells:(args0.drop E.ins.length).length=E.cells:=by simp;omega
    have hle:m.Le (m.new st0.next (b,0)):=⟨fun r v x hx=>by
     show (if r=st0.next/\v=0 then some (b,0) else m r v)=some x
     split
     ·rename_i e
      rw [e.1,(hF st0.next trivial (Nat.le_refl _)).1 v] at hx
      cases hx
     ·exact hx,fun _ _ h=>h,fun _ _ h=>h⟩
    have hup:∀ r o,st1.heap.get r=some o->(r=st0.next/\o=Zbe E (args0.drop E.ins.length)) \/ (r ≠ st0.next/\st0.heap.get r=some o):=fun r o ho=>by
     rw [hpt] at ho
     by_cases hr:r=st0.next
     ·simp [Heap.upd,hr] at ho;exact .inl ⟨hr,ho.symm⟩
     ·simp [Heap.upd,hr] at ho;exact .inr ⟨hr,ho⟩
    have hvr:∀ r o v n,st1.heap.get r=some o->(v,n) ∈ o.vers->r=st0.next/\o=Zbe E (args0.drop E.ins.length)/\v=0/\n=E.cells:=fun r o v n ho hv=>by
     rcases hup r o ho with ⟨h1,h2⟩ | ⟨h1,h2⟩
     ·subst h2
      simp only [Zbe,List.mem_singleton,Prod.mk.injEq] at hv
      exact ⟨h1,rfl,hv.1,hv.2⟩
     ·rw [hv0 r o h2] at hv;cases hv
    have hmb:(m.new st0.next (b,0)) st0.next 0=some (b,0):=by simp [Map.new]
    have hR1:Rel B (fun _=>True) (m.new st0.next (b,0)) st1.heap.get w:=by
     refine ⟨?_,?_,?_,Nat.le_refl _,fun _ _ _=>rfl,?_,?_,?_,hR.sv,⟨rfl,rfl,rfl⟩,?_,?_⟩
     ·intro r o _ ho v n hv
      obtain ⟨rfl,rfl,rfl,rfl⟩:=hvr r o v n ho hv
      refine ⟨(b,0),hmb,cc,fz,hcc,hfz,by simp only [Zbe];omega,by omega,fun i x hi hx=>?_,by simp only [Zbe,cond_false];exact hcs⟩
      obtain ⟨u,hu1,hu2⟩:=Za7 t2 hx
      exact ⟨u,AV.den_mono hle x hu1,by simpa using hu2⟩
     ·intro r r' o o' v n v' n' b1 b1' _ _ ho ho' hv hv' _ _ _
      obtain ⟨rfl,_⟩:=hvr r o v n ho hv
      obtain ⟨rfl,_⟩:=hvr r' o' v' n' ho' hv'
      rfl
     ·intro r o v n rest _ ho hv v' hlt
      obtain ⟨rfl,rfl,rfl,rfl⟩:=hvr r o v n ho (by rw [hv];simp)
      have:¬ v'=0:=by omega
      simp [Map.new,this,(hF st0.next trivial (Nat.le_refl _)).1]
     ·intro r o v n b1 _ ho hv hb
      obtain ⟨rfl,rfl,rfl,rfl⟩:=hvr r o v n ho hv
      rw [hmb] at hb
      cases hb
      exact ⟨fun hl=>(by simp [Zbe] at hl),fun _=>rfl⟩
     ·intro r o e _ ho hd
      rcases hup r o ho with ⟨h1,h2⟩ | ⟨h1,h2⟩
      ·subst h2;simp [Zbe] at hd
      ·exact hR.dat r o e trivial h2 hd
     ·intro r o e v fp r' o' u n b1 _ _ ho hd hm ho' hu hb hfpb
      obtain ⟨rfl,rfl,rfl,rfl⟩:=hvr r' o' u n ho' hu
      rw [hmb] at hb
      cases hb
      exact (hFP _ (hfp r v fp hm _ hfpb)).2 rfl
     ·intro r o e v fp _ ho hd hm hro k hk
      exact .inl (hfp r v fp hm k hk)
     ·intro r o e v n b1 _ ho hs hv hb
      obtain ⟨rfl,rfl,rfl,rfl⟩:=hvr r o v n ho hv
      simp [Zbe] at hs
    have hF1:Fresh (fun _=>True) (m.new st0.next (b,0)) st1.next:=by
     intro r _ hr
     rw [hnext] at hr
     have hr':st0.next+1<=r:=hr
     have:¬ r=st0.next:=by omega
     have h:=hF r trivial (by omega)
     refine ⟨fun v=>?_,h.2⟩
     simp only [Map.new,this,false_and,if_false]
     exact h.1 v
    have hdenargs:denL (m.new st0.next (b,0)) (.ptr st0.next 0 0 0 0 :: args0.take E.ins.length)=some (.pointer (some ⟨b,0,none⟩) :: Zak E.ins us):=by
     simp [denL,AV.den,hmb,Zcd hle _ t1]
    have hT:=Zgz (f:=f) (fn:=fn) hdenargs hal
    have hnx:st1.next - 1=st0.next:=by rw [hnext];simp
    obtain ⟨qs',q1,q2⟩:=reabs (B:=B) ⟨hR1,hF1,hT⟩ hre (Zb4 (B:=B) hk' fs' hvf') hcan
    have:=Zg6 (s:=fun i=>ps[i]?) (F:=F) (ps:=ps) es 0 hiv (by omega) (fun j p hp=>hp)
    rw [List.drop_zero] at this
    simp only [B] at q1
    rw [this] at q1
    cases q1
    refine calls_of_wp_defers hfn hc (wp_mono (Zfl (h B ps qs rfl hsp _ w q2)) ?_)
    rintro e a' w' ⟨he,sh',ps',es',pos,⟨x,st2,m1,hc1,hl1,hat⟩,hres,hev,hpos⟩
    simp only [resToPO,hc1,Option.bind_some,Option.bind_eq_some_iff] at hres
    obtain ⟨⟨y,l1⟩,hy,ys,hys,ls,hls,o,ho,hres⟩:=hres
    obtain ⟨ho,hmp⟩:=Zjp ho
    split at hres
    ·rename_i v n rest hvers
     simp only [Option.bind_eq_some_iff] at hres
     obtain ⟨⟨es2,l2⟩,hes2,hres⟩:=hres
     cases hv:(l1.V.isEmpty && l2.V.isEmpty && o.lent && !o.opn && Nat.beq n o.cells.length && Nat.beq n E.cells && Nat.beq o.elem E.elem && Zic st2 E.kinds (ls++o.cells) && Zlj E.kinds (ls++o.cells)) with
     | false=>simp [hv] at hres
     | true =>
      simp only [hv,cond_true,Option.some.injEq,Prod.mk.injEq] at hres
      obtain ⟨rfl,rfl⟩:=hres
      simp only [Bool.and_eq_true,List.isEmpty_iff,Nat.beq_eq,Bool.not_eq_true'] at hv
      obtain ⟨⟨hv,hoo⟩,hap⟩:=hv
      obtain ⟨⟨⟨⟨⟨⟨hv1,hv2⟩,hlent⟩,hop⟩,hnl⟩,hnE⟩,hel2⟩:=hv
      obtain ⟨vv,hvv,hrun⟩:=Zdq hy ⟨fun _ _=>trivial,fun f hf=>by rw [hv1] at hf;cases hf⟩ hat.rel hat.tm
      obtain ⟨us',h1,h2,rfl⟩:=Zij hys hvv hls
      obtain ⟨b',hb',hB⟩:=hat.rel.blkC 0 o trivial ho hmp v n (by rw [hvers];simp)
      have hmine:b'.1=b:=(hat.rel.abv 0 o v n b' trivial ho (by rw [hvers];simp) hb').2 hlent
      obtain ⟨l,hd,hll,_,hlc⟩:=hB.cells (P:=(default:Program)) (off:=0) (k:=n) (by omega)
      have hca:Zaw o 0 n=o.cells:=by simp [Zaw,hnl]
      rw [hca] at hd
      obtain ⟨c',fz',hcc',hfz',hn1,hn2,_,hsz'⟩:=hB
      simp only [hop,cond_false] at hsz'
      have hlc':l=c'.toList:=by
       apply List.ext_getElem?
       intro i
       by_cases hi:i < l.length
       ·have:=hlc i l[i] (List.getElem?_eq_getElem hi)
        simp only [World.cell?,hcc',Nat.zero_add] at this
        rw [List.getElem?_eq_getElem hi]
        simpa using this.symm
       ·rw [List.getElem?_eq_none (by omega),List.getElem?_eq_none (by simp;omega)]
      subst hlc'
      obtain ⟨qs2,h3,h4,h5⟩:=Zd7 hat.rel hes2 ⟨fun _ _=>trivial,fun f hf=>by rw [hv2] at hf;cases hf⟩ (Zag h1 hd)
      have h3':evs (fun i=>ps'[i]?) F es2=some qs2:=h3
      rw [hev] at h3'
      cases h3'
      obtain ⟨ow,how,hcl⟩:=owns_of hat.rel hoo hap hes2 ⟨fun _ _=>trivial,fun f hf=>by rw [hv2] at hf;cases hf⟩ (Zag h1 hd) h3 hpos
      have hdef:a'.defers=[]:=by
       have:=hat.tm.defers
       have hx:x.defers=[]:=by
        unfold canon at hc1
        simp only [Option.bind_eq_some_iff] at hc1
        obtain ⟨⟨xs,r⟩,_,⟨css,r'⟩,_,hc1⟩:=hc1
        simp only [cond_eq_ite] at hc1
        split at hc1
        ·cases hc1;rfl
        ·cases hc1
       rw [hx] at this
       simpa [denD] using this.symm
      rw [hmine] at hcc'
      have fin:Leaves Try.prog fn a'.tmps (fun e w'=>∃ (us':List Value) (c':Array Value) (fz':Nat × Nat) (ow:Nat->Option Nat),us'.length=shLen E.outs/\c'.size=E.cells/\qs.length=shLen E.outs+E.cells/\w'.heap[b]?=some (.cells c' E.elem fz')/\(∀ i,i < c'.size->¬ (fz'.1<=i/\i < fz'.2))/\Owns w w' E.kinds qs (us'++c'.toList) ow ∧
        (∀ (i:Nat) (q:PV) (u:Value),qs[i]?=some q->(us'++c'.toList)[i]?=some u->∀ w2:World,(∀ k,FP k \/ (w.heap.size<=k/\k < w'.heap.size)->(∀ j,j ≠ i->ow j ≠ some k)->w2.heap[k]?=w'.heap[k]?)->Reads w2 q u) ∧
        e=.returned (Zec E.outs us')/\w'.os=w.os/\w'.tape=w.tape/\w'.output=w.output/\w.heap.size<=w'.heap.size/\∀ k,k < w.heap.size->k ≠ b->w'.heap[k]?=w.heap[k]?) a'.defers .returning w':=by
       rw [hdef]
       have hll2:=Zae (Zag h1 hd)
       refine ⟨_,hrun,us',c',fz',ow,h2,by omega,by rw [h4,List.length_append,h2];omega,by rw [<- hel2];exact hcc',hfz',how,fun i q u hq hu w2 hw2=>h5 i q u _ hq hu (List.getElem?_eq_getElem (show i < (ls++o.cells).length by have:=(List.getElem?_eq_some_iff.1 hu).1;omega)) w2 (fun k hk hnr=>hw2 k ?_ (fun j hj hjk=>hcl i j _ k hjk hj (List.getElem?_eq_getElem (show i < (ls++o.cells).length by have:=(List.getElem?_eq_some_iff.1 hu).1;omega)) hnr)),rfl,hat.rel.same.1,hat.rel.same.2.1,hat.rel.same.2.2,hat.rel.size0,fun k hk hkb=>hat.rel.amb k hk hkb⟩
       rcases hk.2 with h | h
       ·exact .inl h
       ·exact .inr ⟨h,hk.1⟩
      rcases he with rfl | rfl
      ·exact fin
      ·exact fin
    ·cases hres
  ·cases hread
 ·cases hsh
end Go.Proofs.Ytgdegpifjljnoaa.eng
end

section
/- The engine: functions that may panic, by contract. -/
namespace Go.Proofs.Ytgdegpifjljnoaa.eng
open Go Go.RowKit
variable {W0 : Base}



end Go.Proofs.Ytgdegpifjljnoaa.eng
end

section
/- The engine: calls of functions that turn what their first argument points to, and may panic. -/
namespace Go.Proofs.Ytgdegpifjljnoaa.eng
open Go Go.RowKit
variable {W0 : Base}

theorem given {st:St} {E:PtrE} {r0 v idx sz sub n:Nat} {rest':List (Nat × Nat)} {o:ARoot} {rest ls:List AV} {es:List SX} {lA:Log} {A:Nat->Prop} {m:Map} {w:World} {vs:List Value} (hR:Rel W0 A m st.heap.get w) (har:A r0) (ho:st.heap.get r0=some o) (hvers:o.vers=(v,n) :: rest')
  (hz:idx * sz+sub=0) (hmp:o.mp=false) (hop:o.opn=false) (hnl:n=o.cells.length) (hnE:n=E.cells) (hel:o.elem=E.elem) (hls:Zbb E.ins rest=some ls) (hes:Zfc st (ls++o.cells)=some (es,true,lA)) (hlA:lA.Fits W0 A) (hvs:denL m (.ptr r0 v idx sz sub :: rest)=some vs) :
  ∃ (b:Nat × Nat) (c:Array Value) (fz:Nat × Nat) (us:List Value) (ps:List PV),m r0 v=some b/\vs=.pointer (some ⟨b.1,0,none⟩) :: Zak E.ins us/\us.length=shLen E.ins/\ps.length=shLen E.ins+E.cells/\c.size=E.cells/\w.heap[b.1]?=some (.cells c E.elem fz)/\(∀ i,i < c.size->¬ (fz.1<=i/\i < fz.2)) ∧
   (∀ k,May W0 A m st w k->k < w.heap.size/\k ≠ b.1)/\evs W0.s W0.F es=some ps/\(∀ (i:Nat) (p:PV) (u:Value),ps[i]?=some p->(us++c.toList)[i]?=some u->∀ w2:World,(∀ k,May W0 A m st w k->w2.heap[k]?=w.heap[k]?)->Reads w2 p u):=by
 simp only [denL,Option.bind_eq_some_iff,Option.map_eq_some_iff] at hvs
 obtain ⟨pv,hpv,rv,hrv,rfl⟩:=hvs
 simp only [AV.den,Option.map_eq_some_iff] at hpv
 obtain ⟨b,hb,rfl⟩:=hpv
 rw [hz]
 obtain ⟨b',hb',hB⟩:=hR.blkC r0 o har ho hmp v n (by rw [hvers];simp)
 rw [hb] at hb';cases hb'
 have hB':=hB
 obtain ⟨c,fz,hcc,hfz,hn1,hn2,hcell,hsize⟩:=hB'
 simp only [hop,cond_false] at hsize
 obtain ⟨l,hd,hll,_,hlc⟩:=hB.cells (P:=(default:Program)) (off:=0) (k:=n) (by omega)
 have hcl:Zaw o 0 n=o.cells:=by simp [Zaw,hnl]
 rw [hcl] at hd
 have hl:l=c.toList:=by
  apply List.ext_getElem?
  intro i
  by_cases hi:i < l.length
  ·have:=hlc i l[i] (List.getElem?_eq_getElem hi)
   simp only [World.cell?,hcc,Nat.zero_add] at this
   rw [List.getElem?_eq_getElem hi]
   simpa using this.symm
  ·rw [List.getElem?_eq_none (by omega),List.getElem?_eq_none (by simp;omega)]
 subst hl
 obtain ⟨us,hus,hul,rfl⟩:=Zc9 E.ins rest hls hrv
 obtain ⟨ps,hps,hpl,hrd⟩:=Zeb hR hes hlA (Zag hus hd)
 have hcl2:c.toList.length=n:=hll
 refine ⟨b,c,fz,us,ps,hb,rfl,hul,by rw [hpl,List.length_append];omega,by omega,by rw [<- hel];exact hcc,hfz,fun k hk=>⟨hk.1,fun he=>?_⟩,hps,fun i p u hp hu w2 hw2=>(hrd i p u hp hu).2 rfl w2 hw2⟩
 obtain ⟨r3,o3,e3,v3,fp3,a3,h3,d3,m3,k3⟩:=hk.2.2
 exact hR.disj r3 o3 e3 v3 fp3 r0 o v n b a3 har h3 d3 m3 ho (by rw [hvers];simp) hb (he ▸ k3)
end Go.Proofs.Ytgdegpifjljnoaa.eng
end

section
/- The engine: a contract out of pieces, of a function that turns what its first argument points to and may panic. -/
namespace Go.Proofs.Ytgdegpifjljnoaa.eng
open Go Go.RowKit
variable {W0 : Base}

theorem turned {E:PtrE} {outs:Sh} {kinds:List CK} {en:List Value->Ending} {FP:Nat->Prop} {b:Nat} {w w':World} {B:Base} (hBh:B.w=w) (hBf:B.fp=FP) (hBm:B.mine=fun k=>k=b) {m1:Map} {st2:St} (hR:Rel B (fun _=>True) m1 st2.heap.get w') {o:ARoot} (ho:st2.heap.get 0=some o) (hmp:o.mp=false) {v n:Nat} {rest:List (Nat × Nat)} (hvers:o.vers=(v,n) :: rest) (hlent:o.lent=true) (hop:o.opn=false) (hnl:n=o.cells.length) (hnE:n=E.cells) (hel2:o.elem=E.elem)
  {ls:List AV} {es2:List SX} {l2:Log} (hes2:Zes st2 (ls++o.cells)=some (es2,l2)) (hv2:l2.V=[]) {us':List Value} (h1:denL m1 ls=some us') (h2:us'.length=shLen outs) {qs:List PV} (hev:evs B.s B.F es2=some qs) (hpl:kinds.all CK.plain=true) :
  TurnP E outs kinds en FP b w qs (en us') w':=by
 subst hBh hBf
 obtain ⟨b',hb',hB⟩:=hR.blkC 0 o trivial ho hmp v n (by rw [hvers];simp)
 have hmine:b'.1=b:=by
  have:=(hR.abv 0 o v n b' trivial ho (by rw [hvers];simp) hb').2 hlent
  rw [hBm] at this
  exact this
 obtain ⟨l,hd,hll,_,hlc⟩:=hB.cells (P:=(default:Program)) (off:=0) (k:=n) (by omega)
 have hca:Zaw o 0 n=o.cells:=by simp [Zaw,hnl]
 rw [hca] at hd
 obtain ⟨c',fz',hcc',hfz',hn1,hn2,_,hsz'⟩:=hB
 simp only [hop,cond_false] at hsz'
 have hlc':l=c'.toList:=by
  apply List.ext_getElem?
  intro i
  by_cases hi:i < l.length
  ·have:=hlc i l[i] (List.getElem?_eq_getElem hi)
   simp only [World.cell?,hcc',Nat.zero_add] at this
   rw [List.getElem?_eq_getElem hi]
   simpa using this.symm
  ·rw [List.getElem?_eq_none (by omega),List.getElem?_eq_none (by simp;omega)]
 subst hlc'
 obtain ⟨qs2,h3,h4,h5⟩:=Zd7 hR hes2 ⟨fun _ _=>trivial,fun f hf=>by rw [hv2] at hf;cases hf⟩ (Zag h1 hd)
 rw [hev] at h3
 cases h3
 rw [hmine] at hcc'
 have hll2:=Zae (Zag h1 hd)
 refine ⟨us',c',fz',fun _=>none,h2,by omega,by rw [h4,List.length_append,h2];omega,by rw [<- hel2];exact hcc',hfz',Zd8 hpl,fun i q u hq hu w2 hw2=>h5 i q u _ hq hu (List.getElem?_eq_getElem (show i < (ls++o.cells).length by have:=(List.getElem?_eq_some_iff.1 hu).1;omega)) w2 (fun k hk _=>hw2 k ?_ (fun _ _ h=>by cases h)),rfl,hR.same.1,hR.same.2.1,hR.same.2.2,hR.size0,fun k hk hkb=>hR.amb k hk (by rw [hBm];exact hkb)⟩
 rcases hk.2 with h | h
 ·exact .inl h
 ·exact .inr ⟨h,hk.1⟩
end Go.Proofs.Ytgdegpifjljnoaa.eng
end

section
/- The engine: pieces of code that may end in a panic whose value is not known. -/
namespace Go.Proofs.Ytgdegpifjljnoaa.eng
open Go Go.RowKit
variable {W0 : Base}

end Go.Proofs.Ytgdegpifjljnoaa.eng
end
