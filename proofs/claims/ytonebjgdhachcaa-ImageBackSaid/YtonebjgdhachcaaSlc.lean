/- What the laws of states share: what they begin with, states behind some. -/
import Derived.Test.YtonebjgdhachcaaSfl
import Derived.Test.YtonebjgdhachcaaStd
import Derived.Test.YtonebjgdhachcaaSbg
namespace Go.Proofs.Ytonebjgdhachcaa.sta
open Go Go.RowKit eng SX Fact fil fileFronts dirs pck may
open fileFronts
open pck hiding F F20 F21
open dirs hiding shR shRl shRR flR lpR cutR f0 f1 f2 f3 m0 m1 m2 x2 x3 n1
open may hiding m1 m2 m3 m4 r1 r2 r3 r4 r5
set_option linter.unusedVariables false
set_option linter.unusedSimpArgs false
set_option maxRecDepth 1000000

theorem marks_at {s:StM} {b:Int} (h:TsOk s b) {c:Nat} (hc:c < 3):(s.marks.getD c (0,0,0,0)).1<=b/\0<=(s.marks.getD c (0,0,0,0)).1:=by
 have hlt:c < s.marks.length:=by rw [h.ml];omega
 have hmem:s.marks.getD c (0,0,0,0) ∈ s.marks:=by
  simp only [List.getD,List.getElem?_eq_getElem hlt,Option.getD_some]
  exact List.getElem_mem hlt
 exact ⟨(h.mv _ hmem).2,(h.mv _ hmem).1⟩
theorem may_step {l:List Nat} {s:StM} {n:Nat} {b:Int} (h:TsOk s b) (hm:MayS s) (hb:0<=b) (hb2:b<=1000000000):MayS (Zcx l s n).1:=by
 have ha:numV l n 3 < 3:=Zc2 (by omega)
 have hb3:numV l (numN l n) 3 < 3:=Zc2 (by omega)
 obtain ⟨hv1,hv0⟩:=marks_at h ha
 have fin:∀ (r:StM × Nat),MayS r.1->MayS (if numV l r.2 9=0 then bootS r.1 else r.1):=fun r h1=>by
  split
  ·exact may_boot h1
  ·exact h1
 unfold Zcx
 simp only
 split
 ·exact fin (_,_) (may_open hm _ _ _ (by omega) (by omega))
 ·split
  ·exact fin (_,_) (may_flush hm _ _ _ _ (by omega) (by omega))
  ·exact fin (_,_) (may_gone hm _ _ _ (by omega) (by omega))
theorem Zou {l:List Nat}:∀ (k:Nat) {s:StM} {n:Nat} {b:Int},TsOk s b->MayS s->0<=b->OkP l n->b+3 * k<=1000000000->MayS (stRun l k s n).1
 | 0,s,n,b,_,hm,_,_,_=>hm
 | k+1,s,n,b,h,hm,hb,hok,hk=>by
  unfold stRun
  split
  ·exact hm
  ·obtain ⟨h1,h2⟩:=Zoj h hb hok
   exact Zou k h1 (may_step h hm hb (by omega)) (by omega) h2 (by omega)
theorem ep_open (s:StM) (c q:Int) (name:ByteArray):(openS s c q name).1.epoch=s.epoch:=by
 unfold openS
 split
 ·split
  ·rfl
  ·split <;> rfl
 ·rfl
theorem ep_gone (s:StM) (c q f:Int):(goneS s c q f).1.epoch=s.epoch:=by
 unfold goneS
 split <;> rfl
theorem ep_flush (s:StM) (c q f:Int) (l:List (Int × ByteArray)):(Zbm s c q f l).1.epoch=s.epoch:=by
 unfold Zbm
 split
 ·split <;> rfl
 ·rfl
theorem ep_step (l:List Nat) (s:StM) (n:Nat):(Zcx l s n).1.epoch<=s.epoch+1:=by
 have fin:∀ (r:StM × Nat),r.1.epoch=s.epoch->(if numV l r.2 9=0 then bootS r.1 else r.1).epoch<=s.epoch+1:=fun r h1=>by
  split
  ·simp only [bootS];omega
  ·omega
 unfold Zcx
 simp only
 split
 ·exact fin (_,_) (ep_open ..)
 ·split
  ·exact fin (_,_) (ep_flush ..)
  ·exact fin (_,_) (ep_gone ..)
theorem ep_run (l:List Nat):∀ (k:Nat) (s:StM) (n:Nat),(stRun l k s n).1.epoch<=s.epoch+k
 | 0,s,n=>by simp [stRun]
 | k+1,s,n=>by
  unfold stRun
  split
  ·show s.epoch<=s.epoch+((k+1:Nat):Int)
   omega
  ·have h1:=ep_run l k (Zcx l s n).1 (Zcx l s n).2
   have h2:=ep_step l s n
   refine Int.le_trans h1 ?_
   generalize (Zcx l s n).1.epoch=e at *
   omega
structure Made (s:StM):Prop where
 may:MayS s
 ep:s.epoch<=25
 mv:∀ m ∈ s.marks,0<=m.1/\m.1<=75
theorem made {p:List Nat} (hp:p.length<=60) (hz:∀ z ∈ p,z < 256):∃ (s:StM) (n:Nat),Made s/\spec RSt [pI 25,pRow encU p,pI 0]=some (pSt s++[pRow encU p,pI (n:Int)]):=by
 have okp:OkP p 0:=⟨by omega,by omega,hz⟩
 have h:=(ts_run (l:=p) 25 Zrl (by omega) okp).1
 refine ⟨_,_,⟨Zou 25 Zrl Zow (by omega) okp (by omega),?_,fun m hm=>?_⟩,Zao fSt ⟨25,0,p,by omega,okp,rfl,rfl⟩⟩
 ·have:=ep_run p 25 newS 0
  simp only [newS] at this ⊢
  omega
 ·have:=h.mv m hm
  omega
@[simp] theorem ex_sn (n:Nat):(∃ z:Nat,(n:Int)+1=(z:Int)) ↔ True:=⟨fun _=>trivial,fun _=>⟨n+1,rfl⟩⟩
@[simp] theorem ex_sn' (n K:Nat):(∃ z:Nat,(n:Int)+1=(z:Int)/\z<=K) ↔ n+1<=K:=⟨fun ⟨z,h,h2⟩=>by omega,fun h=>⟨n+1,rfl,h⟩⟩
end Go.Proofs.Ytonebjgdhachcaa.sta
