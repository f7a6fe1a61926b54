/- Texts joined. -/
import Derived.Test.YtefkakjegdjojaaGreatSmb
import Derived.Test.YtefkakjegdjojaaGreatStd
import Derived.Test.YtefkakjegdjojaaGreatCmp
section
/- Texts joined. -/
section
/- What lasts behind each deed (package state): opened, flushed, gone, begun anew, new. -/
namespace Go.Proofs.YtefkakjegdjojaaGreat.sta
open Go Go.RowKit eng SX Fact fil fileFronts dirs pck may
open fileFronts
open pck hiding F F20 F21
open dirs hiding shR shRl shRR flR lpR cutR f0 f1 f2 f3 x2 x3 n1
open may hiding r1 r2 r3 r4 r5
set_option linter.unusedVariables false
set_option linter.unusedSimpArgs false
set_option maxRecDepth 1000000

def fbo (k:Nat):BoxT:=⟨68,3,true,[],some k,false⟩
def mbo (k:Nat):BoxT:=⟨36,4,true,[],some k,false⟩
def ECp (k:Nat):FnE:={ k:=k,ins:=[some 3],leaks:=[false,false,false],outs:=[some 3],kinds:=[.own 68 3 false,.own 36 4 false,.num] }
@[simp] theorem kCpS (k:Nat):(ECp k).k=k:=rfl
def RCpS (ps qs:List PV):Prop:=∃ s:StM,1<=s.files.length/\s.files.length<=1000000/\1<=s.marks.length/\s.marks.length<=1000000/\ps=pSt s/\qs=pSt s
noncomputable def FP:Fns:=fun k=>match k with | 1=>spec RFind | 2=>spec RFr | 5=>spec RMb | 7=>spec RName | 8=>spec RRoom | 9=>spec RPutP | 10=>spec RMay | 11=>spec RAll | 12=>spec RNewM | 13=>spec RCpS | _=>fun _=>none
theorem pp1:ToldF 182 (EFind 1) (FP 1):=toldFind 1
theorem pp2:ToldX 167 (EFr 2) [pvS3] (FP 2):=toldFr 2
theorem FP2 {n a b:Int} (h1:a<=n) (h2:n<=b):FP 2 [pI n,pI a,pI b]=some [pI 0]:=Zal fFr ⟨n,a,b,rfl,by simp [numB,bad01,h1,h2]⟩
end Go.Proofs.YtefkakjegdjojaaGreat.sta
end
section
/- What lasts behind each deed (package state): flushed. -/
namespace Go.Proofs.YtefkakjegdjojaaGreat.sta
open Go Go.RowKit eng SX Fact fil fileFronts dirs pck may
open fileFronts
open pck hiding F F20 F21
open dirs hiding shR shRl shRR flR lpR cutR f0 f1 f2 f3 x2 x3 n1
open may hiding r1 r2 r3 r4 r5
set_option linter.unusedVariables false
set_option linter.unusedSimpArgs false
set_option maxRecDepth 1000000

@[simp] theorem ex_six:(∃ z:Nat,(6:Int)=(z:Int)) ↔ True:=⟨fun _=>trivial,fun _=>⟨6,rfl⟩⟩
@[simp] theorem ex_three:(∃ z:Nat,(3:Int)=(z:Int)) ↔ True:=⟨fun _=>trivial,fun _=>⟨3,rfl⟩⟩
end Go.Proofs.YtefkakjegdjojaaGreat.sta
end
end
section
/- What the laws of states share: what they begin with, states behind some. -/
namespace Go.Proofs.YtefkakjegdjojaaGreat.sta
open Go Go.RowKit eng SX Fact fil fileFronts dirs pck may
open fileFronts
open pck hiding F F20 F21
open dirs hiding shR shRl shRR flR lpR cutR f0 f1 f2 f3 x2 x3 n1
open may hiding r1 r2 r3 r4 r5
set_option linter.unusedVariables false
set_option linter.unusedSimpArgs false
set_option maxRecDepth 1000000

theorem marks_at {s:StM} {b:Int} (h:TsOk s b) {c:Nat} (hc:c < 3):(s.marks.getD c (0,0,0,0)).1<=b/\0<=(s.marks.getD c (0,0,0,0)).1:=by
 have hlt:c < s.marks.length:=by rw [h.ml];omega
 have hmem:s.marks.getD c (0,0,0,0) ∈ s.marks:=by
  simp only [List.getD,List.getElem?_eq_getElem hlt,Option.getD_some]
  exact List.getElem_mem hlt
 exact ⟨(h.mv _ hmem).2,(h.mv _ hmem).1⟩
theorem may_step {l:List Nat} {s:StM} {n:Nat} {b:Int} (h:TsOk s b) (hm:MayS s) (hb:0<=b) (hb2:b<=1000000000):MayS (Zlr l s n).1:=by
 have ha:numV l n 3 < 3:=Zh9 (by omega)
 have hb3:numV l (numN l n) 3 < 3:=Zh9 (by omega)
 obtain ⟨hv1,hv0⟩:=marks_at h ha
 have fin:∀ (r:StM × Nat),MayS r.1->MayS (if numV l r.2 9=0 then bootS r.1 else r.1):=fun r h1=>by
  split
  ·exact may_boot h1
  ·exact h1
 unfold Zlr
 simp only
 split
 ·exact fin (_,_) (may_open hm _ _ _ (by omega) (by omega))
 ·split
  ·exact fin (_,_) (may_flush hm _ _ _ _ (by omega) (by omega))
  ·exact fin (_,_) (may_gone hm _ _ _ (by omega) (by omega))
theorem may_run {l:List Nat}:∀ (k:Nat) {s:StM} {n:Nat} {b:Int},TsOk s b->MayS s->0<=b->OkP l n->b+3 * k<=1000000000->MayS (stRun l k s n).1
 | 0,s,n,b,_,hm,_,_,_=>hm
 | k+1,s,n,b,h,hm,hb,hok,hk=>by
  unfold stRun
  split
  ·exact hm
  ·obtain ⟨h1,h2⟩:=ts_step h hb hok
   exact may_run k h1 (may_step h hm hb (by omega)) (by omega) h2 (by omega)
structure Made (s:StM):Prop where
 may:MayS s
 ep:s.epoch<=25
 mv:∀ m ∈ s.marks,0<=m.1/\m.1<=75
@[simp] theorem ex_sn (n:Nat):(∃ z:Nat,(n:Int)+1=(z:Int)) ↔ True:=⟨fun _=>trivial,fun _=>⟨n+1,rfl⟩⟩
@[simp] theorem ex_sn' (n K:Nat):(∃ z:Nat,(n:Int)+1=(z:Int)/\z<=K) ↔ n+1<=K:=⟨fun ⟨z,h,h2⟩=>by omega,fun h=>⟨n+1,rfl,h⟩⟩
end Go.Proofs.YtefkakjegdjojaaGreat.sta
end
