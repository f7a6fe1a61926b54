/- Texts joined. -/
import Derived.Test.YtnomiffghidmbaaMrg5
section
/- What the symbolic engine's user needs, more of it. -/
namespace Go.Proofs.Ytnomiffghidmbaa.eng
open Go Go.RowKit
set_option linter.unusedVariables false
set_option linter.unusedSimpArgs false
@[simp] theorem ex_kz (k0:IntKind) (x:Int) (p:Int->Prop):(∃ k z,(k0=k/\x=z)/\p z) ↔ p x:=⟨fun ⟨_,_,⟨_,h⟩,hp⟩=>h ▸ hp,fun h=>⟨_,_,⟨rfl,rfl⟩,h⟩⟩
theorem Zjm (n:Nat) (cs:List PV):lenPV (.row n cs)=some (pI n):=rfl
@[simp] theorem ex_one:(∃ z:Nat,(1:Int)=(z:Int)) ↔ True:=⟨fun _=>trivial,fun _=>⟨1,rfl⟩⟩
@[simp] theorem ex_one' (K:Nat):(∃ z:Nat,(1:Int)=(z:Int)/\z<=K) ↔ 1<=K:=⟨fun ⟨z,h,h2⟩=>by omega,fun h=>⟨1,rfl,h⟩⟩
theorem all_len {α:Type} (E:Enc α) (xs:List α):(E.all xs).length=xs.length * E.sz:=E.all_length xs
theorem all_split' {α:Type} (E:Enc α) (xs:List α) (i:Nat) (h:i < xs.length):E.all xs=E.all (xs.take i)++(E.enc xs[i]++E.all (xs.drop (i+1))):=by
 rw [<- Enc.all_cons,<- Enc.all_append,<- List.drop_eq_getElem_cons h,List.take_append_drop]
theorem set_split {α:Type} (xs:List α) (i:Nat) (x:α) (h:i < xs.length):xs.set i x=xs.take i++x :: xs.drop (i+1):=by
 rw [List.set_eq_take_append_cons_drop,if_pos h]
theorem r_updE {α:Type} (E:Enc α) (xs:List α) (i:Nat) (k:IntKind) (x:α) (h:i < xs.length):ropPV (.upd E.sz 0) (pRow E xs :: .v (.int k (i:Int)) :: (E.enc x).map .v)=some (pRow E (xs.set i x)):=by
 have h0:(0:Int)<=(i:Int):=by omega
 have h1:(i:Int) < (xs.length:Int):=by omega
 have hl:(E.all (xs.take i)).length=i * E.sz:=by rw [all_len,List.length_take,Nat.min_eq_left (by omega)]
 have hp:putPV ((E.all xs).map PV.v) (i * E.sz) ((E.enc x).map PV.v)=(E.all (xs.set i x)).map PV.v:=by
  rw [set_split xs i x h,Enc.all_append,Enc.all_cons,all_split' E xs i h]
  simp only [putPV,List.length_map,E.len,<- hl,List.map_append]
  rw [List.take_left' (by simp),<- List.append_assoc ((E.all (xs.take i)).map PV.v),List.drop_left' (by simp [E.len]),List.append_assoc]
 simp [ropPV,pRow,h1,E.len,hp]
def IdxP (p q:Option PV) (sz sub:Nat):Prop:=∃ n cs k z,p=some (.row n cs)/\q=some (.v (.int k z))/\0<=z/\z < (n:Int)/\z.toNat * sz+sub<=cs.length
theorem Zab (B:Base) (e i:SX) (sz sub:Nat):(Fact.idx e i sz sub).holds B ↔ IdxP (B.ev e) (B.ev i) sz sub:=Iff.rfl
theorem Zdk {α:Type} (E:Enc α) (xs:List α) (j sz sub:Nat) (k:IntKind) (hz:sz=E.sz) (h:j < xs.length) (hs:sub<=E.sz):IdxP (some (pRow E xs)) (some (.v (.int k (j:Int)))) sz sub:=by
 subst hz
 refine ⟨_,_,_,_,rfl,rfl,by omega,by omega,?_⟩
 rw [List.length_map,E.all_length]
 have:(j+1) * E.sz<=xs.length * E.sz:=Nat.mul_le_mul_right _ h
 rw [Nat.add_mul] at this
 simp
 omega
def Zwe (p:Option PV) (sz:Nat):Prop:=∃ (n:Nat) (vs:List Value),p=some (.row n (vs.map PV.v))/\vs.length=n * sz/\n<=maxLen/\∀ v ∈ vs,v.oneCell'=true
theorem Zaa (B:Base) (e:SX) (sz:Nat):(Fact.cells e sz).holds B ↔ Zwe (B.ev e) sz:=Iff.rfl
theorem cellsP_row {α:Type} (E:Enc α) (xs:List α) (sz:Nat) (hz:sz=E.sz) (hl:xs.length<=1000000000):Zwe (some (pRow E xs)) sz:=by
 subst hz
 refine ⟨xs.length,E.all xs,rfl,all_len E xs,?_,fun v hv=>E.all_one' xs v hv⟩
 have:maxLen=9223372036854775807:=by unfold maxLen;simp [IntKind.max]
 omega
@[simp] theorem ex_zero:(∃ z:Nat,(0:Int)=(z:Int)) ↔ True:=⟨fun _=>trivial,fun _=>⟨0,rfl⟩⟩
@[simp] theorem ex_two:(∃ z:Nat,(2:Int)=(z:Int)) ↔ True:=⟨fun _=>trivial,fun _=>⟨2,rfl⟩⟩
def Zik:Code->Code | .block _ b=>b | _=>.skip
theorem block_in {P:Program} {id:Nat} {c:Code} {k:List Code} {Q:Exit->Act->World->Prop} {a:Act} {w:World}
  (h:wpL P (flat c) (fun e a' w'=>(e=.normal/\wpL P k Q a' w') \/ (e=.exit id/\wpL P k Q a' w') \/ (e=.ret/\Q .ret a' w') \/ (∃ j,j ≠ id/\e=.exit j/\Q (.exit j) a' w') \/ (∃ ch,e=.panic ch/\Q (.panic ch) a' w')) a w):wpL P (.block id c :: k) Q a w:=by
 refine wp_block (wp_mono (Zcu h) ?_)
 rintro e a' w' (⟨rfl,hk⟩ | ⟨rfl,hk⟩ | ⟨rfl,hq⟩ | ⟨j,hj,rfl,hq⟩ | ⟨ch,rfl,hq⟩)
 ·exact hk
 ·simp only [Exit.inBlock,if_true]
  exact hk
 ·exact hq
 ·simp only [Exit.inBlock,if_neg hj]
  exact hq
 ·exact hq
end Go.Proofs.Ytnomiffghidmbaa.eng
end
section
/- Parts of texts, and things compared, as the symbolic engine has them. -/
namespace Go.Proofs.Ytnomiffghidmbaa.symD
open Go Go.RowKit eng
set_option linter.unusedVariables false
set_option linter.unusedSimpArgs false
set_option maxRecDepth 100000

theorem Zg5 (P:Program) (v:Value):Zez P (Sem.pure (.value v))=some (.inl v):=rfl
theorem Zg2 {α β:Type} (a:α) (f:α->Sem β):(Sem.pure a).bind f=f a:=rfl
theorem Zkw {α:Type} (a:α):(pure a:Sem α)=Sem.pure a:=rfl
theorem Zkx {α β:Type} (x:Sem α) (f:α->Sem β):(x >>= f)=x.bind f:=rfl


end Go.Proofs.Ytnomiffghidmbaa.symD
end
