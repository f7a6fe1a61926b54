/- What the symbolic engine's user needs, more of it. -/
import Derived.Test.YtaondjmimobnbaaMrg4
namespace Go.Proofs.Ytaondjmimobnbaa.eng
open Go Go.RowKit
set_option linter.unusedVariables false
set_option linter.unusedSimpArgs false
@[simp] theorem ex_kz (k0:IntKind) (x:Int) (p:Int->Prop):(∃ k z,(k0=k/\x=z)/\p z) ↔ p x:=⟨fun ⟨_,_,⟨_,h⟩,hp⟩=>h ▸ hp,fun h=>⟨_,_,⟨rfl,rfl⟩,h⟩⟩
@[simp] theorem ex_one:(∃ z:Nat,(1:Int)=(z:Int)) ↔ True:=⟨fun _=>trivial,fun _=>⟨1,rfl⟩⟩
@[simp] theorem ex_one' (K:Nat):(∃ z:Nat,(1:Int)=(z:Int)/\z<=K) ↔ 1<=K:=⟨fun ⟨z,h,h2⟩=>by omega,fun h=>⟨1,rfl,h⟩⟩
def IdxP (p q:Option PV) (sz sub:Nat):Prop:=∃ n cs k z,p=some (.row n cs)/\q=some (.v (.int k z))/\0<=z/\z < (n:Int)/\z.toNat * sz+sub<=cs.length
theorem Zaf (B:Base) (e i:SX) (sz sub:Nat):(Fact.idx e i sz sub).holds B ↔ IdxP (B.ev e) (B.ev i) sz sub:=Iff.rfl
theorem Zgc {α:Type} (E:Enc α) (xs:List α) (j sz sub:Nat) (k:IntKind) (hz:sz=E.sz) (h:j < xs.length) (hs:sub<=E.sz):IdxP (some (pRow E xs)) (some (.v (.int k (j:Int)))) sz sub:=by
 subst hz
 refine ⟨_,_,_,_,rfl,rfl,by omega,by omega,?_⟩
 rw [List.length_map,E.all_length]
 have:(j+1) * E.sz<=xs.length * E.sz:=Nat.mul_le_mul_right _ h
 rw [Nat.add_mul] at this
 simp
 omega
def CellsP (p:Option PV) (sz:Nat):Prop:=∃ (n:Nat) (vs:List Value),p=some (.row n (vs.map PV.v))/\vs.length=n * sz/\n<=maxLen/\∀ v ∈ vs,v.oneCell'=true
theorem Zac (B:Base) (e:SX) (sz:Nat):(Fact.cells e sz).holds B ↔ CellsP (B.ev e) sz:=Iff.rfl
@[simp] theorem ex_zero:(∃ z:Nat,(0:Int)=(z:Int)) ↔ True:=⟨fun _=>trivial,fun _=>⟨0,rfl⟩⟩
@[simp] theorem ex_two:(∃ z:Nat,(2:Int)=(z:Int)) ↔ True:=⟨fun _=>trivial,fun _=>⟨2,rfl⟩⟩
theorem told_kinds {f:FuncId} {E E':FnE} {spec:List PV->Option (List PV)} (h:ToldF f E spec) (h1:E'.ins=E.ins) (h2:E'.leaks=E.leaks) (h3:E'.outs=E.outs) (h4:E.kinds.all CK.plain=true) (h5:E'.kinds.all CK.plain=true):ToldF f E' spec:=by
 intro w FP us ps qs hs hul hpl hFP hrd
 rw [h1] at hpl ⊢
 rw [h2] at hrd
 refine (h w FP us ps qs hs hul hpl hFP hrd).mono ?_
 rintro e w' ⟨us',ow,g1,g2,g3,g4,g5,g6⟩
 have hno:∀ i,ow i=none:=fun i=>by
  cases ho:ow i with
  | none=>rfl
  | some b =>
   obtain ⟨el,sz,may,q,u,k1,_⟩:=g3.at' i b ho
   have:=List.all_eq_true.1 h4 _ (List.mem_of_getElem? k1)
   simp [CK.plain] at this
 exact ⟨us',fun _=>none,g1,by rw [h3];exact g2,Zbt h5,fun i q u hq hu w2 hw2=>g4 i q u hq hu w2 (fun k hk _=>hw2 k hk (fun _ _ hx=>by cases hx)),by rw [h3];exact g5,g6⟩
def Zda:Code->Code | .block _ b=>b | _=>.skip
theorem Zh3 {P:Program} {id:Nat} {c:Code} {k:List Code} {Q:Exit->Act->World->Prop} {a:Act} {w:World}
  (h:wpL P (flat c) (fun e a' w'=>(e=.normal/\wpL P k Q a' w') \/ (e=.exit id/\wpL P k Q a' w') \/ (e=.ret/\Q .ret a' w') \/ (∃ j,j ≠ id/\e=.exit j/\Q (.exit j) a' w') \/ (∃ ch,e=.panic ch/\Q (.panic ch) a' w')) a w):wpL P (.block id c :: k) Q a w:=by
 refine wp_block (wp_mono (Zc6 h) ?_)
 rintro e a' w' (⟨rfl,hk⟩ | ⟨rfl,hk⟩ | ⟨rfl,hq⟩ | ⟨j,hj,rfl,hq⟩ | ⟨ch,rfl,hq⟩)
 ·exact hk
 ·simp only [Exit.inBlock,if_true]
  exact hk
 ·exact hq
 ·simp only [Exit.inBlock,if_neg hj]
  exact hq
 ·exact hq
end Go.Proofs.Ytaondjmimobnbaa.eng
