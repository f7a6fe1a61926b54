/- Texts joined. -/
import Derived.Test.YtefkakjegdjojaaGreatMrg4
section
/- Texts joined. -/
section
/- What the symbolic engine's user needs, more of it. -/
namespace Go.Proofs.YtefkakjegdjojaaGreat.eng
open Go Go.RowKit
set_option linter.unusedVariables false
set_option linter.unusedSimpArgs false
@[simp] theorem ex_kz (k0:IntKind) (x:Int) (p:Int->Prop):(∃ k z,(k0=k/\x=z)/\p z) ↔ p x:=⟨fun ⟨_,_,⟨_,h⟩,hp⟩=>h ▸ hp,fun h=>⟨_,_,⟨rfl,rfl⟩,h⟩⟩
theorem Zfa (n:Nat) (cs:List PV):lenPV (.row n cs)=some (pI n):=rfl
@[simp] theorem ex_one:(∃ z:Nat,(1:Int)=(z:Int)) ↔ True:=⟨fun _=>trivial,fun _=>⟨1,rfl⟩⟩
@[simp] theorem ex_one' (K:Nat):(∃ z:Nat,(1:Int)=(z:Int)/\z<=K) ↔ 1<=K:=⟨fun ⟨z,h,h2⟩=>by omega,fun h=>⟨1,rfl,h⟩⟩
theorem Zw3 {α:Type} (E:Enc α) (xs:List α):(E.all xs).length=xs.length * E.sz:=E.all_length xs
theorem r_catE {α:Type} (E:Enc α) (a b:List α):ropPV .cat [pRow E a,pRow E b]=some (pRow E (a++b)):=by simp [ropPV,pRow,Enc.all]
theorem Zu0 {α:Type} (E:Enc α) (b:List α):ropPV .cat [.row 0 [],pRow E b]=some (pRow E b):=by simp [ropPV,pRow]
theorem all_split' {α:Type} (E:Enc α) (xs:List α) (i:Nat) (h:i < xs.length):E.all xs=E.all (xs.take i)++(E.enc xs[i]++E.all (xs.drop (i+1))):=by
 rw [<- Enc.all_cons,<- Enc.all_append,<- List.drop_eq_getElem_cons h,List.take_append_drop]
theorem set_split {α:Type} (xs:List α) (i:Nat) (x:α) (h:i < xs.length):xs.set i x=xs.take i++x :: xs.drop (i+1):=by
 rw [List.set_eq_take_append_cons_drop,if_pos h]
theorem Zw8 {α:Type} (E:Enc α) (xs:List α) (i:Nat) (k:IntKind) (x:α) (h:i < xs.length):ropPV (.upd E.sz 0) (pRow E xs :: .v (.int k (i:Int)) :: (E.enc x).map .v)=some (pRow E (xs.set i x)):=by
 have h0:(0:Int)<=(i:Int):=by omega
 have h1:(i:Int) < (xs.length:Int):=by omega
 have hl:(E.all (xs.take i)).length=i * E.sz:=by rw [Zw3,List.length_take,Nat.min_eq_left (by omega)]
 have hp:putPV ((E.all xs).map PV.v) (i * E.sz) ((E.enc x).map PV.v)=(E.all (xs.set i x)).map PV.v:=by
  rw [set_split xs i x h,Enc.all_append,Enc.all_cons,all_split' E xs i h]
  simp only [putPV,List.length_map,E.len,<- hl,List.map_append]
  rw [List.take_left' (by simp),<- List.append_assoc ((E.all (xs.take i)).map PV.v),List.drop_left' (by simp [E.len]),List.append_assoc]
 simp [ropPV,pRow,h1,E.len,hp]
def IdxP (p q:Option PV) (sz sub:Nat):Prop:=∃ n cs k z,p=some (.row n cs)/\q=some (.v (.int k z))/\0<=z/\z < (n:Int)/\z.toNat * sz+sub<=cs.length
theorem Zab (B:Base) (e i:SX) (sz sub:Nat):(Fact.idx e i sz sub).holds B ↔ IdxP (B.ev e) (B.ev i) sz sub:=Iff.rfl
theorem Zaq {α:Type} (E:Enc α) (xs:List α) (j sz sub:Nat) (k:IntKind) (hz:sz=E.sz) (h:j < xs.length) (hs:sub<=E.sz):IdxP (some (pRow E xs)) (some (.v (.int k (j:Int)))) sz sub:=by
 subst hz
 refine ⟨_,_,_,_,rfl,rfl,by omega,by omega,?_⟩
 rw [List.length_map,E.all_length]
 have:(j+1) * E.sz<=xs.length * E.sz:=Nat.mul_le_mul_right _ h
 rw [Nat.add_mul] at this
 simp
 omega
def Zyd (p:Option PV) (sz:Nat):Prop:=∃ (n:Nat) (vs:List Value),p=some (.row n (vs.map PV.v))/\vs.length=n * sz/\n<=maxLen/\∀ v ∈ vs,v.oneCell'=true
theorem Zaa (B:Base) (e:SX) (sz:Nat):(Fact.cells e sz).holds B ↔ Zyd (B.ev e) sz:=Iff.rfl
theorem Zqe {α:Type} (E:Enc α) (xs:List α) (sz:Nat) (hz:sz=E.sz) (hl:xs.length<=1000000000):Zyd (some (pRow E xs)) sz:=by
 subst hz
 refine ⟨xs.length,E.all xs,rfl,Zw3 E xs,?_,fun v hv=>E.all_one' xs v hv⟩
 have:maxLen=9223372036854775807:=by unfold maxLen;simp [IntKind.max]
 omega
@[simp] theorem ex_zero:(∃ z:Nat,(0:Int)=(z:Int)) ↔ True:=⟨fun _=>trivial,fun _=>⟨0,rfl⟩⟩
@[simp] theorem ex_two:(∃ z:Nat,(2:Int)=(z:Int)) ↔ True:=⟨fun _=>trivial,fun _=>⟨2,rfl⟩⟩
theorem Zgo {f:FuncId} {E E':FnE} {spec:List PV->Option (List PV)} (h:ToldF f E spec) (h1:E'.ins=E.ins) (h2:E'.leaks=E.leaks) (h3:E'.outs=E.outs) (h4:E.kinds.all CK.plain=true) (h5:E'.kinds.all CK.plain=true):ToldF f E' spec:=by
 intro w FP us ps qs hs hul hpl hFP hrd
 rw [h1] at hpl ⊢
 rw [h2] at hrd
 refine (h w FP us ps qs hs hul hpl hFP hrd).mono ?_
 rintro e w' ⟨us',ow,g1,g2,g3,g4,g5,g6⟩
 have hno:∀ i,ow i=none:=fun i=>by
  cases ho:ow i with
  | none=>rfl
  | some b =>
   obtain ⟨el,sz,may,q,u,k1,_⟩:=g3.at' i b ho
   have:=List.all_eq_true.1 h4 _ (List.mem_of_getElem? k1)
   simp [CK.plain] at this
 exact ⟨us',fun _=>none,g1,by rw [h3];exact g2,Zin h5,fun i q u hq hu w2 hw2=>g4 i q u hq hu w2 (fun k hk _=>hw2 k hk (fun _ _ hx=>by cases hx)),by rw [h3];exact g5,g6⟩
def blockBody:Code->Code | .block _ b=>b | _=>.skip
theorem block_in {P:Program} {id:Nat} {c:Code} {k:List Code} {Q:Exit->Act->World->Prop} {a:Act} {w:World}
  (h:wpL P (flat c) (fun e a' w'=>(e=.normal/\wpL P k Q a' w') \/ (e=.exit id/\wpL P k Q a' w') \/ (e=.ret/\Q .ret a' w') \/ (∃ j,j ≠ id/\e=.exit j/\Q (.exit j) a' w') \/ (∃ ch,e=.panic ch/\Q (.panic ch) a' w')) a w):wpL P (.block id c :: k) Q a w:=by
 refine wp_block (wp_mono (Zei h) ?_)
 rintro e a' w' (⟨rfl,hk⟩ | ⟨rfl,hk⟩ | ⟨rfl,hq⟩ | ⟨j,hj,rfl,hq⟩ | ⟨ch,rfl,hq⟩)
 ·exact hk
 ·simp only [Exit.inBlock,if_true]
  exact hk
 ·exact hq
 ·simp only [Exit.inBlock,if_neg hj]
  exact hq
 ·exact hq
end Go.Proofs.YtefkakjegdjojaaGreat.eng
end
section
/- The law's begun, run by the engine. -/
namespace Go.Proofs.YtefkakjegdjojaaGreat.sta
open Go eng fil
end Go.Proofs.YtefkakjegdjojaaGreat.sta
end
end
section
/- Parts of texts, and things compared, as the symbolic engine has them. -/
namespace Go.Proofs.YtefkakjegdjojaaGreat.symD
open Go Go.RowKit eng
set_option linter.unusedVariables false
set_option linter.unusedSimpArgs false
set_option maxRecDepth 100000

theorem Zs0 (P:Program) (k:Program->Sem Next):Zem P (Sem.program k)=Zem P (k P):=rfl
theorem Zt7 (P:Program) (v:Value):Zem P (Sem.pure (.value v))=some (.inl v):=rfl
theorem Zsz {α β:Type} (k:Program->Sem α) (f:α->Sem β):(Sem.program k).bind f=Sem.program fun P=>(k P).bind f:=rfl
theorem Zgt {α β:Type} (a:α) (f:α->Sem β):(Sem.pure a).bind f=f a:=rfl
theorem Zuz:(program:Sem Program)=Sem.program fun P=>Sem.pure P:=rfl
theorem Zkx {α:Type} (a:α):(pure a:Sem α)=Sem.pure a:=rfl
theorem Zn4 {α β:Type} (x:Sem α) (f:α->Sem β):(x >>= f)=x.bind f:=rfl

def Pv (P:Program) {α:Type} (m:Sem α) (a:α):Prop:=∀ k:α->Sem Next,Zem P (m.bind k)=Zem P (k a)
theorem Zp2 {α β γ:Type} (m:Sem α) (f:α->Sem β) (g:β->Sem γ):(m.bind f).bind g=m.bind fun a=>(f a).bind g:=by
 induction m <;> simp [Sem.bind, *]
theorem pv_struct {P:Program} (d:Nat) (t:TypeId) (xs:Array Value) (ht:P.underlying t=some (.struct (P.fieldsOf t))) (hp:P.stoodInHeld t=false)
  (h:∀ f ∈ (P.fieldsOf t).toList,∃ a,Pv P (part f.type xs f.offset) a/\Pv P (Op.equalIn d f.type a a) true):Pv P (Op.equalIn (d+1) t (.agg xs) (.agg xs)) true:=by
 intro k
 simp only [Op.equalIn,Zn4,underlying,Zuz,Zkx,Zsz,Zs0,Zgt,ht,hp,Bool.false_eq_true,if_false]
 rw [<- Array.forIn_toList]
 generalize (P.fieldsOf t).toList=fs at h
 clear ht
 induction fs with
 | nil=>simp [Zkx,Zgt]
 | cons f fs ih =>
  obtain ⟨a,h1,h2⟩:=h f (by simp)
  simp only [List.forIn_cons,Zn4,Zp2]
  split
  ·simp only [Zp2]
   rw [h1,h1,h2]
   simp only [Bool.not_true,Bool.false_eq_true,if_false,Zkx,Zgt]
   have:=ih (fun g hg=>h g (List.mem_cons_of_mem _ hg))
   rwa [Zp2] at this
  ·simp only [Zkx,Zgt]
   have:=ih (fun g hg=>h g (List.mem_cons_of_mem _ hg))
   rwa [Zp2] at this
theorem pv_int {P:Program} (d:Nat) (t:TypeId) (k k':IntKind) (a:Int) (h:P.underlying t=some (.int k')):Pv P (Op.equalIn (d+1) t (.int k a) (.int k a)) true:=by
 intro c
 simp [Op.equalIn,Zn4,underlying,Zuz,Zkx,Zsz,Zs0,Zgt,h]
theorem pv_str {P:Program} (d:Nat) (t:TypeId) (s:ByteArray) (h:P.underlying t=some .string):Pv P (Op.equalIn (d+1) t (.string s) (.string s)) true:=by
 intro c
 simp [Op.equalIn,Zn4,underlying,Zuz,Zkx,Zsz,Zs0,Zgt,h,beq_toListBytes]
theorem op_neq_refl (P:Program) (t t':TypeId) (a b:Nat) (hab:Nat.beq a b=false) (xs:Array Value) (hm:P.eqGuardType P.depth t=false) (h:Pv P (Op.equalIn 10000 t (.agg xs) (.agg xs)) true):opVal P (Op.binOp .neq t (Operand.tmp a) (Operand.tmp b) t) t' [a,b] [.agg xs,.agg xs]=some (.bool false):=by
 have hb:Nat.beq b b=true:=Nat.beq_refl b
 have ha:Nat.beq a a=true:=Nat.beq_refl a
 have h':=fun k=>h k
 simp only [opVal,Op.isSelect,cond_false,execOp,envR,lookT,ha,hab,hb,cond_true,eqGuard,binOp,Op.equal,Op.maxDepth]
 simp [Zn4,Zuz,Zkx,Zsz,Zgt,Zs0,Zt7,hm,Zp2,h']

theorem pv_part {P:Program} (t:TypeId) (cs:Array Value) (off:Nat) (v:Value) (ha:Pv P (isAgg t) false) (h:cs[off]?=some v):Pv P (part t cs off) v:=by
 intro c
 simp only [part,Zn4,Zp2]
 rw [ha]
 simp [h,Zkx,Zgt]
theorem pv_isInt {P:Program} (t:TypeId) (k:IntKind) (h:P.underlying t=some (.int k)):Pv P (isAgg t) false:=by
 intro c
 simp [isAgg,Zn4,underlying,Zuz,Zkx,Zsz,Zs0,Zgt,h]
theorem pv_isStr {P:Program} (t:TypeId) (h:P.underlying t=some .string):Pv P (isAgg t) false:=by
 intro c
 simp [isAgg,Zn4,underlying,Zuz,Zkx,Zsz,Zs0,Zgt,h]
end Go.Proofs.YtefkakjegdjojaaGreat.symD
end
