/- Texts joined. -/
import Derived.Test.YtaondjmimobnbaaMrg4
import Derived.Test.YtaondjmimobnbaaFrame
import Derived.Test.YtaondjmimobnbaaWfi
section
/- Texts joined. -/
section
/- What the symbolic engine's user needs, more of it. -/
namespace Go.Proofs.Ytaondjmimobnbaa.eng
open Go Go.RowKit
set_option linter.unusedVariables false
set_option linter.unusedSimpArgs false
@[simp] theorem ex_kz (k0:IntKind) (x:Int) (p:Int->Prop):(∃ k z,(k0=k/\x=z)/\p z) ↔ p x:=⟨fun ⟨_,_,⟨_,h⟩,hp⟩=>h ▸ hp,fun h=>⟨_,_,⟨rfl,rfl⟩,h⟩⟩
@[simp] theorem ex_one:(∃ z:Nat,(1:Int)=(z:Int)) ↔ True:=⟨fun _=>trivial,fun _=>⟨1,rfl⟩⟩
@[simp] theorem ex_one' (K:Nat):(∃ z:Nat,(1:Int)=(z:Int)/\z<=K) ↔ 1<=K:=⟨fun ⟨z,h,h2⟩=>by omega,fun h=>⟨1,rfl,h⟩⟩
def IdxP (p q:Option PV) (sz sub:Nat):Prop:=∃ n cs k z,p=some (.row n cs)/\q=some (.v (.int k z))/\0<=z/\z < (n:Int)/\z.toNat * sz+sub<=cs.length
theorem Zae (B:Base) (e i:SX) (sz sub:Nat):(Fact.idx e i sz sub).holds B ↔ IdxP (B.ev e) (B.ev i) sz sub:=Iff.rfl
theorem Zfu {α:Type} (E:Enc α) (xs:List α) (j sz sub:Nat) (k:IntKind) (hz:sz=E.sz) (h:j < xs.length) (hs:sub<=E.sz):IdxP (some (pRow E xs)) (some (.v (.int k (j:Int)))) sz sub:=by
 subst hz
 refine ⟨_,_,_,_,rfl,rfl,by omega,by omega,?_⟩
 rw [List.length_map,E.all_length]
 have:(j+1) * E.sz<=xs.length * E.sz:=Nat.mul_le_mul_right _ h
 rw [Nat.add_mul] at this
 simp
 omega
def CellsP (p:Option PV) (sz:Nat):Prop:=∃ (n:Nat) (vs:List Value),p=some (.row n (vs.map PV.v))/\vs.length=n * sz/\n<=maxLen/\∀ v ∈ vs,v.oneCell'=true
theorem Zab (B:Base) (e:SX) (sz:Nat):(Fact.cells e sz).holds B ↔ CellsP (B.ev e) sz:=Iff.rfl
@[simp] theorem ex_zero:(∃ z:Nat,(0:Int)=(z:Int)) ↔ True:=⟨fun _=>trivial,fun _=>⟨0,rfl⟩⟩
@[simp] theorem ex_two:(∃ z:Nat,(2:Int)=(z:Int)) ↔ True:=⟨fun _=>trivial,fun _=>⟨2,rfl⟩⟩
theorem told_kinds {f:FuncId} {E E':FnE} {spec:List PV->Option (List PV)} (h:ToldF f E spec) (h1:E'.ins=E.ins) (h2:E'.leaks=E.leaks) (h3:E'.outs=E.outs) (h4:E.kinds.all CK.plain=true) (h5:E'.kinds.all CK.plain=true):ToldF f E' spec:=by
 intro w FP us ps qs hs hul hpl hFP hrd
 rw [h1] at hpl ⊢
 rw [h2] at hrd
 refine (h w FP us ps qs hs hul hpl hFP hrd).mono ?_
 rintro e w' ⟨us',ow,g1,g2,g3,g4,g5,g6⟩
 have hno:∀ i,ow i=none:=fun i=>by
  cases ho:ow i with
  | none=>rfl
  | some b =>
   obtain ⟨el,sz,may,q,u,k1,_⟩:=g3.at' i b ho
   have:=List.all_eq_true.1 h4 _ (List.mem_of_getElem? k1)
   simp [CK.plain] at this
 exact ⟨us',fun _=>none,g1,by rw [h3];exact g2,Zb0 h5,fun i q u hq hu w2 hw2=>g4 i q u hq hu w2 (fun k hk _=>hw2 k hk (fun _ _ hx=>by cases hx)),by rw [h3];exact g5,g6⟩
def Zc5:Code->Code | .block _ b=>b | _=>.skip
theorem Zhe {P:Program} {id:Nat} {c:Code} {k:List Code} {Q:Exit->Act->World->Prop} {a:Act} {w:World}
  (h:wpL P (flat c) (fun e a' w'=>(e=.normal/\wpL P k Q a' w') \/ (e=.exit id/\wpL P k Q a' w') \/ (e=.ret/\Q .ret a' w') \/ (∃ j,j ≠ id/\e=.exit j/\Q (.exit j) a' w') \/ (∃ ch,e=.panic ch/\Q (.panic ch) a' w')) a w):wpL P (.block id c :: k) Q a w:=by
 refine wp_block (wp_mono (Zc2 h) ?_)
 rintro e a' w' (⟨rfl,hk⟩ | ⟨rfl,hk⟩ | ⟨rfl,hq⟩ | ⟨j,hj,rfl,hq⟩ | ⟨ch,rfl,hq⟩)
 ·exact hk
 ·simp only [Exit.inBlock,if_true]
  exact hk
 ·exact hq
 ·simp only [Exit.inBlock,if_neg hj]
  exact hq
 ·exact hq
end Go.Proofs.Ytaondjmimobnbaa.eng
end
section
/- Slices of arrays of bytes, of any length, as rows. -/
namespace Go.Proofs.Ytaondjmimobnbaa.grd
open Go Go.RowKit eng
set_option linter.unusedVariables false
set_option linter.unusedSimpArgs false

def encK (k:Nat) (hk:0 < k):Enc (Nat->Nat):={ sz:=k,enc:=fun f=>(List.range k).map fun j=>.int .u8 (f j:Int),len:=fun _=>by simp,one:=fun _ u hu=>by simp at hu;obtain ⟨_,_,rfl⟩:=hu;rfl,pos:=hk }
theorem cellK (k:Nat) (hk:0 < k) (l:List (Nat->Nat)) (i:Nat) (h:i < l.length) (j:Nat) (hj:j < k):Zcw (pRow (encK k hk) l) (pI (i:Int)) k j=some (pU (l[i] j:Int)):=by
 rw [Zc4 (encK k hk) l i .i64 k j rfl h,Ze2 (encK k hk) l i j l[i] (List.getElem?_eq_getElem h) hj]
 simp [encK,hj]
theorem gridK {k:Nat} (hk:0 < k) {w:World} {v:Value} {len:Nat} {Z:Nat->Nat->Int} (h:IsGrid k w v len Z):∃ l:List (Nat->Nat),(∀ f ∈ l,∀ j,f j < 256)/\Reads w (pRow (encK k hk) l) v:=by
 obtain ⟨a,cap,rfl,h1,h2,h3⟩:=h
 by_cases h0:0 < len
 ·obtain ⟨b,off,rfl,hc⟩:=h3 h0
  refine ⟨(List.range len).map fun i j=>if j < k then (Z i j).toNat else 0,?_,(reads_row (encK k hk)).2 ⟨_,cap,by simp,by simpa using h1,h2,fun _=>⟨b,off,rfl,?_,?_⟩⟩⟩
  ·intro f hf j
   obtain ⟨i,hi,rfl⟩:=List.mem_map.1 hf
   have hi:=List.mem_range.1 hi
   simp only
   split
   ·rename_i hj
    have:=(hc i hi j hj).2
    omega
   ·omega
  ·exact World.block_lt_of_cell? w ⟨b,off+0 * k+0,none⟩ (hc 0 h0 0 hk).1
  ·intro q u hq
   have hql:q < len * k:=by
    have:=(List.getElem?_eq_some_iff.1 hq).1
    rw [Enc.all_length] at this
    simpa [encK] using this
   have hi:q / k < len:=Nat.div_lt_of_lt_mul (by rw [Nat.mul_comm];exact hql)
   have hm:q % k < k:=Nat.mod_lt _ hk
   have hx:((List.range len).map fun i j=>if j < k then (Z i j).toNat else 0)[q / k]?=some (fun j=>if j < k then (Z (q / k) j).toNat else 0):=by simp [hi]
   have:=(encK k hk).all_get _ (q / k) (q % k) _ hx hm
   have hqe:q / k * k+q % k=q:=by rw [Nat.mul_comm];exact Nat.div_add_mod q k
   rw [show q / k * (encK k hk).sz+q % k=q by show q / k * k+q % k=q;exact hqe,hq] at this
   obtain ⟨k1,k2,k3⟩:=hc (q / k) hi (q % k) hm
   rw [show off+q=off+q / k * k+q % k by omega,k1,this]
   simp [encK,hm]
   all_goals omega
 ·obtain rfl:len=0:=by omega
  exact ⟨[],by simp,(reads_row (encK k hk)).2 ⟨a,cap,rfl,by simp,h2,fun h=>absurd h (by simp)⟩⟩
theorem reads_len {α:Type} {E:Enc α} {w:World} {l:List α} {v:Value} (h:Reads w (pRow E l) v):l.length<=9223372036854775807:=by
 have h':=h
 simp only [pRow,Reads] at h'
 obtain ⟨a,cap,rfl,h1,h2,_⟩:=h'
 exact Nat.le_trans h1 (maxLen_le h2)
end Go.Proofs.Ytaondjmimobnbaa.grd
end
end
section
/- Leases: package lease's order, found, Holds, told. -/
namespace Go.Proofs.Ytaondjmimobnbaa.lea
open Go Go.RowKit eng SX Fact fil lem
set_option linter.unusedVariables false
set_option linter.unusedSimpArgs false
set_option maxRecDepth 1000000

def ECmp (k:Nat):FnE:={ k:=k,ins:=[none,none],leaks:=[false,false],outs:=[none],kinds:=[.num] }
def EOrd (k:Nat):FnE:={ k:=k,ins:=[some 4,some 4],leaks:=List.replicate 8 false,outs:=[none],kinds:=[.num] }
def EFo (k:Nat):FnE:={ k:=k,ins:=[none,none,none],leaks:=[false,false,false],outs:=[some 4],kinds:=[.num,.num,.num,.num] }
def EHo (k:Nat):FnE:={ k:=k,ins:=[none,none,none,none],leaks:=[false,false,false,false],outs:=[none],kinds:=[.num] }
def EMust (k:Nat):FnE:={ k:=k,ins:=[none],leaks:=[false],outs:=[],kinds:=[] }
def EMustL (k:Nat):FnE:={ k:=k,ins:=[some 4],leaks:=[false,false,false,false],outs:=[],kinds:=[] }
def EMayL (k:Nat):FnE:={ k:=k,ins:=[none],leaks:=[false],outs:=[none],kinds:=[.num] }
theorem Zbq:∀ xs ys:List LeM,encL.all xs=encL.all ys->xs=ys
 | [],[],_=>rfl
 | [],_ :: _,h=>by simp [Enc.all,encL] at h
 | _ :: _,[],h=>by simp [Enc.all,encL] at h
 | x :: xs,y :: ys,h=>by
  rw [Enc.all_cons,Enc.all_cons] at h
  obtain ⟨h1,h2⟩:=List.append_inj h (by rw [encL.len,encL.len])
  simp only [encL,List.cons.injEq,Value.int.injEq,true_and,and_true] at h1
  rw [Prod.ext h1.1 (Prod.ext h1.2.1 (Prod.ext h1.2.2.1 h1.2.2.2)),Zbq xs ys h2]
theorem cellL (l:List LeM) (i:Nat) (h:i < l.length):Zcw (pRow encL l) (pI (i:Int)) 4 0=some (pI l[i].1)/\Zcw (pRow encL l) (pI (i:Int)) 4 1=some (pI l[i].2.1)/\Zcw (pRow encL l) (pI (i:Int)) 4 2=some (pI l[i].2.2.1)/\Zcw (pRow encL l) (pI (i:Int)) 4 3=some (pI l[i].2.2.2):=by
 have h2:l[i]?=some l[i]:=List.getElem?_eq_getElem h
 refine ⟨?_,?_,?_,?_⟩
 ·rw [Zc4 encL l i .i64 4 0 rfl h,Ze2 encL l i 0 _ h2 (by decide)];rfl
 ·rw [Zc4 encL l i .i64 4 1 rfl h,Ze2 encL l i 1 _ h2 (by decide)];rfl
 ·rw [Zc4 encL l i .i64 4 2 rfl h,Ze2 encL l i 2 _ h2 (by decide)];rfl
 ·rw [Zc4 encL l i .i64 4 3 rfl h,Ze2 encL l i 3 _ h2 (by decide)];rfl
@[simp] theorem kCmp (k:Nat):(ECmp k).k=k:=rfl
@[simp] theorem kOrd (k:Nat):(EOrd k).k=k:=rfl
@[simp] theorem kFo (k:Nat):(EFo k).k=k:=rfl
@[simp] theorem kHo (k:Nat):(EHo k).k=k:=rfl
@[simp] theorem kMust (k:Nat):(EMust k).k=k:=rfl
@[simp] theorem kMustL (k:Nat):(EMustL k).k=k:=rfl
@[simp] theorem kMayL (k:Nat):(EMayL k).k=k:=rfl
def p4 (x:LeM):List PV:=[pI x.1,pI x.2.1,pI x.2.2.1,pI x.2.2.2]
theorem Zjm {x y:LeM} (h:p4 x=p4 y):x=y:=by
 obtain ⟨a,b,c,d⟩:=x
 obtain ⟨a',b',c',d'⟩:=y
 simp only [p4,List.cons.injEq,PV.v.injEq,Value.int.injEq,true_and,and_true] at h
 obtain ⟨rfl,rfl,rfl,rfl⟩:=h;rfl
theorem find_hit {p:LeM->Bool} {l:List LeM} {i:Nat} (h:i < l.length) (hp:p l[i]=true) (hb:∀ j (hj:j < l.length),j < i->p l[j]=false):l.find? p=some l[i]:=by
 rw [List.find?_eq_some_iff_getElem]
 exact ⟨hp,i,h,rfl,fun j hj=>by simp [hb j (by omega) hj]⟩
theorem find_miss {p:LeM->Bool} {l:List LeM} (hb:∀ j (hj:j < l.length),p l[j]=false):l.find? p=none:=by
 rw [List.find?_eq_none]
 intro x hx
 obtain ⟨j,hj,rfl⟩:=List.getElem_of_mem hx
 simp [hb j hj]
end Go.Proofs.Ytaondjmimobnbaa.lea
end
