/- Who came first: reckoning about a map of numbers to pairs and a list of who waits; no program. -/
import Derived.Test.YtaondjmimobnbaaMrg4
import Derived.Test.YtaondjmimobnbaaWfi
namespace Go.Proofs.Ytaondjmimobnbaa.wfm
open Go Go.RowKit eng lem wlm
set_option linter.unusedVariables false
set_option linter.unusedSimpArgs false

abbrev Ent:=Int × Int × Int
def cont (L:List Ent):List PV:=L.flatMap fun e=>[.v (.int .i64 e.1),.v (.agg #[.int .i64 e.2.1,.int .i64 e.2.2])]
def pM (L:List Ent):PV:=.row L.length (cont L)
def getM (L:List Ent) (k:Int):Option (Int × Int):=(L.find? fun e=>e.1 == k).map (·.2)
def z2:Value:=.agg #[.int .i64 0,.int .i64 0]
theorem Zhs (k:Int):∀ (L:List Ent) (i:Nat),(Zb8 (cont L) k i=none/\getM L k=none) \/ ∃ j e,L[j]?=some e/\e.1=k/\Zb8 (cont L) k i=some (i+j,.v (.agg #[.int .i64 e.2.1,.int .i64 e.2.2]))/\getM L k=some e.2/\∀ q x,q < j->L[q]?=some x->x.1 ≠ k
 | [],i=>.inl ⟨rfl,rfl⟩
 | e :: L,i=>by
  by_cases h:e.1=k
  ·refine .inr ⟨0,e,rfl,h,?_,?_,fun q x hq=>absurd hq (Nat.not_lt_zero _)⟩
   ·simp [cont,Zb8,h]
   ·simp [getM,h]
  ·have h1:Zb8 (cont (e :: L)) k i=Zb8 (cont L) k (i+1):=by simp [cont,Zb8,h]
   have h2:getM (e :: L) k=getM L k:=by simp [getM,h]
   rw [h1,h2]
   rcases Zhs k L (i+1) with h3 | ⟨j,x,g1,g2,g3,g4,g5⟩
   ·exact .inl h3
   ·refine .inr ⟨j+1,x,by simpa using g1,g2,by rw [g3,show i+1+j=i+(j+1) by omega],g4,fun q y hq hy=>?_⟩
    cases q with
    | zero=>simp at hy;subst hy;exact h
    | succ q=>exact g5 q y (by omega) (by simpa using hy)
theorem m_has (L:List Ent) (k:Int):ropPV .mhas [pM L,pI k]=some (pB (getM L k).isSome):=by
 rcases Zhs k L 0 with ⟨h1,h2⟩ | ⟨j,e,_,_,h1,h2,_⟩ <;> simp [ropPV,pM,h1,h2]
def gv (L:List Ent) (k:Int):Int × Int:=(getM L k).getD (0,0)
theorem m_get (L:List Ent) (k:Int):ropPV (.mget z2) [pM L,pI k]=some (.v (.agg #[.int .i64 (gv L k).1,.int .i64 (gv L k).2])):=by
 rcases Zhs k L 0 with ⟨h1,h2⟩ | ⟨j,e,_,_,h1,h2,_⟩ <;> simp [ropPV,pM,h1,h2,gv,z2]
theorem part0 (x y:Value):ropPV (.part 0) [.v (.agg #[x,y])]=some (.v x):=rfl
theorem part1 (x y:Value):ropPV (.part 1) [.v (.agg #[x,y])]=some (.v y):=rfl
theorem pack2 (x y:Value):ropPV .pack [.v x,.v y]=some (.v (.agg #[x,y])):=rfl
theorem lenM (L:List Ent):lenPV (pM L)=some (pI (L.length:Int)):=rfl
theorem cont_set:∀ (L:List Ent) (j:Nat) (e:Ent) (a b:Int),L[j]?=some e->(cont L).set (2 * j+1) (.v (.agg #[.int .i64 a,.int .i64 b]))=cont (L.set j (e.1,a,b))
 | [],j,e,a,b,h=>by simp at h
 | x :: L,0,e,a,b,h=>by simp at h;subst h;simp [cont]
 | x :: L,j+1,e,a,b,h=>by
  have:=cont_set L j e a b (by simpa using h)
  simp only [cont,List.flatMap_cons,List.set_cons_succ,Nat.mul_add,Nat.mul_one] at *
  simpa using this
theorem cont_del:∀ (L:List Ent) (j:Nat),((cont L).eraseIdx (2 * j)).eraseIdx (2 * j)=cont (L.eraseIdx j)
 | [],j=>by simp [cont]
 | x :: L,0=>by simp [cont]
 | x :: L,j+1=>by
  have:=cont_del L j
  simp only [cont,List.flatMap_cons,List.eraseIdx_cons_succ,Nat.mul_add,Nat.mul_one] at *
  simpa using this
def Keys (L:List Ent):Prop:=(L.map (·.1)).Nodup
theorem Zfs (L:List Ent) (k:Int):k ∈ L.map (·.1) ↔ (getM L k).isSome=true:=by
 simp [getM]
theorem Zd0 {L:List Ent} (h:Keys L) {e:Ent} (he:e ∈ L):getM L e.1=some e.2:=by
 induction L with
 | nil=>simp at he
 | cons x L ih =>
  simp only [Keys,List.map_cons,List.nodup_cons] at h
  rcases List.mem_cons.1 he with rfl | he
  ·simp [getM]
  ·have hne:x.1 ≠ e.1:=fun h2=>h.1 (by rw [h2];exact List.mem_map_of_mem he)
   have:=ih h.2 he
   simp only [getM] at this ⊢
   simp [hne,this]
theorem Zdy {L:List Ent} {k:Int} {p:Int × Int} (h:getM L k=some p):(k,p) ∈ L:=by
 simp only [getM,Option.map_eq_some_iff] at h
 obtain ⟨e,he,rfl⟩:=h
 have h1:=List.find?_some he
 have h2:=List.mem_of_find?_eq_some he
 simp at h1
 subst h1
 exact h2
theorem m_put (L:List Ent) (hk:Keys L) (k a b:Int):∃ L',ropPV .mput [pM L,pI k,.v (.agg #[.int .i64 a,.int .i64 b])]=some (pM L')/\(∀ c,getM L' c=if c=k then some (a,b) else getM L c)/\Keys L':=by
 rcases Zhs k L 0 with ⟨h1,h2⟩ | ⟨j,e,g1,g2,h1,h2,_⟩
 ·have hn:k ∉ L.map (·.1):=fun h=>by rw [Zfs,h2] at h;simp at h
  refine ⟨L++[(k,a,b)],?_,fun c=>?_,?_⟩
  ·have hc:cont (L++[(k,a,b)])=cont L++[PV.v (.int .i64 k),.v (.agg #[.int .i64 a,.int .i64 b])]:=by simp [cont]
   simp [ropPV,pM,h1,hc]
  ·by_cases hc:c=k
   ·subst hc
    simp only [getM,List.find?_append,if_true] at h2 ⊢
    have h3:L.find? (fun e=>e.1 == c)=none:=by simpa using h2
    simp [h3]
   ·have:¬ k=c:=fun h=>hc h.symm
    simp [getM,List.find?_append,hc,this]
  ·simp only [Keys,List.map_append,List.map_cons,List.map_nil]
   rw [List.nodup_append]
   exact ⟨hk,by simp,fun x hx y hy=>by simp at hy;subst hy;exact fun h=>hn (h ▸ hx)⟩
 ·rw [Nat.zero_add] at h1
  obtain ⟨hj,hje⟩:=List.getElem?_eq_some_iff.1 g1
  have hkeys:(L.set j (e.1,a,b)).map (·.1)=L.map (·.1):=by
   rw [List.map_set]
   apply List.ext_getElem (by simp)
   intro q h3 h4
   rw [List.getElem_set]
   split
   ·rename_i hq;subst hq;simp [hje]
   ·rfl
  have hk':Keys (L.set j (e.1,a,b)):=by rw [Keys,hkeys];exact hk
  refine ⟨L.set j (e.1,a,b),?_,fun c=>?_,hk'⟩
  ·simp only [ropPV,pM,h1,cont_set L j e a b g1,List.length_set]
  ·by_cases hc:c=k
   ·rw [if_pos hc,hc,<- g2]
    exact Zd0 hk' (e:=(e.1,a,b)) (List.mem_iff_getElem.2 ⟨j,by simpa using hj,by simp⟩)
   ·rw [if_neg hc]
    cases hg:getM L c with
    | some p =>
     have hm:=Zdy hg
     obtain ⟨q,hq,hqe⟩:=List.mem_iff_getElem.1 hm
     have hqj:j ≠ q:=fun h=>hc (by subst h;rw [hje] at hqe;rw [<- g2,hqe])
     exact Zd0 hk' (e:=(c,p)) (List.mem_iff_getElem.2 ⟨q,by simpa using hq,by rw [List.getElem_set_ne hqj];exact hqe⟩)
    | none =>
     have hn:c ∉ L.map (·.1):=fun h=>by rw [Zfs,hg] at h;simp at h
     rw [<- hkeys,Zfs] at hn
     simpa using hn
theorem m_del (L:List Ent) (hk:Keys L) (k:Int):∃ L',ropPV .mdel [pM L,pI k]=some (pM L')/\(∀ c,getM L' c=if c=k then none else getM L c)/\Keys L':=by
 rcases Zhs k L 0 with ⟨h1,h2⟩ | ⟨j,e,g1,g2,h1,h2,_⟩
 ·refine ⟨L,by simp [ropPV,pM,h1],fun c=>?_,hk⟩
  by_cases hc:c=k
  ·rw [if_pos hc,hc,h2]
  ·rw [if_neg hc]
 ·rw [Nat.zero_add] at h1
  obtain ⟨hj,hje⟩:=List.getElem?_eq_some_iff.1 g1
  have hk':Keys (L.eraseIdx j):=List.Nodup.sublist (List.Sublist.map _ (List.eraseIdx_sublist L j)) hk
  have hmem:∀ x,x ∈ L.eraseIdx j ↔ x ∈ L/\x.1 ≠ k:=fun x=>by
   constructor
   ·intro hx
    refine ⟨(List.eraseIdx_sublist L j).subset hx,fun hxk=>?_⟩
    obtain ⟨q,hq,hqj,rfl⟩:=List.mem_eraseIdx_iff_getElem.1 hx
    have hq2:(L.map (·.1))[q]'(by simpa using hq)=(L.map (·.1))[j]'(by simpa using hj):=by
     simp only [List.getElem_map]
     rw [hxk,hje,g2]
    have hp:List.Pairwise (· ≠ ·) (L.map (·.1)):=hk
    by_cases hlt:q < j
    ·exact List.pairwise_iff_getElem.1 hp q j _ _ hlt hq2
    ·exact List.pairwise_iff_getElem.1 hp j q (by simpa using hj) (by simpa using hq) (by omega) hq2.symm
   ·rintro ⟨hx,hxk⟩
    obtain ⟨q,hq,rfl⟩:=List.mem_iff_getElem.1 hx
    exact List.mem_eraseIdx_iff_getElem.2 ⟨q,hq,fun h=>hxk (by subst h;rw [hje,g2]),rfl⟩
  refine ⟨L.eraseIdx j,?_,fun c=>?_,hk'⟩
  ·simp only [ropPV,pM,h1,cont_del,List.length_eraseIdx,hj,if_true]
  ·by_cases hc:c=k
   ·rw [if_pos hc]
    cases hg:getM (L.eraseIdx j) c with
    | none=>rfl
    | some p=>exact absurd hc ((hmem _).1 (Zdy hg)).2
   ·rw [if_neg hc]
    cases hg:getM L c with
    | some p=>exact Zd0 hk' (e:=(c,p)) ((hmem _).2 ⟨Zdy hg,hc⟩)
    | none =>
     cases hg2:getM (L.eraseIdx j) c with
     | none=>rfl
     | some p =>
      have:=Zd0 hk ((hmem _).1 (Zdy hg2)).1
      rw [show ((c,p):Ent).1=c from rfl,hg] at this
      cases this
end Go.Proofs.Ytaondjmimobnbaa.wfm
