/- Who came first: the list of who waits beside what came when; no program. -/
import Derived.Test.YtaondjmimobnbaaWlm
namespace Go.Proofs.Ytaondjmimobnbaa.wfi
open lem wlm
set_option linter.unusedVariables false
structure Inv (M:List LeM) (g:Int->Option (Int × Int)) (i:Int):Prop where
 u:U M
 r:∀ x ∈ M,1<=x.1/\x.1<=3
 f:∀ x ∈ M,∃ t,g x.1=some (x.2.2.1,t)/\t < i
 c:∀ c p,g c=some p->∃ x ∈ M,x.1=c
 o:M.Pairwise fun x y=>∀ p q,g x.1=some p->g y.1=some q->p.2 < q.2
theorem inv_nil:Inv [] (fun _=>none) 0:=⟨u_nil,by simp,by simp,by simp,List.Pairwise.nil⟩
theorem Inv.mono {M:List LeM} {g:Int->Option (Int × Int)} {i j:Int} (h:Inv M g i) (hij:i<=j):Inv M g j :=
 ⟨h.u,h.r,fun x hx=>(h.f x hx).imp fun t ht=>⟨ht.1,by omega⟩,h.c,h.o⟩
theorem Inv.ext {M:List LeM} {g g':Int->Option (Int × Int)} {i:Int} (h:Inv M g i) (hg:∀ c,g' c=g c):Inv M g' i:=by
 obtain rfl:g'=g:=funext hg
 exact h
theorem Zch {M:List LeM} {c:Int} {x:LeM}:x ∈ dropW M c ↔ x ∈ M/\x.1 ≠ c:=by simp [dropW]
theorem inv_drop {M:List LeM} {g g':Int->Option (Int × Int)} {i:Int} (h:Inv M g i) (c:Int) (hg:∀ a,g' a=if a=c then none else g a):Inv (dropW M c) g' i:=by
 have hk:∀ x ∈ dropW M c,g' x.1=g x.1:=fun x hx=>by rw [hg,if_neg (Zch.1 hx).2]
 refine ⟨u_drop h.u c,fun x hx=>h.r x (Zch.1 hx).1,fun x hx=>?_,fun a p ha=>?_,?_⟩
 ·rw [hk x hx];exact h.f x (Zch.1 hx).1
 ·rw [hg] at ha
  split at ha
  ·cases ha
  ·rename_i hne
   obtain ⟨x,hx,rfl⟩:=h.c a p ha
   exact ⟨x,Zch.2 ⟨hx,hne⟩,rfl⟩
 ·refine List.Pairwise.imp_of_mem (fun {x y} hx hy hR p q hp hq=>?_) (h.o.sublist (show (dropW M c).Sublist M from List.filter_sublist))
  exact hR p q ((hk x hx).symm.trans hp) ((hk y hy).symm.trans hq)
theorem Ziz {M:List LeM} {g:Int->Option (Int × Int)} {i:Int} (h:Inv M g i):M.length<=3:=by
 have:(M.map (·.1)).length<=[(1:Int),2,3].length:=List.Nodup.length_le_of_subset h.u (fun c hc=>by
  obtain ⟨x,hx,rfl⟩:=List.mem_map.1 hc
  have:=h.r x hx
  have h3:x.1=1 \/ x.1=2 \/ x.1=3:=by omega
  simpa using h3)
 simpa using this
theorem inv_same {M:List LeM} {g:Int->Option (Int × Int)} {i:Int} (h:Inv M g i) (x:LeM) {t:Int} (hg:g x.1=some (x.2.2.1,t)):(putB M x).2=true/\Inv (putB M x).1 g i:=by
 obtain ⟨y,hy,hyc⟩:=h.c _ _ hg
 obtain ⟨ty,hyt,_⟩:=h.f y hy
 rw [hyc,hg] at hyt
 have hyf:x.2.2.1=y.2.2.1:=by
  simp only [Option.some.injEq,Prod.mk.injEq] at hyt;exact hyt.1
 rw [Zjv h.u]
 unfold putD
 cases hf:M.findIdx? (isW x.1 x.2.2.1) with
 | none =>
  have:=List.findIdx?_eq_none_iff.1 hf y hy
  simp [isW,hyc,hyf] at this
 | some k =>
  obtain ⟨hk,h1,h2⟩:=at_k hf
  refine ⟨rfl,?_⟩
  have hcl:∀ (j:Nat) (hj:j < M.length),((M.set k x)[j]'(by simpa using hj)).1=M[j].1/\((M.set k x)[j]'(by simpa using hj)).2.2.1=M[j].2.2.1:=fun j hj=>by
   rw [List.getElem_set]
   split
   ·rename_i e;subst e;exact ⟨h1.symm,h2.symm⟩
   ·exact ⟨rfl,rfl⟩
  have hmem:∀ z ∈ M.set k x,∃ y ∈ M,z.1=y.1/\z.2.2.1=y.2.2.1:=fun z hz=>by
   obtain ⟨j,hj,rfl⟩:=List.mem_iff_getElem.1 hz
   have hj':j < M.length:=by simpa using hj
   exact ⟨M[j],List.getElem_mem hj',hcl j hj'⟩
  refine ⟨by have:=u_put h.u x;rw [Zjv h.u] at this;simpa only [putD,hf] using this,fun z hz=>?_,fun z hz=>?_,fun a p ha=>?_,?_⟩
  ·obtain ⟨y,hy,e1,_⟩:=hmem z hz
   rw [e1];exact h.r y hy
  ·obtain ⟨y,hy,e1,e2⟩:=hmem z hz
   rw [e1,e2];exact h.f y hy
  ·obtain ⟨y,hy,rfl⟩:=h.c a p ha
   obtain ⟨j,hj,rfl⟩:=List.mem_iff_getElem.1 hy
   exact ⟨_,List.getElem_mem (by simpa using hj),(hcl j hj).1⟩
  ·rw [List.pairwise_iff_getElem]
   intro a b ha hb hab p q hp hq
   have ha':a < M.length:=by simpa using ha
   have hb':b < M.length:=by simpa using hb
   rw [(hcl a ha').1] at hp
   rw [(hcl b hb').1] at hq
   exact List.pairwise_iff_getElem.1 h.o a b ha' hb' hab p q hp hq
theorem inv_new {M:List LeM} {g g':Int->Option (Int × Int)} {i:Int} (h:Inv M g i) (x:LeM) (hx:1<=x.1/\x.1<=3) (hno:∀ p,g x.1=some p->p.1 ≠ x.2.2.1) (hg:∀ a,g' a=if a=x.1 then some (x.2.2.1,i) else g a):(putB M x).2=true/\Inv (putB M x).1 g' (i+1):=by
 have hf:M.findIdx? (isW x.1 x.2.2.1)=none:=by
  rw [List.findIdx?_eq_none_iff]
  intro y hy
  obtain ⟨t,ht,_⟩:=h.f y hy
  by_cases e:y.1=x.1
  ·have:=hno _ (by rw [<- e];exact ht)
   simp [isW];exact fun _=>this
  ·simp [isW,e]
 have hd:Inv (dropW M x.1) (fun a=>if a=x.1 then none else g a) i:=inv_drop h x.1 fun _=>rfl
 have hl:=Ziz hd
 have hk:∀ y ∈ dropW M x.1,g' y.1=g y.1:=fun y hy=>by rw [hg,if_neg (Zch.1 hy).2]
 have hk2:∀ y ∈ dropW M x.1,(fun a=>if a=x.1 then none else g a) y.1=g y.1:=fun y hy=>by simp [(Zch.1 hy).2]
 have hu:=u_put h.u x
 rw [Zjv h.u] at hu ⊢
 unfold putD at hu ⊢
 simp only [hf,if_pos (show (dropW M x.1).length < 4 by omega)] at hu ⊢
 refine ⟨trivial,hu,fun z hz=>?_,fun z hz=>?_,fun a p ha=>?_,?_⟩
 ·rcases List.mem_append.1 hz with hz | hz
  ·exact hd.r z hz
  ·simp at hz;subst hz;exact hx
 ·rcases List.mem_append.1 hz with hz | hz
  ·obtain ⟨t,h1,h2⟩:=h.f z (Zch.1 hz).1
   exact ⟨t,by rw [hk z hz];exact h1,by omega⟩
  ·simp at hz;subst hz
   exact ⟨i,by rw [hg,if_pos rfl],by omega⟩
 ·rw [hg] at ha
  split at ha
  ·rename_i e;subst e;exact ⟨x,by simp,rfl⟩
  ·rename_i e
   obtain ⟨y,hy,rfl⟩:=h.c a p ha
   exact ⟨y,List.mem_append_left _ (Zch.2 ⟨hy,e⟩),rfl⟩
 ·rw [List.pairwise_append]
  refine ⟨List.Pairwise.imp_of_mem (fun {y z} hy hz hR p q hp hq=>?_) hd.o,by simp,fun y hy z hz p q hp hq=>?_⟩
  ·exact hR p q ((hk2 y hy).trans ((hk y hy).symm.trans hp)) ((hk2 z hz).trans ((hk z hz).symm.trans hq))
  ·simp at hz;subst hz
   rw [hg,if_pos rfl] at hq
   cases hq
   obtain ⟨t,h1,h2⟩:=h.f y (Zch.1 hy).1
   rw [hk y hy,h1] at hp
   cases hp
   exact h2
def condB (g:Int->Option (Int × Int)) (a f b:Int):Bool:=!(b == a) && match g b with
 | some p=>p.1 == f && (match g a with | none=>true | some q=>!(q.1 == f) || decide (p.2 < q.2))
 | none=>false
def wantB (g:Int->Option (Int × Int)) (a f:Int):Nat->Bool
 | 0=>false
 | n+1=>wantB g a f n || condB g a f ((n:Int)+1)
theorem want_iff (g:Int->Option (Int × Int)) (a f:Int):∀ n:Nat,wantB g a f n=true ↔ ∃ b:Nat,1<=b/\b<=n/\condB g a f (b:Int)=true
 | 0=>by simp [wantB];omega
 | n+1=>by
  simp only [wantB,Bool.or_eq_true,want_iff g a f n]
  constructor
  ·rintro (⟨b,h1,h2,h3⟩ | h)
   ·exact ⟨b,h1,by omega,h3⟩
   ·exact ⟨n+1,by omega,by omega,by simpa using h⟩
  ·rintro ⟨b,h1,h2,h3⟩
   by_cases e:b=n+1
   ·subst e;exact .inr (by simpa using h3)
   ·exact .inl ⟨b,h1,by omega,h3⟩
theorem before {M ls bs:List LeM} {g:Int->Option (Int × Int)} {i:Int} {x y:LeM} {p q:Int × Int} (h:Inv M g i) (hM:M=ls++x :: bs) (hy:y ∈ M) (hne:y.1 ≠ x.1) (hno:y ∉ ls) (hp:g x.1=some p) (hq:g y.1=some q):p.2 < q.2:=by
 subst hM
 have hyb:y ∈ bs:=by
  rcases List.mem_append.1 hy with h1 | h1
  ·exact absurd h1 hno
  ·rcases List.mem_cons.1 h1 with rfl | h1
   ·exact absurd rfl hne
   ·exact h1
 exact (List.pairwise_cons.1 (List.pairwise_append.1 h.o).2.1).1 y hyb p q hp hq
theorem ahead_want {M:List LeM} {g:Int->Option (Int × Int)} {i:Int} (h:Inv M g i) (a f:Int):Zek M a f=wantB g a f 3:=by
 rw [Bool.eq_iff_iff,want_iff]
 unfold Zek
 cases hf:M.find? (isFl f) with
 | none =>
  constructor
  ·intro h1;cases h1
  ·rintro ⟨b,_,_,hc⟩
   simp only [condB,Bool.and_eq_true] at hc
   obtain ⟨_,hc⟩:=hc
   cases hg:g (b:Int) with
   | none=>rw [hg] at hc;cases hc
   | some p =>
    rw [hg] at hc
    simp only [Bool.and_eq_true,beq_iff_eq] at hc
    obtain ⟨y,hy,hyb⟩:=h.c _ _ hg
    obtain ⟨t,ht,_⟩:=h.f y hy
    rw [hyb,hg] at ht
    have:=List.find?_eq_none.1 hf y hy
    cases ht
    exact absurd hc.1 (by simpa [isFl] using this)
 | some x =>
  obtain ⟨hxf,ls,bs,hM,has⟩:=List.find?_eq_some_iff_append.1 hf
  simp only [isFl,beq_iff_eq] at hxf
  have hxm:x ∈ M:=by rw [hM];simp
  obtain ⟨t,ht,_⟩:=h.f x hxm
  rw [hxf] at ht
  have hnot:∀ y,y.2.2.1=f->y ∉ ls:=fun y hy hm=>by
   have:=has y hm
   simp [isFl,hy] at this
  constructor
  ·intro h1
   have hne:x.1 ≠ a:=by simpa using h1
   obtain ⟨r1,r2⟩:=h.r x hxm
   refine ⟨x.1.toNat,by omega,by omega,?_⟩
   rw [show ((x.1.toNat:Nat):Int)=x.1 by omega]
   simp only [condB,ht]
   cases hga:g a with
   | none=>simp [hne]
   | some q =>
    by_cases hq:q.1=f
    ·obtain ⟨y,hy,hya⟩:=h.c _ _ hga
     obtain ⟨ty,hty,_⟩:=h.f y hy
     rw [hya,hga] at hty
     have hyf:y.2.2.1=f:=by cases hty;exact hq
     have:=before h hM hy (by rw [hya];exact fun e=>hne e.symm) (hnot y hyf) ht (q:=q) (by rw [hya];exact hga)
     simp [hne]
     exact .inr this
    ·simp [hne,hq]
  ·rintro ⟨b,_,_,hc⟩
   simp only [condB,Bool.and_eq_true] at hc
   obtain ⟨hba,hc⟩:=hc
   cases hg:g (b:Int) with
   | none=>rw [hg] at hc;cases hc
   | some p =>
    rw [hg] at hc
    simp only [Bool.and_eq_true,beq_iff_eq] at hc
    obtain ⟨hp,hc⟩:=hc
    obtain ⟨y,hy,hyb⟩:=h.c _ _ hg
    obtain ⟨ty,hty,_⟩:=h.f y hy
    rw [hyb,hg] at hty
    have hyf:y.2.2.1=f:=by cases hty;exact hp
    simp only [Bool.not_eq_true',beq_eq_false_iff_ne]
    intro hxa
    rw [hxa] at ht
    rw [ht] at hc
    have hlt:p.2 < t:=by simpa using hc
    have hba':(b:Int) ≠ a:=by simpa using hba
    have:=before h hM hy (by rw [hyb,hxa];exact hba') (hnot y hyf) (p:=(f,t)) (by rw [hxa];exact ht) (q:=p) (by rw [hyb];exact hg)
    simp only at this
    omega
end Go.Proofs.Ytaondjmimobnbaa.wfi
