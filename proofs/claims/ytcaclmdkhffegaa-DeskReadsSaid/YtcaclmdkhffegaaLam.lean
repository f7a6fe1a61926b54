/- LeaseAlone: the reckoning. -/
import Derived.Test.YtcaclmdkhffegaaLec
namespace Go.Proofs.Ytcaclmdkhffegaa.lam
open Go Go.RowKit eng lem lea leb lgw lgr lec
set_option linter.unusedVariables false
set_option linter.unusedSimpArgs false
def ltL (a b:LeM):Prop:=a.2.1 < b.2.1 \/ (a.2.1=b.2.1/\a.1 < b.1)
theorem Zjp {l:List LeM}:MayL l ↔ l.length<=1000000/\(∀ x ∈ l,okL x)/\l.Pairwise ltL:=by
 constructor
 ·intro h
  refine ⟨h.1,h.2.1,List.pairwise_iff_getElem.2 fun i j hi hj hij=>?_⟩
  exact (Zct _ _).1 (Zhn h i j hij hj)
 ·rintro ⟨h1,h2,h3⟩
  refine ⟨h1,h2,fun i hi=>(Zct _ _).2 (List.pairwise_iff_getElem.1 h3 i (i+1) (by omega) hi (by omega))⟩
theorem may_filter {l:List LeM} (h:MayL l) (p:LeM->Bool):MayL (l.filter p):=by
 obtain ⟨h1,h2,h3⟩:=Zjp.1 h
 refine Zjp.2 ⟨Nat.le_trans (List.length_filter_le _ _) h1,fun x hx=>h2 x (List.mem_filter.1 hx).1,h3.sublist List.filter_sublist⟩
theorem uniqL {l:List LeM} (h:MayL l) {a b:LeM} (ha:a ∈ l) (hb:b ∈ l) (h1:a.1=b.1) (h2:a.2.1=b.2.1):a=b:=by
 obtain ⟨i,hi,rfl⟩:=List.getElem_of_mem ha
 obtain ⟨j,hj,rfl⟩:=List.getElem_of_mem hb
 rcases Nat.lt_trichotomy i j with hij | rfl | hij
 ·have:=(Zct _ _).1 (Zhn h i j hij hj);omega
 ·rfl
 ·have:=(Zct _ _).1 (Zhn h j i hij hi);omega
theorem Ziw {xs:List LeM} (x:LeM) (h:MayL xs):∃ i t,lgr.Place xs x i t:=by
 have hle:Zcj xs x<=xs.length:=List.findIdx_le_length
 have h2:∀ j (hj:j < Zcj xs x) (hl:j < xs.length),ordL xs[j] x < 0:=fun j hj hl=>by
  have:=List.not_of_lt_findIdx hj
  simpa using this
 have h3:∀ j (hl:j < xs.length),Zcj xs x<=j->0<=ordL xs[j] x:=fun j hl hj=>by
  have h0:0<=ordL (xs[Zcj xs x]'(by omega)) x:=by
   have:=List.findIdx_getElem (xs:=xs) (p:=fun y=>decide (0<=ordL y x)) (w:=(by show Zcj xs x < _;omega))
   exact of_decide_eq_true this
  by_cases he:Zcj xs x=j
  ·subst he;exact h0
  ·have h4:=(Zct _ _).1 (Zhn h (Zcj xs x) j (by omega) hl)
   by_cases h5:ordL xs[j] x < 0
   ·have h6:=(Zct _ _).1 h5
    have:ordL (xs[Zcj xs x]'(by omega)) x < 0:=(Zct _ _).2 (by omega)
    omega
   ·omega
 exact ⟨Zcj xs x,decide (∃ hi:Zcj xs x < xs.length,ordL xs[Zcj xs x] x=0),hle,fun j hl hj=>h2 j hj hl,h3,by simp⟩
theorem Zdu {xs:List LeM} {x z:LeM} (h:MayL xs) (hz:z ∈ Zbb xs x):z ∈ xs \/ z=x \/ ∃ y ∈ xs,y.1=x.1/\y.2.1=x.2.1/\z=Zg3 y x:=by
 obtain ⟨i,t,hp⟩:=Ziw x h
 cases t with
 | true =>
  obtain ⟨hi,he⟩:=Zd5 hp
  obtain ⟨_,h0⟩:=hp.2.2.2.1 rfl
  rw [he] at hz
  obtain ⟨h1,h2⟩:=(Zkw _ _).1 h0
  rcases List.mem_or_eq_of_mem_set hz with hz | hz
  ·exact .inl hz
  ·exact .inr (.inr ⟨xs[i],List.getElem_mem hi,h2,h1,hz⟩)
 | false =>
  rw [Zf1 hp] at hz
  simp only [List.mem_append,List.mem_singleton] at hz
  rcases hz with (hz | hz) | hz
  ·exact .inl (List.mem_of_mem_take hz)
  ·exact .inr (.inl hz)
  ·exact .inl (List.mem_of_mem_drop hz)
theorem grant_may {xs:List LeM} {x:LeM} (h:MayL xs) (hx:okL x) (hl:xs.length < 1000000):MayL (Zbb xs x):=by
 obtain ⟨h1,h2,h3⟩:=Zjp.1 h
 refine Zjp.2 ⟨by have:=grant_len xs x;omega,fun z hz=>?_,?_⟩
 ·rcases Zdu h hz with hz | rfl | ⟨y,hy,e1,e2,rfl⟩
  ·exact h2 z hz
  ·exact hx
  ·have hy:=h2 y hy
   simp only [okL,Zg3] at hx hy ⊢
   omega
 ·obtain ⟨i,t,hp⟩:=Ziw x h
  cases t with
  | true =>
   obtain ⟨hi,he⟩:=Zd5 hp
   rw [he]
   have hk:∀ j (hj:j < (xs.set i (Zg3 xs[i] x)).length),((xs.set i (Zg3 xs[i] x))[j]).1=(xs[j]'(by simpa using hj)).1/\((xs.set i (Zg3 xs[i] x))[j]).2.1=(xs[j]'(by simpa using hj)).2.1:=fun j hj=>by
    rw [List.getElem_set]
    split
    ·rename_i h;subst h;exact ⟨rfl,rfl⟩
    ·exact ⟨rfl,rfl⟩
   refine List.pairwise_iff_getElem.2 fun a b ha hb hab=>?_
   have:=List.pairwise_iff_getElem.1 h3 a b (by simpa using ha) (by simpa using hb) hab
   obtain ⟨a1,a2⟩:=hk a ha
   obtain ⟨b1,b2⟩:=hk b hb
   simp only [ltL] at this ⊢
   omega
  | false =>
   rw [Zf1 hp]
   obtain ⟨q1,q2,q3,q4,q5⟩:=hp
   have hpp:=List.pairwise_append.1 (by rw [List.take_append_drop];exact h3:(xs.take i++xs.drop i).Pairwise ltL)
   have ha:∀ a ∈ xs.take i,ltL a x:=fun a ha=>by
    obtain ⟨j,hj,rfl⟩:=List.getElem_of_mem ha
    rw [List.getElem_take]
    rw [List.length_take] at hj
    refine (Zct _ _).1 ?_
    first | exact q2 j (by omega) (by omega) | exact q2 j (by omega)
   have hb:∀ b ∈ xs.drop i,ltL x b:=fun b hb=>by
    obtain ⟨j,hj,rfl⟩:=List.getElem_of_mem hb
    rw [List.length_drop] at hj
    rw [List.getElem_drop]
    have h5:0<=ordL (xs[i+j]'(by omega)) x:=by
     first | exact q3 (i+j) (by omega) (by omega) | exact q3 (i+j) (by omega)
    have h6:¬ ordL (xs[i+j]'(by omega)) x=0:=fun h0=>by
     by_cases hj0:j=0
     ·subst hj0
      have:=q5 ⟨by omega,h0⟩
      cases this
     ·have h7:=(Zct _ _).1 (Zhn h i (i+j) (by omega) (by omega))
      have h8:=(Zkw _ _).1 h0
      have h9:ordL (xs[i]'(by omega)) x < 0:=(Zct _ _).2 (by omega)
      have h10:0<=ordL (xs[i]'(by omega)) x:=by
       first | exact q3 i (by omega) (by omega) | exact q3 i (by omega)
      omega
    have h7:¬ ltL (xs[i+j]'(by omega)) x:=fun h=>by have:=(Zct _ _).2 h;omega
    have h8:¬ ((xs[i+j]'(by omega)).2.1=x.2.1/\(xs[i+j]'(by omega)).1=x.1):=fun h=>h6 ((Zkw _ _).2 h)
    simp only [ltL] at h7 ⊢
    omega
   rw [List.append_assoc]
   refine List.pairwise_append.2 ⟨hpp.1,List.pairwise_append.2 ⟨List.pairwise_singleton _ _,hpp.2.1,fun a ha' b hb'=>?_⟩,fun a ha' b hb'=>?_⟩
   ·rw [List.mem_singleton] at ha';subst ha';exact hb b hb'
   ·rcases List.mem_append.1 hb' with hb' | hb'
    ·rw [List.mem_singleton] at hb';subst hb';exact ha a ha'
    ·exact hpp.2.2 a ha' b hb'
theorem grant_has {xs:List LeM} {x:LeM} (h:MayL xs):∃ z ∈ Zbb xs x,z.1=x.1/\z.2.1=x.2.1/\x.2.2.1<=z.2.2.1/\x.2.2.2<=z.2.2.2:=by
 obtain ⟨i,t,hp⟩:=Ziw x h
 cases t with
 | true =>
  obtain ⟨hi,he⟩:=Zd5 hp
  obtain ⟨_,h0⟩:=hp.2.2.2.1 rfl
  obtain ⟨h1,h2⟩:=(Zkw _ _).1 h0
  rw [he]
  refine ⟨Zg3 xs[i] x,List.mem_set hi _,h2,h1,?_,?_⟩
  ·show x.2.2.1<=max _ _;omega
  ·show x.2.2.2<=max _ _;omega
 | false =>
  rw [Zf1 hp]
  exact ⟨x,by simp,rfl,rfl,Int.le_refl _,Int.le_refl _⟩
theorem holds_of {l:List LeM} (h:MayL l) {z:LeM} (hz:z ∈ l) (t:Int):Zfa l t z.1 z.2.1=if z.2.2.2<=t then 0 else z.2.2.1:=by
 unfold Zfa
 cases hf:l.find? (isL z.1 z.2.1) with
 | none =>
  have:=List.find?_eq_none.1 hf z hz
  simp [isL] at this
 | some y =>
  have hy:=List.mem_of_find?_eq_some hf
  have hi:=List.find?_some hf
  simp only [isL,Bool.and_eq_true,beq_iff_eq] at hi
  have:=uniqL h hy hz hi.1 hi.2
  subst this;rfl
structure Al (M:List LeM) (now:Int):Prop where
 may:MayL M
 live:∀ x ∈ M,now < x.2.2.2
 one:∀ x ∈ M,∀ y ∈ M,x.2.1=y.2.1->x.1 ≠ y.1->x.2.2.1 ≠ 2
theorem al_nil (t:Int):Al [] t:=⟨⟨by simp,by simp,by simp⟩,by simp,by simp⟩
theorem al_prune {M:List LeM} {now:Int} (h:Al M now) (t:Int):Al (Zb8 M t) t:=by
 refine ⟨may_filter h.may _,fun x hx=>?_,fun x hx y hy=>h.one x (List.mem_filter.1 hx).1 y (List.mem_filter.1 hy).1⟩
 have:=(List.mem_filter.1 hx).2
 simpa using this
theorem no_clash {M:List LeM} {now c f m:Int} (h:Al M now) (hc:Zbk M now c f m=[]):∀ y ∈ M,y.2.1=f->y.1 ≠ c->y.2.2.1 ≠ 2/\m ≠ 2:=by
 intro y hy h1 h2
 rw [Zbk,List.map_eq_nil_iff,List.filter_eq_nil_iff] at hc
 have h3:=hc y hy
 have h4:=h.live y hy
 have h5:=h.may.2.1 y hy
 have h6:¬ y.2.2.2<=now:=by omega
 have h7:¬ y.2.2.1=0:=by have:=h5.2.2.2.2.1;omega
 simp [isC,barsL,heldL,h1,h2,h6,h7] at h3
 exact h3
theorem al_grant {M:List LeM} {now c f m u:Int} (h:Al M now) (hx:okL (c,f,m,u)) (hl:M.length < 1000000) (hu:now < u) (hc:Zbk M now c f m=[]):Al (Zbb M (c,f,m,u)) now:=by
 have nc:=no_clash h hc
 refine ⟨grant_may h.may hx hl,fun z hz=>?_,fun z hz y hy h1 h2=>?_⟩
 ·rcases Zdu h.may hz with hz | rfl | ⟨y,hy,e1,e2,rfl⟩
  ·exact h.live z hz
  ·exact hu
  ·show now < max _ _
   have:now < u:=hu
   simp only
   omega
 ·have hm:1<=m/\m<=2:=⟨hx.2.2.2.2.1,hx.2.2.2.2.2.1⟩
  rcases Zdu h.may hz with hz | rfl | ⟨z0,hz0,e1,e2,rfl⟩ <;> rcases Zdu h.may hy with hy | rfl | ⟨y0,hy0,e3,e4,rfl⟩
  ·exact h.one z hz y hy h1 h2
  ·exact (nc z hz h1 h2).1
  ·exact (nc z hz (h1.trans e4) (fun h=>h2 (h.trans e3.symm))).1
  ·exact (nc y hy h1.symm (fun h=>h2 h.symm)).2
  ·exact absurd rfl h2
  ·exact absurd e3.symm h2
  ·have k1:=nc y hy (h1.symm.trans e2) (fun h=>h2 (e1.trans h.symm))
   have k2:=h.one z0 hz0 y hy h1 h2
   show max _ _ ≠ _
   have k3:=k1.2
   simp only
   omega
  ·exact absurd e1 h2
  ·exact absurd (e1.trans e3.symm) h2
end Go.Proofs.Ytcaclmdkhffegaa.lam
