/- LeaseAlone: the reckoning. -/
import Derived.Test.YtpnegheknjeljaaLec
namespace Go.Proofs.Ytpnegheknjeljaa.lam
open Go Go.RowKit eng lem lea leb lgw lgr lec
set_option linter.unusedVariables false
set_option linter.unusedSimpArgs false
def ltL (a b:LeM):Prop:=a.2.1 < b.2.1 \/ (a.2.1=b.2.1/\a.1 < b.1)
theorem Zkx {l:List LeM}:MayL l ↔ l.length<=1000000/\(∀ x ∈ l,okL x)/\l.Pairwise ltL:=by
 constructor
 ·intro h
  refine ⟨h.1,h.2.1,List.pairwise_iff_getElem.2 fun i j hi hj hij=>?_⟩
  exact (Zck _ _).1 (Zhc h i j hij hj)
 ·rintro ⟨h1,h2,h3⟩
  refine ⟨h1,h2,fun i hi=>(Zck _ _).2 (List.pairwise_iff_getElem.1 h3 i (i+1) (by omega) hi (by omega))⟩
theorem may_filter {l:List LeM} (h:MayL l) (p:LeM->Bool):MayL (l.filter p):=by
 obtain ⟨h1,h2,h3⟩:=Zkx.1 h
 refine Zkx.2 ⟨Nat.le_trans (List.length_filter_le _ _) h1,fun x hx=>h2 x (List.mem_filter.1 hx).1,h3.sublist List.filter_sublist⟩
theorem uniqL {l:List LeM} (h:MayL l) {a b:LeM} (ha:a ∈ l) (hb:b ∈ l) (h1:a.1=b.1) (h2:a.2.1=b.2.1):a=b:=by
 obtain ⟨i,hi,rfl⟩:=List.getElem_of_mem ha
 obtain ⟨j,hj,rfl⟩:=List.getElem_of_mem hb
 rcases Nat.lt_trichotomy i j with hij | rfl | hij
 ·have:=(Zck _ _).1 (Zhc h i j hij hj);omega
 ·rfl
 ·have:=(Zck _ _).1 (Zhc h j i hij hi);omega
theorem Zip {xs:List LeM} (x:LeM) (h:MayL xs):∃ i t,lgr.Place xs x i t:=by
 have hle:Zce xs x<=xs.length:=List.findIdx_le_length
 have h2:∀ j (hj:j < Zce xs x) (hl:j < xs.length),ordL xs[j] x < 0:=fun j hj hl=>by
  have:=List.not_of_lt_findIdx hj
  simpa using this
 have h3:∀ j (hl:j < xs.length),Zce xs x<=j->0<=ordL xs[j] x:=fun j hl hj=>by
  have h0:0<=ordL (xs[Zce xs x]'(by omega)) x:=by
   have:=List.findIdx_getElem (xs:=xs) (p:=fun y=>decide (0<=ordL y x)) (w:=(by show Zce xs x < _;omega))
   exact of_decide_eq_true this
  by_cases he:Zce xs x=j
  ·subst he;exact h0
  ·have h4:=(Zck _ _).1 (Zhc h (Zce xs x) j (by omega) hl)
   by_cases h5:ordL xs[j] x < 0
   ·have h6:=(Zck _ _).1 h5
    have:ordL (xs[Zce xs x]'(by omega)) x < 0:=(Zck _ _).2 (by omega)
    omega
   ·omega
 exact ⟨Zce xs x,decide (∃ hi:Zce xs x < xs.length,ordL xs[Zce xs x] x=0),hle,fun j hl hj=>h2 j hj hl,h3,by simp⟩
theorem Zfk {xs:List LeM} {x z:LeM} (h:MayL xs) (hz:z ∈ Zbb xs x):z ∈ xs \/ z=x \/ ∃ y ∈ xs,y.1=x.1/\y.2.1=x.2.1/\z=Zgt y x:=by
 obtain ⟨i,t,hp⟩:=Zip x h
 cases t with
 | true =>
  obtain ⟨hi,he⟩:=Zdu hp
  obtain ⟨_,h0⟩:=hp.2.2.2.1 rfl
  rw [he] at hz
  obtain ⟨h1,h2⟩:=(Zkt _ _).1 h0
  rcases List.mem_or_eq_of_mem_set hz with hz | hz
  ·exact .inl hz
  ·exact .inr (.inr ⟨xs[i],List.getElem_mem hi,h2,h1,hz⟩)
 | false =>
  rw [Zfn hp] at hz
  simp only [List.mem_append,List.mem_singleton] at hz
  rcases hz with (hz | hz) | hz
  ·exact .inl (List.mem_of_mem_take hz)
  ·exact .inr (.inl hz)
  ·exact .inl (List.mem_of_mem_drop hz)
theorem grant_may {xs:List LeM} {x:LeM} (h:MayL xs) (hx:okL x) (hl:xs.length < 1000000):MayL (Zbb xs x):=by
 obtain ⟨h1,h2,h3⟩:=Zkx.1 h
 refine Zkx.2 ⟨by have:=Zhj xs x;omega,fun z hz=>?_,?_⟩
 ·rcases Zfk h hz with hz | rfl | ⟨y,hy,e1,e2,rfl⟩
  ·exact h2 z hz
  ·exact hx
  ·have hy:=h2 y hy
   simp only [okL,Zgt] at hx hy ⊢
   omega
 ·obtain ⟨i,t,hp⟩:=Zip x h
  cases t with
  | true =>
   obtain ⟨hi,he⟩:=Zdu hp
   rw [he]
   have hk:∀ j (hj:j < (xs.set i (Zgt xs[i] x)).length),((xs.set i (Zgt xs[i] x))[j]).1=(xs[j]'(by simpa using hj)).1/\((xs.set i (Zgt xs[i] x))[j]).2.1=(xs[j]'(by simpa using hj)).2.1:=fun j hj=>by
    rw [List.getElem_set]
    split
    ·rename_i h;subst h;exact ⟨rfl,rfl⟩
    ·exact ⟨rfl,rfl⟩
   refine List.pairwise_iff_getElem.2 fun a b ha hb hab=>?_
   have:=List.pairwise_iff_getElem.1 h3 a b (by simpa using ha) (by simpa using hb) hab
   obtain ⟨a1,a2⟩:=hk a ha
   obtain ⟨b1,b2⟩:=hk b hb
   simp only [ltL] at this ⊢
   omega
  | false =>
   rw [Zfn hp]
   obtain ⟨q1,q2,q3,q4,q5⟩:=hp
   have hpp:=List.pairwise_append.1 (by rw [List.take_append_drop];exact h3:(xs.take i++xs.drop i).Pairwise ltL)
   have ha:∀ a ∈ xs.take i,ltL a x:=fun a ha=>by
    obtain ⟨j,hj,rfl⟩:=List.getElem_of_mem ha
    rw [List.getElem_take]
    rw [List.length_take] at hj
    refine (Zck _ _).1 ?_
    first | exact q2 j (by omega) (by omega) | exact q2 j (by omega)
   have hb:∀ b ∈ xs.drop i,ltL x b:=fun b hb=>by
    obtain ⟨j,hj,rfl⟩:=List.getElem_of_mem hb
    rw [List.length_drop] at hj
    rw [List.getElem_drop]
    have h5:0<=ordL (xs[i+j]'(by omega)) x:=by
     first | exact q3 (i+j) (by omega) (by omega) | exact q3 (i+j) (by omega)
    have h6:¬ ordL (xs[i+j]'(by omega)) x=0:=fun h0=>by
     by_cases hj0:j=0
     ·subst hj0
      have:=q5 ⟨by omega,h0⟩
      cases this
     ·have h7:=(Zck _ _).1 (Zhc h i (i+j) (by omega) (by omega))
      have h8:=(Zkt _ _).1 h0
      have h9:ordL (xs[i]'(by omega)) x < 0:=(Zck _ _).2 (by omega)
      have h10:0<=ordL (xs[i]'(by omega)) x:=by
       first | exact q3 i (by omega) (by omega) | exact q3 i (by omega)
      omega
    have h7:¬ ltL (xs[i+j]'(by omega)) x:=fun h=>by have:=(Zck _ _).2 h;omega
    have h8:¬ ((xs[i+j]'(by omega)).2.1=x.2.1/\(xs[i+j]'(by omega)).1=x.1):=fun h=>h6 ((Zkt _ _).2 h)
    simp only [ltL] at h7 ⊢
    omega
   rw [List.append_assoc]
   refine List.pairwise_append.2 ⟨hpp.1,List.pairwise_append.2 ⟨List.pairwise_singleton _ _,hpp.2.1,fun a ha' b hb'=>?_⟩,fun a ha' b hb'=>?_⟩
   ·rw [List.mem_singleton] at ha';subst ha';exact hb b hb'
   ·rcases List.mem_append.1 hb' with hb' | hb'
    ·rw [List.mem_singleton] at hb';subst hb';exact ha a ha'
    ·exact hpp.2.2 a ha' b hb'
theorem grant_has {xs:List LeM} {x:LeM} (h:MayL xs):∃ z ∈ Zbb xs x,z.1=x.1/\z.2.1=x.2.1/\x.2.2.1<=z.2.2.1/\x.2.2.2<=z.2.2.2:=by
 obtain ⟨i,t,hp⟩:=Zip x h
 cases t with
 | true =>
  obtain ⟨hi,he⟩:=Zdu hp
  obtain ⟨_,h0⟩:=hp.2.2.2.1 rfl
  obtain ⟨h1,h2⟩:=(Zkt _ _).1 h0
  rw [he]
  refine ⟨Zgt xs[i] x,List.mem_set hi _,h2,h1,?_,?_⟩
  ·show x.2.2.1<=max _ _;omega
  ·show x.2.2.2<=max _ _;omega
 | false =>
  rw [Zfn hp]
  exact ⟨x,by simp,rfl,rfl,Int.le_refl _,Int.le_refl _⟩
theorem holds_of {l:List LeM} (h:MayL l) {z:LeM} (hz:z ∈ l) (t:Int):Za7 l t z.1 z.2.1=if z.2.2.2<=t then 0 else z.2.2.1:=by
 unfold Za7
 cases hf:l.find? (isL z.1 z.2.1) with
 | none =>
  have:=List.find?_eq_none.1 hf z hz
  simp [isL] at this
 | some y =>
  have hy:=List.mem_of_find?_eq_some hf
  have hi:=List.find?_some hf
  simp only [isL,Bool.and_eq_true,beq_iff_eq] at hi
  have:=uniqL h hy hz hi.1 hi.2
  subst this;rfl
structure Al (M:List LeM) (now:Int):Prop where
 may:MayL M
 live:∀ x ∈ M,now < x.2.2.2
 one:∀ x ∈ M,∀ y ∈ M,x.2.1=y.2.1->x.1 ≠ y.1->x.2.2.1 ≠ 2
theorem al_nil (t:Int):Al [] t:=⟨⟨by simp,by simp,by simp⟩,by simp,by simp⟩
theorem al_prune {M:List LeM} {now:Int} (h:Al M now) (t:Int):Al (Zhf M t) t:=by
 refine ⟨may_filter h.may _,fun x hx=>?_,fun x hx y hy=>h.one x (List.mem_filter.1 hx).1 y (List.mem_filter.1 hy).1⟩
 have:=(List.mem_filter.1 hx).2
 simpa using this
theorem al_drop {M:List LeM} {now:Int} (h:Al M now) (c f:Int):Al (dropL M c f) now :=
 ⟨may_filter h.may _,fun x hx=>h.live x (List.mem_filter.1 hx).1,fun x hx y hy=>h.one x (List.mem_filter.1 hx).1 y (List.mem_filter.1 hy).1⟩
theorem no_clash {M:List LeM} {now c f m:Int} (h:Al M now) (hc:Zbm M now c f m=[]):∀ y ∈ M,y.2.1=f->y.1 ≠ c->y.2.2.1 ≠ 2/\m ≠ 2:=by
 intro y hy h1 h2
 rw [Zbm,List.map_eq_nil_iff,List.filter_eq_nil_iff] at hc
 have h3:=hc y hy
 have h4:=h.live y hy
 have h5:=h.may.2.1 y hy
 have h6:¬ y.2.2.2<=now:=by omega
 have h7:¬ y.2.2.1=0:=by have:=h5.2.2.2.2.1;omega
 simp [isC,barsL,heldL,h1,h2,h6,h7] at h3
 exact h3
theorem al_grant {M:List LeM} {now c f m u:Int} (h:Al M now) (hx:okL (c,f,m,u)) (hl:M.length < 1000000) (hu:now < u) (hc:Zbm M now c f m=[]):Al (Zbb M (c,f,m,u)) now:=by
 have nc:=no_clash h hc
 refine ⟨grant_may h.may hx hl,fun z hz=>?_,fun z hz y hy h1 h2=>?_⟩
 ·rcases Zfk h.may hz with hz | rfl | ⟨y,hy,e1,e2,rfl⟩
  ·exact h.live z hz
  ·exact hu
  ·show now < max _ _
   have:now < u:=hu
   simp only
   omega
 ·have hm:1<=m/\m<=2:=⟨hx.2.2.2.2.1,hx.2.2.2.2.2.1⟩
  rcases Zfk h.may hz with hz | rfl | ⟨z0,hz0,e1,e2,rfl⟩ <;> rcases Zfk h.may hy with hy | rfl | ⟨y0,hy0,e3,e4,rfl⟩
  ·exact h.one z hz y hy h1 h2
  ·exact (nc z hz h1 h2).1
  ·exact (nc z hz (h1.trans e4) (fun h=>h2 (h.trans e3.symm))).1
  ·exact (nc y hy h1.symm (fun h=>h2 h.symm)).2
  ·exact absurd rfl h2
  ·exact absurd e3.symm h2
  ·have k1:=nc y hy (h1.symm.trans e2) (fun h=>h2 (e1.trans h.symm))
   have k2:=h.one z0 hz0 y hy h1 h2
   show max _ _ ≠ _
   have k3:=k1.2
   simp only
   omega
  ·exact absurd e1 h2
  ·exact absurd (e1.trans e3.symm) h2
theorem holds_ge {M:List LeM} {now c f m u:Int} (h:Al M now) (hx:okL (c,f,m,u)) (hl:M.length < 1000000) (hu:now < u):m<=Za7 (Zbb M (c,f,m,u)) now c f:=by
 obtain ⟨z,hz,h1,h2,h3,h4⟩:=grant_has (x:=(c,f,m,u)) h.may
 have:=holds_of (grant_may h.may hx hl) hz now
 rw [h1,h2] at this
 simp only at h3 h4 this
 rw [this,if_neg (by omega)]
 exact h3
theorem holds_range {M:List LeM} {now:Int} (h:Al M now) (c f:Int):Za7 M now c f=0 \/ Za7 M now c f=1 \/ Za7 M now c f=2:=by
 unfold Za7
 split
 ·rename_i x hf
  have hx:=h.may.2.1 x (List.mem_of_find?_eq_some hf)
  obtain ⟨_,_,_,_,h5,h6,_⟩:=hx
  split <;> omega
 ·omega
theorem Zb3 {M:List LeM} {now:Int} (h:Al M now) {c d f:Int} (hne:c ≠ d) (h2:Za7 M now c f=2):Za7 M now d f=0:=by
 unfold Za7 at h2
 split at h2
 ·rename_i x hf
  have hx:=List.mem_of_find?_eq_some hf
  have hi:=List.find?_some hf
  simp only [isL,Bool.and_eq_true,beq_iff_eq] at hi
  have h3:x.2.2.1=2:=by split at h2 <;> omega
  unfold Za7
  split
  ·rename_i y hg
   have hy:=List.mem_of_find?_eq_some hg
   have hj:=List.find?_some hg
   simp only [isL,Bool.and_eq_true,beq_iff_eq] at hj
   exact absurd h3 (h.one x hx y hy (by omega) (by omega))
  ·rfl
 ·omega
def cntA (M:List LeM) (now k:Int):Nat->Int
 | 0=>0
 | n+1=>cntA M now k n+if Za7 M now ((n:Int)+1) k=0 then 0 else 1
def cntW (M:List LeM) (now k:Int):Nat->Int
 | 0=>0
 | n+1=>cntW M now k n+if Za7 M now ((n:Int)+1) k=2 then 1 else 0
theorem cnt_b (M:List LeM) (now k:Int):∀ n:Nat,0<=cntA M now k n/\cntA M now k n<=n/\0<=cntW M now k n/\cntW M now k n<=n
 | 0=>by simp [cntA,cntW]
 | n+1=>by
  have:=cnt_b M now k n
  simp only [cntA,cntW]
  split <;> split <;> omega
theorem cnt_end {M:List LeM} {now:Int} (h:Al M now) (k:Int) (hw:0 < cntW M now k 3):cntA M now k 3<=1:=by
 have a12:=fun h2=>Zb3 h (c:=1) (d:=2) (f:=k) (by omega) h2
 have a13:=fun h2=>Zb3 h (c:=1) (d:=3) (f:=k) (by omega) h2
 have a21:=fun h2=>Zb3 h (c:=2) (d:=1) (f:=k) (by omega) h2
 have a23:=fun h2=>Zb3 h (c:=2) (d:=3) (f:=k) (by omega) h2
 have a31:=fun h2=>Zb3 h (c:=3) (d:=1) (f:=k) (by omega) h2
 have a32:=fun h2=>Zb3 h (c:=3) (d:=2) (f:=k) (by omega) h2
 simp only [cntA,cntW] at hw ⊢
 simp only [show ((0:Nat):Int)+1=1 by omega,show ((1:Nat):Int)+1=2 by omega,show ((2:Nat):Int)+1=3 by omega] at hw ⊢
 generalize Za7 M now 1 k=x1 at *
 generalize Za7 M now 2 k=x2 at *
 generalize Za7 M now 3 k=x3 at *
 by_cases e1:x1=2
 ·have:=a12 e1;have:=a13 e1;subst e1;simp_all
 ·by_cases e2:x2=2
  ·have:=a21 e2;have:=a23 e2;subst e2;simp_all
  ·by_cases e3:x3=2
   ·have:=a31 e3;have:=a32 e3;subst e3;simp_all
   ·simp [e1,e2,e3] at hw
end Go.Proofs.Ytpnegheknjeljaa.lam
