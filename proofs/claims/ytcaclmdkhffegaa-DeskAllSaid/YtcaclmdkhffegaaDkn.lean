/- Texts joined. -/
import Derived.Test.YtcaclmdkhffegaaLec
import Derived.Test.YtcaclmdkhffegaaWlm
section
/- LeaseAlone: the reckoning. -/
namespace Go.Proofs.Ytcaclmdkhffegaa.lam
open Go Go.RowKit eng lem lea leb lgw lgr lec
set_option linter.unusedVariables false
set_option linter.unusedSimpArgs false
def ltL (a b:LeM):Prop:=a.2.1 < b.2.1 \/ (a.2.1=b.2.1/\a.1 < b.1)
theorem Zhq {l:List LeM}:MayL l ↔ l.length<=1000000/\(∀ x ∈ l,okL x)/\l.Pairwise ltL:=by
 constructor
 ·intro h
  refine ⟨h.1,h.2.1,List.pairwise_iff_getElem.2 fun i j hi hj hij=>?_⟩
  exact (Zc5 _ _).1 (Zkf h i j hij hj)
 ·rintro ⟨h1,h2,h3⟩
  refine ⟨h1,h2,fun i hi=>(Zc5 _ _).2 (List.pairwise_iff_getElem.1 h3 i (i+1) (by omega) hi (by omega))⟩
theorem Zja {l:List LeM} (h:MayL l) (p:LeM->Bool):MayL (l.filter p):=by
 obtain ⟨h1,h2,h3⟩:=Zhq.1 h
 refine Zhq.2 ⟨Nat.le_trans (List.length_filter_le _ _) h1,fun x hx=>h2 x (List.mem_filter.1 hx).1,h3.sublist List.filter_sublist⟩
theorem uniqL {l:List LeM} (h:MayL l) {a b:LeM} (ha:a ∈ l) (hb:b ∈ l) (h1:a.1=b.1) (h2:a.2.1=b.2.1):a=b:=by
 obtain ⟨i,hi,rfl⟩:=List.getElem_of_mem ha
 obtain ⟨j,hj,rfl⟩:=List.getElem_of_mem hb
 rcases Nat.lt_trichotomy i j with hij | rfl | hij
 ·have:=(Zc5 _ _).1 (Zkf h i j hij hj);omega
 ·rfl
 ·have:=(Zc5 _ _).1 (Zkf h j i hij hi);omega
theorem Zim {xs:List LeM} (x:LeM) (h:MayL xs):∃ i t,lgr.Place xs x i t:=by
 have hle:Zdk xs x<=xs.length:=List.findIdx_le_length
 have h2:∀ j (hj:j < Zdk xs x) (hl:j < xs.length),ordL xs[j] x < 0:=fun j hj hl=>by
  have:=List.not_of_lt_findIdx hj
  simpa using this
 have h3:∀ j (hl:j < xs.length),Zdk xs x<=j->0<=ordL xs[j] x:=fun j hl hj=>by
  have h0:0<=ordL (xs[Zdk xs x]'(by omega)) x:=by
   have:=List.findIdx_getElem (xs:=xs) (p:=fun y=>decide (0<=ordL y x)) (w:=(by show Zdk xs x < _;omega))
   exact of_decide_eq_true this
  by_cases he:Zdk xs x=j
  ·subst he;exact h0
  ·have h4:=(Zc5 _ _).1 (Zkf h (Zdk xs x) j (by omega) hl)
   by_cases h5:ordL xs[j] x < 0
   ·have h6:=(Zc5 _ _).1 h5
    have:ordL (xs[Zdk xs x]'(by omega)) x < 0:=(Zc5 _ _).2 (by omega)
    omega
   ·omega
 exact ⟨Zdk xs x,decide (∃ hi:Zdk xs x < xs.length,ordL xs[Zdk xs x] x=0),hle,fun j hl hj=>h2 j hj hl,h3,by simp⟩
theorem mem_grant {xs:List LeM} {x z:LeM} (h:MayL xs) (hz:z ∈ Zbu xs x):z ∈ xs \/ z=x \/ ∃ y ∈ xs,y.1=x.1/\y.2.1=x.2.1/\z=Zec y x:=by
 obtain ⟨i,t,hp⟩:=Zim x h
 cases t with
 | true =>
  obtain ⟨hi,he⟩:=Zc9 hp
  obtain ⟨_,h0⟩:=hp.2.2.2.1 rfl
  rw [he] at hz
  obtain ⟨h1,h2⟩:=(Zny _ _).1 h0
  rcases List.mem_or_eq_of_mem_set hz with hz | hz
  ·exact .inl hz
  ·exact .inr (.inr ⟨xs[i],List.getElem_mem hi,h2,h1,hz⟩)
 | false =>
  rw [Zfj hp] at hz
  simp only [List.mem_append,List.mem_singleton] at hz
  rcases hz with (hz | hz) | hz
  ·exact .inl (List.mem_of_mem_take hz)
  ·exact .inr (.inl hz)
  ·exact .inl (List.mem_of_mem_drop hz)
theorem grant_may {xs:List LeM} {x:LeM} (h:MayL xs) (hx:okL x) (hl:xs.length < 1000000):MayL (Zbu xs x):=by
 obtain ⟨h1,h2,h3⟩:=Zhq.1 h
 refine Zhq.2 ⟨by have:=grant_len xs x;omega,fun z hz=>?_,?_⟩
 ·rcases mem_grant h hz with hz | rfl | ⟨y,hy,e1,e2,rfl⟩
  ·exact h2 z hz
  ·exact hx
  ·have hy:=h2 y hy
   simp only [okL,Zec] at hx hy ⊢
   omega
 ·obtain ⟨i,t,hp⟩:=Zim x h
  cases t with
  | true =>
   obtain ⟨hi,he⟩:=Zc9 hp
   rw [he]
   have hk:∀ j (hj:j < (xs.set i (Zec xs[i] x)).length),((xs.set i (Zec xs[i] x))[j]).1=(xs[j]'(by simpa using hj)).1/\((xs.set i (Zec xs[i] x))[j]).2.1=(xs[j]'(by simpa using hj)).2.1:=fun j hj=>by
    rw [List.getElem_set]
    split
    ·rename_i h;subst h;exact ⟨rfl,rfl⟩
    ·exact ⟨rfl,rfl⟩
   refine List.pairwise_iff_getElem.2 fun a b ha hb hab=>?_
   have:=List.pairwise_iff_getElem.1 h3 a b (by simpa using ha) (by simpa using hb) hab
   obtain ⟨a1,a2⟩:=hk a ha
   obtain ⟨b1,b2⟩:=hk b hb
   simp only [ltL] at this ⊢
   omega
  | false =>
   rw [Zfj hp]
   obtain ⟨q1,q2,q3,q4,q5⟩:=hp
   have hpp:=List.pairwise_append.1 (by rw [List.take_append_drop];exact h3:(xs.take i++xs.drop i).Pairwise ltL)
   have ha:∀ a ∈ xs.take i,ltL a x:=fun a ha=>by
    obtain ⟨j,hj,rfl⟩:=List.getElem_of_mem ha
    rw [List.getElem_take]
    rw [List.length_take] at hj
    refine (Zc5 _ _).1 ?_
    first | exact q2 j (by omega) (by omega) | exact q2 j (by omega)
   have hb:∀ b ∈ xs.drop i,ltL x b:=fun b hb=>by
    obtain ⟨j,hj,rfl⟩:=List.getElem_of_mem hb
    rw [List.length_drop] at hj
    rw [List.getElem_drop]
    have h5:0<=ordL (xs[i+j]'(by omega)) x:=by
     first | exact q3 (i+j) (by omega) (by omega) | exact q3 (i+j) (by omega)
    have h6:¬ ordL (xs[i+j]'(by omega)) x=0:=fun h0=>by
     by_cases hj0:j=0
     ·subst hj0
      have:=q5 ⟨by omega,h0⟩
      cases this
     ·have h7:=(Zc5 _ _).1 (Zkf h i (i+j) (by omega) (by omega))
      have h8:=(Zny _ _).1 h0
      have h9:ordL (xs[i]'(by omega)) x < 0:=(Zc5 _ _).2 (by omega)
      have h10:0<=ordL (xs[i]'(by omega)) x:=by
       first | exact q3 i (by omega) (by omega) | exact q3 i (by omega)
      omega
    have h7:¬ ltL (xs[i+j]'(by omega)) x:=fun h=>by have:=(Zc5 _ _).2 h;omega
    have h8:¬ ((xs[i+j]'(by omega)).2.1=x.2.1/\(xs[i+j]'(by omega)).1=x.1):=fun h=>h6 ((Zny _ _).2 h)
    simp only [ltL] at h7 ⊢
    omega
   rw [List.append_assoc]
   refine List.pairwise_append.2 ⟨hpp.1,List.pairwise_append.2 ⟨List.pairwise_singleton _ _,hpp.2.1,fun a ha' b hb'=>?_⟩,fun a ha' b hb'=>?_⟩
   ·rw [List.mem_singleton] at ha';subst ha';exact hb b hb'
   ·rcases List.mem_append.1 hb' with hb' | hb'
    ·rw [List.mem_singleton] at hb';subst hb';exact ha a ha'
    ·exact hpp.2.2 a ha' b hb'
theorem grant_has {xs:List LeM} {x:LeM} (h:MayL xs):∃ z ∈ Zbu xs x,z.1=x.1/\z.2.1=x.2.1/\x.2.2.1<=z.2.2.1/\x.2.2.2<=z.2.2.2:=by
 obtain ⟨i,t,hp⟩:=Zim x h
 cases t with
 | true =>
  obtain ⟨hi,he⟩:=Zc9 hp
  obtain ⟨_,h0⟩:=hp.2.2.2.1 rfl
  obtain ⟨h1,h2⟩:=(Zny _ _).1 h0
  rw [he]
  refine ⟨Zec xs[i] x,List.mem_set hi _,h2,h1,?_,?_⟩
  ·show x.2.2.1<=max _ _;omega
  ·show x.2.2.2<=max _ _;omega
 | false =>
  rw [Zfj hp]
  exact ⟨x,by simp,rfl,rfl,Int.le_refl _,Int.le_refl _⟩
theorem holds_of {l:List LeM} (h:MayL l) {z:LeM} (hz:z ∈ l) (t:Int):Zbb l t z.1 z.2.1=if z.2.2.2<=t then 0 else z.2.2.1:=by
 unfold Zbb
 cases hf:l.find? (isL z.1 z.2.1) with
 | none =>
  have:=List.find?_eq_none.1 hf z hz
  simp [isL] at this
 | some y =>
  have hy:=List.mem_of_find?_eq_some hf
  have hi:=List.find?_some hf
  simp only [isL,Bool.and_eq_true,beq_iff_eq] at hi
  have:=uniqL h hy hz hi.1 hi.2
  subst this;rfl
structure Al (M:List LeM) (now:Int):Prop where
 may:MayL M
 live:∀ x ∈ M,now < x.2.2.2
 one:∀ x ∈ M,∀ y ∈ M,x.2.1=y.2.1->x.1 ≠ y.1->x.2.2.1 ≠ 2
theorem al_nil (t:Int):Al [] t:=⟨⟨by simp,by simp,by simp⟩,by simp,by simp⟩
theorem al_prune {M:List LeM} {now:Int} (h:Al M now) (t:Int):Al (pruneL M t) t:=by
 refine ⟨Zja h.may _,fun x hx=>?_,fun x hx y hy=>h.one x (List.mem_filter.1 hx).1 y (List.mem_filter.1 hy).1⟩
 have:=(List.mem_filter.1 hx).2
 simpa using this
theorem al_drop {M:List LeM} {now:Int} (h:Al M now) (c f:Int):Al (dropL M c f) now :=
 ⟨Zja h.may _,fun x hx=>h.live x (List.mem_filter.1 hx).1,fun x hx y hy=>h.one x (List.mem_filter.1 hx).1 y (List.mem_filter.1 hy).1⟩
theorem no_clash {M:List LeM} {now c f m:Int} (h:Al M now) (hc:Zbw M now c f m=[]):∀ y ∈ M,y.2.1=f->y.1 ≠ c->y.2.2.1 ≠ 2/\m ≠ 2:=by
 intro y hy h1 h2
 rw [Zbw,List.map_eq_nil_iff,List.filter_eq_nil_iff] at hc
 have h3:=hc y hy
 have h4:=h.live y hy
 have h5:=h.may.2.1 y hy
 have h6:¬ y.2.2.2<=now:=by omega
 have h7:¬ y.2.2.1=0:=by have:=h5.2.2.2.2.1;omega
 simp [isC,barsL,heldL,h1,h2,h6,h7] at h3
 exact h3
theorem al_grant {M:List LeM} {now c f m u:Int} (h:Al M now) (hx:okL (c,f,m,u)) (hl:M.length < 1000000) (hu:now < u) (hc:Zbw M now c f m=[]):Al (Zbu M (c,f,m,u)) now:=by
 have nc:=no_clash h hc
 refine ⟨grant_may h.may hx hl,fun z hz=>?_,fun z hz y hy h1 h2=>?_⟩
 ·rcases mem_grant h.may hz with hz | rfl | ⟨y,hy,e1,e2,rfl⟩
  ·exact h.live z hz
  ·exact hu
  ·show now < max _ _
   have:now < u:=hu
   simp only
   omega
 ·have hm:1<=m/\m<=2:=⟨hx.2.2.2.2.1,hx.2.2.2.2.2.1⟩
  rcases mem_grant h.may hz with hz | rfl | ⟨z0,hz0,e1,e2,rfl⟩ <;> rcases mem_grant h.may hy with hy | rfl | ⟨y0,hy0,e3,e4,rfl⟩
  ·exact h.one z hz y hy h1 h2
  ·exact (nc z hz h1 h2).1
  ·exact (nc z hz (h1.trans e4) (fun h=>h2 (h.trans e3.symm))).1
  ·exact (nc y hy h1.symm (fun h=>h2 h.symm)).2
  ·exact absurd rfl h2
  ·exact absurd e3.symm h2
  ·have k1:=nc y hy (h1.symm.trans e2) (fun h=>h2 (e1.trans h.symm))
   have k2:=h.one z0 hz0 y hy h1 h2
   show max _ _ ≠ _
   have k3:=k1.2
   simp only
   omega
  ·exact absurd e1 h2
  ·exact absurd (e1.trans e3.symm) h2
theorem holds_range {M:List LeM} {now:Int} (h:Al M now) (c f:Int):Zbb M now c f=0 \/ Zbb M now c f=1 \/ Zbb M now c f=2:=by
 unfold Zbb
 split
 ·rename_i x hf
  have hx:=h.may.2.1 x (List.mem_of_find?_eq_some hf)
  obtain ⟨_,_,_,_,h5,h6,_⟩:=hx
  split <;> omega
 ·omega
theorem Zc8 {M:List LeM} {now:Int} (h:Al M now) {c d f:Int} (hne:c ≠ d) (h2:Zbb M now c f=2):Zbb M now d f=0:=by
 unfold Zbb at h2
 split at h2
 ·rename_i x hf
  have hx:=List.mem_of_find?_eq_some hf
  have hi:=List.find?_some hf
  simp only [isL,Bool.and_eq_true,beq_iff_eq] at hi
  have h3:x.2.2.1=2:=by split at h2 <;> omega
  unfold Zbb
  split
  ·rename_i y hg
   have hy:=List.mem_of_find?_eq_some hg
   have hj:=List.find?_some hg
   simp only [isL,Bool.and_eq_true,beq_iff_eq] at hj
   exact absurd h3 (h.one x hx y hy (by omega) (by omega))
  ·rfl
 ·omega
def cntA (M:List LeM) (now k:Int):Nat->Int
 | 0=>0
 | n+1=>cntA M now k n+if Zbb M now ((n:Int)+1) k=0 then 0 else 1
def cntW (M:List LeM) (now k:Int):Nat->Int
 | 0=>0
 | n+1=>cntW M now k n+if Zbb M now ((n:Int)+1) k=2 then 1 else 0
theorem cnt_b (M:List LeM) (now k:Int):∀ n:Nat,0<=cntA M now k n/\cntA M now k n<=n/\0<=cntW M now k n/\cntW M now k n<=n
 | 0=>by simp [cntA,cntW]
 | n+1=>by
  have:=cnt_b M now k n
  simp only [cntA,cntW]
  split <;> split <;> omega
theorem cnt_end {M:List LeM} {now:Int} (h:Al M now) (k:Int) (hw:0 < cntW M now k 3):cntA M now k 3<=1:=by
 have a12:=fun h2=>Zc8 h (c:=1) (d:=2) (f:=k) (by omega) h2
 have a13:=fun h2=>Zc8 h (c:=1) (d:=3) (f:=k) (by omega) h2
 have a21:=fun h2=>Zc8 h (c:=2) (d:=1) (f:=k) (by omega) h2
 have a23:=fun h2=>Zc8 h (c:=2) (d:=3) (f:=k) (by omega) h2
 have a31:=fun h2=>Zc8 h (c:=3) (d:=1) (f:=k) (by omega) h2
 have a32:=fun h2=>Zc8 h (c:=3) (d:=2) (f:=k) (by omega) h2
 simp only [cntA,cntW] at hw ⊢
 simp only [show ((0:Nat):Int)+1=1 by omega,show ((1:Nat):Int)+1=2 by omega,show ((2:Nat):Int)+1=3 by omega] at hw ⊢
 generalize Zbb M now 1 k=x1 at *
 generalize Zbb M now 2 k=x2 at *
 generalize Zbb M now 3 k=x3 at *
 by_cases e1:x1=2
 ·have:=a12 e1;have:=a13 e1;subst e1;simp_all
 ·by_cases e2:x2=2
  ·have:=a21 e2;have:=a23 e2;subst e2;simp_all
  ·by_cases e3:x3=2
   ·have:=a31 e3;have:=a32 e3;subst e3;simp_all
   ·simp [e1,e2,e3] at hw
end Go.Proofs.Ytcaclmdkhffegaa.lam
end
section
/- Texts joined. -/
section
/- The desk: reckoning (who is let have what, the document's words on leases and on who waits); no program. -/
namespace Go.Proofs.Ytcaclmdkhffegaa.dkm
open Go Go.RowKit eng lem lea leb lgw lgr lec lam wlm
set_option linter.unusedVariables false
set_option linter.unusedSimpArgs false
abbrev Desk:=List LeM × List LeM
def clashW (d:Desk) (t:Int) (w:LeM):List Int:=Zbw d.1 t w.1 w.2.2.1 w.2.2.2
def freeD (t:Int) (d:Desk) (w:LeM):Bool:=(clashW d t w).isEmpty && !Zbc d.2 w.1 w.2.2.1
def Zb3 (t:Int) (w:LeM):LeM:=(w.1,w.2.2.1,w.2.2.2,t+60)
def lendsD (t:Int) (d:Desk) (w:LeM):Desk:=(Zbu d.1 (Zb3 t w),dropW d.2 w.1)
def Zbd (t:Int) (d:Desk):Desk:=(pruneL d.1 t,d.2)
def askD (t:Int) (d:Desk) (w:LeM):Desk × Bool × List Int × Int :=
 if freeD t (Zbd t d) w then (lendsD t (Zbd t d) w,true,[],0)
 else if (putD d.2 w).2 then ((pruneL d.1 t,(putD d.2 w).1),false,clashW (Zbd t d) t w,0)
 else (Zbd t d,false,[],3)
def giveD (d:Desk) (c f:Int):Desk:=(dropL d.1 c f,d.2)
def loopD (t:Int):Nat->Desk->Desk × List LeM
 | 0,d=>(d,[])
 | n+1,d=>match d.2.find? (freeD t d) with
  | some w=>((loopD t n (lendsD t d w)).1,w :: (loopD t n (lendsD t d w)).2)
  | none=>(d,[])
def runD (t:Int) (d:Desk):Desk × List LeM:=loopD t d.2.length (Zbd t d)

def okW (w:LeM):Prop:=1<=w.1/\w.1<=3/\1<=w.2.2.1/\w.2.2.1<=6/\1<=w.2.2.2/\w.2.2.2<=2
structure DI (d:Desk) (t:Int):Prop where
 al:Al d.1 t
 til:∀ x ∈ d.1,x.2.2.2<=t+60
 len:d.1.length<=18
 u:U d.2
 w:∀ x ∈ d.2,okW x
 l4:d.2.length<=4
theorem di_nil (t:Int):DI ([],[]) t:=⟨al_nil t,by simp,by simp,u_nil,by simp,by simp⟩
theorem may_len {l:List LeM} (h:MayL l):l.length<=18:=by
 have hp:=(Zhq.1 h).2.2
 have hn:(l.map fun x=>(x.2.1,x.1)).Nodup:=by
  show List.Pairwise (· ≠ ·) _
  rw [List.pairwise_map]
  refine hp.imp fun {a b} hab he=>?_
  simp only [Prod.mk.injEq] at he
  rcases hab with h | h <;> omega
 have hs:(l.map fun x=>(x.2.1,x.1)) ⊆ (([1,2,3,4,5,6]:List Int).flatMap fun f=>([1,2,3]:List Int).map fun c=>(f,c)):=by
  intro p hp
  obtain ⟨x,hx,rfl⟩:=List.mem_map.1 hp
  obtain ⟨h1,h2,h3,h4,_⟩:=h.2.1 x hx
  have e1:x.1=1 \/ x.1=2 \/ x.1=3:=by omega
  have e2:x.2.1=1 \/ x.2.1=2 \/ x.2.1=3 \/ x.2.1=4 \/ x.2.1=5 \/ x.2.1=6:=by omega
  rcases e1 with e1 | e1 | e1 <;> rcases e2 with e2 | e2 | e2 | e2 | e2 | e2 <;> simp [e1,e2]
 have:=List.Nodup.length_le_of_subset hn hs
 simpa using this
theorem di_prune {d:Desk} {t s:Int} (h:DI d t) (hs:t<=s):DI (Zbd s d) s :=
 ⟨al_prune h.al s,fun x hx=>by have:=h.til x (List.mem_filter.1 hx).1;omega,Nat.le_trans (List.length_filter_le _ _) h.len,h.u,h.w,h.l4⟩
theorem di_give {d:Desk} {t:Int} (h:DI d t) (c f:Int):DI (giveD d c f) t :=
 ⟨al_drop h.al c f,fun x hx=>h.til x (List.mem_filter.1 hx).1,Nat.le_trans (List.length_filter_le _ _) h.len,h.u,h.w,h.l4⟩
theorem ok_lease {t:Int} {w:LeM} (hw:okW w) (h0:0<=t) (h1:t<=1000000):okL (Zb3 t w):=by
 obtain ⟨a,b,c,d,e,f⟩:=hw
 exact ⟨a,b,c,d,e,f,by simp only [Zb3];omega,by simp only [Zb3];omega⟩
theorem Zg8 {t:Int} {d:Desk} {w:LeM} (h:freeD t d w=true):clashW d t w=[]/\Zbc d.2 w.1 w.2.2.1=false:=by
 simpa [freeD] using h
theorem di_lends {d:Desk} {t:Int} (h:DI d t) {w:LeM} (hw:okW w) (h0:0<=t) (h1:t<=1000000) (hf:freeD t d w=true):DI (lendsD t d w) t:=by
 have hc:=(Zg8 hf).1
 have ha:Al (Zbu d.1 (Zb3 t w)) t:=al_grant h.al (ok_lease hw h0 h1) (by have:=h.len;omega) (by show t < t+60;omega) hc
 refine ⟨ha,fun z hz=>?_,may_len ha.may,u_drop h.u w.1,fun x hx=>h.w x (List.mem_filter.1 hx).1,Nat.le_trans (Zd0 _ _) h.l4⟩
 rcases mem_grant h.al.may hz with hz | rfl | ⟨y,hy,_,_,rfl⟩
 ·exact h.til z hz
 ·exact Int.le_refl _
 ·have:=h.til y hy
  show max _ _<=_
  simp only [Zb3]
  omega
theorem put_mem {l:List LeM} {w x:LeM} (h:x ∈ (putD l w).1):x ∈ l \/ x=w:=by
 unfold putD at h
 split at h
 ·rcases List.mem_or_eq_of_mem_set h with h | h
  ·exact .inl h
  ·exact .inr h
 ·split at h
  ·rcases List.mem_append.1 h with h | h
   ·exact .inl (List.mem_filter.1 h).1
   ·exact .inr (by simpa using h)
  ·exact .inl h
theorem di_ask {d:Desk} {t s:Int} (h:DI d t) (hs:t<=s) {w:LeM} (hw:okW w) (h0:0<=s) (h1:s<=1000000):DI (askD s d w).1 s:=by
 have hp:=di_prune h hs
 unfold askD
 split
 ·rename_i hf;exact di_lends hp hw h0 h1 hf
 ·split
  ·refine ⟨hp.al,hp.til,hp.len,?_,fun x hx=>?_,?_⟩
   ·have:=u_put h.u w;rw [put_eq h.u] at this;exact this
   ·rcases put_mem hx with hx | rfl
    ·exact h.w x hx
    ·exact hw
   ·have:=put_len w h.l4;rw [put_eq h.u] at this;exact this
  ·exact hp
theorem ask_ahead {d:Desk} {t:Int} {w:LeM} (h:(askD t d w).2.1=true):Zbc d.2 w.1 w.2.2.1=false:=by
 unfold askD at h
 split at h
 ·rename_i hf;exact (Zg8 hf).2
 ·split at h <;> cases h
theorem Zqf {t:Int} (h0:0<=t) (h1:t<=1000000):∀ (n:Nat) {d:Desk},DI d t->DI (loopD t n d).1 t
 | 0,d,h=>h
 | n+1,d,h=>by
  unfold loopD
  split
  ·rename_i w hw
   exact Zqf h0 h1 n (di_lends h (h.w w (List.mem_of_find?_eq_some hw)) h0 h1 (List.find?_some hw))
  ·exact h
theorem di_run {d:Desk} {t s:Int} (h:DI d t) (hs:t<=s) (h0:0<=s) (h1:s<=1000000):DI (runD s d).1 s:=Zqf h0 h1 _ (di_prune h hs)

theorem Zh8 {l:List LeM} {c f:Int} {x:LeM} (h:l.find? (isFl f)=some x):Zbc l c f=!(x.1 == c):=by simp only [Zbc,h]
theorem Zow {l:List LeM} (hu:U l) {w:LeM} (hw:w ∈ l) (ha:Zbc l w.1 w.2.2.1=false):l.find? (isFl w.2.2.1)=some w:=by
 cases hf:l.find? (isFl w.2.2.1) with
 | none=>have:=List.find?_eq_none.1 hf w hw;simp [isFl] at this
 | some x =>
  rw [Zh8 hf] at ha
  have hx:x.1=w.1:=by simpa using ha
  have hm:=List.mem_of_find?_eq_some hf
  rw [show x=w from uniqW hu hm hw hx]
where
 uniqW {l:List LeM} (hu:U l) {a b:LeM} (ha:a ∈ l) (hb:b ∈ l) (h:a.1=b.1):a=b:=by
  obtain ⟨i,hi,rfl⟩:=List.getElem_of_mem ha
  obtain ⟨j,hj,rfl⟩:=List.getElem_of_mem hb
  have hp:List.Pairwise (· ≠ ·) (l.map (·.1)):=hu
  rcases Nat.lt_trichotomy i j with hij | rfl | hij
  ·exact absurd (by rw [List.getElem_map,List.getElem_map];exact h) (List.pairwise_iff_getElem.1 hp i j (by simpa using hi) (by simpa using hj) hij)
  ·rfl
  ·exact absurd (by rw [List.getElem_map,List.getElem_map];exact h.symm) (List.pairwise_iff_getElem.1 hp j i (by simpa using hj) (by simpa using hi) hij)
theorem uniqW {l:List LeM} (hu:U l) {a b:LeM} (ha:a ∈ l) (hb:b ∈ l) (h:a.1=b.1):a=b:=Zow.uniqW hu ha hb h
theorem Zeh {l:List LeM} {f:Int} {x:LeM}:l.find? (isFl f)=some x ↔ x.2.2.1=f/\∃ as' bs,l=as'++x :: bs/\∀ y ∈ as',y.2.2.1 ≠ f:=by
 rw [List.find?_eq_some_iff_append]
 simp [isFl]
theorem Zjc {l:List LeM} {f c:Int} {w:LeM} (h:l.find? (isFl f)=some w) (hc:w.1 ≠ c):(dropW l c).find? (isFl f)=some w:=by
 obtain ⟨hf,ls,bs,rfl,hb⟩:=Zeh.1 h
 refine Zeh.2 ⟨hf,dropW ls c,dropW bs c,?_,fun y hy=>hb y (List.mem_filter.1 hy).1⟩
 simp [dropW,hc]
theorem first_append {l r:List LeM} {f:Int} {w:LeM} (h:l.find? (isFl f)=some w):(l++r).find? (isFl f)=some w:=by
 rw [List.find?_append,h];rfl
theorem first_set {l:List LeM} {f:Int} {w x:LeM} {k:Nat} (h:l.find? (isFl f)=some w) (hk:k < l.length) (hx:l[k].2.2.1=x.2.2.1) (hne:l[k].1 ≠ w.1):(l.set k x).find? (isFl f)=some w:=by
 obtain ⟨hf,ls,bs,rfl,hb⟩:=Zeh.1 h
 rcases Nat.lt_trichotomy k ls.length with hl | hl | hl
 ·refine Zeh.2 ⟨hf,ls.set k x,bs,by rw [List.set_append_left _ _ hl],fun y hy=>?_⟩
  rcases List.mem_or_eq_of_mem_set hy with hy | rfl
  ·exact hb y hy
  ·rw [<- hx,List.getElem_append_left hl]
   exact hb _ (List.getElem_mem hl)
 ·subst hl
  simp at hne
 ·refine Zeh.2 ⟨hf,ls,bs.set (k - ls.length - 1) x,?_,hb⟩
  rw [List.set_append_right _ _ (by omega)]
  obtain ⟨m,hm⟩:∃ m,k - ls.length=m+1:=⟨k - ls.length - 1,by omega⟩
  rw [hm]
  simp
theorem first_put {l:List LeM} {f:Int} {w x:LeM} (h:l.find? (isFl f)=some w) (hne:x.1 ≠ w.1):(putD l x).1.find? (isFl f)=some w:=by
 unfold putD
 cases hf:l.findIdx? (isW x.1 x.2.2.1) with
 | some k =>
  obtain ⟨hk,h1,h2⟩:=at_k hf
  exact first_set h hk h2 (by rw [h1];exact hne)
 | none =>
  simp only
  split
  ·exact first_append (Zjc h fun e=>hne e.symm)
  ·exact h
end Go.Proofs.Ytcaclmdkhffegaa.dkm
end
section
/- The desk: whoever waits first is let when the term has gone by; what is given back goes to all, in their order; readers beside one another. Reckoning, no program. -/
namespace Go.Proofs.Ytcaclmdkhffegaa.dkn
open Go Go.RowKit eng lem lea leb lgw lgr lec lam wlm dkm
set_option linter.unusedVariables false
set_option linter.unusedSimpArgs false
theorem grant_keep {xs:List LeM} {x z:LeM} (h:MayL xs) (hz:z ∈ xs):∃ y ∈ Zbu xs x,y.1=z.1/\y.2.1=z.2.1/\z.2.2.1<=y.2.2.1:=by
 obtain ⟨i,t,hp⟩:=Zim x h
 cases t with
 | true =>
  obtain ⟨hi,he⟩:=Zc9 hp
  obtain ⟨j,hj,rfl⟩:=List.getElem_of_mem hz
  rw [he]
  by_cases hij:i=j
  ·subst hij
   exact ⟨_,List.mem_set hi _,rfl,rfl,by show _<=max _ _;omega⟩
  ·exact ⟨xs[j],List.mem_iff_getElem.2 ⟨j,by simpa using hj,by rw [List.getElem_set_ne hij]⟩,rfl,rfl,Int.le_refl _⟩
 | false =>
  rw [Zfj hp]
  refine ⟨z,?_,rfl,rfl,Int.le_refl _⟩
  rw [<- List.take_append_drop i xs] at hz
  simp only [List.mem_append,List.mem_singleton] at hz ⊢
  rcases hz with h | h
  ·exact .inl (.inl h)
  ·exact .inr h
theorem Zqe {l:List LeM} {v:LeM} (h:v ∈ l):(dropW l v.1).length < l.length:=by
 unfold dropW
 exact List.length_filter_lt_length_iff_exists.2 ⟨v,h,by simp⟩
theorem put_has {l:List LeM} {w:LeM} (h:(putD l w).2=true):w ∈ (putD l w).1:=by
 unfold putD at h ⊢
 split
 ·rename_i k hk
  obtain ⟨h1,_⟩:=at_k hk
  exact List.mem_set h1 _
 ·rename_i hk
  simp only [hk] at h
  split
  ·simp
  ·rename_i h4;rw [if_neg h4] at h;cases h

structure Tm (d:Desk) (w:LeM) (T:Int):Prop where
 first:d.2.find? (isFl w.2.2.1)=some w
 til:∀ x ∈ d.1,x.2.1=w.2.2.1->x.2.2.2<=T
theorem tm_start {d:Desk} {t:Int} {w:LeM} (h:DI d t) (h1:(askD t d w).2.1=false) (h2:(askD t d w).2.2.2=0) (h3:Zbc (askD t d w).1.2 w.1 w.2.2.1=false):Tm (askD t d w).1 w (t+60):=by
 unfold askD at h1 h2 h3 ⊢
 split at h1
 ·cases h1
 ·rename_i hf
  rw [if_neg hf] at h2 h3 ⊢
  split at h2
  ·rename_i hp
   rw [if_pos hp] at h3 ⊢
   have hu:U (putD d.2 w).1:=by have:=u_put h.u w;rw [put_eq h.u] at this;exact this
   exact ⟨Zow hu (put_has hp) h3,fun x hx _=>h.til x (List.mem_filter.1 hx).1⟩
  ·cases h2
theorem tm_ask {d:Desk} {t s T:Int} {w o:LeM} (h:DI d t) (hT:Tm d w T) (hs:t<=s) (hne:o.1 ≠ w.1) (hp:(Zbd s d).1=pruneL d.1 s:=rfl):Tm (askD s d o).1 w T:=by
 have hd:=di_prune h hs
 unfold askD
 split
 ·rename_i hf
  obtain ⟨_,ha⟩:=Zg8 hf
  have hfi:o.2.2.1 ≠ w.2.2.1:=fun e=>by
   rw [show (Zbd s d).2=d.2 from rfl,e,Zh8 hT.first] at ha
   simp at ha
   exact hne ha.symm
  refine ⟨Zjc hT.first (fun e=>hne e.symm),fun x hx hxf=>?_⟩
  rcases mem_grant hd.al.may hx with hx | rfl | ⟨y,hy,_,e2,rfl⟩
  ·exact hT.til x (List.mem_filter.1 hx).1 hxf
  ·exact absurd hxf hfi
  ·exact absurd ((show y.2.1=o.2.2.1 from e2) ▸ hxf) hfi
 ·split
  ·exact ⟨first_put hT.first hne,fun x hx=>hT.til x (List.mem_filter.1 hx).1⟩
  ·exact ⟨hT.first,fun x hx=>hT.til x (List.mem_filter.1 hx).1⟩
def Has (l:List LeM) (c f m:Int):Prop:=∃ z ∈ l,z.1=c/\z.2.1=f/\m<=z.2.2.1
theorem has_loop {t:Int} (h0:0<=t) (h1:t<=1000000) {c f m:Int}:∀ (n:Nat) {d:Desk},DI d t->Has d.1 c f m->Has (loopD t n d).1.1 c f m
 | 0,d,h,hh=>hh
 | n+1,d,h,hh=>by
  unfold loopD
  split
  ·rename_i v hv
   refine has_loop h0 h1 n (di_lends h (h.w v (List.mem_of_find?_eq_some hv)) h0 h1 (List.find?_some hv)) ?_
   obtain ⟨z,hz,e1,e2,e3⟩:=hh
   obtain ⟨y,hy,g1,g2,g3⟩:=grant_keep (x:=Zb3 t v) h.al.may hz
   exact ⟨y,hy,g1.trans e1,g2.trans e2,Int.le_trans e3 g3⟩
  ·exact hh
theorem tm_loop {t:Int} (h0:0<=t) (h1:t<=1000000) {w:LeM}:∀ (n:Nat) {d:Desk},DI d t->d.2.length<=n->d.2.find? (isFl w.2.2.1)=some w->(∀ x ∈ d.1,x.2.1 ≠ w.2.2.1)->w ∈ (loopD t n d).2/\Has (loopD t n d).1.1 w.1 w.2.2.1 w.2.2.2
 | 0,d,h,hn,hf,hno=>by
  have:=List.mem_of_find?_eq_some hf
  rw [List.eq_nil_of_length_eq_zero (by omega:d.2.length=0)] at this
  simp at this
 | n+1,d,h,hn,hf,hno=>by
  have hwm:=List.mem_of_find?_eq_some hf
  have hfree:freeD t d w=true:=by
   have e1:clashW d t w=[]:=by
    simp only [clashW,Zbw,List.map_eq_nil_iff,List.filter_eq_nil_iff]
    intro x hx
    simp [isC,hno x hx]
   simp [freeD,e1,Zh8 hf]
  unfold loopD
  cases hv:d.2.find? (freeD t d) with
  | none=>exact absurd hfree (by simpa using List.find?_eq_none.1 hv w hwm)
  | some v =>
   have hvm:=List.mem_of_find?_eq_some hv
   have hvf:=List.find?_some hv
   have hdv:=di_lends h (h.w v hvm) h0 h1 hvf
   simp only
   by_cases e:v=w
   ·subst e
    refine ⟨List.mem_cons_self ..,has_loop h0 h1 n hdv ?_⟩
    obtain ⟨z,hz,g1,g2,g3,_⟩:=grant_has (x:=Zb3 t v) h.al.may
    exact ⟨z,hz,g1,g2,g3⟩
   ·have hfi:v.2.2.1 ≠ w.2.2.1:=fun ef=>e (by
     have:=Zow h.u hvm (Zg8 hvf).2
     rw [ef,hf] at this
     cases this;rfl)
    have hcl:w.1 ≠ v.1:=fun ec=>e (uniqW h.u hvm hwm ec.symm)
    have:=tm_loop h0 h1 n hdv (by have:=Zqe hvm;show (dropW d.2 v.1).length<=n;omega) (Zjc hf hcl) (fun x hx=>by
     rcases mem_grant h.al.may hx with hx | rfl | ⟨y,hy,_,e2,rfl⟩
     ·exact hno x hx
     ·exact hfi
     ·exact fun hxf=>hfi ((show y.2.1=v.2.2.1 from e2) ▸ hxf))
    exact ⟨List.mem_cons_of_mem _ this.1,this.2⟩
theorem tm_run {d:Desk} {t T:Int} {w:LeM} (h:DI d t) (hT:Tm d w T) (hs:t<=T) (h0:0<=T) (h1:T<=1000000):w ∈ (runD T d).2/\w.2.2.2<=Zbb (runD T d).1.1 T w.1 w.2.2.1:=by
 have hd:=di_prune h hs
 have:=tm_loop h0 h1 d.2.length hd (Nat.le_refl _) hT.first (fun x hx hxf=>by
  obtain ⟨hx1,hx2⟩:=List.mem_filter.1 hx
  have:=hT.til x hx1 hxf
  simp only [Bool.not_eq_true',decide_eq_false_iff_not] at hx2
  exact hx2 this)
 refine ⟨this.1,?_⟩
 obtain ⟨z,hz,e1,e2,e3⟩:=this.2
 have hdl:=Zqf h0 h1 d.2.length hd
 have hh:=holds_of hdl.al.may hz T
 rw [e1,e2] at hh
 show _<=Zbb (loopD T d.2.length (Zbd T d)).1.1 T w.1 w.2.2.1
 rw [hh,if_neg (by have:=hdl.al.live z hz;omega)]
 exact e3


end Go.Proofs.Ytcaclmdkhffegaa.dkn
end
end
