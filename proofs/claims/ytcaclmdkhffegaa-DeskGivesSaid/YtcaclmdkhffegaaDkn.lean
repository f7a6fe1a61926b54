/- Texts joined. -/
import Derived.Test.YtcaclmdkhffegaaLec
import Derived.Test.YtcaclmdkhffegaaWlm
section
/- LeaseAlone: the reckoning. -/
namespace Go.Proofs.Ytcaclmdkhffegaa.lam
open Go Go.RowKit eng lem lea leb lgw lgr lec
set_option linter.unusedVariables false
set_option linter.unusedSimpArgs false
def ltL (a b:LeM):Prop:=a.2.1 < b.2.1 \/ (a.2.1=b.2.1/\a.1 < b.1)
theorem Zho {l:List LeM}:MayL l ↔ l.length<=1000000/\(∀ x ∈ l,okL x)/\l.Pairwise ltL:=by
 constructor
 ·intro h
  refine ⟨h.1,h.2.1,List.pairwise_iff_getElem.2 fun i j hi hj hij=>?_⟩
  exact (Zcw _ _).1 (Zjg h i j hij hj)
 ·rintro ⟨h1,h2,h3⟩
  refine ⟨h1,h2,fun i hi=>(Zcw _ _).2 (List.pairwise_iff_getElem.1 h3 i (i+1) (by omega) hi (by omega))⟩
theorem Zib {l:List LeM} (h:MayL l) (p:LeM->Bool):MayL (l.filter p):=by
 obtain ⟨h1,h2,h3⟩:=Zho.1 h
 refine Zho.2 ⟨Nat.le_trans (List.length_filter_le _ _) h1,fun x hx=>h2 x (List.mem_filter.1 hx).1,h3.sublist List.filter_sublist⟩
theorem uniqL {l:List LeM} (h:MayL l) {a b:LeM} (ha:a ∈ l) (hb:b ∈ l) (h1:a.1=b.1) (h2:a.2.1=b.2.1):a=b:=by
 obtain ⟨i,hi,rfl⟩:=List.getElem_of_mem ha
 obtain ⟨j,hj,rfl⟩:=List.getElem_of_mem hb
 rcases Nat.lt_trichotomy i j with hij | rfl | hij
 ·have:=(Zcw _ _).1 (Zjg h i j hij hj);omega
 ·rfl
 ·have:=(Zcw _ _).1 (Zjg h j i hij hi);omega
theorem Zmh {xs:List LeM} (x:LeM) (h:MayL xs):∃ i t,lgr.Place xs x i t:=by
 have hle:Zc8 xs x<=xs.length:=List.findIdx_le_length
 have h2:∀ j (hj:j < Zc8 xs x) (hl:j < xs.length),ordL xs[j] x < 0:=fun j hj hl=>by
  have:=List.not_of_lt_findIdx hj
  simpa using this
 have h3:∀ j (hl:j < xs.length),Zc8 xs x<=j->0<=ordL xs[j] x:=fun j hl hj=>by
  have h0:0<=ordL (xs[Zc8 xs x]'(by omega)) x:=by
   have:=List.findIdx_getElem (xs:=xs) (p:=fun y=>decide (0<=ordL y x)) (w:=(by show Zc8 xs x < _;omega))
   exact of_decide_eq_true this
  by_cases he:Zc8 xs x=j
  ·subst he;exact h0
  ·have h4:=(Zcw _ _).1 (Zjg h (Zc8 xs x) j (by omega) hl)
   by_cases h5:ordL xs[j] x < 0
   ·have h6:=(Zcw _ _).1 h5
    have:ordL (xs[Zc8 xs x]'(by omega)) x < 0:=(Zcw _ _).2 (by omega)
    omega
   ·omega
 exact ⟨Zc8 xs x,decide (∃ hi:Zc8 xs x < xs.length,ordL xs[Zc8 xs x] x=0),hle,fun j hl hj=>h2 j hj hl,h3,by simp⟩
theorem mem_grant {xs:List LeM} {x z:LeM} (h:MayL xs) (hz:z ∈ Zby xs x):z ∈ xs \/ z=x \/ ∃ y ∈ xs,y.1=x.1/\y.2.1=x.2.1/\z=Zei y x:=by
 obtain ⟨i,t,hp⟩:=Zmh x h
 cases t with
 | true =>
  obtain ⟨hi,he⟩:=Zfd hp
  obtain ⟨_,h0⟩:=hp.2.2.2.1 rfl
  rw [he] at hz
  obtain ⟨h1,h2⟩:=(Zng _ _).1 h0
  rcases List.mem_or_eq_of_mem_set hz with hz | hz
  ·exact .inl hz
  ·exact .inr (.inr ⟨xs[i],List.getElem_mem hi,h2,h1,hz⟩)
 | false =>
  rw [Zhs hp] at hz
  simp only [List.mem_append,List.mem_singleton] at hz
  rcases hz with (hz | hz) | hz
  ·exact .inl (List.mem_of_mem_take hz)
  ·exact .inr (.inl hz)
  ·exact .inl (List.mem_of_mem_drop hz)
theorem grant_may {xs:List LeM} {x:LeM} (h:MayL xs) (hx:okL x) (hl:xs.length < 1000000):MayL (Zby xs x):=by
 obtain ⟨h1,h2,h3⟩:=Zho.1 h
 refine Zho.2 ⟨by have:=grant_len xs x;omega,fun z hz=>?_,?_⟩
 ·rcases mem_grant h hz with hz | rfl | ⟨y,hy,e1,e2,rfl⟩
  ·exact h2 z hz
  ·exact hx
  ·have hy:=h2 y hy
   simp only [okL,Zei] at hx hy ⊢
   omega
 ·obtain ⟨i,t,hp⟩:=Zmh x h
  cases t with
  | true =>
   obtain ⟨hi,he⟩:=Zfd hp
   rw [he]
   have hk:∀ j (hj:j < (xs.set i (Zei xs[i] x)).length),((xs.set i (Zei xs[i] x))[j]).1=(xs[j]'(by simpa using hj)).1/\((xs.set i (Zei xs[i] x))[j]).2.1=(xs[j]'(by simpa using hj)).2.1:=fun j hj=>by
    rw [List.getElem_set]
    split
    ·rename_i h;subst h;exact ⟨rfl,rfl⟩
    ·exact ⟨rfl,rfl⟩
   refine List.pairwise_iff_getElem.2 fun a b ha hb hab=>?_
   have:=List.pairwise_iff_getElem.1 h3 a b (by simpa using ha) (by simpa using hb) hab
   obtain ⟨a1,a2⟩:=hk a ha
   obtain ⟨b1,b2⟩:=hk b hb
   simp only [ltL] at this ⊢
   omega
  | false =>
   rw [Zhs hp]
   obtain ⟨q1,q2,q3,q4,q5⟩:=hp
   have hpp:=List.pairwise_append.1 (by rw [List.take_append_drop];exact h3:(xs.take i++xs.drop i).Pairwise ltL)
   have ha:∀ a ∈ xs.take i,ltL a x:=fun a ha=>by
    obtain ⟨j,hj,rfl⟩:=List.getElem_of_mem ha
    rw [List.getElem_take]
    rw [List.length_take] at hj
    refine (Zcw _ _).1 ?_
    first | exact q2 j (by omega) (by omega) | exact q2 j (by omega)
   have hb:∀ b ∈ xs.drop i,ltL x b:=fun b hb=>by
    obtain ⟨j,hj,rfl⟩:=List.getElem_of_mem hb
    rw [List.length_drop] at hj
    rw [List.getElem_drop]
    have h5:0<=ordL (xs[i+j]'(by omega)) x:=by
     first | exact q3 (i+j) (by omega) (by omega) | exact q3 (i+j) (by omega)
    have h6:¬ ordL (xs[i+j]'(by omega)) x=0:=fun h0=>by
     by_cases hj0:j=0
     ·subst hj0
      have:=q5 ⟨by omega,h0⟩
      cases this
     ·have h7:=(Zcw _ _).1 (Zjg h i (i+j) (by omega) (by omega))
      have h8:=(Zng _ _).1 h0
      have h9:ordL (xs[i]'(by omega)) x < 0:=(Zcw _ _).2 (by omega)
      have h10:0<=ordL (xs[i]'(by omega)) x:=by
       first | exact q3 i (by omega) (by omega) | exact q3 i (by omega)
      omega
    have h7:¬ ltL (xs[i+j]'(by omega)) x:=fun h=>by have:=(Zcw _ _).2 h;omega
    have h8:¬ ((xs[i+j]'(by omega)).2.1=x.2.1/\(xs[i+j]'(by omega)).1=x.1):=fun h=>h6 ((Zng _ _).2 h)
    simp only [ltL] at h7 ⊢
    omega
   rw [List.append_assoc]
   refine List.pairwise_append.2 ⟨hpp.1,List.pairwise_append.2 ⟨List.pairwise_singleton _ _,hpp.2.1,fun a ha' b hb'=>?_⟩,fun a ha' b hb'=>?_⟩
   ·rw [List.mem_singleton] at ha';subst ha';exact hb b hb'
   ·rcases List.mem_append.1 hb' with hb' | hb'
    ·rw [List.mem_singleton] at hb';subst hb';exact ha a ha'
    ·exact hpp.2.2 a ha' b hb'
theorem holds_of {l:List LeM} (h:MayL l) {z:LeM} (hz:z ∈ l) (t:Int):Zhr l t z.1 z.2.1=if z.2.2.2<=t then 0 else z.2.2.1:=by
 unfold Zhr
 cases hf:l.find? (isL z.1 z.2.1) with
 | none =>
  have:=List.find?_eq_none.1 hf z hz
  simp [isL] at this
 | some y =>
  have hy:=List.mem_of_find?_eq_some hf
  have hi:=List.find?_some hf
  simp only [isL,Bool.and_eq_true,beq_iff_eq] at hi
  have:=uniqL h hy hz hi.1 hi.2
  subst this;rfl
structure Al (M:List LeM) (now:Int):Prop where
 may:MayL M
 live:∀ x ∈ M,now < x.2.2.2
 one:∀ x ∈ M,∀ y ∈ M,x.2.1=y.2.1->x.1 ≠ y.1->x.2.2.1 ≠ 2
theorem al_nil (t:Int):Al [] t:=⟨⟨by simp,by simp,by simp⟩,by simp,by simp⟩
theorem al_prune {M:List LeM} {now:Int} (h:Al M now) (t:Int):Al (pruneL M t) t:=by
 refine ⟨Zib h.may _,fun x hx=>?_,fun x hx y hy=>h.one x (List.mem_filter.1 hx).1 y (List.mem_filter.1 hy).1⟩
 have:=(List.mem_filter.1 hx).2
 simpa using this
theorem al_drop {M:List LeM} {now:Int} (h:Al M now) (c f:Int):Al (dropL M c f) now :=
 ⟨Zib h.may _,fun x hx=>h.live x (List.mem_filter.1 hx).1,fun x hx y hy=>h.one x (List.mem_filter.1 hx).1 y (List.mem_filter.1 hy).1⟩
theorem no_clash {M:List LeM} {now c f m:Int} (h:Al M now) (hc:Zbm M now c f m=[]):∀ y ∈ M,y.2.1=f->y.1 ≠ c->y.2.2.1 ≠ 2/\m ≠ 2:=by
 intro y hy h1 h2
 rw [Zbm,List.map_eq_nil_iff,List.filter_eq_nil_iff] at hc
 have h3:=hc y hy
 have h4:=h.live y hy
 have h5:=h.may.2.1 y hy
 have h6:¬ y.2.2.2<=now:=by omega
 have h7:¬ y.2.2.1=0:=by have:=h5.2.2.2.2.1;omega
 simp [isC,barsL,heldL,h1,h2,h6,h7] at h3
 exact h3
theorem al_grant {M:List LeM} {now c f m u:Int} (h:Al M now) (hx:okL (c,f,m,u)) (hl:M.length < 1000000) (hu:now < u) (hc:Zbm M now c f m=[]):Al (Zby M (c,f,m,u)) now:=by
 have nc:=no_clash h hc
 refine ⟨grant_may h.may hx hl,fun z hz=>?_,fun z hz y hy h1 h2=>?_⟩
 ·rcases mem_grant h.may hz with hz | rfl | ⟨y,hy,e1,e2,rfl⟩
  ·exact h.live z hz
  ·exact hu
  ·show now < max _ _
   have:now < u:=hu
   simp only
   omega
 ·have hm:1<=m/\m<=2:=⟨hx.2.2.2.2.1,hx.2.2.2.2.2.1⟩
  rcases mem_grant h.may hz with hz | rfl | ⟨z0,hz0,e1,e2,rfl⟩ <;> rcases mem_grant h.may hy with hy | rfl | ⟨y0,hy0,e3,e4,rfl⟩
  ·exact h.one z hz y hy h1 h2
  ·exact (nc z hz h1 h2).1
  ·exact (nc z hz (h1.trans e4) (fun h=>h2 (h.trans e3.symm))).1
  ·exact (nc y hy h1.symm (fun h=>h2 h.symm)).2
  ·exact absurd rfl h2
  ·exact absurd e3.symm h2
  ·have k1:=nc y hy (h1.symm.trans e2) (fun h=>h2 (e1.trans h.symm))
   have k2:=h.one z0 hz0 y hy h1 h2
   show max _ _ ≠ _
   have k3:=k1.2
   simp only
   omega
  ·exact absurd e1 h2
  ·exact absurd (e1.trans e3.symm) h2
end Go.Proofs.Ytcaclmdkhffegaa.lam
end
section
/- Texts joined. -/
section
/- The desk: reckoning (who is let have what, the document's words on leases and on who waits); no program. -/
namespace Go.Proofs.Ytcaclmdkhffegaa.dkm
open Go Go.RowKit eng lem lea leb lgw lgr lec lam wlm
set_option linter.unusedVariables false
set_option linter.unusedSimpArgs false
abbrev Desk:=List LeM × List LeM
def clashW (d:Desk) (t:Int) (w:LeM):List Int:=Zbm d.1 t w.1 w.2.2.1 w.2.2.2
def freeD (t:Int) (d:Desk) (w:LeM):Bool:=(clashW d t w).isEmpty && !Zbn d.2 w.1 w.2.2.1
def Zck (t:Int) (w:LeM):LeM:=(w.1,w.2.2.1,w.2.2.2,t+60)
def lendsD (t:Int) (d:Desk) (w:LeM):Desk:=(Zby d.1 (Zck t w),dropW d.2 w.1)
def Zb5 (t:Int) (d:Desk):Desk:=(pruneL d.1 t,d.2)
def askD (t:Int) (d:Desk) (w:LeM):Desk × Bool × List Int × Int :=
 if freeD t (Zb5 t d) w then (lendsD t (Zb5 t d) w,true,[],0)
 else if (putD d.2 w).2 then ((pruneL d.1 t,(putD d.2 w).1),false,clashW (Zb5 t d) t w,0)
 else (Zb5 t d,false,[],3)
def giveD (d:Desk) (c f:Int):Desk:=(dropL d.1 c f,d.2)
def loopD (t:Int):Nat->Desk->Desk × List LeM
 | 0,d=>(d,[])
 | n+1,d=>match d.2.find? (freeD t d) with
  | some w=>((loopD t n (lendsD t d w)).1,w :: (loopD t n (lendsD t d w)).2)
  | none=>(d,[])
def runD (t:Int) (d:Desk):Desk × List LeM:=loopD t d.2.length (Zb5 t d)

def okW (w:LeM):Prop:=1<=w.1/\w.1<=3/\1<=w.2.2.1/\w.2.2.1<=6/\1<=w.2.2.2/\w.2.2.2<=2
structure DI (d:Desk) (t:Int):Prop where
 al:Al d.1 t
 til:∀ x ∈ d.1,x.2.2.2<=t+60
 len:d.1.length<=18
 u:U d.2
 w:∀ x ∈ d.2,okW x
 l4:d.2.length<=4
theorem di_nil (t:Int):DI ([],[]) t:=⟨al_nil t,by simp,by simp,u_nil,by simp,by simp⟩
theorem may_len {l:List LeM} (h:MayL l):l.length<=18:=by
 have hp:=(Zho.1 h).2.2
 have hn:(l.map fun x=>(x.2.1,x.1)).Nodup:=by
  show List.Pairwise (· ≠ ·) _
  rw [List.pairwise_map]
  refine hp.imp fun {a b} hab he=>?_
  simp only [Prod.mk.injEq] at he
  rcases hab with h | h <;> omega
 have hs:(l.map fun x=>(x.2.1,x.1)) ⊆ (([1,2,3,4,5,6]:List Int).flatMap fun f=>([1,2,3]:List Int).map fun c=>(f,c)):=by
  intro p hp
  obtain ⟨x,hx,rfl⟩:=List.mem_map.1 hp
  obtain ⟨h1,h2,h3,h4,_⟩:=h.2.1 x hx
  have e1:x.1=1 \/ x.1=2 \/ x.1=3:=by omega
  have e2:x.2.1=1 \/ x.2.1=2 \/ x.2.1=3 \/ x.2.1=4 \/ x.2.1=5 \/ x.2.1=6:=by omega
  rcases e1 with e1 | e1 | e1 <;> rcases e2 with e2 | e2 | e2 | e2 | e2 | e2 <;> simp [e1,e2]
 have:=List.Nodup.length_le_of_subset hn hs
 simpa using this
theorem di_prune {d:Desk} {t s:Int} (h:DI d t) (hs:t<=s):DI (Zb5 s d) s :=
 ⟨al_prune h.al s,fun x hx=>by have:=h.til x (List.mem_filter.1 hx).1;omega,Nat.le_trans (List.length_filter_le _ _) h.len,h.u,h.w,h.l4⟩
theorem di_give {d:Desk} {t:Int} (h:DI d t) (c f:Int):DI (giveD d c f) t :=
 ⟨al_drop h.al c f,fun x hx=>h.til x (List.mem_filter.1 hx).1,Nat.le_trans (List.length_filter_le _ _) h.len,h.u,h.w,h.l4⟩
theorem ok_lease {t:Int} {w:LeM} (hw:okW w) (h0:0<=t) (h1:t<=1000000):okL (Zck t w):=by
 obtain ⟨a,b,c,d,e,f⟩:=hw
 exact ⟨a,b,c,d,e,f,by simp only [Zck];omega,by simp only [Zck];omega⟩
theorem free_clash {t:Int} {d:Desk} {w:LeM} (h:freeD t d w=true):clashW d t w=[]/\Zbn d.2 w.1 w.2.2.1=false:=by
 simpa [freeD] using h
theorem di_lends {d:Desk} {t:Int} (h:DI d t) {w:LeM} (hw:okW w) (h0:0<=t) (h1:t<=1000000) (hf:freeD t d w=true):DI (lendsD t d w) t:=by
 have hc:=(free_clash hf).1
 have ha:Al (Zby d.1 (Zck t w)) t:=al_grant h.al (ok_lease hw h0 h1) (by have:=h.len;omega) (by show t < t+60;omega) hc
 refine ⟨ha,fun z hz=>?_,may_len ha.may,u_drop h.u w.1,fun x hx=>h.w x (List.mem_filter.1 hx).1,Nat.le_trans (Zdn _ _) h.l4⟩
 rcases mem_grant h.al.may hz with hz | rfl | ⟨y,hy,_,_,rfl⟩
 ·exact h.til z hz
 ·exact Int.le_refl _
 ·have:=h.til y hy
  show max _ _<=_
  simp only [Zck]
  omega
theorem put_mem {l:List LeM} {w x:LeM} (h:x ∈ (putD l w).1):x ∈ l \/ x=w:=by
 unfold putD at h
 split at h
 ·rcases List.mem_or_eq_of_mem_set h with h | h
  ·exact .inl h
  ·exact .inr h
 ·split at h
  ·rcases List.mem_append.1 h with h | h
   ·exact .inl (List.mem_filter.1 h).1
   ·exact .inr (by simpa using h)
  ·exact .inl h
theorem di_ask {d:Desk} {t s:Int} (h:DI d t) (hs:t<=s) {w:LeM} (hw:okW w) (h0:0<=s) (h1:s<=1000000):DI (askD s d w).1 s:=by
 have hp:=di_prune h hs
 unfold askD
 split
 ·rename_i hf;exact di_lends hp hw h0 h1 hf
 ·split
  ·refine ⟨hp.al,hp.til,hp.len,?_,fun x hx=>?_,?_⟩
   ·have:=u_put h.u w;rw [Zq3 h.u] at this;exact this
   ·rcases put_mem hx with hx | rfl
    ·exact h.w x hx
    ·exact hw
   ·have:=put_len w h.l4;rw [Zq3 h.u] at this;exact this
  ·exact hp
theorem di_loop {t:Int} (h0:0<=t) (h1:t<=1000000):∀ (n:Nat) {d:Desk},DI d t->DI (loopD t n d).1 t
 | 0,d,h=>h
 | n+1,d,h=>by
  unfold loopD
  split
  ·rename_i w hw
   exact di_loop h0 h1 n (di_lends h (h.w w (List.mem_of_find?_eq_some hw)) h0 h1 (List.find?_some hw))
  ·exact h
theorem di_run {d:Desk} {t s:Int} (h:DI d t) (hs:t<=s) (h0:0<=s) (h1:s<=1000000):DI (runD s d).1 s:=di_loop h0 h1 _ (di_prune h hs)

theorem ahead_first {l:List LeM} {c f:Int} {x:LeM} (h:l.find? (isFl f)=some x):Zbn l c f=!(x.1 == c):=by simp only [Zbn,h]
theorem first_of {l:List LeM} (hu:U l) {w:LeM} (hw:w ∈ l) (ha:Zbn l w.1 w.2.2.1=false):l.find? (isFl w.2.2.1)=some w:=by
 cases hf:l.find? (isFl w.2.2.1) with
 | none=>have:=List.find?_eq_none.1 hf w hw;simp [isFl] at this
 | some x =>
  rw [ahead_first hf] at ha
  have hx:x.1=w.1:=by simpa using ha
  have hm:=List.mem_of_find?_eq_some hf
  rw [show x=w from uniqW hu hm hw hx]
where
 uniqW {l:List LeM} (hu:U l) {a b:LeM} (ha:a ∈ l) (hb:b ∈ l) (h:a.1=b.1):a=b:=by
  obtain ⟨i,hi,rfl⟩:=List.getElem_of_mem ha
  obtain ⟨j,hj,rfl⟩:=List.getElem_of_mem hb
  have hp:List.Pairwise (· ≠ ·) (l.map (·.1)):=hu
  rcases Nat.lt_trichotomy i j with hij | rfl | hij
  ·exact absurd (by rw [List.getElem_map,List.getElem_map];exact h) (List.pairwise_iff_getElem.1 hp i j (by simpa using hi) (by simpa using hj) hij)
  ·rfl
  ·exact absurd (by rw [List.getElem_map,List.getElem_map];exact h.symm) (List.pairwise_iff_getElem.1 hp j i (by simpa using hj) (by simpa using hi) hij)
theorem uniqW {l:List LeM} (hu:U l) {a b:LeM} (ha:a ∈ l) (hb:b ∈ l) (h:a.1=b.1):a=b:=first_of.uniqW hu ha hb h
theorem first_split {l:List LeM} {f:Int} {x:LeM}:l.find? (isFl f)=some x ↔ x.2.2.1=f/\∃ as' bs,l=as'++x :: bs/\∀ y ∈ as',y.2.2.1 ≠ f:=by
 rw [List.find?_eq_some_iff_append]
 simp [isFl]
end Go.Proofs.Ytcaclmdkhffegaa.dkm
end
section
/- The desk: whoever waits first is let when the term has gone by; what is given back goes to all, in their order; readers beside one another. Reckoning, no program. -/
namespace Go.Proofs.Ytcaclmdkhffegaa.dkn
open Go Go.RowKit eng lem lea leb lgw lgr lec lam wlm dkm
set_option linter.unusedVariables false
set_option linter.unusedSimpArgs false
theorem Zmu {l:List LeM} {v:LeM} (h:v ∈ l):(dropW l v.1).length < l.length:=by
 unfold dropW
 exact List.length_filter_lt_length_iff_exists.2 ⟨v,h,by simp⟩



structure Gv (d:Desk) (t:Int) (served first:List LeM):Prop where
 di:DI d t
 file:∀ x ∈ d.2,x.2.2.1<=3
 same:∀ f,(served++d.2).filter (isFl f)=first.filter (isFl f)
 len:served.length+d.2.length=first.length
theorem drop_split2 {ls bs:List LeM} {v:LeM} (hu:U (ls++v :: bs)):dropW (ls++v :: bs) v.1=ls++bs:=by
 have hp:=List.nodup_append.1 (by simpa [U] using hu:((ls.map (·.1))++v.1 :: bs.map (·.1)).Nodup)
 have e1:dropW ls v.1=ls:=Zhy fun x hx he=>hp.2.2 x.1 (List.mem_map_of_mem hx) v.1 (List.mem_cons_self ..) he
 have e2:dropW bs v.1=bs:=Zhy fun x hx he=>(List.nodup_cons.1 hp.2.1).1 (by rw [<- he];exact List.mem_map_of_mem hx)
 have:dropW (ls++v :: bs) v.1=dropW ls v.1++dropW bs v.1:=by simp [dropW]
 rw [this,e1,e2]
theorem gv_lends {d:Desk} {t:Int} {served first:List LeM} {v:LeM} (h:Gv d t served first) (h0:0<=t) (h1:t<=1000000) (hv:v ∈ d.2) (hf:freeD t d v=true):Gv (lendsD t d v) t (served++[v]) first:=by
 have hfirst:=first_of h.di.u hv (free_clash hf).2
 obtain ⟨_,ls,bs,hl,hls⟩:=first_split.1 hfirst
 have hdrop:dropW d.2 v.1=ls++bs:=by rw [hl];exact drop_split2 (by rw [<- hl];exact h.di.u)
 refine ⟨di_lends h.di (h.di.w v hv) h0 h1 hf,fun x hx=>h.file x (List.mem_filter.1 hx).1,fun f=>?_,?_⟩
 ·rw [<- h.same f]
  show (served++[v]++dropW d.2 v.1).filter (isFl f)=(served++d.2).filter (isFl f)
  rw [hdrop,hl]
  by_cases e:v.2.2.1=f
  ·have:ls.filter (isFl f)=[]:=List.filter_eq_nil_iff.2 fun y hy=>by simp [isFl];rw [<- e];exact hls y hy
   simp [List.filter_append,List.filter_cons,this,isFl,e]
  ·simp [List.filter_append,List.filter_cons,isFl,e]
 ·have:=h.len
  show (served++[v]).length+(dropW d.2 v.1).length=first.length
  rw [hdrop]
  rw [hl] at this
  simp at this ⊢
  omega
theorem Zmn {t:Int} (h0:0<=t) (h1:t<=1000000) {first:List LeM}:∀ (n:Nat) {d:Desk} {served:List LeM},Gv d t served first->Gv (loopD t n d).1 t (served++(loopD t n d).2) first/\(loopD t n d).1.2.length<=d.2.length
 | 0,d,served,h=>by simpa [loopD] using h
 | n+1,d,served,h=>by
  unfold loopD
  cases hv:d.2.find? (freeD t d) with
  | none=>simpa using h
  | some v =>
   have hvm:=List.mem_of_find?_eq_some hv
   have:=Zmn h0 h1 n (gv_lends h h0 h1 hvm (List.find?_some hv))
   simp only
   refine ⟨by simpa using this.1,?_⟩
   have h2:=Zmu hvm
   have h3:(lendsD t d v).2.length < d.2.length:=h2
   omega
theorem gv_run {d:Desk} {t:Int} {served first:List LeM} (h:Gv d t served first) (hn:d.1=[]) (h0:0<=t) (h1:t<=1000000):Gv (runD t d).1 t (served++(runD t d).2) first/\(runD t d).1.2.length<=d.2.length - 1:=by
 have hp:Zb5 t d=d:=by
  obtain ⟨a,b⟩:=d
  simp only at hn
  subst hn;rfl
 unfold runD
 rw [hp]
 refine ⟨(Zmn h0 h1 d.2.length h).1,?_⟩
 cases hd:d.2 with
 | nil =>
  have:=(Zmn h0 h1 (d.2.length) h).2
  rw [hd] at this
  simpa using this
 | cons w r =>
  have hfree:freeD t d w=true:=by
   have e1:clashW d t w=[]:=by simp [clashW,Zbm,hn]
   have e2:Zbn d.2 w.1 w.2.2.1=false:=by simp [Zbn,hd,isFl]
   simp [freeD,e1,e2]
  have hv:d.2.find? (freeD t d)=some w:=by rw [hd,List.find?_cons,hfree]
  show (loopD t (r.length+1) d).1.2.length<=_
  unfold loopD
  simp only [hv]
  have hwm:w ∈ d.2:=by rw [hd];simp
  have g:=(Zmn h0 h1 r.length (gv_lends h h0 h1 hwm hfree)).2
  have h2:=Zmu hwm
  have h3:(lendsD t d w).2.length < d.2.length:=h2
  rw [hd] at h3
  simp at h3 ⊢
  omega
end Go.Proofs.Ytcaclmdkhffegaa.dkn
end
end
