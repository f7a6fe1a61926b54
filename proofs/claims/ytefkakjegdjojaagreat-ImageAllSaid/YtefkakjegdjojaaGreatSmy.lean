/- What lasts: what may be, and that it stays so (reckoning alone). -/
import Derived.Test.YtefkakjegdjojaaGreatStc
namespace Go.Proofs.YtefkakjegdjojaaGreat.sta
open Go Go.RowKit eng SX Fact fil fileFronts dirs pck may
open fileFronts
open pck hiding F F20 F21
open dirs hiding shR shRl shRR flR lpR cutR f0 f1 f2 f3
open may hiding r1 r2 r3 r4 r5
set_option linter.unusedVariables false
set_option linter.unusedSimpArgs false
set_option maxRecDepth 100000

theorem Zvq:e0.toList=[]:=by rw [ByteArray.toList_eq];rfl
def isE0 (f:FileM):Bool:=f.1.toList == [] && (decide (f.2.1=0) && f.2.2.toList == [])
theorem Zvj:isE0 f00=true:=by simp [isE0,f00,Zvq]
def numB (n least most:Int):Bool:=decide (least<=n) && decide (n<=most)
def Zlu (fs:List FileM) (i:Nat) (f:FileM):Nat :=
 if findN fs f.1=some i then (if numB f.2.1 1 1073741824 && decide (f.2.2.size<=24) then 0 else 2) else 1
def markB (m:MarkM):Bool:=numB m.1 0 1073741824 && (numB m.2.1 0 3 && (numB m.2.2.1 0 6 && numB m.2.2.2 0 1073741824))
def fileN (fs:List FileM) (i:Nat) (f:FileM):Nat:=if isE0 f then 0 else Zlu fs i f
def Ziv (fs:List FileM):Nat->List FileM->Nat
 | _,[]=>0
 | i,f :: r=>if fileN fs i f=0 then Ziv fs (i+1) r else fileN fs i f
def mustN (s : StM) : Nat :=
  if s.files.length = 6 /\ s.marks.length = 3 then
    (if Ziv s.files 0 s.files = 0 then (if s.marks.all markB && numB s.epoch 0 1073741824 then 0 else 3)
     else Ziv s.files 0 s.files + 1)
  else 1
def mayS (s:StM):Bool:=mustN s == 0

theorem Zid (fs:List FileM):∀ (r:List FileM) (i:Nat),Ziv fs i r=0 ↔ ∀ j (h:j < r.length),fileN fs (i+j) r[j]=0
 | [],i=>by simp [Ziv]
 | f :: r,i=>by
  unfold Ziv
  constructor
  ·intro h
   split at h
   ·rename_i h0
    have:=(Zid fs r (i+1)).1 h
    intro j hj
    cases j with
    | zero=>exact h0
    | succ j =>
     have:=this j (by simpa using hj)
     rwa [show i+1+j=i+(j+1) by omega] at this
   ·contradiction
  ·intro h
   rw [if_pos (show fileN fs i f=0 from h 0 (by simp))]
   refine (Zid fs r (i+1)).2 fun j hj=>?_
   have:=h (j+1) (by simpa using hj)
   rwa [show i+(j+1)=i+1+j by omega] at this
theorem filesN_at (fs:List FileM):∀ (r:List FileM) (i j:Nat) (h:j < r.length),(∀ k (hk:k < r.length),k < j->fileN fs (i+k) r[k]=0)->fileN fs (i+j) r[j] ≠ 0->Ziv fs i r=fileN fs (i+j) r[j]
 | [],i,j,h,_,_=>absurd h (by simp)
 | f :: r,i,0,h,_,hb=>by
  unfold Ziv
  rw [if_neg (by simpa using hb)]
  simp
 | f :: r,i,j+1,h,hk,hb=>by
  unfold Ziv
  rw [if_pos (show fileN fs i f=0 from hk 0 (by simp) (by omega))]
  have:=filesN_at fs r (i+1) j (by simpa using h) (fun k hk' hlt=>by
   have:=hk (k+1) (by simpa using hk') (by omega)
   rwa [show i+(k+1)=i+1+k by omega] at this) (by rw [show i+1+j=i+(j+1) by omega];simpa using hb)
  rw [this,show i+1+j=i+(j+1) by omega]
  simp

structure MayS (s:StM):Prop where
 fl:s.files.length=6
 ml:s.marks.length=3
 fv:∀ j (h:j < s.files.length),isE0 s.files[j]=true \/ (findN s.files s.files[j].1=some j/\1<=s.files[j].2.1/\s.files[j].2.1<=1073741824/\s.files[j].2.2.size<=24)
 mv:∀ m ∈ s.marks,0<=m.1/\m.1<=1073741824/\0<=m.2.1/\m.2.1<=3/\0<=m.2.2.1/\m.2.2.1<=6/\0<=m.2.2.2/\m.2.2.2<=1073741824
 ep:0<=s.epoch/\s.epoch<=1073741824
theorem Zry {n a b:Int}:numB n a b=true ↔ a<=n/\n<=b:=by simp [numB]
theorem Zqb {fs:List FileM} {i:Nat} {f:FileM}:fileN fs i f=0 ↔ (isE0 f=true \/ (findN fs f.1=some i/\1<=f.2.1/\f.2.1<=1073741824/\f.2.2.size<=24)):=by
 unfold fileN Zlu
 by_cases h0:isE0 f=true
 ·simp [h0]
 ·rw [if_neg h0]
  by_cases h1:findN fs f.1=some i
  ·rw [if_pos h1]
   by_cases h2:(numB f.2.1 1 1073741824 && decide (f.2.2.size<=24))=true
   ·rw [if_pos h2]
    simp only [Bool.and_eq_true,Zry,decide_eq_true_eq] at h2
    simp [h0,h1,h2]
   ·rw [if_neg h2]
    simp only [Bool.and_eq_true,Zry,decide_eq_true_eq] at h2
    constructor
    ·intro h;cases h
    ·rintro (h | h)
     ·exact absurd h h0
     ·exact absurd ⟨⟨h.2.1,h.2.2.1⟩,h.2.2.2⟩ h2
  ·rw [if_neg h1]
   simp [h0,h1]
theorem markB_iff {m:MarkM}:markB m=true ↔ 0<=m.1/\m.1<=1073741824/\0<=m.2.1/\m.2.1<=3/\0<=m.2.2.1/\m.2.2.1<=6/\0<=m.2.2.2/\m.2.2.2<=1073741824:=by
 simp only [markB,Bool.and_eq_true,Zry]
 constructor
 ·rintro ⟨⟨a,b⟩,⟨c,d⟩,⟨e,f⟩,g,h⟩;exact ⟨a,b,c,d,e,f,g,h⟩
 ·rintro ⟨a,b,c,d,e,f,g,h⟩;exact ⟨⟨a,b⟩,⟨c,d⟩,⟨e,f⟩,g,h⟩
theorem mayS_iff {s:StM}:mustN s=0 ↔ MayS s:=by
 unfold mustN
 constructor
 ·intro h
  split at h
  ·rename_i hl
   split at h
   ·rename_i hf
    split at h
    ·rename_i hm
     simp only [Bool.and_eq_true,Zry,List.all_eq_true] at hm
     refine ⟨hl.1,hl.2,fun j hj=>Zqb.1 ?_,fun m hm'=>markB_iff.1 (hm.1 m hm'),hm.2⟩
     have:=(Zid s.files s.files 0).1 hf j hj
     simpa using this
    ·cases h
   ·omega
  ·cases h
 ·intro h
  rw [if_pos ⟨h.fl,h.ml⟩,if_pos,if_pos]
  ·simp only [Bool.and_eq_true,Zry,List.all_eq_true]
   exact ⟨fun m hm=>markB_iff.2 (h.mv m hm),h.ep⟩
  ·refine (Zid s.files s.files 0).2 fun j hj=>Zqb.2 ?_
   simpa using h.fv j hj
theorem Zgw {s:StM}:mayS s=true ↔ MayS s:=by rw [<- mayS_iff];simp [mayS]

theorem Zub:MayS newS:=by
 refine ⟨rfl,rfl,fun j hj=>.inl ?_,fun m hm=>?_,by simp [newS]⟩
 ·have:newS.files[j] ∈ newS.files:=List.getElem_mem hj
  rw [(List.mem_replicate.1 this).2]
  exact Zvj
 ·simp only [newS] at hm
  obtain ⟨_,rfl⟩:=List.mem_replicate.1 hm
  simp
theorem may_boot {s:StM} (h:MayS s):MayS (bootS s):=⟨h.fl,h.ml,h.fv,h.mv,by have:=h.ep;simp only [bootS];omega⟩
theorem may_put {l:List MarkM} (hl:∀ m ∈ l,0<=m.1/\m.1<=1073741824/\0<=m.2.1/\m.2.1<=3/\0<=m.2.2.1/\m.2.2.1<=6/\0<=m.2.2.2/\m.2.2.2<=1073741824) (c:Int) {m:MarkM} (hm:0<=m.1/\m.1<=1073741824/\0<=m.2.1/\m.2.1<=3/\0<=m.2.2.1/\m.2.2.1<=6/\0<=m.2.2.2/\m.2.2.2<=1073741824) :
  ∀ x ∈ putMk l c m,0<=x.1/\x.1<=1073741824/\0<=x.2.1/\x.2.1<=3/\0<=x.2.2.1/\x.2.2.1<=6/\0<=x.2.2.2/\x.2.2.2<=1073741824:=by
 intro x hx
 unfold putMk at hx
 split at hx
 ·rcases List.mem_or_eq_of_mem_set hx with h | rfl
  ·exact hl x h
  ·exact hm
 ·exact hl x hx
theorem put_len (l:List MarkM) (c:Int) (m:MarkM):(putMk l c m).length=l.length:=by
 unfold putMk
 split <;> simp
theorem Zrt {a b:ByteArray} (h:a.toList=b.toList):a=b:=by
 apply ByteArray.ext
 apply Array.toList_inj.1
 rwa [ByteArray.toList_eq,ByteArray.toList_eq] at h
theorem Zs5 {s:ByteArray} {f:FileM}:isN s f=true ↔ f.1=s:=by
 unfold isN
 rw [beq_iff_eq]
 exact ⟨Zrt,fun h=>by rw [h]⟩
theorem isN_no {s:ByteArray} {f:FileM}:isN s f=false ↔ f.1 ≠ s:=by
 rw [<- Bool.not_eq_true,Zs5]
theorem okN_ne {s:ByteArray} (h:okN s=true):s ≠ e0:=by
 rintro rfl
 exact absurd h (by decide)
theorem Zol {f:FileM} (h:isE0 f=true):f.1=e0:=by
 simp only [isE0,Bool.and_eq_true,beq_iff_eq] at h
 exact Zrt (by rw [h.1,Zvq])
theorem isE0_eq {f:FileM} (h:isE0 f=true):f=f00:=by
 have hn:=Zol h
 simp only [isE0,Bool.and_eq_true,beq_iff_eq,decide_eq_true_eq] at h
 have hb:f.2.2=e0:=Zrt (by rw [h.2.2,Zvq])
 exact Prod.ext hn (Prod.ext h.2.1 hb)
theorem Zic {fs:List FileM} {s:ByteArray} {i:Nat}:findN fs s=some i ↔ okN s=true/\∃ h:i < fs.length,fs[i].1=s/\∀ j (hj:j < i),fs[j].1 ≠ s:=by
 unfold findN
 split
 ·rename_i h
  rw [List.findIdx?_eq_some_iff_getElem]
  constructor
  ·rintro ⟨h1,h2,h3⟩
   exact ⟨h,h1,Zs5.1 h2,fun j hj e=>h3 j hj (Zs5.2 e)⟩
  ·rintro ⟨_,h1,h2,h3⟩
   exact ⟨h1,Zs5.2 h2,fun j hj e=>h3 j hj (Zs5.1 e)⟩
 ·rename_i h
  simp [h]
theorem may_set {s:StM} (h:MayS s) {i:Nat} (hi:i < s.files.length) {f:FileM} (hf:isE0 f=true \/ (okN f.1=true/\1<=f.2.1/\f.2.1<=1073741824/\f.2.2.size<=24)) (hu:∀ j (hj:j < s.files.length),j ≠ i->s.files[j].1=f.1->isE0 f=true) :
  ∀ j (hj:j < (s.files.set i f).length),isE0 (s.files.set i f)[j]=true \/ (findN (s.files.set i f) (s.files.set i f)[j].1=some j/\1<=(s.files.set i f)[j].2.1/\(s.files.set i f)[j].2.1<=1073741824/\(s.files.set i f)[j].2.2.size<=24):=by
 intro j hj
 have hj':j < s.files.length:=by simpa using hj
 by_cases hji:i=j
 ·subst hji
  simp only [List.getElem_set_self]
  rcases hf with hf | ⟨h1,h2,h3,h4⟩
  ·exact .inl hf
  ·refine .inr ⟨Zic.2 ⟨h1,by simpa using hi,by simp,fun k hk=>?_⟩,h2,h3,h4⟩
   rw [List.getElem_set_ne (by omega)]
   intro e
   have:=Zol (hu k (by omega) (by omega) e)
   exact okN_ne h1 this
 ·simp only [List.getElem_set_ne hji]
  rcases h.fv j hj' with h0 | ⟨h1,h2⟩
  ·exact .inl h0
  ·refine .inr ⟨?_,h2⟩
   obtain ⟨ho,h3,h4,h5⟩:=Zic.1 h1
   refine Zic.2 ⟨ho,by simpa using hj',by rw [List.getElem_set_ne hji],fun k hk=>?_⟩
   by_cases hki:i=k
   ·subst hki
    rw [List.getElem_set_self]
    intro e
    have:=Zol (hu j hj' (by omega) e.symm)
    exact okN_ne ho (by rw [<- e,this])
   ·rw [List.getElem_set_ne hki]
    exact h5 k hk
theorem Zjq {s:StM} (h:MayS s) (c:Int) {m:MarkM} (hm:0<=m.1/\m.1<=1073741824/\0<=m.2.1/\m.2.1<=3/\0<=m.2.2.1/\m.2.2.1<=6/\0<=m.2.2.2/\m.2.2.2<=1073741824):MayS (Za9 s c m 0 f00) :=
 ⟨h.fl,by simp only [Za9,put_len];exact h.ml,h.fv,may_put h.mv c hm,h.ep⟩
theorem Zri {s:StM} (h:MayS s) (c:Int) {m:MarkM} (hm:0<=m.1/\m.1<=1073741824/\0<=m.2.1/\m.2.1<=3/\0<=m.2.2.1/\m.2.2.1<=6/\0<=m.2.2.2/\m.2.2.2<=1073741824)
  {i:Nat} (hi:i < s.files.length) {f:FileM} (hf:isE0 f=true \/ (okN f.1=true/\1<=f.2.1/\f.2.1<=1073741824/\f.2.2.size<=24)) (hu:∀ j (hj:j < s.files.length),j ≠ i->s.files[j].1=f.1->isE0 f=true):MayS (Za9 s c m ((i:Int)+1) f):=by
 have hx:Za9 s c m ((i:Int)+1) f=⟨s.files.set i f,putMk s.marks c m,s.epoch⟩:=by
  simp only [Za9,if_pos (show (0:Int) < (i:Int)+1 by omega),show ((i:Int)+1).toNat - 1=i by omega]
 rw [hx]
 exact ⟨by simpa using h.fl,by rw [put_len];exact h.ml,may_set h hi hf hu,may_put h.mv c hm,h.ep⟩
theorem may_open {s:StM} (h:MayS s) (c q:Int) (name:ByteArray) (h0:0<=q) (h1:q<=1073741824):MayS (openS s c q name).1:=by
 unfold openS
 split
 ·rename_i ho
  split
  ·rename_i i hf
   obtain ⟨h2,h3,_⟩:=List.findIdx?_eq_some_iff_getElem.1 hf
   have hg:s.files.getD i f00=s.files[i]:=by simp [List.getD,h2]
   have hi6:i < 6:=by rw [<- h.fl];exact h2
   have hv:0<=s.files[i].2.1/\s.files[i].2.1<=1073741824:=by
    rcases h.fv i h2 with h4 | h4
    ·rw [isE0_eq h4];simp [f00]
    ·omega
   rw [hg]
   exact Zjq h c (by simp only;omega)
  ·rename_i hf
   rw [List.findIdx?_eq_none_iff] at hf
   split
   ·rename_i i hr
    obtain ⟨h2,h3,_⟩:=List.findIdx?_eq_some_iff_getElem.1 hr
    have hi6:i < 6:=by rw [<- h.fl];exact h2
    refine Zri h c (by simp only;omega) h2 (.inr ⟨ho,by simp,by simp,by simp only [e0];decide⟩) fun j hj _ e=>?_
    exact absurd e (isN_no.1 (hf _ (List.getElem_mem hj)))
   ·exact Zjq h c (by simp only;omega)
 ·exact Zjq h c (by simp only;omega)
theorem own_name {s:StM} (h:MayS s) {i:Nat} (hi:i < s.files.length) (hn:s.files[i].1 ≠ e0):(okN s.files[i].1=true/\1<=s.files[i].2.1/\s.files[i].2.1<=1073741824/\s.files[i].2.2.size<=24)/\∀ j (hj:j < s.files.length),j ≠ i->s.files[j].1 ≠ s.files[i].1:=by
 rcases h.fv i hi with h0 | ⟨h1,h2⟩
 ·exact absurd (Zol h0) hn
 ·obtain ⟨ho,_,_,h5⟩:=Zic.1 h1
  refine ⟨⟨ho,h2⟩,fun j hj hji e=>?_⟩
  rcases Nat.lt_or_ge j i with hlt | hge
  ·exact h5 j hlt e
  ·rcases h.fv j hj with h0 | ⟨h3,_⟩
   ·exact hn (by rw [<- e];exact Zol h0)
   ·obtain ⟨_,_,_,h6⟩:=Zic.1 h3
    exact h6 i (by omega) e.symm
theorem isF_ex {s:StM} {file:Int} (h:isF s file=true):∃ i:Nat,∃ hi:i < s.files.length,file=(i:Int)+1/\s.files.getD (file.toNat - 1) f00=s.files[i]/\s.files[i].1 ≠ e0:=by
 simp only [isF,Bool.and_eq_true,decide_eq_true_eq,Bool.not_eq_true',beq_eq_false_iff_ne] at h
 obtain ⟨⟨h1,h2⟩,h3⟩:=h
 have hi:file.toNat - 1 < s.files.length:=by omega
 have hg:s.files.getD (file.toNat - 1) f00=s.files[file.toNat - 1]:=by simp [List.getD,hi]
 rw [hg] at h3
 exact ⟨file.toNat - 1,hi,by omega,hg,fun e=>h3 (by rw [e])⟩
theorem may_gone {s:StM} (h:MayS s) (c q file:Int) (h0:0<=q) (h1:q<=1073741824):MayS (goneS s c q file).1:=by
 unfold goneS
 split
 ·rename_i hF
  obtain ⟨i,hi,rfl,_,hn⟩:=isF_ex hF
  have hi6:i < 6:=by rw [<- h.fl];exact hi
  exact Zri h c (by simp only;omega) hi (.inl Zvj) fun _ _ _ _=>Zvj
 ·exact Zjq h c (by simp only;omega)
theorem may_flush {s:StM} (h:MayS s) (c q file:Int) (l:List (Int × ByteArray)) (h0:0<=q) (h1:q<=1073741824):MayS (Zdp s c q file l).1:=by
 unfold Zdp
 split
 ·rename_i hF
  split
  ·obtain ⟨i,hi,rfl,hg,hn⟩:=isF_ex hF
   have hi6:i < 6:=by rw [<- h.fl];exact hi
   rw [hg]
   obtain ⟨⟨ho,hv1,hv2,hb⟩,hu⟩:=own_name h hi hn
   have hbl:(bs (allW s.files[i].2.2.data.toList l)).size<=24:=by
    rw [Zw1]
    have:=Ztv l s.files[i].2.2.data.toList
    have h2:s.files[i].2.2.data.toList.length=s.files[i].2.2.size:=by simp
    omega
   refine Zri h c (by simp only [Zej];omega) hi (.inr ⟨ho,by simp only [Zej];omega,by simp only [Zej];omega,hbl⟩) fun j hj hji e=>?_
   exact absurd e (hu j hj hji)
  ·exact Zjq h c (by simp only;omega)
 ·exact Zjq h c (by simp only;omega)
end Go.Proofs.YtefkakjegdjojaaGreat.sta
