/- What lasts, as sectors (reckoning alone). -/
import Derived.Test.YtonebjgdhachcaaSmy
import Derived.Test.YtonebjgdhachcaaBym
namespace Go.Proofs.Ytonebjgdhachcaa.ima
open Go Go.RowKit eng fil dirs pck may sta
open fileFronts
open pck hiding F F20 F21
open dirs hiding shR shRl shRR flR lpR cutR f0 f1 f2 f3 m0 m1 m2
open may hiding m1 m2 m3 m4 r1 r2 r3 r4 r5
set_option linter.unusedVariables false
set_option linter.unusedSimpArgs false
set_option maxRecDepth 100000

def nul (n:Nat):List UInt8:=List.replicate n 0
@[simp] theorem Zio (n:Nat):(nul n).length=n:=by simp [nul]
def lst (a:ByteArray):List UInt8:=a.data.toList
@[simp] theorem lst_length (a:ByteArray):(lst a).length=a.size:=by simp [lst]
theorem Zox {a b:ByteArray} (h:lst a=lst b):a=b:=by
 apply ByteArray.ext
 exact Array.toList_inj.1 h
def ofL (l:List UInt8):ByteArray:=⟨l.toArray⟩
@[simp] theorem Zkh (l:List UInt8):lst (ofL l)=l:=by simp [lst,ofL]
@[simp] theorem ofL_lst (a:ByteArray):ofL (lst a)=a:=Zox (Zkh _)
@[simp] theorem ofL_size (l:List UInt8):(ofL l).size=l.length:=by rw [<- lst_length,Zkh]
def txB (m:Nat) (a:ByteArray):List UInt8:=UInt8.ofNat a.size :: (lst a++nul (m - a.size))
theorem Zcl {m:Nat} {a:ByteArray} (h:a.size<=m):(txB m a).length=m+1:=by
 simp only [txB,List.length_cons,List.length_append,lst_length,Zio];omega
def txT (m:Nat) (l:List UInt8):ByteArray:=ofL ((l.drop 1).take (min (l.getD 0 0).toNat m))
theorem txT_txB {m:Nat} {a:ByteArray} (h:a.size<=m) (hm:m<=255) (r:List UInt8):txT m (txB m a++r)=a:=by
 apply Zox
 have h1:(UInt8.ofNat a.size).toNat=a.size:=by rw [UInt8.toNat_ofNat'];omega
 simp only [txT,txB,Zkh,List.cons_append,List.drop_succ_cons,List.drop_zero,List.getD_cons_zero,h1,Nat.min_eq_left h]
 rw [List.append_assoc,List.take_append_of_le_length (by simp),List.take_of_length_le (by simp)]

def mkB (m:MarkM):List UInt8:=low m.1 4++(low m.2.1 1++(low m.2.2.1 1++low m.2.2.2 4))
def flB (f:FileM):List UInt8:=txB 8 f.1++(low f.2.1 4++txB 24 f.2.2)
def imgB (s:StM):List UInt8:=low s.epoch 4++((s.marks.map mkB).flatten++((s.files.map flB).flatten++nul 26))
theorem Zeu (m:MarkM):(mkB m).length=10:=by simp [mkB]
theorem Zgb {f:FileM} (h1:f.1.size<=8) (h2:f.2.2.size<=24):(flB f).length=38:=by simp [flB,Zcl h1,Zcl h2]
def mkT (l:List UInt8):MarkM:=(num (l.take 4),num ((l.drop 4).take 1),num ((l.drop 5).take 1),num ((l.drop 6).take 4))
def flT (l:List UInt8):FileM:=(txT 8 l,num ((l.drop 9).take 4),txT 24 (l.drop 13))
theorem Ze0 {α:Type} {a b:List α} {n:Nat} (h:a.length=n):(a++b).take n=a:=by rw [List.take_append_of_le_length (by omega),List.take_of_length_le (by omega)]
theorem Zbr {α:Type} {a b:List α} {n:Nat} (k:Nat) (h:a.length=n):(a++b).drop (n+k)=b.drop k:=by rw [List.drop_append,List.drop_eq_nil_of_le (by omega),List.nil_append];congr 1;omega
theorem mkT_mkB {m:MarkM} (h:0<=m.1/\m.1<=1073741824/\0<=m.2.1/\m.2.1<=3/\0<=m.2.2.1/\m.2.2.1<=6/\0<=m.2.2.2/\m.2.2.2<=1073741824) (r:List UInt8):mkT (mkB m++r)=m:=by
 obtain ⟨a,b,c,d⟩:=m
 simp only at h
 have e1:(mkB (a,b,c,d)++r).take 4=low a 4:=by simp only [mkB,List.append_assoc];exact Ze0 (by simp)
 have e2:((mkB (a,b,c,d)++r).drop 4).take 1=low b 1:=by
  simp only [mkB,List.append_assoc]
  rw [show (4:Nat)=4+0 from rfl,Zbr 0 (by simp),List.drop_zero];exact Ze0 (by simp)
 have e3:((mkB (a,b,c,d)++r).drop 5).take 1=low c 1:=by
  simp only [mkB,List.append_assoc]
  rw [show (5:Nat)=4+(1+0) from rfl,Zbr _ (by simp),Zbr _ (by simp),List.drop_zero];exact Ze0 (by simp)
 have e4:((mkB (a,b,c,d)++r).drop 6).take 4=low d 4:=by
  simp only [mkB,List.append_assoc]
  rw [show (6:Nat)=4+(1+(1+0)) from rfl,Zbr _ (by simp),Zbr _ (by simp),Zbr _ (by simp),List.drop_zero];exact Ze0 (by simp)
 simp only [mkT,e1,e2,e3,e4]
 rw [Zc1 h.1 (by omega),Zc1 h.2.2.1 (by omega),Zc1 (by omega) (by omega),Zc1 (by omega) (by omega)]
theorem flT_flB {f:FileM} (h1:f.1.size<=8) (h2:f.2.2.size<=24) (h3:0<=f.2.1) (h4:f.2.1<=1073741824) (r:List UInt8):flT (flB f++r)=f:=by
 obtain ⟨a,v,b⟩:=f
 simp only at h1 h2 h3 h4
 have l1:=Zcl h1
 have l2:=Zcl h2
 have e1:((flB (a,v,b)++r).drop 9).take 4=low v 4:=by
  simp only [flB,List.append_assoc]
  rw [show (9:Nat)=9+0 from rfl,Zbr _ l1,List.drop_zero];exact Ze0 (by simp)
 have e2:(flB (a,v,b)++r).drop 13=txB 24 b++r:=by
  simp only [flB,List.append_assoc]
  rw [show (13:Nat)=9+(4+0) from rfl,Zbr _ l1,Zbr _ (by simp),List.drop_zero]
 simp only [flT,e1,e2]
 rw [Zc1 h3 (by omega),txT_txB h2 (by omega)]
 simp only [flB,List.append_assoc]
 rw [txT_txB h1 (by omega)]
theorem Zkj {α:Type} (enc:α->List UInt8) (n:Nat):∀ (l:List α) (hl:∀ x ∈ l,(enc x).length=n) (k:Nat) (hk:k < l.length) (r:List UInt8),∃ r',((l.map enc).flatten++r).drop (n * k)=enc l[k]++r'
 | [],_,k,hk,_=>absurd hk (by simp)
 | x :: l,hl,0,_,r=>⟨(l.map enc).flatten++r,by simp⟩
 | x :: l,hl,k+1,hk,r=>by
  obtain ⟨r',h⟩:=Zkj enc n l (fun y hy=>hl y (by simp [hy])) k (by simpa using hk) r
  refine ⟨r',?_⟩
  rw [List.map_cons,List.flatten_cons,List.append_assoc,show n * (k+1)=n+n * k by rw [Nat.mul_succ,Nat.add_comm],Zbr _ (hl x (by simp)),h]
  rfl
theorem Zcf {α:Type} (enc:α->List UInt8) (n:Nat):∀ (l:List α) (hl:∀ x ∈ l,(enc x).length=n),(l.map enc).flatten.length=n * l.length
 | [],_=>rfl
 | x :: l,hl=>by
  rw [List.map_cons,List.flatten_cons,List.length_append,hl x (by simp),Zcf enc n l fun y hy=>hl y (by simp [hy]),List.length_cons,Nat.mul_succ,Nat.add_comm]
theorem Zdo {s:StM} (h:MayS s) {f:FileM} (hf:f ∈ s.files):f.1.size<=8/\f.2.2.size<=24/\0<=f.2.1/\f.2.1<=1073741824:=by
 obtain ⟨j,hj,rfl⟩:=List.getElem_of_mem hf
 rcases h.fv j hj with h0 | ⟨h1,h2,h3,h4⟩
 ·rw [Zmx h0]
  exact ⟨by decide,by decide,by decide,by decide⟩
 ·have hn:s.files[j].1 ≠ e0:=fun e=>by
   rw [e] at h1
   have:findN s.files e0=none:=rfl
   rw [this] at h1
   cases h1
  have:=(own_name h hj hn).1
  refine ⟨?_,h4,by omega,h3⟩
  have:=this.1
  simp only [dirs.okN,Bool.and_eq_true,decide_eq_true_eq] at this
  exact this.1.2
def Zn2 (b:List UInt8):StM:=⟨(List.range 6).map fun i=>flT (b.drop (34+38 * i)),(List.range 3).map fun i=>mkT (b.drop (4+10 * i)),num (b.take 4)⟩
theorem Zf9 {s:StM} (h:MayS s):(imgB s).length=288:=by
 simp only [imgB,List.length_append,Zcm,Zio,Zcf mkB 10 s.marks (fun m _=>Zeu m),Zcf flB 38 s.files (fun f hf=>Zgb (Zdo h hf).1 (Zdo h hf).2.1),h.fl,h.ml]
theorem list_range {α:Type} {l:List α} {n:Nat} (h:l.length=n) {f:Nat->α} (hf:∀ k (hk:k < l.length),f k=l[k]):(List.range n).map f=l:=by
 apply List.ext_getElem
 ·simp [h]
 ·intro i h1 h2
  simp [hf i h2]
theorem parse_img {s:StM} (h:MayS s):Zn2 (imgB s)=s:=by
 have hm:∀ m ∈ s.marks,(mkB m).length=10:=fun m _=>Zeu m
 have hf:∀ f ∈ s.files,(flB f).length=38:=fun f hf=>Zgb (Zdo h hf).1 (Zdo h hf).2.1
 have l1:=Zcf mkB 10 s.marks hm
 rw [h.ml] at l1
 obtain ⟨fs,ms,ep⟩:=s
 simp only [Zn2,StM.mk.injEq]
 refine ⟨?_,?_,?_⟩
 ·refine list_range h.fl fun k hk=>?_
  obtain ⟨r',hr⟩:=Zkj flB 38 fs hf k hk (nul 26)
  have:(imgB ⟨fs,ms,ep⟩).drop (34+38 * k)=flB fs[k]++r':=by
   rw [show 34+38 * k=4+(30+38 * k) by omega]
   unfold imgB
   rw [Zbr _ (by simp),Zbr _ l1,hr]
  rw [this]
  obtain ⟨a,b,c,d⟩:=Zdo h (List.getElem_mem hk)
  exact flT_flB a b c d r'
 ·refine list_range h.ml fun k hk=>?_
  obtain ⟨r',hr⟩:=Zkj mkB 10 ms hm k hk ((fs.map flB).flatten++nul 26)
  have:(imgB ⟨fs,ms,ep⟩).drop (4+10 * k)=mkB ms[k]++r':=by
   unfold imgB
   rw [Zbr _ (by simp),hr]
  rw [this]
  exact mkT_mkB (h.mv _ (List.getElem_mem hk)) r'
 ·unfold imgB
  rw [Ze0 (by simp)]
  exact Zc1 h.ep.1 (by have:=h.ep.2;simp only at this ⊢;omega)

def secs:Nat->List UInt8->List ByteArray
 | 0,_=>[]
 | n+1,l=>ofL (l.take 32) :: secs n (l.drop 32)
def catB (l:List ByteArray):List UInt8:=(l.map lst).flatten
@[simp] theorem Zgz:∀ (n:Nat) (l:List UInt8),(secs n l).length=n
 | 0,_=>rfl
 | n+1,l=>by simp [secs,Zgz n]
theorem Zmo:∀ (n:Nat) (l:List UInt8) (i:Nat) (h:i < (secs n l).length),(secs n l)[i]=ofL ((l.drop (32 * i)).take 32)
 | 0,_,i,h=>absurd h (by simp [secs])
 | n+1,l,0,_=>by simp [secs]
 | n+1,l,i+1,h=>by
  simp only [secs,List.getElem_cons_succ]
  rw [Zmo n _ i,List.drop_drop]
  congr 3
  omega
theorem cat_secs:∀ (n:Nat) (l:List UInt8),l.length=32 * n->catB (secs n l)=l
 | 0,l,h=>by simp at h;subst h;rfl
 | n+1,l,h=>by
  have:=cat_secs n (l.drop 32) (by simp;omega)
  unfold catB at this
  simp only [secs,catB,List.map_cons,List.flatten_cons,Zkh,this,List.take_append_drop]
theorem secs_size {n:Nat} {l:List UInt8} (h:l.length=32 * n):∀ a ∈ secs n l,a.size=32:=by
 intro a ha
 obtain ⟨i,hi,rfl⟩:=List.getElem_of_mem ha
 rw [Zmo,ofL_size,List.length_take,List.length_drop]
 rw [Zgz] at hi
 omega
def putI (s:StM):List ByteArray:=cond (mayS s) (secs 9 (imgB s)) []
theorem Zjp {s:StM} (h:MayS s):putI s=secs 9 (imgB s):=by unfold putI;rw [Zkg.2 h];rfl
theorem putI_no {s:StM} (h:¬ MayS s):putI s=[]:=by
 unfold putI
 cases hb:mayS s with
 | false=>rfl
 | true=>exact absurd (Zkg.1 hb) h
theorem Zcc {s:StM} (h:MayS s):(putI s).length=9:=by rw [Zjp h,Zgz]
theorem putI_size {s:StM}:∀ a ∈ putI s,a.size=32:=by
 by_cases h:MayS s
 ·rw [Zjp h];exact secs_size (Zf9 h)
 ·rw [putI_no h];simp
theorem Zjt {s:StM} (h:MayS s):catB (putI s)=imgB s:=by rw [Zjp h,cat_secs 9 _ (Zf9 h)]
theorem Zim {s:StM} (h:MayS s):Zn2 (catB (putI s))=s:=by rw [Zjt h,parse_img h]
theorem putI_inj {s t:StM} (hs:MayS s) (ht:MayS t) (h:putI s=putI t):s=t:=by rw [<- Zim hs,h,Zim ht]
def takeI (l:List ByteArray):Option StM:=if l ≠ []/\putI (Zn2 (catB l))=l then some (Zn2 (catB l)) else none
theorem Zer {l:List ByteArray} {s:StM}:takeI l=some s ↔ MayS s/\putI s=l:=by
 unfold takeI
 constructor
 ·intro h
  split at h
  ·rename_i hl
   simp only [Option.some.injEq] at h
   subst h
   refine ⟨?_,hl.2⟩
   apply Classical.byContradiction
   intro hn
   exact hl.1 (by rw [<- hl.2,putI_no hn])
  ·cases h
 ·rintro ⟨h,rfl⟩
  rw [Zim h,if_pos ⟨fun e=>by have:=Zcc h;rw [e] at this;simp at this,rfl⟩]
theorem takeI_put {s:StM} (h:MayS s):takeI (putI s)=some s:=Zer.2 ⟨h,rfl⟩

def Zbi (a:List ByteArray):Nat->List ByteArray->List (Int × ByteArray)
 | _,[]=>[]
 | i,x :: r=>if a[i]?=some x then Zbi a (i+1) r else ((i:Int),x) :: Zbi a (i+1) r
def diffI (a b:List ByteArray):List (Int × ByteArray):=Zbi a 0 b
theorem diff_snoc (a:List ByteArray):∀ (r:List ByteArray) (i:Nat) (x:ByteArray),Zbi a i (r++[x])=Zbi a i r++(if a[i+r.length]?=some x then [] else [(((i+r.length:Nat):Int),x)])
 | [],i,x=>by
  simp only [List.nil_append,Zbi,List.length_nil,Nat.add_zero]
  all_goals (split <;> simp)
 | y :: r,i,x=>by
  have:=diff_snoc a r (i+1) x
  simp only [List.cons_append,Zbi,List.length_cons]
  rw [this,show i+1+r.length=i+(r.length+1) by omega]
  split <;> simp
theorem Zkk (a b:List ByteArray) (i:Nat) (h:i < b.length):diffI a (b.take (i+1))=diffI a (b.take i)++(if a[i]?=some b[i] then [] else [((i:Int),b[i])]):=by
 unfold diffI
 rw [List.take_succ_eq_append_getElem h,diff_snoc,List.length_take,Nat.min_eq_left (by omega),Nat.zero_add]
theorem diff_self (a:List ByteArray):diffI a a=[]:=by
 have:∀ k,k<=a.length->diffI a (a.take k)=[]:=by
  intro k
  induction k with
  | zero=>intro _;rfl
  | succ k ih =>
   intro hk
   rw [Zkk a a k (by omega),ih (by omega),if_pos (List.getElem?_eq_getElem (by omega))]
   rfl
 have h:=this a.length (by omega)
 rwa [List.take_length] at h
theorem Zm5 (a:List ByteArray):∀ (b:List ByteArray) (i:Nat),(Zbi a i b).length<=b.length
 | [],_=>by simp [Zbi]
 | x :: b,i=>by
  have:=Zm5 a b (i+1)
  unfold Zbi
  split <;> simp <;> omega
theorem Zm4 {a:List ByteArray}:∀ {b:List ByteArray} {i:Nat},Zbi a i b=[]->∀ j (h:j < b.length),a[i+j]?=some b[j]
 | [],_,_,j,h=>absurd h (by simp)
 | x :: b,i,hd,0,_=>by
  unfold Zbi at hd
  split at hd
  ·simpa
  ·cases hd
 | x :: b,i,hd,j+1,h=>by
  unfold Zbi at hd
  split at hd
  ·have:=Zm4 hd j (by simpa using h)
   rw [show i+(j+1)=i+1+j by omega,this]
   rfl
  ·cases hd
theorem diff_eq {a b:List ByteArray} (hl:a.length=b.length) (h:diffI a b=[]):a=b:=by
 apply List.ext_getElem hl
 intro i h1 h2
 have:=Zm4 h i h2
 rw [Nat.zero_add,List.getElem?_eq_getElem h1] at this
 exact Option.some.inj this
theorem diff_next {a b:List ByteArray}:∀ (n i:Nat),b.length - i=n->∀ {p:Int × ByteArray} {D:List (Int × ByteArray)},Zbi a i (b.drop i)=p :: D->∃ (j:Nat) (hj:j < b.length),i<=j/\p=((j:Int),b[j])/\a[j]? ≠ some b[j]/\(∀ k,i<=k->k < j->a[k]?=b[k]?)/\Zbi a (j+1) (b.drop (j+1))=D
 | 0,i,hn,p,D,h=>by
  rw [List.drop_eq_nil_of_le (by omega)] at h
  cases h
 | n+1,i,hn,p,D,h=>by
  rw [List.drop_eq_getElem_cons (by omega:i < b.length)] at h
  unfold Zbi at h
  split at h
  ·rename_i he
   obtain ⟨j,hj,h1,h2,h3,h4,h5⟩:=diff_next n (i+1) (by omega) h
   refine ⟨j,hj,by omega,h2,h3,fun k hk1 hk2=>?_,h5⟩
   by_cases hki:k=i
   ·subst hki
    rw [he,List.getElem?_eq_getElem]
   ·exact h4 k (by omega) hk2
  ·rename_i he
   injection h with h1 h2
   exact ⟨i,by omega,by omega,h1.symm,he,fun k _ _=>by omega,h2⟩
def mid (a b:List ByteArray) (k:Nat):List ByteArray:=b.take k++a.drop k
theorem Zkf {a b:List ByteArray} (hl:a.length=b.length) {i:Nat} (hi:i<=b.length) (k:Nat):(mid a b i)[k]?=if k < i then b[k]? else a[k]?:=by
 have:(b.take i).length=i:=by rw [List.length_take];omega
 simp only [mid,List.getElem?_append,this,List.getElem?_drop,List.getElem?_take]
 by_cases h:k < i
 ·simp [h]
 ·rw [if_neg h,if_neg h]
  congr 1
  omega
theorem mid_alike {a b:List ByteArray} (hl:a.length=b.length) {i j:Nat} (hij:i<=j) (hj:j<=b.length) (h:∀ k,i<=k->k < j->a[k]?=b[k]?):mid a b i=mid a b j:=by
 apply List.ext_getElem?
 intro k
 rw [Zkf hl (by omega),Zkf hl hj]
 by_cases h1:k < i
 ·rw [if_pos h1,if_pos (by omega)]
 ·by_cases h2:k < j
  ·rw [if_neg h1,if_pos h2,h k (by omega) h2]
  ·rw [if_neg h1,if_neg h2]
theorem mid_set {a b:List ByteArray} (hl:a.length=b.length) {j:Nat} (hj:j < b.length):(mid a b j).set j b[j]=mid a b (j+1):=by
 have hlen:(mid a b j).length=b.length:=by simp [mid];omega
 apply List.ext_getElem?
 intro k
 rw [Zkf hl (by omega),List.getElem?_set]
 by_cases h1:j=k
 ·subst h1
  rw [if_pos rfl,if_pos (by omega),if_pos (by omega),List.getElem?_eq_getElem]
 ·rw [if_neg h1,Zkf hl (by omega)]
  by_cases h2:k < j
  ·rw [if_pos h2,if_pos (by omega)]
  ·rw [if_neg h2,if_neg (by omega)]
theorem mid_all {a b:List ByteArray} (hl:a.length=b.length) {i:Nat} (hi:i<=b.length) (h:Zbi a i (b.drop i)=[]):mid a b i=b:=by
 have:=mid_alike hl hi (Nat.le_refl _) (fun k h1 h2=>by
  have:=Zm4 h (k - i) (by simp;omega)
  rw [show i+(k - i)=k by omega] at this
  rw [this,List.getElem_drop,List.getElem?_eq_getElem h2]
  congr 2
  omega)
 rw [this]
 simp [mid,hl ▸ List.drop_length (l:=a)]
theorem mid_zero (a b:List ByteArray):mid a b 0=a:=by simp [mid]
end Go.Proofs.Ytonebjgdhachcaa.ima
