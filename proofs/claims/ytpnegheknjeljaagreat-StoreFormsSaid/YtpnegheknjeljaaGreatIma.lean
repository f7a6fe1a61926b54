/- What lasts, as sectors (reckoning alone). -/
import Derived.Test.YtpnegheknjeljaaGreatSmy
import Derived.Test.YtpnegheknjeljaaGreatBym
namespace Go.Proofs.YtpnegheknjeljaaGreat.ima
open Go Go.RowKit eng fil dirs pck may sta
open fileFronts
open pck hiding F F20 F21
open dirs hiding shR shRl shRR flR lpR cutR f0 f1 f2 f3
open may hiding r1 r2 r3 r4 r5
set_option linter.unusedVariables false
set_option linter.unusedSimpArgs false
set_option maxRecDepth 100000

def nul (n:Nat):List UInt8:=List.replicate n 0
@[simp] theorem Zmb (n:Nat):(nul n).length=n:=by simp [nul]
def lst (a:ByteArray):List UInt8:=a.data.toList
@[simp] theorem lst_length (a:ByteArray):(lst a).length=a.size:=by simp [lst]
theorem Zqd {a b:ByteArray} (h:lst a=lst b):a=b:=by
 apply ByteArray.ext
 exact Array.toList_inj.1 h
def ofL (l:List UInt8):ByteArray:=⟨l.toArray⟩
@[simp] theorem Znm (l:List UInt8):lst (ofL l)=l:=by simp [lst,ofL]
@[simp] theorem ofL_lst (a:ByteArray):ofL (lst a)=a:=Zqd (Znm _)
@[simp] theorem ofL_size (l:List UInt8):(ofL l).size=l.length:=by rw [<- lst_length,Znm]
def txB (m:Nat) (a:ByteArray):List UInt8:=UInt8.ofNat a.size :: (lst a++nul (m - a.size))
theorem Zdn {m:Nat} {a:ByteArray} (h:a.size<=m):(txB m a).length=m+1:=by
 simp only [txB,List.length_cons,List.length_append,lst_length,Zmb];omega
def txT (m:Nat) (l:List UInt8):ByteArray:=ofL ((l.drop 1).take (min (l.getD 0 0).toNat m))
theorem txT_txB {m:Nat} {a:ByteArray} (h:a.size<=m) (hm:m<=255) (r:List UInt8):txT m (txB m a++r)=a:=by
 apply Zqd
 have h1:(UInt8.ofNat a.size).toNat=a.size:=by rw [UInt8.toNat_ofNat'];omega
 simp only [txT,txB,Znm,List.cons_append,List.drop_succ_cons,List.drop_zero,List.getD_cons_zero,h1,Nat.min_eq_left h]
 rw [List.append_assoc,List.take_append_of_le_length (by simp),List.take_of_length_le (by simp)]

def mkB (m:MarkM):List UInt8:=low m.1 4++(low m.2.1 1++(low m.2.2.1 1++low m.2.2.2 4))
def flB (f:FileM):List UInt8:=txB 8 f.1++(low f.2.1 4++txB 24 f.2.2)
def imgB (s:StM):List UInt8:=low s.epoch 4++((s.marks.map mkB).flatten++((s.files.map flB).flatten++nul 26))
theorem Zg3 (m:MarkM):(mkB m).length=10:=by simp [mkB]
theorem Zj1 {f:FileM} (h1:f.1.size<=8) (h2:f.2.2.size<=24):(flB f).length=38:=by simp [flB,Zdn h1,Zdn h2]
def mkT (l:List UInt8):MarkM:=(num (l.take 4),num ((l.drop 4).take 1),num ((l.drop 5).take 1),num ((l.drop 6).take 4))
def flT (l:List UInt8):FileM:=(txT 8 l,num ((l.drop 9).take 4),txT 24 (l.drop 13))
theorem Zh4 {α:Type} {a b:List α} {n:Nat} (h:a.length=n):(a++b).take n=a:=by rw [List.take_append_of_le_length (by omega),List.take_of_length_le (by omega)]
theorem Zca {α:Type} {a b:List α} {n:Nat} (k:Nat) (h:a.length=n):(a++b).drop (n+k)=b.drop k:=by rw [List.drop_append,List.drop_eq_nil_of_le (by omega),List.nil_append];congr 1;omega
theorem mkT_mkB {m:MarkM} (h:0<=m.1/\m.1<=1073741824/\0<=m.2.1/\m.2.1<=3/\0<=m.2.2.1/\m.2.2.1<=6/\0<=m.2.2.2/\m.2.2.2<=1073741824) (r:List UInt8):mkT (mkB m++r)=m:=by
 obtain ⟨a,b,c,d⟩:=m
 simp only at h
 have e1:(mkB (a,b,c,d)++r).take 4=low a 4:=by simp only [mkB,List.append_assoc];exact Zh4 (by simp)
 have e2:((mkB (a,b,c,d)++r).drop 4).take 1=low b 1:=by
  simp only [mkB,List.append_assoc]
  rw [show (4:Nat)=4+0 from rfl,Zca 0 (by simp),List.drop_zero];exact Zh4 (by simp)
 have e3:((mkB (a,b,c,d)++r).drop 5).take 1=low c 1:=by
  simp only [mkB,List.append_assoc]
  rw [show (5:Nat)=4+(1+0) from rfl,Zca _ (by simp),Zca _ (by simp),List.drop_zero];exact Zh4 (by simp)
 have e4:((mkB (a,b,c,d)++r).drop 6).take 4=low d 4:=by
  simp only [mkB,List.append_assoc]
  rw [show (6:Nat)=4+(1+(1+0)) from rfl,Zca _ (by simp),Zca _ (by simp),Zca _ (by simp),List.drop_zero];exact Zh4 (by simp)
 simp only [mkT,e1,e2,e3,e4]
 rw [Zef h.1 (by omega),Zef h.2.2.1 (by omega),Zef (by omega) (by omega),Zef (by omega) (by omega)]
theorem flT_flB {f:FileM} (h1:f.1.size<=8) (h2:f.2.2.size<=24) (h3:0<=f.2.1) (h4:f.2.1<=1073741824) (r:List UInt8):flT (flB f++r)=f:=by
 obtain ⟨a,v,b⟩:=f
 simp only at h1 h2 h3 h4
 have l1:=Zdn h1
 have l2:=Zdn h2
 have e1:((flB (a,v,b)++r).drop 9).take 4=low v 4:=by
  simp only [flB,List.append_assoc]
  rw [show (9:Nat)=9+0 from rfl,Zca _ l1,List.drop_zero];exact Zh4 (by simp)
 have e2:(flB (a,v,b)++r).drop 13=txB 24 b++r:=by
  simp only [flB,List.append_assoc]
  rw [show (13:Nat)=9+(4+0) from rfl,Zca _ l1,Zca _ (by simp),List.drop_zero]
 simp only [flT,e1,e2]
 rw [Zef h3 (by omega),txT_txB h2 (by omega)]
 simp only [flB,List.append_assoc]
 rw [txT_txB h1 (by omega)]
theorem Znr {α:Type} (enc:α->List UInt8) (n:Nat):∀ (l:List α) (hl:∀ x ∈ l,(enc x).length=n) (k:Nat) (hk:k < l.length) (r:List UInt8),∃ r',((l.map enc).flatten++r).drop (n * k)=enc l[k]++r'
 | [],_,k,hk,_=>absurd hk (by simp)
 | x :: l,hl,0,_,r=>⟨(l.map enc).flatten++r,by simp⟩
 | x :: l,hl,k+1,hk,r=>by
  obtain ⟨r',h⟩:=Znr enc n l (fun y hy=>hl y (by simp [hy])) k (by simpa using hk) r
  refine ⟨r',?_⟩
  rw [List.map_cons,List.flatten_cons,List.append_assoc,show n * (k+1)=n+n * k by rw [Nat.mul_succ,Nat.add_comm],Zca _ (hl x (by simp)),h]
  rfl
theorem Zc9 {α:Type} (enc:α->List UInt8) (n:Nat):∀ (l:List α) (hl:∀ x ∈ l,(enc x).length=n),(l.map enc).flatten.length=n * l.length
 | [],_=>rfl
 | x :: l,hl=>by
  rw [List.map_cons,List.flatten_cons,List.length_append,hl x (by simp),Zc9 enc n l fun y hy=>hl y (by simp [hy]),List.length_cons,Nat.mul_succ,Nat.add_comm]
theorem Zeu {s:StM} (h:MayS s) {f:FileM} (hf:f ∈ s.files):f.1.size<=8/\f.2.2.size<=24/\0<=f.2.1/\f.2.1<=1073741824:=by
 obtain ⟨j,hj,rfl⟩:=List.getElem_of_mem hf
 rcases h.fv j hj with h0 | ⟨h1,h2,h3,h4⟩
 ·rw [isE0_eq h0]
  exact ⟨by decide,by decide,by decide,by decide⟩
 ·have hn:s.files[j].1 ≠ e0:=fun e=>by
   rw [e] at h1
   have:findN s.files e0=none:=rfl
   rw [this] at h1
   cases h1
  have:=(own_name h hj hn).1
  refine ⟨?_,h4,by omega,h3⟩
  have:=this.1
  simp only [dirs.okN,Bool.and_eq_true,decide_eq_true_eq] at this
  exact this.1.2
def Zpq (b:List UInt8):StM:=⟨(List.range 6).map fun i=>flT (b.drop (34+38 * i)),(List.range 3).map fun i=>mkT (b.drop (4+10 * i)),num (b.take 4)⟩
theorem Zj0 {s:StM} (h:MayS s):(imgB s).length=288:=by
 simp only [imgB,List.length_append,Zdp,Zmb,Zc9 mkB 10 s.marks (fun m _=>Zg3 m),Zc9 flB 38 s.files (fun f hf=>Zj1 (Zeu h hf).1 (Zeu h hf).2.1),h.fl,h.ml]
theorem list_range {α:Type} {l:List α} {n:Nat} (h:l.length=n) {f:Nat->α} (hf:∀ k (hk:k < l.length),f k=l[k]):(List.range n).map f=l:=by
 apply List.ext_getElem
 ·simp [h]
 ·intro i h1 h2
  simp [hf i h2]
theorem parse_img {s:StM} (h:MayS s):Zpq (imgB s)=s:=by
 have hm:∀ m ∈ s.marks,(mkB m).length=10:=fun m _=>Zg3 m
 have hf:∀ f ∈ s.files,(flB f).length=38:=fun f hf=>Zj1 (Zeu h hf).1 (Zeu h hf).2.1
 have l1:=Zc9 mkB 10 s.marks hm
 rw [h.ml] at l1
 obtain ⟨fs,ms,ep⟩:=s
 simp only [Zpq,StM.mk.injEq]
 refine ⟨?_,?_,?_⟩
 ·refine list_range h.fl fun k hk=>?_
  obtain ⟨r',hr⟩:=Znr flB 38 fs hf k hk (nul 26)
  have:(imgB ⟨fs,ms,ep⟩).drop (34+38 * k)=flB fs[k]++r':=by
   rw [show 34+38 * k=4+(30+38 * k) by omega]
   unfold imgB
   rw [Zca _ (by simp),Zca _ l1,hr]
  rw [this]
  obtain ⟨a,b,c,d⟩:=Zeu h (List.getElem_mem hk)
  exact flT_flB a b c d r'
 ·refine list_range h.ml fun k hk=>?_
  obtain ⟨r',hr⟩:=Znr mkB 10 ms hm k hk ((fs.map flB).flatten++nul 26)
  have:(imgB ⟨fs,ms,ep⟩).drop (4+10 * k)=mkB ms[k]++r':=by
   unfold imgB
   rw [Zca _ (by simp),hr]
  rw [this]
  exact mkT_mkB (h.mv _ (List.getElem_mem hk)) r'
 ·unfold imgB
  rw [Zh4 (by simp)]
  exact Zef h.ep.1 (by have:=h.ep.2;simp only at this ⊢;omega)

def secs:Nat->List UInt8->List ByteArray
 | 0,_=>[]
 | n+1,l=>ofL (l.take 32) :: secs n (l.drop 32)
def catB (l:List ByteArray):List UInt8:=(l.map lst).flatten
@[simp] theorem Zkt:∀ (n:Nat) (l:List UInt8),(secs n l).length=n
 | 0,_=>rfl
 | n+1,l=>by simp [secs,Zkt n]
theorem Zot:∀ (n:Nat) (l:List UInt8) (i:Nat) (h:i < (secs n l).length),(secs n l)[i]=ofL ((l.drop (32 * i)).take 32)
 | 0,_,i,h=>absurd h (by simp [secs])
 | n+1,l,0,_=>by simp [secs]
 | n+1,l,i+1,h=>by
  simp only [secs,List.getElem_cons_succ]
  rw [Zot n _ i,List.drop_drop]
  congr 3
  omega
theorem cat_secs:∀ (n:Nat) (l:List UInt8),l.length=32 * n->catB (secs n l)=l
 | 0,l,h=>by simp at h;subst h;rfl
 | n+1,l,h=>by
  have:=cat_secs n (l.drop 32) (by simp;omega)
  unfold catB at this
  simp only [secs,catB,List.map_cons,List.flatten_cons,Znm,this,List.take_append_drop]
theorem secs_size {n:Nat} {l:List UInt8} (h:l.length=32 * n):∀ a ∈ secs n l,a.size=32:=by
 intro a ha
 obtain ⟨i,hi,rfl⟩:=List.getElem_of_mem ha
 rw [Zot,ofL_size,List.length_take,List.length_drop]
 rw [Zkt] at hi
 omega
def putI (s:StM):List ByteArray:=cond (mayS s) (secs 9 (imgB s)) []
theorem Zmz {s:StM} (h:MayS s):putI s=secs 9 (imgB s):=by unfold putI;rw [Zmd.2 h];rfl
theorem putI_no {s:StM} (h:¬ MayS s):putI s=[]:=by
 unfold putI
 cases hb:mayS s with
 | false=>rfl
 | true=>exact absurd (Zmd.1 hb) h
theorem Zkv {s:StM} (h:MayS s):(putI s).length=9:=by rw [Zmz h,Zkt]
theorem putI_size {s:StM}:∀ a ∈ putI s,a.size=32:=by
 by_cases h:MayS s
 ·rw [Zmz h];exact secs_size (Zj0 h)
 ·rw [putI_no h];simp
theorem Zpc {s:StM} (h:MayS s):catB (putI s)=imgB s:=by rw [Zmz h,cat_secs 9 _ (Zj0 h)]
theorem parse_putI {s:StM} (h:MayS s):Zpq (catB (putI s))=s:=by rw [Zpc h,parse_img h]
def takeI (l:List ByteArray):Option StM:=if l ≠ []/\putI (Zpq (catB l))=l then some (Zpq (catB l)) else none
theorem Zjt {l:List ByteArray} {s:StM}:takeI l=some s ↔ MayS s/\putI s=l:=by
 unfold takeI
 constructor
 ·intro h
  split at h
  ·rename_i hl
   simp only [Option.some.injEq] at h
   subst h
   refine ⟨?_,hl.2⟩
   apply Classical.byContradiction
   intro hn
   exact hl.1 (by rw [<- hl.2,putI_no hn])
  ·cases h
 ·rintro ⟨h,rfl⟩
  rw [parse_putI h,if_pos ⟨fun e=>by have:=Zkv h;rw [e] at this;simp at this,rfl⟩]

def Zpb (a:List ByteArray):Nat->List ByteArray->List (Int × ByteArray)
 | _,[]=>[]
 | i,x :: r=>if a[i]?=some x then Zpb a (i+1) r else ((i:Int),x) :: Zpb a (i+1) r
def diffI (a b:List ByteArray):List (Int × ByteArray):=Zpb a 0 b
end Go.Proofs.YtpnegheknjeljaaGreat.ima
