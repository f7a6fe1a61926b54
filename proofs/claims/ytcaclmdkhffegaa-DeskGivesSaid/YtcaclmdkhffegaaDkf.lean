/- Texts joined. -/
import Derived.Test.YtcaclmdkhffegaaLdk
import Derived.Test.YtcaclmdkhffegaaDkn
section
/- The document's words on leases and the project's come to the same, where the leases may be. -/
namespace Go.Proofs.Ytcaclmdkhffegaa.dke
open Go Go.RowKit eng lem lea leb lgw lgr lam lcq lgq
open lec (Zbm heldL barsL isC)
open lhq (holdQ Zn6)
open ldk (freeQ Zcd askQ)
open dkm (Desk clashW freeD Zck lendsD Zb5 askD DI)
set_option linter.unusedVariables false
set_option linter.unusedSimpArgs false
theorem Zh7 {α:Type} {r:α->α->Prop} (irr:∀ a,¬ r a a) (asy:∀ a b,r a b->¬ r b a):∀ {a b:List α},a.Pairwise r->b.Pairwise r->(∀ x,x ∈ a ↔ x ∈ b)->a=b
 | [],[],_,_,_=>rfl
 | [],y :: b,_,_,h=>by have:=(h y).2 (by simp);simp at this
 | x :: a,[],_,_,h=>by have:=(h x).1 (by simp);simp at this
 | x :: a,y :: b,ha,hb,h=>by
  obtain ⟨ha1,ha2⟩:=List.pairwise_cons.1 ha
  obtain ⟨hb1,hb2⟩:=List.pairwise_cons.1 hb
  have hxy:x=y:=by
   rcases List.mem_cons.1 ((h x).1 (by simp)) with e | hx
   ·exact e
   ·rcases List.mem_cons.1 ((h y).2 (by simp)) with e | hy
    ·exact e.symm
    ·exact absurd (ha1 y hy) (asy _ _ (hb1 x hx))
  subst hxy
  rw [Zh7 irr asy ha2 hb2 fun z=>⟨fun hz=>?_,fun hz=>?_⟩]
  ·rcases List.mem_cons.1 ((h z).1 (by simp [hz])) with e | hz'
   ·subst e;exact absurd (ha1 z hz) (irr z)
   ·exact hz'
  ·rcases List.mem_cons.1 ((h z).2 (by simp [hz])) with e | hz'
   ·subst e;exact absurd (hb1 z hz) (irr z)
   ·exact hz'
theorem lt_asy (a b:LeM) (h:ltL a b):¬ ltL b a:=by unfold ltL at *;omega
theorem Zq5 (a:LeM):¬ ltL a a:=by unfold ltL;omega
theorem holds_mem {l:List LeM} {t c f:Int} (h:Zhr l t c f ≠ 0):∃ y ∈ l,y.1=c/\y.2.1=f:=by
 unfold Zhr at h
 split at h
 ·rename_i x hx
  have:=List.find?_some hx
  simp [isL] at this
  exact ⟨x,List.mem_of_find?_eq_some hx,this⟩
 ·exact absurd rfl h
theorem clash_eq {l:List LeM} (h:MayL l) (t c f m:Int):Zb1 l t c f m 3=Zbm l t c f m:=by
 obtain ⟨_,hok,hpw⟩:=Zho.1 h
 refine Zh7 (r:=fun a b:Int=>a < b) (fun a=>by omega) (fun a b h=>by omega) ?_ ?_ fun x=>?_
 ·exact List.Pairwise.sublist List.filter_sublist (by show List.Pairwise _ [(1:Int),2,3];simp)
 ·rw [Zbm,List.pairwise_map]
  refine List.Pairwise.imp_of_mem ?_ (hpw.sublist List.filter_sublist)
  intro a b ha hb hab
  have h1:=(List.mem_filter.1 ha).2
  have h2:=(List.mem_filter.1 hb).2
  simp only [isC,Bool.and_eq_true,beq_iff_eq] at h1 h2
  rcases hab with hab | hab <;> omega
 ·have hk:∀ y ∈ l,Zhr l t y.1 y.2.1=heldL y t:=fun y hy=>by rw [holds_of h hy];rfl
  constructor
  ·intro hx
   obtain ⟨_,hq⟩:=List.mem_filter.1 hx
   simp only [isQ,Zn6 h] at hq
   obtain ⟨y,hy,h1,h2⟩:=holds_mem (l:=l) (t:=t) (c:=x) (f:=f) (fun h0=>by simp [h0] at hq)
   subst h1 h2
   rw [hk y hy] at hq
   refine List.mem_map.2 ⟨y,List.mem_filter.2 ⟨hy,?_⟩,rfl⟩
   simpa [isC,barsL] using hq
  ·intro hx
   obtain ⟨y,hy,rfl⟩:=List.mem_map.1 hx
   obtain ⟨hyl,hc⟩:=List.mem_filter.1 hy
   clear hy
   simp only [isC,Bool.and_eq_true,beq_iff_eq] at hc
   obtain ⟨h1,h2⟩:=hc
   subst h1
   have ho:=hok y hyl
   refine List.mem_filter.2 ⟨?_,?_⟩
   ·show y.1 ∈ [(1:Int),2,3]
    have e1:y.1=1 \/ y.1=2 \/ y.1=3:=by have:=ho.1;have:=ho.2.1;omega
    rcases e1 with e | e | e <;> simp [e]
   ·simp only [isQ,Zn6 h]
    rw [hk y hyl]
    simpa [barsL] using h2
theorem after_iff (x y:LeM):Zbo x y=true ↔ ltL x y:=by simp [Zbo,ltL];omega
theorem one_other {x y:LeM} (h:¬ (y.1=x.1/\y.2.1=x.2.1)):oneQ x y=x:=by rw [oneQ,if_neg h]
theorem Zia {l:List LeM} {x:LeM} (h:∀ y ∈ l,¬ (y.1=x.1/\y.2.1=x.2.1)):Zeh l x=x:=by
 induction l generalizing x with
 | nil=>rfl
 | cons y l ih =>
  show Zeh l (oneQ x y)=x
  rw [one_other (h y (by simp))]
  exact ih fun z hz=>h z (by simp [hz])
theorem merge_some {l:List LeM} {x y:LeM} (h:MayL l) (hy:y ∈ l) (hk:y.1=x.1/\y.2.1=x.2.1):Zeh l x=Zei y x:=by
 obtain ⟨as',bs,rfl⟩:=List.append_of_mem hy
 have hpw:=(Zho.1 h).2.2
 obtain ⟨_,hb,hab⟩:=List.pairwise_append.1 hpw
 obtain ⟨hyb,_⟩:=List.pairwise_cons.1 hb
 have h1:∀ z ∈ as',¬ (z.1=x.1/\z.2.1=x.2.1):=fun z hz he=>by
  have:=hab z hz y (by simp)
  unfold ltL at this;omega
 have h2:oneQ x y=Zei y x:=by
  rw [oneQ,if_pos hk,Zei,hk.1,hk.2,Int.max_comm x.2.2.1,Int.max_comm x.2.2.2]
 have h3:∀ z ∈ bs,¬ (z.1=(Zei y x).1/\z.2.1=(Zei y x).2.1):=fun z hz he=>by
  have:=hyb z hz
  simp only [Zei] at he
  unfold ltL at this;omega
 show List.foldl oneQ x (as'++y :: bs)=_
 rw [List.foldl_append]
 show List.foldl oneQ (oneQ (Zeh as' x) y) bs=_
 rw [Zia h1,h2]
 exact Zia h3
theorem put_pw {D:List LeM} {X:LeM} (hD:D.Pairwise ltL) (hk:∀ y ∈ D,¬ (y.1=X.1/\y.2.1=X.2.1)):(putQ D X).Pairwise ltL:=by
 unfold putQ
 have hp:∀ j (hj:j < D.length),j < D.findIdx (Zbo X)->ltL D[j] X:=fun j hj h=>by
  have h0:Zbo X D[j]=false:=by simpa using List.not_of_lt_findIdx h
  have:=hk D[j] (List.getElem_mem hj)
  have h1:¬ ltL X D[j]:=fun hl=>by rw [(after_iff _ _).2 hl] at h0;cases h0
  unfold ltL at *;omega
 have hq:∀ j (hj:j < D.length),D.findIdx (Zbo X)<=j->ltL X D[j]:=fun j hj h=>by
  have h0:ltL X (D[D.findIdx (Zbo X)]'(by omega)):=(after_iff _ _).1 (List.findIdx_getElem (w:=by omega))
  rcases Nat.lt_or_ge (D.findIdx (Zbo X)) j with hlt | hge
  ·have:=List.pairwise_iff_getElem.1 hD _ _ (by omega) hj hlt
   unfold ltL at *;omega
  ·have:D.findIdx (Zbo X)=j:=by omega
   subst this;exact h0
 generalize D.findIdx (Zbo X)=p at *
 have ht:∀ y ∈ D.take p,ltL y X:=fun y hy=>by
  obtain ⟨j,hj,rfl⟩:=List.getElem_of_mem hy
  rw [List.getElem_take]
  rw [List.length_take] at hj
  exact hp j (by omega) (by omega)
 have hd:∀ y ∈ D.drop p,ltL X y:=fun y hy=>by
  obtain ⟨j,hj,rfl⟩:=List.getElem_of_mem hy
  rw [List.getElem_drop]
  rw [List.length_drop] at hj
  exact hq (p+j) (by omega) (by omega)
 rw [List.append_assoc]
 refine List.pairwise_append.2 ⟨hD.sublist (List.take_sublist _ _),List.pairwise_cons.2 ⟨hd,hD.sublist (List.drop_sublist _ _)⟩,fun a ha b hb=>?_⟩
 rcases List.mem_cons.1 hb with rfl | hb
 ·exact ht a ha
 ·have h1:=ht a ha
  have h2:=hd b hb
  unfold ltL at *;omega
theorem mem_putQ {D:List LeM} {X z:LeM}:z ∈ putQ D X ↔ z ∈ D \/ z=X:=by
 unfold putQ
 generalize D.findIdx (Zbo X)=p
 conv=>rhs;rw [<- List.take_append_drop p D]
 simp only [List.mem_append,List.mem_singleton]
 constructor
 ·rintro ((h | h) | h)
  ·exact .inl (.inl h)
  ·exact .inr h
  ·exact .inl (.inr h)
 ·rintro ((h | h) | h)
  ·exact .inl (.inl h)
  ·exact .inr h
  ·exact .inl (.inr h)
theorem mem_drop {l:List LeM} {c f:Int} {z:LeM}:z ∈ dropL l c f ↔ z ∈ l/\¬ (z.1=c/\z.2.1=f):=by
 simp only [dropL,List.mem_filter,Bool.not_eq_true',Bool.and_eq_false_iff,beq_eq_false_iff_ne]
 constructor
 ·rintro ⟨a,b⟩;exact ⟨a,fun h=>by rcases b with b | b;exact b h.1;exact b h.2⟩
 ·rintro ⟨a,b⟩;exact ⟨a,by by_cases h:z.1=c;exact .inr fun h2=>b ⟨h,h2⟩;exact .inl h⟩
theorem grant_eq {l:List LeM} {x:LeM} (h:MayL l) (hx:okL x) (hl:l.length < 1000000):grantQ l x=Zby l x:=by
 have hpw:=(Zho.1 h).2.2
 obtain ⟨k0,k1⟩:=merge_keys l x
 refine Zh7 Zq5 lt_asy (put_pw (hpw.sublist List.filter_sublist) fun y hy=>?_) (Zho.1 (grant_may h hx hl)).2.2 fun z=>?_
 ·rw [k0,k1];exact (mem_drop.1 hy).2
 ·rw [grantQ,mem_putQ,mem_drop]
  obtain ⟨i,t,hp⟩:=Zmh x h
  cases t with
  | true =>
   obtain ⟨hi,he⟩:=Zfd hp
   obtain ⟨_,h0⟩:=hp.2.2.2.1 rfl
   have hk:=(Zng _ _).1 h0
   rw [he,merge_some h (List.getElem_mem hi) ⟨hk.2,hk.1⟩]
   constructor
   ·rintro (⟨hz,hn⟩ | rfl)
    ·obtain ⟨j,hj,rfl⟩:=List.getElem_of_mem hz
     have hji:i ≠ j:=fun e=>hn (by subst e;exact ⟨hk.2,hk.1⟩)
     have:(l.set i (Zei l[i] x))[j]'(by simpa using hj)=l[j]:=by rw [List.getElem_set_ne hji]
     rw [<- this];exact List.getElem_mem _
    ·exact List.mem_set (by exact hi) _
   ·intro hz
    obtain ⟨j,hj,rfl⟩:=List.getElem_of_mem hz
    rw [List.length_set] at hj
    rw [List.getElem_set]
    split
    ·exact .inr rfl
    ·rename_i hji
     refine .inl ⟨List.getElem_mem hj,fun hn=>hji ?_⟩
     have hu:=uniqL h (List.getElem_mem hj) (List.getElem_mem hi) (by rw [hn.1,hk.2]) (by rw [hn.2,hk.1])
     rcases Nat.lt_trichotomy i j with e | e | e
     ·have:=List.pairwise_iff_getElem.1 hpw i j hi hj e;rw [hu] at this;exact absurd this (Zq5 _)
     ·exact e
     ·have:=List.pairwise_iff_getElem.1 hpw j i hj hi e;rw [hu] at this;exact absurd this (Zq5 _)
  | false =>
   rw [Zhs hp]
   have hno:∀ y ∈ l,¬ (y.1=x.1/\y.2.1=x.2.1):=fun y hy hk=>by
    obtain ⟨j,hj,rfl⟩:=List.getElem_of_mem hy
    have h0:ordL l[j] x=0:=(Zng _ _).2 ⟨hk.2,hk.1⟩
    have hij:i<=j:=by
     rcases Nat.lt_or_ge j i with e | e
     ·have:=hp.2.1 j hj e;omega
     ·exact e
    rcases Nat.lt_or_ge i j with e | e
    ·have h1:=(Zcw _ _).1 (Zjg h i j e hj)
     have h2:=hp.2.2.1 i (by omega) (Nat.le_refl _)
     have h3:ordL (l[i]'(by omega)) x < 0:=(Zcw _ _).2 (by omega)
     omega
    ·have:i=j:=by omega
     subst this
     have:=hp.2.2.2.2 ⟨hj,h0⟩
     cases this
   rw [Zia hno]
   conv=>rhs;rw [List.append_assoc]
   constructor
   ·rintro (⟨hz,_⟩ | rfl)
    ·rw [<- List.take_append_drop i l] at hz
     rcases List.mem_append.1 hz with hz | hz
     ·exact List.mem_append.2 (.inl hz)
     ·exact List.mem_append.2 (.inr (List.mem_append.2 (.inr hz)))
    ·simp
   ·intro hz
    rcases List.mem_append.1 hz with hz | hz
    ·exact .inl ⟨List.mem_of_mem_take hz,hno z (List.mem_of_mem_take hz)⟩
    ·rcases List.mem_append.1 hz with hz | hz
     ·exact .inr (by simpa using hz)
     ·exact .inl ⟨List.mem_of_mem_drop hz,hno z (List.mem_of_mem_drop hz)⟩
theorem free_eq {d:Desk} (h:MayL d.1) (t:Int) (w:LeM):freeQ t d w=freeD t d w:=by
 simp only [freeQ,freeD,clashW,clash_eq h]
theorem lends_eq {d:Desk} {t:Int} {w:LeM} (h:MayL d.1) (hl:d.1.length < 1000000) (hw:okL (Zck t w)):Zcd t d w=lendsD t d w:=by
 simp only [Zcd,lendsD]
 rw [show ((w.1,w.2.2.1,w.2.2.2,t+60):LeM)=Zck t w from rfl,grant_eq h hw hl]
theorem ask_eq {d:Desk} {t:Int} {w:LeM} (h:MayL d.1) (hl:d.1.length < 1000000) (hw:okL (Zck t w)):askQ t d w=askD t d w:=by
 have hp:MayL (pruneL d.1 t):=Zib h _
 have hpl:(pruneL d.1 t).length < 1000000:=Nat.lt_of_le_of_lt (List.length_filter_le _ _) hl
 simp only [askQ,askD,Zb5,clashW,clash_eq hp,free_eq (d:=(pruneL d.1 t,d.2)) hp]
 rw [lends_eq (d:=(pruneL d.1 t,d.2)) hp hpl hw]
 rfl
end Go.Proofs.Ytcaclmdkhffegaa.dke
end
section
/- Texts joined. -/
section
/- The document's RunDesk: its pieces. -/
namespace Go.Proofs.Ytcaclmdkhffegaa.lrd
open Go Go.RowKit eng SX Fact fil lem lea ldk
open ldp (EPqr Zmd RPq fPq lenL)
open lcq (ECq Zp0 RCq fCq Zb1)
open wdp (bwait)
set_option linter.unusedVariables false
set_option linter.unusedSimpArgs false
set_option maxRecDepth 1000000
def hR (_:FuncId) (o:Oper):Option Hint:=match o.op with | .call { callee:=.builtin .append,.. }=>some .own | .unOp .not ..=>some .parts | _=>none
def ERd (k:Nat):FnE:={ k:=k,ins:=[some 2,none],leaks:=[false,true,false],outs:=[some 2,none,none],kinds:=[.row,.row,.row,.row] }
noncomputable def flR:=flat (Za1 Try.prog 15)
noncomputable def lpR:=flat (Zah (nth flR 4))
noncomputable def lpS:=flat (Zah (nth flR 7))
def dbox:BoxT:=⟨30,0,false,[.leaf,.leaf],none,false⟩
def zbox:BoxT:=⟨30,0,false,[.nil,.nil],none,false⟩
def shR:Shape:=⟨[(0,.agg 2),(1,.leaf)],[],[some false,some true,none],107,15⟩
def shA:Shape:=⟨[(1,.leaf),(2,.ptr 0 0 0 0),(4,.ptr 1 0 0 0),(7,.nil),(8,.leaf)],[dbox,zbox],[none,none,some true,some true],107,15⟩
def shB:Shape:=⟨[(1,.leaf),(2,.ptr 0 0 0 0),(4,.ptr 1 0 0 0),(7,.own 2 4 4),(8,.leaf)],[dbox,zbox,bwait 4],[none,none,some true,some true],107,15⟩
@[simp] def zLrd1:List SX:=[.var 2,.var 3,.var 0,.cell (.var 3) (.var 1) 4 0,.cell (.var 3) (.var 1) 4 1,.cell (.var 3) (.var 1) 4 2,.cell (.var 3) (.var 1) 4 3]
@[simp] def zLrd2:SX:=.lit 1 [.cell (.var 3) (.var 1) 4 0,.cell (.var 3) (.var 1) 4 1,.cell (.var 3) (.var 1) 4 2,.cell (.var 3) (.var 1) 4 3]
@[simp] def zLrd3:SX:=.bin .lss (.var 1) (.len (.var 3))
@[simp] def zLrd4:SX:=.bin .add (.var 1) (.con (.int .i64 1))
@[simp] def zLrd5:Fact:=.idx (.var 3) (.var 1) 4 4
@[simp] def zLrd6:Fact:=.ok (.cell (.var 3) (.var 1) 4 0)
@[simp] def zLrd7:Fact:=.ok (.cell (.var 3) (.var 1) 4 1)
@[simp] def zLrd8:Fact:=.ok (.cell (.var 3) (.var 1) 4 2)
@[simp] def zLrd9:Fact:=.ok (.cell (.var 3) (.var 1) 4 3)
@[simp] def Zjw:SX:=.con (.int .i64 0)
@[simp] def Zk7:Fact:=.ok (.len (.var 3))
@[simp] def Zol:SX:=rop ROp.cat [.var 4,zLrd2]
@[simp] def Zqg:Fact:=same (.len (.var 4)) (.len (.var 4))
@[simp] def Zok:Fact:=.is zLrd3 (.bool true)
theorem pre:segTo Try.prog (orcFn tabA) 10000 (flR.take 4) shR [] shA [(2,0),(3,0)] hR=some (.normal,[.fn 35 (EPqr 2) [.var 0,.var 2],.ok (.var 2),.ok Zjw],[.var 2,Zjw,.fn 2 [.var 0,.var 2] 0,.var 1]):=by kernel_rfl
theorem exA:segTo Try.prog (orcFn tabA) 10000 lpR shA [0] shA [(0,0),(1,0)] hR=some (.exit 0,[Zk7,.ok zLrd3,.is zLrd3 (.bool false),.ok (.var 0),.ok (.var 1)],[.var 0,.var 1,.var 2,.var 3]):=by kernel_rfl
theorem exB:segTo Try.prog (orcFn tabA) 10000 lpR shB [0] shB [(0,0),(1,0),(2,0)] hR=some (.exit 0,[Zk7,.ok zLrd3,.is zLrd3 (.bool false),.ok (.var 0),.ok (.var 1),Zqg],[.var 0,.var 1,.var 2,.var 3,.var 4]):=by kernel_rfl
theorem noA:segTo Try.prog (orcFn tabA) 10000 lpR shA [1,0] shA [(0,0),(1,0)] hR=some (.normal,[Zk7,.ok zLrd3,Zok,zLrd5,zLrd5,zLrd6,zLrd7,zLrd8,zLrd9,.fn 36 (EFe 9) zLrd1,.is (.fn 9 zLrd1 0) (.bool false),.ok zLrd4,.ok (.var 0),.ok zLrd4],[.var 0,zLrd4,.var 2,.var 3]):=by kernel_rfl
theorem noB:segTo Try.prog (orcFn tabA) 10000 lpR shB [1,0] shB [(0,0),(1,0),(2,0)] hR=some (.normal,[Zk7,.ok zLrd3,Zok,zLrd5,zLrd5,zLrd6,zLrd7,zLrd8,zLrd9,.fn 36 (EFe 9) zLrd1,.is (.fn 9 zLrd1 0) (.bool false),.ok zLrd4,.ok (.var 0),.ok zLrd4,Zqg],[.var 0,zLrd4,.var 2,.var 3,.var 4]):=by kernel_rfl
theorem goA:segTo Try.prog (orcFn tabA) 10000 lpR shA [1,1] shB [(0,0),(1,0),(6,0)] hR=some (.normal,[Zk7,.ok zLrd3,Zok,zLrd5,zLrd5,zLrd6,zLrd7,zLrd8,zLrd9,.fn 36 (EFe 9) zLrd1,.is (.fn 9 zLrd1 0) (.bool true),rng Zjw (.len zLrd2),upto (.len zLrd2) 4294967296,.fn 37 (ELe 10) zLrd1,.ok (.var 0),.ok Zjw,same (.len zLrd2) (.len zLrd2)],[.var 0,Zjw,.fn 10 zLrd1 0,.fn 10 zLrd1 1,zLrd2]):=by kernel_rfl
theorem goB:segTo Try.prog (orcFn tabA) 10000 lpR shB [1,1] shB [(0,0),(1,0),(2,1)] hR=some (.normal,[Zk7,.ok zLrd3,Zok,zLrd5,zLrd5,zLrd6,zLrd7,zLrd8,zLrd9,.fn 36 (EFe 9) zLrd1,.is (.fn 9 zLrd1 0) (.bool true),Zqg,upto (.len Zol) 4294967296,.fn 37 (ELe 10) zLrd1,.ok (.var 0),.ok Zjw,same (.len Zol) (.len Zol)],[.var 0,Zjw,.fn 10 zLrd1 0,.fn 10 zLrd1 1,Zol]):=by kernel_rfl
abbrev DL:=List LeM × List LeM
def loopQ (t:Int):Nat->DL->DL × List LeM
 | 0,d=>(d,[])
 | n+1,d=>match d.2.find? (freeQ t d) with
  | some w=>((loopQ t n (Zcd t d w)).1,w :: (loopQ t n (Zcd t d w)).2)
  | none=>(d,[])
theorem loopQ_none {t:Int} {d:DL} (h:d.2.find? (freeQ t d)=none) (n:Nat):loopQ t n d=(d,[]):=by
 cases n with
 | zero=>rfl
 | succ n=>simp only [loopQ,h]
theorem loopQ_some {t:Int} {d:DL} {w:LeM} (h:d.2.find? (freeQ t d)=some w) (n:Nat):loopQ t (n+1) d=((loopQ t n (Zcd t d w)).1,w :: (loopQ t n (Zcd t d w)).2):=by
 simp only [loopQ,h]
theorem grantQ_len (l:List LeM) (x:LeM):(lgq.grantQ l x).length<=l.length+1:=by
 have h:(leb.dropL l x.1 x.2.1).length<=l.length:=List.length_filter_le _ _
 rw [lgq.grantQ,lgq.putQ]
 simp only [List.length_append,List.length_take,List.length_drop,List.length_singleton]
 omega
theorem Zmu {l:List LeM} {i:Nat} (h:i < l.length):(wlm.dropW l l[i].1).length < l.length :=
 List.length_filter_lt_length_iff_exists.2 ⟨l[i],List.getElem_mem h,by simp⟩
def InR (C:Base) (t:Int) (d:DL) (acc:List LeM) (i:Nat) (a:Act) (w:World):Prop :=
 (acc=[]/\Zag C shA [pI t,pI (i:Int),pRow encL d.1,pRow encL d.2] a w) ∨
 (acc ≠ []/\Zag C shB [pI t,pI (i:Int),pRow encL d.1,pRow encL d.2,pRow encL acc] a w)
set_option maxHeartbeats 4000000 in
theorem loop1 (C:Base) (hF:C.F=G) (t:Int) (h0:0<=t) (h1:t<=1000000) (d0:DL) (hL:d0.1.length+d0.2.length<=900000) (Q:Exit->Act->World->Prop) (R:List Code)
  (hQ:∀ i a w,InR C t (loopQ t d0.2.length d0).1 (loopQ t d0.2.length d0).2 i a w->wpL Try.prog R Q a w) {a:Act} {w:World} (hin:InR C t d0 [] 0 a w) :
  wpL Try.prog (.block (Zaf (nth flR 4)) (.loop (Zah (nth flR 4))) :: R) Q a w:=by
 generalize hZ:loopQ t d0.2.length d0=Z at *
 refine Zas (fun n a w=>∃ (d:DL) (acc:List LeM) (i f:Nat),n=d.2.length * 2000000+(d.2.length - i)/\i<=d.2.length/\d.2.length<=f/\d.1.length+f<=900000/\acc.length+f<=900000/\(∀ j (hj:j < d.2.length),j < i->freeQ t d d.2[j]=false)/\Z=((loopQ t f d).1,acc++(loopQ t f d).2)/\InR C t d acc i a w) ?_
  (n:=d0.2.length * 2000000+(d0.2.length - 0)) ⟨d0,[],0,d0.2.length,rfl,by omega,by omega,by omega,by simp;omega,fun j _ hj=>absurd hj (by omega),by rw [<- hZ];rfl,hin⟩
 rintro n a w ⟨d,acc,i,f,rfl,hi,hdf,hlf,haf,hb,hz,hin⟩
 show wpL Try.prog lpR _ a w
 rw [<- List.append_nil lpR]
 by_cases hlt:i < d.2.length
 ·obtain ⟨c0',c1',c2',c3'⟩:=cellL d.2 i hlt
  have ix:=Zan encL d.2 i 4 4 .i64 rfl hlt (by decide)
  have v3:IntKind.i64.wrap ((i:Int)+1)=(i:Int)+1:=wrapI _ (by omega) (by omega)
  have g9:=G9 (d:=d) (t:=t) d.2[i] ⟨by omega,by omega,h0,h1⟩
  have g10:=G10 (d:=d) (t:=t) d.2[i] ⟨by omega,by omega,h0,h1⟩
  cases hf:freeQ t d d.2[i] with
  | false =>
   have next:∀ j (hj:j < d.2.length),j < i+1->freeQ t d d.2[j]=false:=fun j hj hji=>by
    by_cases hje:j=i
    ·subst hje;exact hf
    ·exact hb j hj (by omega)
   rw [hf] at g9
   simp only [inDk,pDk] at g9 g10
   rcases hin with ⟨h00,hin⟩ | ⟨h00,hin⟩
   ·refine Zad names_ok mixed_ok (Zae _) noA hin ?_ ?_
    ·simp [Zab,Zaa,Base.ev,SX.ev,evs,Value.oneCell',hF,g9,g10,ldk.t9,Zac,binPV,c0',c1',c2',c3',ix,v3,hlt,lenL]
    ·intro qs a1 w1 hq h1
     simp [evs,SX.ev,binPV,v3] at hq
     subst hq
     exact ⟨fun _=>.inl ⟨rfl,_,by omega,d,acc,i+1,f,rfl,by omega,hdf,hlf,haf,next,hz,.inl ⟨h00,h1⟩⟩,fun h=>absurd rfl h⟩
   ·refine Zad names_ok mixed_ok (Zae _) noB hin ?_ ?_
    ·simp [Zab,Zaa,Base.ev,SX.ev,evs,Value.oneCell',hF,g9,g10,ldk.t9,Zac,binPV,c0',c1',c2',c3',ix,v3,hlt,lenL]
    ·intro qs a1 w1 hq h1
     simp [evs,SX.ev,binPV,v3] at hq
     subst hq
     exact ⟨fun _=>.inl ⟨rfl,_,by omega,d,acc,i+1,f,rfl,by omega,hdf,hlf,haf,next,hz,.inr ⟨h00,h1⟩⟩,fun h=>absurd rfl h⟩
  | true =>
   have hfind:=Zjr (p:=freeQ t d) hlt hf hb
   obtain ⟨f',rfl⟩:∃ f',f=f'+1:=⟨f - 1,by omega⟩
   rw [loopQ_some hfind] at hz
   have hz':Z=((loopQ t f' (Zcd t d d.2[i])).1,(acc++[d.2[i]])++(loopQ t f' (Zcd t d d.2[i])).2):=by rw [hz];simp
   have hdr:=Zmu hlt
   have hgr:=grantQ_len d.1 (d.2[i].1,d.2[i].2.2.1,d.2[i].2.2.2,t+60)
   have e1:(Zcd t d d.2[i]).1=lgq.grantQ d.1 (d.2[i].1,d.2[i].2.2.1,d.2[i].2.2.2,t+60):=rfl
   have e2:(Zcd t d d.2[i]).2=wlm.dropW d.2 d.2[i].1:=rfl
   rw [<- e1] at hgr
   rw [<- e2] at hdr
   rw [hf] at g9
   simp only [inDk,pDk] at g9 g10
   have rc:=ldp.r_catL acc d.2[i]
   have r1:=ldp.one_rowL d.2[i]
   generalize Zcd t d d.2[i]=D at *
   have hla:(acc++[d.2[i]]).length=acc.length+1:=by simp
   have hne:acc++[d.2[i]] ≠ []:=by simp
   rcases hin with ⟨h00,hin⟩ | ⟨h00,hin⟩
   ·subst h00
    simp only [List.nil_append] at hz' hla hne
    refine Zad names_ok mixed_ok (Zae _) goA hin ?_ ?_
    ·simp [Zab,Zaa,Base.ev,SX.ev,evs,Value.oneCell',hF,g9,g10,ldk.t9,ldk.t10,Zac,binPV,c0',c1',c2',c3',ix,v3,hlt,lenL,r1]
    ·intro qs a1 w1 hq h1
     simp [evs,SX.ev,hF,g10,c0',c1',c2',c3',r1] at hq
     subst hq
     exact ⟨fun _=>.inl ⟨rfl,_,by omega,D,[d.2[i]],0,f',rfl,by omega,by omega,by omega,by omega,fun j _ hj=>absurd hj (by omega),hz',.inr ⟨hne,h1⟩⟩,fun h=>absurd rfl h⟩
   ·refine Zad names_ok mixed_ok (Zae _) goB hin ?_ ?_
    ·simp [Zab,Zaa,Base.ev,SX.ev,evs,Value.oneCell',hF,g9,g10,ldk.t9,ldk.t10,Zac,binPV,c0',c1',c2',c3',ix,v3,hlt,lenL,rc]
     exact ⟨⟨acc.length+1,by omega,by omega⟩,acc.length+1,by omega⟩
    ·intro qs a1 w1 hq h1
     simp [evs,SX.ev,hF,g10,c0',c1',c2',c3',rc] at hq
     subst hq
     exact ⟨fun _=>.inl ⟨rfl,_,by omega,D,acc++[d.2[i]],0,f',rfl,by omega,by omega,by omega,by omega,fun j _ hj=>absurd hj (by omega),hz',.inr ⟨hne,h1⟩⟩,fun h=>absurd rfl h⟩
 ·have hie:i=d.2.length:=by omega
  have hfind:=Zht (p:=freeQ t d) (fun j hj=>hb j hj (by omega))
  rw [loopQ_none hfind] at hz
  simp only [List.append_nil] at hz
  subst hz
  subst hie
  rcases hin with ⟨h00,hin⟩ | ⟨h00,hin⟩
  ·refine Zad names_ok mixed_ok (Zae _) exA hin ?_ ?_
   ·simp [Base.ev,SX.ev,evs,Value.oneCell',binPV,lenL]
   ·intro qs a1 w1 hq h1
    simp [evs,SX.ev] at hq
    subst hq
    exact ⟨nofun,fun _=>.inr (.inl ⟨by rw [show Zaf (nth flR 4)=0 by kernel_rfl];rfl,hQ _ _ _ (.inl ⟨h00,h1⟩)⟩)⟩
  ·refine Zad names_ok mixed_ok (Zae _) exB hin ?_ ?_
   ·simp [Base.ev,SX.ev,evs,Value.oneCell',binPV,lenL]
   ·intro qs a1 w1 hq h1
    simp [evs,SX.ev] at hq
    subst hq
    exact ⟨nofun,fun _=>.inr (.inl ⟨by rw [show Zaf (nth flR 4)=0 by kernel_rfl];rfl,hQ _ _ _ (.inr ⟨h00,h1⟩)⟩)⟩
end Go.Proofs.Ytcaclmdkhffegaa.lrd
end
section
/- The document's loop over those who wait and the model's come to the same. -/
namespace Go.Proofs.Ytcaclmdkhffegaa.dkf
open Go Go.RowKit eng lem lea lam dke
open ldk (freeQ Zcd askQ)
open lrd (loopQ)
open dkm (Desk freeD Zck lendsD Zb5 loopD runD DI okW di_lends di_prune ok_lease)
theorem loop_eq {t:Int} (h0:0<=t) (h1:t<=1000000):∀ (n:Nat) {d:Desk},DI d t->loopQ t n d=loopD t n d
 | 0,d,_=>rfl
 | n+1,d,h=>by
  have hf:freeQ t d=freeD t d:=funext fun w=>free_eq h.al.may t w
  cases hw:d.2.find? (freeD t d) with
  | some w =>
   have hm:=h.w w (List.mem_of_find?_eq_some hw)
   have hl:Zcd t d w=lendsD t d w:=lends_eq h.al.may (by have:=h.len;omega) (ok_lease hm h0 h1)
   simp only [loopQ,loopD,hf,hw,hl,loop_eq h0 h1 n (di_lends h hm h0 h1 (List.find?_some hw))]
  | none=>simp only [loopQ,loopD,hf,hw]
theorem run_eq {t s:Int} (h0:0<=s) (h1:s<=1000000) {d:Desk} (h:DI d t) (hs:t<=s):loopQ s d.2.length (Zb5 s d)=runD s d :=
 loop_eq h0 h1 _ (di_prune h hs)
end Go.Proofs.Ytcaclmdkhffegaa.dkf
end
end
