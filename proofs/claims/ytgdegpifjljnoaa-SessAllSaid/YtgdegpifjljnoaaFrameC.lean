/- Texts joined. -/
import Derived.Test.YtgdegpifjljnoaaFrame
import Derived.SliceStrings
section
/- Openers for a law's row: things of plain fields that came in, rows of such, rows of texts; no program in it. -/
namespace Go.Proofs.Ytgdegpifjljnoaa
open Go.ChangeShapes Go.WideShapes Go.ChangeAt Go.RowKit

inductive LK where
 | int (k:IntKind)
 | str
 | bool
def LK.ok:LK->Value->Prop
 | .int k,u=>∃ z,u=.int k z/\(Lit.int k z).wf=true
 | .str,u=>∃ s,u=.string s/\s.size<=maxLen
 | .bool,u=>∃ b,u=.bool b
def LKs (ks:List LK) (us:List Value):Prop:=us.length=ks.length/\∀ (j:Nat) (k:LK) (u:Value),ks[j]?=some k->us[j]?=some u->k.ok u
def LK.is (P:Program) (k:LK) (t:TypeId):Bool:=match k,P.underlying t with
 | .int kd,some (.int kd')=>decide (kd=kd')
 | .str,some .string=>true
 | .bool,some .bool=>true
 | _,_=>false
def aggFs (P:Program):List Field->List LK->Nat->Bool
 | f :: fs,k :: ks,i=>Nat.beq f.offset i && Nat.beq (P.cellsOf f.type) 1 && k.is P f.type && aggFs P fs ks (i+1)
 | [],[],_=>true
 | _,_,_=>false
def aggOk (P:Program) (t:TypeId) (ks:List LK):Bool:=match P.underlying t with
 | some (.struct fs)=>Nat.beq (P.cellsOf t) ks.length && aggFs P fs.toList ks 0
 | _=>match ks with | [k]=>Nat.beq (P.cellsOf t) 1 && k.is P t | _=>false
theorem aggFs_ok {P:Program}:∀ (fs:List Field) (ks:List LK) (i:Nat),aggFs P fs ks i=true->fs.length=ks.length/\∀ (j:Nat) (k:LK),ks[j]?=some k->∃ f,fs[j]?=some f/\f.offset=i+j/\P.cellsOf f.type=1/\k.is P f.type=true
 | [],[],i,_=>⟨rfl,fun j k h=>by simp at h⟩
 | [],_ :: _,i,h=>by simp [aggFs] at h
 | _ :: _,[],i,h=>by simp [aggFs] at h
 | f :: fs,k :: ks,i,h=>by
  simp only [aggFs,Bool.and_eq_true,Nat.beq_eq] at h
  obtain ⟨⟨⟨h1,h2⟩,h3⟩,h4⟩:=h
  obtain ⟨h5,h6⟩:=aggFs_ok fs ks (i+1) h4
  refine ⟨by simp [h5],fun j k' hk=>?_⟩
  cases j with
  | zero=>simp at hk;subst hk;exact ⟨f,rfl,by omega,h2,h3⟩
  | succ j =>
   obtain ⟨g,g1,g2,g3⟩:=h6 j k' (by simpa using hk)
   exact ⟨g,by simpa using g1,by omega,g3⟩

section
variable {H : Type} {enc : TypeId × Value -> H} {P : Program} {W : World} {base : Nat} {v : Value} {d : DataW H} {p : List MemPlace}
end
section
variable {H : Type} {enc : TypeId × Value -> H} {P : Program} {W : World} {base : Nat} {sp : Nat -> Bool} {held : Bool} {v : Value} {d : DataW H} {p : List MemPlace}

theorem Zne {k:LK} {t:TypeId} {n:Nat} {cs:List Value} {x:DataW H × List MemPlace} (hk:k.is P t=true) (h:DataW.trod enc P W base sp held n t cs=some x):∃ u,cs=[u]/\k.ok u:=by
 unfold LK.is at hk
 split at hk
 ·rename_i kd kd' hu
  simp only [decide_eq_true_eq] at hk
  subst hk
  obtain ⟨z,hz,_,hw⟩:=DataW.trod_int hu h
  exact ⟨_,hz,z,rfl,hw⟩
 ·rename_i hu
  obtain ⟨s,hz,_,hw⟩:=DataW.trod_string hu h
  exact ⟨_,hz,s,rfl,hw⟩
 ·rename_i hu
  obtain ⟨b,hz,_⟩:=DataW.trod_bool hu h
  exact ⟨_,hz,b,rfl⟩
 ·cases hk
theorem agg_ok {t:TypeId} {ks:List LK} {n:Nat} {cs:List Value} {x:DataW H × List MemPlace} (hk:aggOk P t ks=true) (h:DataW.trod enc P W base sp held n t cs=some x):LKs ks cs:=by
 unfold aggOk at hk
 split at hk
 ·rename_i fs hu
  simp only [Bool.and_eq_true,Nat.beq_eq] at hk
  obtain ⟨hc,hf⟩:=hk
  obtain ⟨hl,hf⟩:=aggFs_ok _ _ _ hf
  obtain ⟨xs,m,_,_,hcl,hxl,hx⟩:=DataW.trod_struct hu h
  refine ⟨by omega,fun j k u hj hu'=>?_⟩
  obtain ⟨f,f1,f2,f3,f4⟩:=hf j k hj
  have hjl:j < xs.length:=by
   have:=(List.getElem?_eq_some_iff.1 f1).1
   simp at this
   omega
  have h1:=hx j f (by simpa using f1)
  rw [List.getElem?_eq_getElem hjl] at h1
  obtain ⟨u',h2,h3⟩:=Zne f4 h1
  rw [f2,Nat.zero_add,f3] at h2
  have h4:(cs.drop j)[0]?=some u':=by
   have:=congrArg (fun l=>l[0]?) h2
   simpa [List.getElem?_take] using this
  rw [List.getElem?_drop,Nat.add_zero,hu'] at h4
  cases h4
  exact h3
 ·split at hk
  ·simp only [Bool.and_eq_true,Nat.beq_eq] at hk
   obtain ⟨u,rfl,hok⟩:=Zne hk.2 h
   refine ⟨rfl,fun j k' u' hj hu=>?_⟩
   cases j with
   | zero=>simp at hj hu;subst hj;subst hu;exact hok
   | succ j=>simp at hj
  ·cases hk
def Zl9 (ks:List LK) (w:World) (v:Value) (xs:List (List Value)):Prop :=
 (∀ x ∈ xs,LKs ks x)/\∃ a cap,v=.slice a xs.length cap/\xs.length<=cap/\cap<=maxLen/\(0 < xs.length->∃ b off,a=some ⟨b,off,none⟩/\∀ i x j u,xs[i]?=some x->x[j]?=some u->w.cell? ⟨b,off+(i * ks.length+j),none⟩=some u)
end
end Go.Proofs.Ytgdegpifjljnoaa
end
section
/- Openers for a law's row: things some of whose fields are rows of things; no program in it. -/
namespace Go.Proofs.Ytgdegpifjljnoaa
open Go.ChangeShapes Go.WideShapes Go.ChangeAt Go.RowKit
inductive FK where
 | pl (k:LK)
 | th (ks:List LK)
def FK.is (P:Program):FK->TypeId->Bool
 | .pl k,t=>k.is P t
 | .th ks,t=>match P.underlying t with
  | some (.slice e)=>aggOk P e ks && (Nat.beq (P.cellsOf e) ks.length && Nat.blt 0 ks.length)
  | _=>false
def FK.ok (w:World):FK->Value->Prop
 | .pl k,u=>k.ok u
 | .th ks,u=>∃ xs,Zl9 ks w u xs
def FKs (w:World) (ks:List FK) (us:List Value):Prop:=us.length=ks.length/\∀ (j:Nat) (k:FK) (u:Value),ks[j]?=some k->us[j]?=some u->k.ok w u
def Zln (P:Program):List Field->List FK->Nat->Bool
 | f :: fs,k :: ks,i=>Nat.beq f.offset i && Nat.beq (P.cellsOf f.type) 1 && k.is P f.type && Zln P fs ks (i+1)
 | [],[],_=>true
 | _,_,_=>false
def aggOk2 (P:Program) (t:TypeId) (ks:List FK):Bool:=match P.underlying t with
 | some (.struct fs)=>Nat.beq (P.cellsOf t) ks.length && Zln P fs.toList ks 0
 | _=>false
theorem aggFs2_ok {P:Program}:∀ (fs:List Field) (ks:List FK) (i:Nat),Zln P fs ks i=true->fs.length=ks.length/\∀ (j:Nat) (k:FK),ks[j]?=some k->∃ f,fs[j]?=some f/\f.offset=i+j/\P.cellsOf f.type=1/\k.is P f.type=true
 | [],[],i,_=>⟨rfl,fun j k h=>by simp at h⟩
 | [],_ :: _,i,h=>by simp [Zln] at h
 | _ :: _,[],i,h=>by simp [Zln] at h
 | f :: fs,k :: ks,i,h=>by
  simp only [Zln,Bool.and_eq_true,Nat.beq_eq] at h
  obtain ⟨⟨⟨h1,h2⟩,h3⟩,h4⟩:=h
  obtain ⟨h5,h6⟩:=aggFs2_ok fs ks (i+1) h4
  refine ⟨by simp [h5],fun j k' hk=>?_⟩
  cases j with
  | zero=>simp at hk;subst hk;exact ⟨f,rfl,by omega,h2,h3⟩
  | succ j =>
   obtain ⟨g,g1,g2,g3⟩:=h6 j k' (by simpa using hk)
   exact ⟨g,by simpa using g1,by omega,g3⟩
section
variable {H : Type} {enc : TypeId × Value -> H} {P : Program} {W : World} {base : Nat} {v : Value} {d : DataW H} {p : List MemPlace}
theorem things_ok {t e:TypeId} {ks:List LK} {fuel:Nat} {cs0:List Value} {y:DataW H × List MemPlace} (ht:P.underlying t=some (.slice e)) (hk:aggOk P e ks=true) (hce:P.cellsOf e=ks.length) (hpos:0 < ks.length) (hf:DataW.trod enc P W 0 (fun _=>true) true fuel t cs0=some y):∃ u,cs0=[u]/\∃ xs,Zl9 ks W u xs:=by
 rcases Deep.open_slice ht hf with ⟨rfl,_⟩ | ⟨x,l,c,m,n,D,Pl,rfl,_,hl,hm,hmm,_,hx⟩
 ·exact ⟨_,rfl,[],fun x hx=>by simp at hx,none,0,rfl,Nat.le_refl _,Nat.zero_le _,fun h=>absurd h (Nat.lt_irrefl _)⟩
 ·refine ⟨_,rfl,?_⟩
  have key:∀ i,i < l->∃ cs:List Value,LKs ks cs/\∀ j u,cs[j]?=some u->W.cell? (x.add (i * ks.length+j))=some u:=fun i hi=>by
   obtain ⟨cs',h1,h2⟩:=hx i (by rw [hmm];simp;omega)
   obtain ⟨_,hlen,hcell⟩:=World.cells?_some h1
   refine ⟨cs',agg_ok hk h2,fun j u hj=>?_⟩
   have hj':j < cs'.length:=(List.getElem?_eq_some_iff.1 hj).1
   have:=hcell j (by omega)
   rw [hce,Deep.add_add] at this
   rw [this];exact hj
  obtain ⟨Z,hZ⟩:=Deep.choose_lt (α:=List Value) (p:=fun i cs=>LKs ks cs/\∀ j u,cs[j]?=some u->W.cell? (x.add (i * ks.length+j))=some u) key
  refine ⟨(List.range l).map Z,fun y hy=>?_,some x,c,by simp,by simpa using hl,hm,fun hp=>?_⟩
  ·obtain ⟨i,hi,rfl⟩:=List.mem_map.1 hy
   exact (hZ i (List.mem_range.1 hi)).1
  ·have hp:0 < l:=by simpa using hp
   obtain ⟨b,off,spot⟩:=x
   have hspot:spot=none:=by
    obtain ⟨h1,h2⟩:=hZ 0 hp
    have hz:0 < (Z 0).length:=by rw [h1.1];exact hpos
    simpa [Addr.add] using World.cell?_spot (h2 0 _ (List.getElem?_eq_getElem hz))
   subst hspot
   refine ⟨b,off,rfl,fun i y j u hi hj=>?_⟩
   have hil:i < l:=by have:=(List.getElem?_eq_some_iff.1 hi).1;simpa using this
   rw [List.getElem?_map,List.getElem?_range hil] at hi
   simp only [Option.map_some,Option.some.injEq] at hi
   subst hi
   have:=(hZ i hil).2 j u hj
   rwa [Go.WideShapes.add_plain] at this
theorem field_ok {k:FK} {t:TypeId} {n:Nat} {cs:List Value} {x:DataW H × List MemPlace} (hk:k.is P t=true) (h:DataW.trod enc P W 0 (fun _=>true) true n t cs=some x):∃ u,cs=[u]/\k.ok W u:=by
 cases k with
 | pl k=>exact Zne hk h
 | th ks =>
  simp only [FK.is] at hk
  split at hk
  ·rename_i e he
   simp only [Bool.and_eq_true,Nat.beq_eq,Nat.blt_eq] at hk
   exact things_ok he hk.1 hk.2.1 hk.2.2 h
  ·cases hk
theorem open_agg2 {t:TypeId} {fs:Array Field} {ks:List FK} (ht:P.underlying t=some (.struct fs)) (hk:aggOk2 P t ks=true) (hval:Value.okWide P W .any base t v) (h:DataW.Trod enc P W 0 (fun _=>true) true t v d p):∃ cs:List Value,v=.agg cs.toArray/\FKs W ks cs:=by
 obtain ⟨cs,rfl,_⟩:=okWide_struct ht hval
 obtain ⟨n,hf⟩:=h
 have h2:DataW.trod enc P W 0 (fun _=>true) true n t cs.toList=some (d,p):=hf
 refine ⟨cs.toList,by simp,?_⟩
 unfold aggOk2 at hk
 rw [ht] at hk
 simp only [Bool.and_eq_true,Nat.beq_eq] at hk
 obtain ⟨hc,hf2⟩:=hk
 obtain ⟨hl,hf2⟩:=aggFs2_ok _ _ _ hf2
 obtain ⟨xs,m,_,_,hcl,hxl,hx⟩:=DataW.trod_struct ht h2
 refine ⟨by omega,fun j k u hj hu'=>?_⟩
 obtain ⟨f,f1,f2,f3,f4⟩:=hf2 j k hj
 have hjl:j < xs.length:=by
  have:=(List.getElem?_eq_some_iff.1 f1).1
  simp at this
  omega
 have h1:=hx j f (by simpa using f1)
 rw [List.getElem?_eq_getElem hjl] at h1
 obtain ⟨u',h2,h3⟩:=field_ok f4 h1
 rw [f2,Nat.zero_add,f3] at h2
 have h4:(cs.toList.drop j)[0]?=some u':=by
  have:=congrArg (fun l=>l[0]?) h2
  simpa [List.getElem?_take] using this
 rw [List.getElem?_drop,Nat.add_zero,hu'] at h4
 cases h4
 exact h3
end
end Go.Proofs.Ytgdegpifjljnoaa
end
