/- Openers for a law's row: things of plain fields that came in, rows of such, rows of texts; no program in it. -/
import Derived.Test.YtcaclmdkhffegaaFrame
import Derived.SliceStrings
namespace Go.Proofs.Ytcaclmdkhffegaa
open Go.ChangeShapes Go.WideShapes Go.ChangeAt Go.RowKit

inductive LK where
 | int (k:IntKind)
 | str
 | bool
def LK.ok:LK->Value->Prop
 | .int k,u=>∃ z,u=.int k z/\(Lit.int k z).wf=true
 | .str,u=>∃ s,u=.string s/\s.size<=maxLen
 | .bool,u=>∃ b,u=.bool b
def LKs (ks:List LK) (us:List Value):Prop:=us.length=ks.length/\∀ (j:Nat) (k:LK) (u:Value),ks[j]?=some k->us[j]?=some u->k.ok u
def LK.is (P:Program) (k:LK) (t:TypeId):Bool:=match k,P.underlying t with
 | .int kd,some (.int kd')=>decide (kd=kd')
 | .str,some .string=>true
 | .bool,some .bool=>true
 | _,_=>false
def aggFs (P:Program):List Field->List LK->Nat->Bool
 | f :: fs,k :: ks,i=>Nat.beq f.offset i && Nat.beq (P.cellsOf f.type) 1 && k.is P f.type && aggFs P fs ks (i+1)
 | [],[],_=>true
 | _,_,_=>false
def aggOk (P:Program) (t:TypeId) (ks:List LK):Bool:=match P.underlying t with
 | some (.struct fs)=>Nat.beq (P.cellsOf t) ks.length && aggFs P fs.toList ks 0
 | _=>match ks with | [k]=>Nat.beq (P.cellsOf t) 1 && k.is P t | _=>false
theorem aggFs_ok {P:Program}:∀ (fs:List Field) (ks:List LK) (i:Nat),aggFs P fs ks i=true->fs.length=ks.length/\∀ (j:Nat) (k:LK),ks[j]?=some k->∃ f,fs[j]?=some f/\f.offset=i+j/\P.cellsOf f.type=1/\k.is P f.type=true
 | [],[],i,_=>⟨rfl,fun j k h=>by simp at h⟩
 | [],_ :: _,i,h=>by simp [aggFs] at h
 | _ :: _,[],i,h=>by simp [aggFs] at h
 | f :: fs,k :: ks,i,h=>by
  simp only [aggFs,Bool.and_eq_true,Nat.beq_eq] at h
  obtain ⟨⟨⟨h1,h2⟩,h3⟩,h4⟩:=h
  obtain ⟨h5,h6⟩:=aggFs_ok fs ks (i+1) h4
  refine ⟨by simp [h5],fun j k' hk=>?_⟩
  cases j with
  | zero=>simp at hk;subst hk;exact ⟨f,rfl,by omega,h2,h3⟩
  | succ j =>
   obtain ⟨g,g1,g2,g3⟩:=h6 j k' (by simpa using hk)
   exact ⟨g,by simpa using g1,by omega,g3⟩

section
variable {H : Type} {enc : TypeId × Value -> H} {P : Program} {W : World} {base : Nat} {v : Value} {d : DataW H} {p : List MemPlace}
end
section
variable {H : Type} {enc : TypeId × Value -> H} {P : Program} {W : World} {base : Nat} {sp : Nat -> Bool} {held : Bool} {v : Value} {d : DataW H} {p : List MemPlace}

theorem leaf_ok {k:LK} {t:TypeId} {n:Nat} {cs:List Value} {x:DataW H × List MemPlace} (hk:k.is P t=true) (h:DataW.trod enc P W base sp held n t cs=some x):∃ u,cs=[u]/\k.ok u:=by
 unfold LK.is at hk
 split at hk
 ·rename_i kd kd' hu
  simp only [decide_eq_true_eq] at hk
  subst hk
  obtain ⟨z,hz,_,hw⟩:=DataW.trod_int hu h
  exact ⟨_,hz,z,rfl,hw⟩
 ·rename_i hu
  obtain ⟨s,hz,_,hw⟩:=DataW.trod_string hu h
  exact ⟨_,hz,s,rfl,hw⟩
 ·rename_i hu
  obtain ⟨b,hz,_⟩:=DataW.trod_bool hu h
  exact ⟨_,hz,b,rfl⟩
 ·cases hk
theorem agg_ok {t:TypeId} {ks:List LK} {n:Nat} {cs:List Value} {x:DataW H × List MemPlace} (hk:aggOk P t ks=true) (h:DataW.trod enc P W base sp held n t cs=some x):LKs ks cs:=by
 unfold aggOk at hk
 split at hk
 ·rename_i fs hu
  simp only [Bool.and_eq_true,Nat.beq_eq] at hk
  obtain ⟨hc,hf⟩:=hk
  obtain ⟨hl,hf⟩:=aggFs_ok _ _ _ hf
  obtain ⟨xs,m,_,_,hcl,hxl,hx⟩:=DataW.trod_struct hu h
  refine ⟨by omega,fun j k u hj hu'=>?_⟩
  obtain ⟨f,f1,f2,f3,f4⟩:=hf j k hj
  have hjl:j < xs.length:=by
   have:=(List.getElem?_eq_some_iff.1 f1).1
   simp at this
   omega
  have h1:=hx j f (by simpa using f1)
  rw [List.getElem?_eq_getElem hjl] at h1
  obtain ⟨u',h2,h3⟩:=leaf_ok f4 h1
  rw [f2,Nat.zero_add,f3] at h2
  have h4:(cs.drop j)[0]?=some u':=by
   have:=congrArg (fun l=>l[0]?) h2
   simpa [List.getElem?_take] using this
  rw [List.getElem?_drop,Nat.add_zero,hu'] at h4
  cases h4
  exact h3
 ·split at hk
  ·simp only [Bool.and_eq_true,Nat.beq_eq] at hk
   obtain ⟨u,rfl,hok⟩:=leaf_ok hk.2 h
   refine ⟨rfl,fun j k' u' hj hu=>?_⟩
   cases j with
   | zero=>simp at hj hu;subst hj;subst hu;exact hok
   | succ j=>simp at hj
  ·cases hk
theorem open_agg {t:TypeId} {fs:Array Field} {ks:List LK} (ht:P.underlying t=some (.struct fs)) (hk:aggOk P t ks=true) (hval:Value.okWide P W .any base t v) (h:DataW.Trod enc P W 0 (fun _=>true) true t v d p):∃ cs:List Value,v=.agg cs.toArray/\LKs ks cs:=by
 obtain ⟨cs,rfl,_⟩:=okWide_struct ht hval
 obtain ⟨n,hf⟩:=h
 have h2:DataW.trod enc P W 0 (fun _=>true) true n t cs.toList=some (d,p):=hf
 exact ⟨cs.toList,by simp,agg_ok hk h2⟩
end
end Go.Proofs.Ytcaclmdkhffegaa
