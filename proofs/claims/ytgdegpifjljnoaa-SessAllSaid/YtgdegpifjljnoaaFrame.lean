/- The frame of a law's row: whatever its parameters, if the walk answers true and turns nothing that was there. -/
import Derived.Test.YtgdegpifjljnoaaRow
import Derived.ChangeOld
import Derived.Carry
import Derived.Deep.Slices
namespace Go.Proofs.Ytgdegpifjljnoaa
open Go.ChangeShapes Go.WideShapes Go.ChangeAt Go.RowKit

theorem below_trodAll {H:Type} {enc:TypeId × Value->H} {P:Program} (hl:laidOutB P=true) {W W':World} (hb:Ex W W') :
  ∀ (ts:List TypeId) (vs:List Value) (ds:List (DataW H)) (ps:List MemPlace),(∀ t ∈ ts,P.readableRec t=true/\t < P.types.size) →
   DataW.TrodAll enc P W 0 (fun _=>true) true ts vs ds ps->DataW.TrodAll enc P W' 0 (fun b=>decide (b < W.heap.size)) true ts vs ds ps
 | [],[],[],_,_,h=>h
 | t :: ts,v :: vs,d :: ds,_,hr,⟨p,q,h1,h2,e⟩ =>
  ⟨p,q,Below.trod hl (hr t (by simp)).1 (hr t (by simp)).2 h1 hb (fun x hx=>by obtain ⟨m,hm⟩:=h1;exact DataW.trod_lt m _ _ _ hm x hx),
   below_trodAll hl hb ts vs ds q (fun t ht=>hr t (by simp [ht])) h2,e⟩
 | [],_ :: _,_,_,_,h=>h.elim
 | [],[],_ :: _,_,_,h=>h.elim
 | _ :: _,[],_,_,_,h=>h.elim
 | _ :: _,_ :: _,[],_,_,h=>h.elim

theorem trodAll_length {H:Type} {enc:TypeId × Value->H} {P:Program} {W:World} {b:Nat} {sp:Nat->Bool} {hd:Bool} :
  ∀ (ts:List TypeId) (vs:List Value) (ds:List (DataW H)) (ps:List MemPlace),DataW.TrodAll enc P W b sp hd ts vs ds ps->ds.length=ts.length
 | [],[],[],_,_=>rfl
 | _ :: ts,_ :: vs,_ :: ds,_,⟨_,q,_,h2,_⟩=>by simp [trodAll_length ts vs ds q h2]
 | [],_ :: _,_,_,h=>h.elim
 | [],[],_ :: _,_,h=>h.elim
 | _ :: _,[],_,_,h=>h.elim
 | _ :: _,_ :: _,[],_,h=>h.elim

theorem law_lifted {C:Checked} {f:FuncId} {fn:Func} {s:ChangeSpec} {H:Type} {enc:TypeId × Value->H} {os:Os} {tb:TypeId}
  (own:ownKnob C.prog.godebug=none) (started:os.Started) (noInit:C.prog.inits.idxOf? f=none) (hfn:C.prog.funcs[f]?=some fn)
  (witness:∃ (w:World) (tape:Tape) (i:Input),w.os=os/\(w.forCall tape i).Shaped C.prog/\i.vars=[]/\Input.okWide C.prog (w.forCall tape i) .any w.heap.size f i ∧
   s.pre6 enc C.prog fn [] false (w.forCall tape i).memory i.args/\({}:Assume).holds C.prog (lone (Frame.enter C.prog f i.args .normal) [] (w.forCall tape i)))
  (hl:laidOutB C.prog=true) (hp:fn.params.toList.all (fun t=>C.prog.readableRec t && decide (t < C.prog.types.size))=true)
  (hv:s.vars=[]) (hs:∀ ds:List (DataW H),ds.length=fn.params.toList.length->s.fn H ds={ results:=[.lit (.bool true)],args:=ds })
  (hres:fn.resultTypes=#[tb]) (htb:C.prog.underlying tb=some .bool)
  (walk:∀ (W:World) (base:Nat) (args:Array Value) (ds:List (DataW H)) (ps:List MemPlace),
   (∀ (j:Nat) t v,fn.params[j]?=some t->args[j]?=some v->Value.okWide C.prog W .any base t v) →
   DataW.TrodAll enc C.prog W 0 (fun _=>true) true fn.params.toList args.toList ds ps →
   Calls C.prog f args W fun e W'=>e=.returned (.bool true)/\Ex W W') :
  ReturnsInHanded {} C os f .any (s.pre6 enc C.prog fn [] false) (s.post enc C.prog fn false true false false):=by
 refine returnsInHanded_of_change (C:=C) own started noInit hfn witness ?_
 intro W base args ds gs before hval hW _ _
 obtain ⟨p,q,hA,hV,rfl,hfz,hnd⟩:=id hW
 rw [hv] at hV
 obtain ⟨rfl,rfl⟩:=trodVars_none hV
 have hlen:=trodAll_length _ _ _ _ hA
 have hsp:=hs ds hlen
 refine (walk W base args ds p hval hA).mono fun e W' ⟨he,bel⟩=>?_
 subst he
 refine ⟨_,rfl,ds,[],p++[],[],p,[],hW,?_,?_,?_,bel.frame _,fun h=>by cases h⟩
 ·rw [List.append_nil,hsp,hres]
  exact trodAll_mk1 (shut_bool htb true)
 ·rw [List.append_nil,hsp]
  refine below_trodAll hl bel _ _ _ _ (fun t ht=>?_) hA
  have:=List.all_eq_true.1 hp t ht
  rw [Bool.and_eq_true,decide_eq_true_eq] at this
  exact this
 ·rw [List.append_nil,hsp,hv]
  rfl

def IsGrid (k:Nat) (w:World) (v:Value) (len:Nat) (Z:Nat->Nat->Int):Prop :=
 ∃ a cap,v=.slice a len cap/\len<=cap/\cap<=maxLen/\(0 < len->∃ b off,a=some ⟨b,off,none⟩ ∧
  ∀ i,i < len->∀ j,j < k->w.cell? ⟨b,off+i * k+j,none⟩=some (.int .u8 (Z i j))/\0<=Z i j/\Z i j<=255)

section
variable {H : Type} {enc : TypeId × Value -> H} {P : Program} {W : World} {base : Nat} {v : Value} {d : DataW H} {p : List MemPlace}

theorem open_grid {k:Nat} {t e u:TypeId} (hk:0 < k) (ht:P.underlying t=some (.slice e)) (he:P.underlying e=some (.array k u)) (hu:P.underlying u=some (.int .u8)) (hce:P.cellsOf e=k) (hcu:P.cellsOf u=1)
  (hval:Value.okWide P W .any base t v) (h:DataW.Trod enc P W 0 (fun _=>true) true t v d p):∃ len Z,IsGrid k W v len Z:=by
 obtain ⟨a,len,cap,rfl⟩:=okWide_slice ht hval
 obtain ⟨fuel,hf⟩:=h
 rcases Deep.open_slice ht hf with ⟨hcs,_⟩ | ⟨x,l,c,m,n,D,Pl,hcs,_,hl,hm,hmm,_,hx⟩
 ·simp [Value.cells] at hcs
  obtain ⟨rfl,rfl,rfl⟩:=hcs
  exact ⟨0,fun _ _=>0,none,0,rfl,Nat.le_refl _,Nat.zero_le _,fun h=>absurd h (Nat.lt_irrefl _)⟩
 ·simp [Value.cells] at hcs
  obtain ⟨rfl,rfl,rfl⟩:=hcs
  have key:∀ i,i < len->∀ j,j < k->∃ z:Int,W.cell? (x.add (i * k+j))=some (.int .u8 z)/\0<=z/\z<=255:=by
   intro i hi j hj
   obtain ⟨cs',h1,h2⟩:=hx i (by rw [hmm];simp;omega)
   obtain ⟨_,hlen,hcell⟩:=World.cells?_some h1
   obtain ⟨xs,m',_,_,_,hxl,harr⟩:=DataW.trod_array he h2
   have hj':=harr j hj
   rw [hcu,Nat.mul_one,List.getElem?_eq_getElem (by omega)] at hj'
   obtain ⟨z,hz1,_,hz3⟩:=DataW.trod_int hu hj'
   have hc:=hcell j (by omega)
   rw [hce,Deep.add_add] at hc
   have hz:cs'[j]?=some (.int .u8 z):=by
    have:=congrArg (fun l=>l[0]?) hz1
    simpa using this
   exact ⟨z,by rw [hc,hz],(bounds_u8 hz3).1,(bounds_u8 hz3).2⟩
  obtain ⟨Z,hZ⟩:=Deep.choose_lt (α:=Nat->Int) (p:=fun i f=>∀ j,j < k->W.cell? (x.add (i * k+j))=some (.int .u8 (f j))/\0<=f j/\f j<=255)
   (fun i hi=>Deep.choose_lt (α:=Int) (p:=fun j z=>W.cell? (x.add (i * k+j))=some (.int .u8 z)/\0<=z/\z<=255) (key i hi))
  refine ⟨len,Z,some x,cap,rfl,hl,hm,fun hpos=>?_⟩
  obtain ⟨b,off,spot⟩:=x
  have hspot:spot=none:=by simpa [Addr.add] using World.cell?_spot (hZ 0 hpos 0 hk).1
  subst hspot
  refine ⟨b,off,rfl,fun i hi j hj=>?_⟩
  have:=hZ i hi j hj
  rwa [Go.WideShapes.add_plain,<- Nat.add_assoc] at this

def IsRow (kd:IntKind) (w:World) (v:Value) (len:Nat) (Z:Nat->Int):Prop :=
 ∃ a cap,v=.slice a len cap/\len<=cap/\cap<=maxLen/\(0 < len->∃ b off,a=some ⟨b,off,none⟩ ∧
  ∀ i,i < len->w.cell? ⟨b,off+i,none⟩=some (.int kd (Z i))/\(Lit.int kd (Z i)).wf=true)

theorem open_row {kd:IntKind} {t e:TypeId} (ht:P.underlying t=some (.slice e)) (he:P.underlying e=some (.int kd)) (hce:P.cellsOf e=1)
  (hval:Value.okWide P W .any base t v) (h:DataW.Trod enc P W 0 (fun _=>true) true t v d p):∃ len Z,IsRow kd W v len Z:=by
 obtain ⟨a,len,cap,rfl⟩:=okWide_slice ht hval
 obtain ⟨fuel,hf⟩:=h
 rcases open_ints ht he hce hf with ⟨hcs,_⟩ | ⟨x,l,c,zs,hcs,_,hl,hm,hz,_,hcell,hwz⟩
 ·simp [Value.cells] at hcs
  obtain ⟨rfl,rfl,rfl⟩:=hcs
  exact ⟨0,fun _=>0,none,0,rfl,Nat.le_refl _,Nat.zero_le _,fun h=>absurd h (Nat.lt_irrefl _)⟩
 ·simp [Value.cells] at hcs
  obtain ⟨rfl,rfl,rfl⟩:=hcs
  have hz':zs.length=cap:=by simpa using hz
  refine ⟨len,fun i=>zs.getD i 0,some x,cap,rfl,hl,hm,fun hpos=>?_⟩
  obtain ⟨b,off,rfl,hc⟩:=ints_at hcell (by omega)
  refine ⟨b,off,rfl,fun i hi=>⟨hc i (by omega),hwz _ ?_⟩⟩
  have:i < zs.length:=by omega
  simp [List.getD,List.getElem?_eq_getElem this]


theorem okWide_ofArray {n:Nat} {t e:TypeId} (ht:P.underlying t=some (.array n e)) (h:Value.okWide P W .any base t v):∃ xs:Array Value,v=.agg xs:=by
 simp only [Value.okWide,ht] at h
 obtain ⟨cs,h1,_⟩:=h
 exact ⟨cs,h1⟩

theorem open_arr_int {kd:IntKind} {n:Nat} {t e:TypeId} (ht:P.underlying t=some (.array n e)) (he:P.underlying e=some (.int kd)) (hct:P.cellsOf t=n) (hce:P.cellsOf e=1)
  (hval:Value.okWide P W .any base t v) (h:DataW.Trod enc P W 0 (fun _=>true) true t v d p) :
  ∃ zs:List Int,v=.agg (zs.map (Value.int kd)).toArray/\zs.length=n/\∀ z ∈ zs,(Lit.int kd z).wf=true:=by
 obtain ⟨xs,rfl⟩:=okWide_ofArray ht hval
 obtain ⟨fuel,hf⟩:=h
 obtain ⟨ys,m,_,_,hl,hn,hy⟩:=DataW.trod_array ht hf
 have hxs:xs.toList.length=n:=by rw [<- hct,<- hl];rfl
 have key:∀ i,i < n->∃ z:Int,xs.toList[i]?=some (.int kd z)/\(Lit.int kd z).wf=true:=by
  intro i hi
  have h1:=hy i hi
  rw [hce,Nat.mul_one,List.getElem?_eq_getElem (by omega)] at h1
  obtain ⟨z,hz1,_,hz3⟩:=DataW.trod_int he h1
  refine ⟨z,?_,hz3⟩
  have:=congrArg (fun l=>l[0]?) hz1
  have hc:(Value.agg xs).cells=xs:=rfl
  simp [hc] at this
  simpa using this
 obtain ⟨Z,hZ⟩:=Deep.choose_lt (α:=Int) (p:=fun i z=>xs.toList[i]?=some (.int kd z)/\(Lit.int kd z).wf=true) key
 refine ⟨(List.range n).map Z,?_,by simp,fun z hz=>?_⟩
 ·congr 1
  rw [<- Array.toArray_toList (xs:=xs)]
  congr 1
  apply List.ext_getElem?
  intro i
  by_cases hi:i < n
  ·rw [(hZ i hi).1]
   simp [hi]
  ·rw [List.getElem?_eq_none (by omega),List.getElem?_eq_none (by simp;omega)]
 ·obtain ⟨i,hi,rfl⟩:=List.mem_map.1 hz
  exact (hZ i (List.mem_range.1 hi)).2

end


theorem row_u8 {w:World} {v:Value} {len:Nat} {Z:Nat->Int} (h:IsRow .u8 w v len Z):∃ zs:List Nat,zs.length=len/\(∀ z ∈ zs,z < 256)/\RowV w v (u8s zs):=by
 obtain ⟨a,cap,rfl,h1,h2,h3⟩:=h
 refine ⟨(List.range len).map fun i=>(Z i).toNat,by simp,fun z hz=>?_,a,cap,by simp,by simpa using h1,h2,fun hp=>?_⟩
 ·obtain ⟨i,hi,rfl⟩:=List.mem_map.1 hz
  have hi:=List.mem_range.1 hi
  obtain ⟨b,off,_,hc⟩:=h3 (by omega)
  have:=bounds_u8 (hc i hi).2
  omega
 ·simp only [u8s_length,List.length_map,List.length_range] at hp
  obtain ⟨b,off,rfl,hc⟩:=h3 hp
  refine ⟨b,off,rfl,fun i u hu=>?_⟩
  have hi:i < len:=by
   have:=(List.getElem?_eq_some_iff.1 hu).1
   simpa using this
  obtain ⟨h4,h5⟩:=hc i hi
  rw [h4]
  have hb:=bounds_u8 h5
  simp only [u8s,List.getElem?_map,List.getElem?_range hi,Option.map_some] at hu
  rw [<- hu]
  congr 2
  omega

end Go.Proofs.Ytgdegpifjljnoaa
