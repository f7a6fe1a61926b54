/- slices.IndexFunc and slices.DeleteFunc at []api.Lease: whatever the predicate. -/
import Derived.Test.YtaondjmimobnbaaIns
import Derived.Shelf.Abstract
import Derived.Test.YtaondjmimobnbaaLem
namespace Go.Proofs.Ytaondjmimobnbaa.dlf
set_option maxRecDepth 100000
set_option linter.unusedVariables false
set_option linter.unusedSimpArgs false
open Go.RowKit ins lem

theorem Zdh {w w':World} (h:Ex w w') (row:Option Nat):w.grownBy w' row:=⟨h.os,h.tape,h.output,h.size,fun k hk _=>h.block k hk⟩
theorem Zha {w w':World} {base:Nat} {e:TypeId} {v:Value} {n:Nat} {xs:List Value} (h:w.ownsRow base e 4 v n xs) (g:Ex w w'):w'.ownsRow base e 4 v n xs:=h.kept (row:=none) (Zdh g none) (by
 rcases h.2 with ⟨rfl,_⟩ | ⟨_,_,_,rfl,_⟩
 ·exact .inl rfl
 ·exact .inr (by simp [Value.ownBlock]))
structure Kept (p:LeM->Bool) (xs dk:List LeM) (i j:Nat):Prop where
 lt:i < j
 le:j<=xs.length
 len:dk.length=xs.length
 front:dk.take i=(xs.take j).filter fun x=>!p x
 back:dk.drop j=xs.drop j
theorem Kept.at {p:LeM->Bool} {xs dk:List LeM} {i j:Nat} (h:Kept p xs dk i j) {x:LeM} (hx:xs[j]?=some x):dk[j]?=some x:=by
 have:=congrArg (fun l:List LeM=>l[0]?) h.back
 simpa [hx] using this
theorem Kept.skip {p:LeM->Bool} {xs dk:List LeM} {i j:Nat} (h:Kept p xs dk i j) {x:LeM} (hx:xs[j]?=some x) (hp:p x=true):Kept p xs dk i (j+1):=by
 obtain ⟨hj,rfl⟩:=List.getElem?_eq_some_iff.1 hx
 refine ⟨by have:=h.lt;omega,hj,h.len,?_,?_⟩
 ·rw [h.front,List.take_add_one,hx,List.filter_append]
  simp [hp]
 ·rw [<- List.drop_drop,<- List.drop_drop,h.back]
theorem Kept.keep {p:LeM->Bool} {xs dk:List LeM} {i j:Nat} (h:Kept p xs dk i j) {x:LeM} (hx:xs[j]?=some x) (hp:p x=false):Kept p xs (dk.set i x) (i+1) (j+1):=by
 obtain ⟨hj,rfl⟩:=List.getElem?_eq_some_iff.1 hx
 have h1:=h.lt
 have h2:=h.len
 refine ⟨by omega,hj,by simp [h2],?_,?_⟩
 ·rw [List.take_add_one,List.take_set_of_le (by omega),h.front,List.getElem?_set_self (by omega),List.take_add_one,hx,List.filter_append]
  simp [hp]
 ·rw [List.drop_set_of_lt (by omega),<- List.drop_drop,h.back,List.drop_drop]
theorem Kept.start {p:LeM->Bool} {xs:List LeM} {k:Nat} {x:LeM} (hx:xs[k]?=some x) (hp:p x=true) (hno:∀ (j:Nat) (y:LeM),j < k->xs[j]?=some y->p y=false):Kept p xs xs k (k+1):=by
 obtain ⟨hk,rfl⟩:=List.getElem?_eq_some_iff.1 hx
 refine ⟨by omega,hk,rfl,?_,rfl⟩
 rw [List.take_add_one,hx,List.filter_append]
 simp only [Option.toList_some,List.filter_cons,hp,Bool.not_true,Bool.false_eq_true,if_false,List.filter_nil,List.append_nil]
 rw [List.filter_eq_self.2]
 intro y hy
 obtain ⟨j,hj⟩:=List.mem_iff_getElem?.1 hy
 rw [List.getElem?_take] at hj
 split at hj
 ·rw [hno j y (by assumption) hj];rfl
 ·cases hj

theorem set4:∀ (dk:List LeM) (i:Nat) (x:LeM),i < dk.length->((((encL.all dk).set (i * 4) (.int .i64 x.1)).set (i * 4+1) (.int .i64 x.2.1)).set (i * 4+2) (.int .i64 x.2.2.1)).set (i * 4+3) (.int .i64 x.2.2.2)=encL.all (dk.set i x)
 | [],i,x,h=>absurd h (Nat.not_lt_zero _)
 | y :: dk,0,x,_=>by
  rw [List.set_cons_zero,encL.all_cons,encL.all_cons]
  show List.set (List.set (List.set (List.set ([Value.int .i64 y.1,.int .i64 y.2.1,.int .i64 y.2.2.1,.int .i64 y.2.2.2]++encL.all dk) _ _) _ _) _ _) _ _=[Value.int .i64 x.1,.int .i64 x.2.1,.int .i64 x.2.2.1,.int .i64 x.2.2.2]++encL.all dk
  simp
 | y :: dk,i+1,x,hi=>by
  have h:=set4 dk i x (by simpa using hi)
  rw [List.set_cons_succ,encL.all_cons,encL.all_cons,<- h]
  show List.set (List.set (List.set (List.set ([Value.int .i64 y.1,.int .i64 y.2.1,.int .i64 y.2.2.1,.int .i64 y.2.2.2]++encL.all dk) _ _) _ _) _ _) _ _=[Value.int .i64 y.1,.int .i64 y.2.1,.int .i64 y.2.2.1,.int .i64 y.2.2.2]++_
  rw [show (i+1) * 4=i * 4+1+1+1+1 by omega]
  simp only [List.cons_append,List.nil_append,List.set_cons_succ,show i * 4+1+1+1+1+1=(i * 4+1)+1+1+1+1 from rfl,show i * 4+1+1+1+1+2=(i * 4+2)+1+1+1+1 from rfl,show i * 4+1+1+1+1+3=(i * 4+3)+1+1+1+1 from rfl]
theorem stored4 {W:World} {base b n cap:Nat} {e:TypeId} {dk:List LeM} (h:W.ownsRow base e 4 (.slice (some ⟨b,0,none⟩) n cap) n (encL.all dk)) (i:Nat) (hi:i < dk.length) (x:LeM) :
  ((((W.setCell ⟨b,i * 4,none⟩ (.int .i64 x.1)).setCell ⟨b,i * 4+1,none⟩ (.int .i64 x.2.1)).setCell ⟨b,i * 4+2,none⟩ (.int .i64 x.2.2.1)).setCell ⟨b,i * 4+3,none⟩ (.int .i64 x.2.2.2)).ownsRow base e 4 (.slice (some ⟨b,0,none⟩) n cap) n (encL.all (dk.set i x)) ∧
  W.grownBy ((((W.setCell ⟨b,i * 4,none⟩ (.int .i64 x.1)).setCell ⟨b,i * 4+1,none⟩ (.int .i64 x.2.1)).setCell ⟨b,i * 4+2,none⟩ (.int .i64 x.2.2.1)).setCell ⟨b,i * 4+3,none⟩ (.int .i64 x.2.2.2)) (some b):=by
 obtain ⟨h1,g1⟩:=h.stored (i * 4) (.int .i64 x.1)
 obtain ⟨h2,g2⟩:=h1.stored (i * 4+1) (.int .i64 x.2.1)
 obtain ⟨h3,g3⟩:=h2.stored (i * 4+2) (.int .i64 x.2.2.1)
 obtain ⟨h4,g4⟩:=h3.stored (i * 4+3) (.int .i64 x.2.2.2)
 rw [set4 dk i x hi] at h4
 exact ⟨h4,((g1.trans g2).trans g3).trans g4⟩

theorem run_clear_k {P:Program} (w:World) (t ty elem:TypeId) (i0:TypeInfo) (z:Value) (g o k c:Nat) (cur:List Value) (te:TypeId) (hu:P.underlying t=some (.slice elem)) (hi:P.info? elem=some i0) (hz:i0.zero=some z) (hk:0 < k)
  (hg:w.heap[g]?=some (.cells cur.toArray te (0,0))) (hfit:o+(Builtin.zeroCells z.cells k).size<=cur.length) (h1:∀ v ∈ (Builtin.zeroCells z.cells k).toList,v.oneCell'=true) :
  (Builtin.clear_ #[t] ty #[.slice (some ⟨g,o,none⟩) k c]).run P w=.ok (.tuple #[]) (w.setRow g (splice cur o (Builtin.zeroCells z.cells k).toList).toArray):=by
 have hst:=run_storeCells_at P g o te (Builtin.zeroCells z.cells k).toList 0 cur.toArray w hg (by simpa using hfit) h1
 simp only [Nat.add_zero,List.append_assoc] at hst
 have hst':(storeCells ⟨g,o,none⟩ (Builtin.zeroCells z.cells k).toList).run P w=.ok () (w.setRow g (splice cur o (Builtin.zeroCells z.cells k).toList).toArray):=hst
 cases k with
 | zero=>omega
 | succ k=>simp [Builtin.clear_,run_underlying hu,zeroValue,typeInfo,hi,hz,hst']
theorem wpList_clear_run {P:Program} (w:World) {ops:Array Oper} {rest:List Oper} {o:Oper} {a:Act} {Q:Exit->Act->World->Prop} (hgd:o.guard=none) (s:Operand) (t:TypeId)
  (ho:o.op=.call { callee:=.builtin .clear,args:=#[s],argTypes:=#[t] }) (u:Value) (hs:a.eval s=u) {v':Value} {w':World}
  (hr:(Builtin.clear_ #[t] o.type #[u]).run P w=.ok v' w') (h:wpList P ops Q rest (a.put o.dst v') w'):wpList P ops Q (o :: rest) a w:=by
 refine wpList_plain hgd fun _ hK=>?_
 have:=hK _ _ h
 unfold Oper.wp execOp
 simp only [ho,resolve,invoke,builtin,Sem.run_bind,Sem.run_pure,Result.andThen_ok,List.map_toArray,List.map_cons,List.map_nil,hs,hr]
 exact this
end Go.Proofs.Ytaondjmimobnbaa.dlf
