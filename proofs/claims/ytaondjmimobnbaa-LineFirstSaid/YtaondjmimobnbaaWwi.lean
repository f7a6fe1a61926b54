/- Texts joined. -/
import Derived.Test.YtaondjmimobnbaaIns
import Derived.Shelf.Abstract
import Derived.Test.YtaondjmimobnbaaWfi
import Derived.Test.YtaondjmimobnbaaChecked
import Derived.OpenShut
import Derived.OwnWalk
import Derived.WalkLawsBesides
import Derived.KernelRfl
import Derived.Lib.AppendZeros
import Derived.Lib.AppendZerosOnto
import Derived.Outline
section
/- Texts joined. -/
section
/- Texts joined. -/
section
/- slices.IndexFunc and slices.DeleteFunc at []api.Lease: whatever the predicate. -/
namespace Go.Proofs.Ytaondjmimobnbaa.dlf
set_option maxRecDepth 100000
set_option linter.unusedVariables false
set_option linter.unusedSimpArgs false
open Go.RowKit ins lem

theorem Zda {w w':World} (h:Ex w w') (row:Option Nat):w.grownBy w' row:=⟨h.os,h.tape,h.output,h.size,fun k hk _=>h.block k hk⟩
theorem Zgs {w w':World} {base:Nat} {e:TypeId} {v:Value} {n:Nat} {xs:List Value} (h:w.ownsRow base e 4 v n xs) (g:Ex w w'):w'.ownsRow base e 4 v n xs:=h.kept (row:=none) (Zda g none) (by
 rcases h.2 with ⟨rfl,_⟩ | ⟨_,_,_,rfl,_⟩
 ·exact .inl rfl
 ·exact .inr (by simp [Value.ownBlock]))
structure Kept (p:LeM->Bool) (xs dk:List LeM) (i j:Nat):Prop where
 lt:i < j
 le:j<=xs.length
 len:dk.length=xs.length
 front:dk.take i=(xs.take j).filter fun x=>!p x
 back:dk.drop j=xs.drop j
theorem Kept.at {p:LeM->Bool} {xs dk:List LeM} {i j:Nat} (h:Kept p xs dk i j) {x:LeM} (hx:xs[j]?=some x):dk[j]?=some x:=by
 have:=congrArg (fun l:List LeM=>l[0]?) h.back
 simpa [hx] using this
theorem Kept.skip {p:LeM->Bool} {xs dk:List LeM} {i j:Nat} (h:Kept p xs dk i j) {x:LeM} (hx:xs[j]?=some x) (hp:p x=true):Kept p xs dk i (j+1):=by
 obtain ⟨hj,rfl⟩:=List.getElem?_eq_some_iff.1 hx
 refine ⟨by have:=h.lt;omega,hj,h.len,?_,?_⟩
 ·rw [h.front,List.take_add_one,hx,List.filter_append]
  simp [hp]
 ·rw [<- List.drop_drop,<- List.drop_drop,h.back]
theorem Kept.keep {p:LeM->Bool} {xs dk:List LeM} {i j:Nat} (h:Kept p xs dk i j) {x:LeM} (hx:xs[j]?=some x) (hp:p x=false):Kept p xs (dk.set i x) (i+1) (j+1):=by
 obtain ⟨hj,rfl⟩:=List.getElem?_eq_some_iff.1 hx
 have h1:=h.lt
 have h2:=h.len
 refine ⟨by omega,hj,by simp [h2],?_,?_⟩
 ·rw [List.take_add_one,List.take_set_of_le (by omega),h.front,List.getElem?_set_self (by omega),List.take_add_one,hx,List.filter_append]
  simp [hp]
 ·rw [List.drop_set_of_lt (by omega),<- List.drop_drop,h.back,List.drop_drop]
theorem Kept.start {p:LeM->Bool} {xs:List LeM} {k:Nat} {x:LeM} (hx:xs[k]?=some x) (hp:p x=true) (hno:∀ (j:Nat) (y:LeM),j < k->xs[j]?=some y->p y=false):Kept p xs xs k (k+1):=by
 obtain ⟨hk,rfl⟩:=List.getElem?_eq_some_iff.1 hx
 refine ⟨by omega,hk,rfl,?_,rfl⟩
 rw [List.take_add_one,hx,List.filter_append]
 simp only [Option.toList_some,List.filter_cons,hp,Bool.not_true,Bool.false_eq_true,if_false,List.filter_nil,List.append_nil]
 rw [List.filter_eq_self.2]
 intro y hy
 obtain ⟨j,hj⟩:=List.mem_iff_getElem?.1 hy
 rw [List.getElem?_take] at hj
 split at hj
 ·rw [hno j y (by assumption) hj];rfl
 ·cases hj

theorem set4:∀ (dk:List LeM) (i:Nat) (x:LeM),i < dk.length->((((encL.all dk).set (i * 4) (.int .i64 x.1)).set (i * 4+1) (.int .i64 x.2.1)).set (i * 4+2) (.int .i64 x.2.2.1)).set (i * 4+3) (.int .i64 x.2.2.2)=encL.all (dk.set i x)
 | [],i,x,h=>absurd h (Nat.not_lt_zero _)
 | y :: dk,0,x,_=>by
  rw [List.set_cons_zero,encL.all_cons,encL.all_cons]
  show List.set (List.set (List.set (List.set ([Value.int .i64 y.1,.int .i64 y.2.1,.int .i64 y.2.2.1,.int .i64 y.2.2.2]++encL.all dk) _ _) _ _) _ _) _ _=[Value.int .i64 x.1,.int .i64 x.2.1,.int .i64 x.2.2.1,.int .i64 x.2.2.2]++encL.all dk
  simp
 | y :: dk,i+1,x,hi=>by
  have h:=set4 dk i x (by simpa using hi)
  rw [List.set_cons_succ,encL.all_cons,encL.all_cons,<- h]
  show List.set (List.set (List.set (List.set ([Value.int .i64 y.1,.int .i64 y.2.1,.int .i64 y.2.2.1,.int .i64 y.2.2.2]++encL.all dk) _ _) _ _) _ _) _ _=[Value.int .i64 y.1,.int .i64 y.2.1,.int .i64 y.2.2.1,.int .i64 y.2.2.2]++_
  rw [show (i+1) * 4=i * 4+1+1+1+1 by omega]
  simp only [List.cons_append,List.nil_append,List.set_cons_succ,show i * 4+1+1+1+1+1=(i * 4+1)+1+1+1+1 from rfl,show i * 4+1+1+1+1+2=(i * 4+2)+1+1+1+1 from rfl,show i * 4+1+1+1+1+3=(i * 4+3)+1+1+1+1 from rfl]
theorem stored4 {W:World} {base b n cap:Nat} {e:TypeId} {dk:List LeM} (h:W.ownsRow base e 4 (.slice (some ⟨b,0,none⟩) n cap) n (encL.all dk)) (i:Nat) (hi:i < dk.length) (x:LeM) :
  ((((W.setCell ⟨b,i * 4,none⟩ (.int .i64 x.1)).setCell ⟨b,i * 4+1,none⟩ (.int .i64 x.2.1)).setCell ⟨b,i * 4+2,none⟩ (.int .i64 x.2.2.1)).setCell ⟨b,i * 4+3,none⟩ (.int .i64 x.2.2.2)).ownsRow base e 4 (.slice (some ⟨b,0,none⟩) n cap) n (encL.all (dk.set i x)) ∧
  W.grownBy ((((W.setCell ⟨b,i * 4,none⟩ (.int .i64 x.1)).setCell ⟨b,i * 4+1,none⟩ (.int .i64 x.2.1)).setCell ⟨b,i * 4+2,none⟩ (.int .i64 x.2.2.1)).setCell ⟨b,i * 4+3,none⟩ (.int .i64 x.2.2.2)) (some b):=by
 obtain ⟨h1,g1⟩:=h.stored (i * 4) (.int .i64 x.1)
 obtain ⟨h2,g2⟩:=h1.stored (i * 4+1) (.int .i64 x.2.1)
 obtain ⟨h3,g3⟩:=h2.stored (i * 4+2) (.int .i64 x.2.2.1)
 obtain ⟨h4,g4⟩:=h3.stored (i * 4+3) (.int .i64 x.2.2.2)
 rw [set4 dk i x hi] at h4
 exact ⟨h4,((g1.trans g2).trans g3).trans g4⟩

theorem run_clear_k {P:Program} (w:World) (t ty elem:TypeId) (i0:TypeInfo) (z:Value) (g o k c:Nat) (cur:List Value) (te:TypeId) (hu:P.underlying t=some (.slice elem)) (hi:P.info? elem=some i0) (hz:i0.zero=some z) (hk:0 < k)
  (hg:w.heap[g]?=some (.cells cur.toArray te (0,0))) (hfit:o+(Builtin.zeroCells z.cells k).size<=cur.length) (h1:∀ v ∈ (Builtin.zeroCells z.cells k).toList,v.oneCell'=true) :
  (Builtin.clear_ #[t] ty #[.slice (some ⟨g,o,none⟩) k c]).run P w=.ok (.tuple #[]) (w.setRow g (splice cur o (Builtin.zeroCells z.cells k).toList).toArray):=by
 have hst:=run_storeCells_at P g o te (Builtin.zeroCells z.cells k).toList 0 cur.toArray w hg (by simpa using hfit) h1
 simp only [Nat.add_zero,List.append_assoc] at hst
 have hst':(storeCells ⟨g,o,none⟩ (Builtin.zeroCells z.cells k).toList).run P w=.ok () (w.setRow g (splice cur o (Builtin.zeroCells z.cells k).toList).toArray):=hst
 cases k with
 | zero=>omega
 | succ k=>simp [Builtin.clear_,run_underlying hu,zeroValue,typeInfo,hi,hz,hst']
theorem wpList_clear_run {P:Program} (w:World) {ops:Array Oper} {rest:List Oper} {o:Oper} {a:Act} {Q:Exit->Act->World->Prop} (hgd:o.guard=none) (s:Operand) (t:TypeId)
  (ho:o.op=.call { callee:=.builtin .clear,args:=#[s],argTypes:=#[t] }) (u:Value) (hs:a.eval s=u) {v':Value} {w':World}
  (hr:(Builtin.clear_ #[t] o.type #[u]).run P w=.ok v' w') (h:wpList P ops Q rest (a.put o.dst v') w'):wpList P ops Q (o :: rest) a w:=by
 refine wpList_plain hgd fun _ hK=>?_
 have:=hK _ _ h
 unfold Oper.wp execOp
 simp only [ho,resolve,invoke,builtin,Sem.run_bind,Sem.run_pure,Result.andThen_ok,List.map_toArray,List.map_cons,List.map_nil,hs,hr]
 exact this
end Go.Proofs.Ytaondjmimobnbaa.dlf
end
section
/- Texts joined. -/
section
/- slices.Grow at nil and slices.Concat at []api.Lease. -/
namespace Go.Proofs.Ytaondjmimobnbaa.catL
open Go.RowKit

def Rows (w:World) (vs:List Value) (xss:List (List lem.LeM)):Prop :=
 vs.length=xss.length/\∀ i v,vs[i]?=some v->RowE lem.encL w v (xss.getD i [])
theorem Rows.one {w:World} {v:Value} {xs:List lem.LeM} (h:RowE lem.encL w v xs):Rows w [v] [xs] :=
 ⟨rfl,fun i u hu=>by
  cases i with
  | zero=>simp at hu;subst hu;exact h
  | succ i=>simp at hu⟩
end Go.Proofs.Ytaondjmimobnbaa.catL
end
section
/- lease.Drop and lease.Prune, by hand. -/
namespace Go.Proofs.Ytaondjmimobnbaa.lhd
set_option maxRecDepth 100000
set_option linter.unusedVariables false
set_option linter.unusedSimpArgs false
open Go.RowKit ins lem dlf

end Go.Proofs.Ytaondjmimobnbaa.lhd
end
end
end
section
/- slices.IndexFunc and slices.DeleteFunc at []api.Wait: whatever the predicate. -/
namespace Go.Proofs.Ytaondjmimobnbaa.dlw
set_option maxRecDepth 100000
set_option linter.unusedVariables false
set_option linter.unusedSimpArgs false
open Go.RowKit ins lem dlf
theorem info_el:(Try.prog.info? 24).map (fun i=>(i.zero,i.size,i.bytes))=some (some (.agg #[.int .i64 0,.int .i64 0,.int .i64 0,.int .i64 0]),4,32):=by kernel_rfl
set_option maxHeartbeats 2000000 in
theorem index_any (p:LeM->Bool) (g:Nat) (lb:Array Value) (eg:∀ args w,(callFunc g args).run Try.prog w=.ok (.enter g args) w) (b o n cap:Nat) (xs:List LeM) (w:World) (hr:RowE encL w (.slice (some ⟨b,o,none⟩) n cap) xs) (hn:xs.length=n) (hn6:n<=1000000)
  (hp:∀ W,Ex w W->∀ x,Calls Try.prog g (#[lv x]++lb) W fun e W'=>e=.returned (.bool (p x))/\Ex W W') :
  Calls Try.prog 25 #[.slice (some ⟨b,o,none⟩) n cap,.func (.func g) #[] lb] w fun e w'=>e=.returned (.int .i64 (idx p xs))/\Ex w w':=by
 have HR:=Lib.hid hr
 have HP:=Lib.hid hp
 have HN:=Lib.hid hn
 have mixed:Try.prog.follows .mixedOrders=true:=by kernel_rfl
 clear hr hp hn
 go_enter Try.func25,Try.ntmps25
 go_wp2_with fail
 go_loopw [5,8] (fun _ s8 wr=>∃ k:Nat,k<=n/\s8=.int .i64 k/\Ex w wr/\Hid (∀ (j:Nat) (x:LeM),j < k->xs[j]?=some x->p x=false)) (fun _ i _=>n - (intOf i).toNat)
 case atStart=>exact ⟨0,by omega,rfl,Ex.refl _,Lib.hid fun j x hj=>absurd hj (Nat.not_lt_zero _)⟩
 case round =>
  obtain ⟨k,hk,rfl,gk,HA⟩:=hrel
  by_cases hlt:k < n
  ·have hltz:(k:Int) < (n:Int):=by omega
   obtain ⟨x,hx⟩:∃ x,xs[k]?=some x:=⟨_,List.getElem?_eq_getElem (by have:=HN.out;omega)⟩
   have e0:=(HR.out.ex gk).at (j:=0) hx rfl
   have e1:=(HR.out.ex gk).at (j:=1) hx rfl
   have e2:=(HR.out.ex gk).at (j:=2) hx rfl
   have e3:=(HR.out.ex gk).at (j:=3) hx rfl
   simp only [encL,Nat.add_zero,Nat.zero_add,<- Nat.add_assoc] at e0 e1 e2 e3
   have HX:=Lib.hid hx
   have HC:=Lib.hid fun W (h:Ex w W)=>HP.out W h x
   clear hx
   obtain ⟨x0,x1,x2,x3⟩:=x
   simp only [lv] at HC e0 e1 e2 e3
   cases hq:p (x0,x1,x2,x3) with
   | true =>
    rw [hq] at HC
    have HQ:=Lib.hid hq
    clear hq
    go_wp2_with (go_at_fn g;refine (HC.out _ gk).mono ?_;rintro e w' ⟨rfl,gg⟩)
    go_ret
    exact ⟨by rw [idx_hit HX.out HQ.out HA.out];rfl,Ex.trans gk gg⟩
   | false =>
    rw [hq] at HC
    have HQ:=Lib.hid hq
    clear hq
    go_wp2_with (go_at_fn g;refine (HC.out _ gk).mono ?_;rintro e w' ⟨rfl,gg⟩)
    go_roundw
    case rel =>
     refine ⟨k+1,by omega,by go_num,Ex.trans gk gg,Lib.hid fun j y hj hy=>?_⟩
     by_cases e:j=k
     ·subst e
      rw [HX.out] at hy
      cases hy
      exact HQ.out
     ·exact HA.out j y (by omega) hy
    case measure=>simp [intOf];omega
  ·have hltz:¬ (k:Int) < (n:Int):=by omega
   go_wp2_with fail
   go_ret
   exact ⟨by rw [idx_miss fun j y hy=>HA.out j y (by have:=(List.getElem?_eq_some_iff.1 hy).1;have:=HN.out;omega) hy];rfl,gk⟩

def Left (w:World) (base b cap:Nat) (ys:List LeM) (e:Ending) (w':World):Prop:=e=.returned (.slice (some ⟨b,0,none⟩) ys.length cap)/\w'.ownsRow base 24 4 (.slice (some ⟨b,0,none⟩) ys.length cap) ys.length (encL.all ys)/\w.grownBy w' (some b)
set_option maxHeartbeats 4000000 in
theorem delete_any (p:LeM->Bool) (g:Nat) (lb:Array Value) (eg:∀ args w,(callFunc g args).run Try.prog w=.ok (.enter g args) w) (base b n cap:Nat) (xs:List LeM) (w:World) (hown:w.ownsRow base 24 4 (.slice (some ⟨b,0,none⟩) n cap) n (encL.all xs)) (hn6:n<=1000000)
  (hp:∀ W,w.grownBy W (some b)->∀ x,Calls Try.prog g (#[lv x]++lb) W fun e W'=>e=.returned (.bool (p x))/\Ex W W') :
  Calls Try.prog 19 #[.slice (some ⟨b,0,none⟩) n cap,.func (.func g) #[] lb] w (Left w base b cap (xs.filter fun x=>!p x)):=by
 obtain ⟨hrow,hn⟩:=RowE.of_own (E:=encL) hown
 have hI:=index_any p g lb eg b 0 n cap xs w hrow hn hn6 (fun W hW x=>hp W (Zda hW _) x)
 have mixed:Try.prog.follows .mixedOrders=true:=by kernel_rfl
 have HO:=Lib.hid hown
 have HP:=Lib.hid hp
 have HN:=Lib.hid hn
 clear hown hp hrow
 cases hf:xs.findIdx? p with
 | none =>
  have e1:idx p xs=-1:=by simp [idx,hf]
  rw [e1] at hI
  have hall:(xs.filter fun x=>!p x)=xs:=List.filter_eq_self.2 fun x hx=>by simpa using List.findIdx?_eq_none_iff.1 hf x hx
  have HI:=Lib.hid hI
  clear hI e1 hf
  rw [hall]
  clear hn hall
  go_enter Try.func19,Try.ntmps19
  go_wp2_with (go_at_call 25;refine HI.out.mono ?_;rintro e w' ⟨rfl,gg⟩)
  go_ret
  exact ⟨by rw [HN.out];rfl,by rw [HN.out];exact Zgs HO.out gg,Zda gg _⟩
 | some k0 =>
  obtain ⟨hk0,hpk,hno⟩:=List.findIdx?_eq_some_iff_getElem.1 hf
  have hst:=Kept.start (p:=p) (List.getElem?_eq_getElem hk0) hpk (fun j y hj hy=>by
   obtain ⟨h,rfl⟩:=List.getElem?_eq_some_iff.1 hy
   simpa using hno j hj)
  have e1:idx p xs=(k0:Int):=by simp [idx,hf]
  rw [e1] at hI
  have HI:=Lib.hid hI
  have HS:=Lib.hid hst
  rw [hn] at hk0
  have hz1:((k0:Int) == -1)=false:=beq_eq_false_iff_ne.2 (by omega)
  clear hI e1 hf hst hno hpk hn
  go_enter Try.func19,Try.ntmps19
  go_wp2_with (go_at_call 25;refine HI.out.mono ?_;rintro e w' ⟨rfl,gg⟩)
  go_loopw [5,6,7] (fun s5 s6 _ wr=>∃ (i j:Nat) (dk:List LeM),s5=.int .i64 i/\s6=.int .i64 j/\i < j/\j<=n/\Hid (Kept p xs dk i j)/\Hid (wr.ownsRow base 24 4 (.slice (some ⟨b,0,none⟩) n cap) n (encL.all dk))/\w.grownBy wr (some b)) (fun _ s6 _ _=>n - (intOf s6).toNat)
  case atStart=>exact ⟨k0,k0+1,xs,rfl,by go_num,by omega,by omega,HS,Lib.hid (Zgs HO.out gg),Zda gg _⟩
  case round =>
   obtain ⟨i,j,dk,rfl,rfl,hij,hjn,HK,HW,gw⟩:=hrel
   by_cases hlt:j < n
   ·have hltz:(j:Int) < (n:Int):=by omega
    obtain ⟨x,hx⟩:∃ x,xs[j]?=some x:=⟨_,List.getElem?_eq_getElem (by have:=HN.out;omega)⟩
    have hdx:=HK.out.at hx
    obtain ⟨hrw,hdn⟩:=RowE.of_own (E:=encL) HW.out
    have c0:=hrw.at (j:=0) hdx rfl
    have c1:=hrw.at (j:=1) hdx rfl
    have c2:=hrw.at (j:=2) hdx rfl
    have c3:=hrw.at (j:=3) hdx rfl
    simp only [encL,Nat.add_zero,Nat.zero_add] at c0 c1 c2 c3
    have HX:=Lib.hid hx
    clear hx hdx hrw
    obtain ⟨x0,x1,x2,x3⟩:=x
    simp only at c0 c1 c2 c3
    have gA:w.grownBy (wr.alloc (.cells #[.int .i64 x0,.int .i64 x1,.int .i64 x2,.int .i64 x3] 24)) (some b):=gw.trans (Zda (Ex.mk_alloc wr _) _)
    have HC:=Lib.hid (HP.out _ gA (x0,x1,x2,x3))
    have HF:=Lib.hid (show ∀ w',Ex (wr.alloc (.cells #[.int .i64 x0,.int .i64 x1,.int .i64 x2,.int .i64 x3] 24)) w'->(w'.ownsRow base 24 4 (.slice (some ⟨b,0,none⟩) n cap) n (encL.all dk)/\(∃ y0 y1 y2 y3:Value,w'.cell? ⟨b,i * 4,none⟩=some y0/\w'.cell? ⟨b,i * 4+1,none⟩=some y1/\w'.cell? ⟨b,i * 4+2,none⟩=some y2/\w'.cell? ⟨b,i * 4+3,none⟩=some y3)/\∀ t,w'.frozen? ⟨b,t,none⟩=false) from fun w' hg=>by
     have ho:=Zgs (Zgs HW.out (Ex.mk_alloc wr _)) hg
     have hil:i < dk.length:=by omega
     obtain ⟨hr',_⟩:=RowE.of_own (E:=encL) ho
     have hy:=List.getElem?_eq_getElem hil
     have d0:=hr'.at (j:=0) hy rfl
     have d1:=hr'.at (j:=1) hy rfl
     have d2:=hr'.at (j:=2) hy rfl
     have d3:=hr'.at (j:=3) hy rfl
     simp only [encL,Nat.add_zero,Nat.zero_add] at d0 d1 d2 d3
     exact ⟨ho,⟨_,_,_,_,d0,d1,d2,d3⟩,fun t=>ho.frozenAt t⟩)
    simp only [lv] at HC
    have i0':(0:Int)<=(i:Int):=by omega
    have i1':(i:Int) < (n:Int):=by omega
    clear gA
    cases hq:p (x0,x1,x2,x3) with
    | true =>
     rw [hq] at HC
     have HQ:=Lib.hid hq
     clear hq
     go_wp2_with (go_at_fn g;refine HC.out.mono ?_;rintro e w' ⟨rfl,gg⟩)
     go_roundw
     case rel=>exact ⟨i,j+1,dk,rfl,by go_num,by omega,by omega,Lib.hid (HK.out.skip HX.out HQ.out),Lib.hid (HF.out _ gg).1,gw.trans (Zda (Ex.trans (Ex.mk_alloc wr _) gg) _)⟩
     case measure=>simp [intOf];omega
    | false =>
     rw [hq] at HC
     have HQ:=Lib.hid hq
     clear hq
     go_wp2_with (go_at_fn g;refine HC.out.mono ?_;rintro e w' ⟨rfl,gg⟩;obtain ⟨d0,d1,d2,d3⟩:=box4 gg;obtain ⟨ho,⟨y0,y1,y2,y3,f0,f1,f2,f3⟩,ff⟩:=HF.out _ gg;have HO2:=Lib.hid ho;clear ho)
     go_roundw
     case rel=>exact ⟨i+1,j+1,dk.set i (x0,x1,x2,x3),by go_num,by go_num,by omega,by omega,Lib.hid (HK.out.keep HX.out HQ.out),Lib.hid (stored4 HO2.out i (by omega) (x0,x1,x2,x3)).1,(gw.trans (Zda (Ex.trans (Ex.mk_alloc wr _) gg) _)).trans (stored4 HO2.out i (by omega) (x0,x1,x2,x3)).2⟩
     case measure=>simp [intOf];omega
   ·obtain rfl:j=n:=by omega
    have hltz:¬ (j:Int) < (j:Int):=by omega
    obtain ⟨i0,hi0,hz0,hz1,hz2⟩:=info_parts info_el
    obtain ⟨cur,hcur,hnc,hcm,hcs,htk,hbb⟩:∃ cur:List Value,wr.heap[b]?=some (.cells cur.toArray 24 (0,0))/\j<=cap/\cap<=maxLen/\cur.length=cap * 4/\cur.take (j * 4)=encL.all dk/\base<=b:=by
     rcases HW.out.2 with ⟨h,_⟩ | ⟨g,c',cur,h,hb,h2,h3,h4,h5,h6⟩
     ·cases h
     ·cases h;exact ⟨cur.toList,by simpa using h2,h3,h4,by simpa using h5,h6,hb⟩
    have hzs:(Builtin.zeroCells (Value.cells (.agg #[.int .i64 0,.int .i64 0,.int .i64 0,.int .i64 0])) (j - i)).size=(j - i) * 4:=by rw [size_zeroCells];rfl
    have hzo:∀ v ∈ (Builtin.zeroCells (Value.cells (.agg #[.int .i64 0,.int .i64 0,.int .i64 0,.int .i64 0])) (j - i)).toList,v.oneCell'=true:=by
     intro v hv
     simp only [Builtin.zeroCells,Value.cells] at hv
     simp at hv
     obtain ⟨a,ha,rfl⟩:=hv
     have:a % 4 < 4:=Nat.mod_lt _ (by omega)
     rcases (show a % 4=0 \/ a % 4=1 \/ a % 4=2 \/ a % 4=3 by omega) with h | h | h | h <;> simp [h] <;> rfl
    have hcl:=fun ty cc=>run_clear_k (P:=Try.prog) wr 26 ty 24 i0 _ b (i * 4) (j - i) cc cur 24 Try.underlying26 hi0 hz0 (by omega) hcur (by rw [hzs,hcs];omega) hzo
    have hil:(xs.filter fun x=>!p x).length=i:=by
     have:=HK.out.front
     rw [List.take_of_length_le (l:=xs) (by have:=HN.out;omega)] at this
     rw [<- this,List.length_take,HK.out.len,HN.out];omega
    have hfin:∀ W:World,W=wr.setRow b (splice cur (i * 4) (Builtin.zeroCells (Value.cells (.agg #[.int .i64 0,.int .i64 0,.int .i64 0,.int .i64 0])) (j - i)).toList).toArray->Left w base b cap (xs.filter fun x=>!p x) (.returned (.slice (some ⟨b,0,none⟩) i cap)) W:=by
     rintro W rfl
     have hfr:=HK.out.front
     rw [List.take_of_length_le (l:=xs) (by have:=HN.out;omega)] at hfr
     refine ⟨by rw [hil],?_,gw.trans (grown_row wr b _)⟩
     rw [hil]
     refine ⟨by rw [encL.all_length,hil];rfl,.inr ⟨b,cap,_,rfl,hbb,setRow_heap wr b _ _ _ _ hcur,by omega,hcm,?_,?_⟩⟩
     ·rw [List.size_toArray,length_splice _ _ _ (by rw [Array.length_toList,hzs,hcs];omega),hcs]
     ·rw [List.toList_toArray,<- hfr]
      unfold splice
      rw [List.take_append_of_le_length (by simp;omega),List.take_take,Nat.min_self]
      have h2:=congrArg (List.take (i * 4)) htk
      rw [List.take_take,show min (i * 4) (j * 4)=i * 4 by omega] at h2
      rw [h2]
      have h3:encL.all dk=encL.all (dk.take i)++encL.all (dk.drop i):=by rw [<- encL.all_append,List.take_append_drop]
      have h4:(encL.all (dk.take i)).length=i * 4:=by rw [encL.all_length,List.length_take,HK.out.len,HN.out];show min i j * 4=_;rw [Nat.min_eq_left (by omega)]
      rw [h3,<- h4,List.take_left' rfl]
    have CL:=Lib.hid hcl
    have FIN:=Lib.hid hfin
    have hb1:(0:Int)<=(i:Int):=by omega
    have hb2:(i:Int)<=(j:Int):=by omega
    have hb3:(i:Int)<=(cap:Int):=by omega
    have hci:¬ (cap=i):=by omega
    have hnz:∀ w,(Go.sizeOf 24).run Try.prog w=.ok 4 w:=fun w=>by simp [sizeOf,typeInfo,hi0,hz1]
    unfold maxLen at hcm
    clear hcl hfin hcur hcs htk hzs hzo hil
    go_wp2_with (refine wpList_clear_run _ rfl _ _ rfl _ rfl (CL.out _ _) ?_)
    go_ret
    exact FIN.out _ rfl
end Go.Proofs.Ytaondjmimobnbaa.dlw
end
end
section
/- Texts joined. -/
section
/- slices.Grow at nil and slices.Concat at []api.Wait. -/
namespace Go.Proofs.Ytaondjmimobnbaa.caw
open Go.RowKit

theorem info_el:(Try.prog.info? 24).map (fun i=>(i.zero,i.size,i.bytes))=some (some (.agg #[.int .i64 0,.int .i64 0,.int .i64 0,.int .i64 0]),4,32):=by kernel_rfl
def Owns (w:World) (xs:List lem.LeM) (e:Ending) (w':World):Prop:=∃ v,e=.returned v/\w'.ownsRow w.heap.size 24 4 v xs.length (lem.encL.all xs)/\Ex w w'

theorem grow_nil (n:Nat) (hn:n<=1000000) (w:World) :
  Calls Try.prog 28 #[.slice none 0 0,.int .i64 (n:Int)] w (Owns w []):=by
 obtain ⟨i0,hi,hz0,hz1,hz2⟩:=info_parts info_el
 by_cases h0:0 < n
 ·have hr:=Lib.run_append_nil_zeros (P:=Try.prog) w 26 3 26 24 i0 (.agg #[.int .i64 0,.int .i64 0,.int .i64 0,.int .i64 0]) .i64 .i64 Try.underlying26 Try.underlying3 hi hz0 n h0 (by omega) (by omega) (by rw [hz2];omega)
  have hcap:=grownCap_ge w n 0 24
  have hcm:grownCap w n 0 24<=maxLen:=grownCap_le_maxLen w n 0 24 (by unfold maxLen;omega)
  have i1:(0:Int) < (n:Int):=by omega
  have HO:=Lib.hid (show (w.drew.alloc (.cells (Builtin.zeroCells (Value.cells (.agg #[.int .i64 0,.int .i64 0,.int .i64 0,.int .i64 0])) n++Builtin.zeroCells (Value.cells (.agg #[.int .i64 0,.int .i64 0,.int .i64 0,.int .i64 0])) (grownCap w n 0 24 - n)) 24)).ownsRow w.heap.size 24 4 (.slice (some ⟨w.heap.size,0,none⟩) 0 (grownCap w n 0 24)) 0 [] from
   World.ownsRow_made w.drew _ _ (Nat.le_refl _) hcm (by simp only [Array.size_append,size_zeroCells];show n * 4+_ * 4=_;omega))
  have HE:=Lib.hid (show Ex w (w.drew.alloc (.cells (Builtin.zeroCells (Value.cells (.agg #[.int .i64 0,.int .i64 0,.int .i64 0,.int .i64 0])) n++Builtin.zeroCells (Value.cells (.agg #[.int .i64 0,.int .i64 0,.int .i64 0,.int .i64 0])) (grownCap w n 0 24 - n)) 24)) from ((Below.refl _ _).drew).alloc (Nat.le_refl _) _)
  have HR:=Lib.hid hr
  clear hr
  generalize hc:grownCap w n 0 24=c at *
  generalize hW:w.drew.alloc (.cells (Builtin.zeroCells (Value.cells (.agg #[.int .i64 0,.int .i64 0,.int .i64 0,.int .i64 0])) n++Builtin.zeroCells (Value.cells (.agg #[.int .i64 0,.int .i64 0,.int .i64 0,.int .i64 0])) (c - n)) 24)=W at *
  generalize hq:w.heap.size=q at *
  unfold maxLen at hcm
  have HQ:=Lib.hid hq
  clear hW hq hc
  go_enter Try.func28,Try.ntmps28
  go_wp2_with (at_builtin;refine Lib.wpList_append_run _ rfl _ _ _ _ rfl _ _ rfl rfl _ _ HR.out ?_)
  go_ret
  exact ⟨_,rfl,by rw [HQ.out];exact HO.out,HE.out⟩
 ·obtain rfl:n=0:=by omega
  go_enter Try.func28,Try.ntmps28
  go_wp2_with fail
  go_ret
  exact ⟨_,rfl,World.ownsRow_nil _ _ _ _,Ex.refl _⟩

def Rows (w:World) (vs:List Value) (xss:List (List lem.LeM)):Prop :=
 vs.length=xss.length/\∀ i v,vs[i]?=some v->RowE lem.encL w v (xss.getD i [])
theorem Rows.one {w:World} {v:Value} {xs:List lem.LeM} (h:RowE lem.encL w v xs):Rows w [v] [xs] :=
 ⟨rfl,fun i u hu=>by
  cases i with
  | zero=>simp at hu;subst hu;exact h
  | succ i=>simp at hu⟩
theorem Zex {xss:List (List lem.LeM)} {k:Nat} (h:k < xss.length):(xss.take (k+1)).flatten=(xss.take k).flatten++xss.getD k []:=by
 rw [List.take_add_one,show xss[k]?.toList=[xss.getD k []] by simp [List.getD,h],List.flatten_append]
 simp
theorem Zid (xss:List (List lem.LeM)) (k:Nat):(xss.take k).flatten.length<=xss.flatten.length:=by
 conv=>rhs;rw [<- List.take_append_drop k xss,List.flatten_append,List.length_append]
 omega

def RCat (w:World) (xss:List (List lem.LeM)) (s i:Value) (wr:World):Prop :=
 ∃ k:Nat,k<=xss.length/\i=.int .i64 k/\s=.int .i64 ((xss.take k).flatten.length:Nat)/\w=wr
def RCat2 (w:World) (xss:List (List lem.LeM)) (v i:Value) (wr:World):Prop :=
 ∃ k:Nat,k<=xss.length/\i=.int .i64 k/\wr.ownsRow w.heap.size 24 4 v ((xss.take k).flatten.length) (lem.encL.all (xss.take k).flatten)/\Ex w wr

set_option maxHeartbeats 800000 in
theorem concat_any (v : Value) (vs : List Value) (xss : List (List lem.LeM)) (w : World) (hv : RowV w v vs) (hr : Rows w vs xss) (hl : xss.flatten.length <= 1000000) :
    Calls Try.prog 18 #[v] w (Owns w xss.flatten) := by
  obtain ⟨a, cap, rfl, h1, h2, h3⟩ := hv
  have HL := Lib.hid hr.1
  have hll := hr.1
  rw [hll] at h1 h3 ⊢
  have HR := Lib.hid hr
  clear hr hll
  unfold maxLen at h2
  obtain ⟨i0, hi, hz0, hz1, hz2⟩ := info_parts info_el
  go_enter Try.func18, Try.ntmps18
  go_wp2_with fail
  go_loopw [3, 11] (RCat w xss) (fun _ i _ => xss.length - (intOf i).toNat)
  case atStart => exact ⟨0, by omega, rfl, rfl, rfl⟩
  case round =>
    obtain ⟨k, hk, rfl, rfl, rfl⟩ := hrel
    have hfl := Zid xss k
    by_cases hlt : k < xss.length
    · obtain ⟨b, off, rfl, hc⟩ := h3 (by omega)
      have hvk : vs[k]? = some (vs.getD k default) := by
        have : k < vs.length := by rw [HL.out]; exact hlt
        simp [List.getD, this]
      have ck := hc k _ hvk
      have hrk := HR.out.2 k _ hvk
      obtain ⟨a', cap', hve, g1, g2⟩ := hrk.len
      rw [hve] at ck
      clear hve hvk hrk
      have i0' : (0 : Int) <= (k : Int) := by omega
      have i1' : (k : Int) < (xss.length : Int) := by omega
      have hfs := Zid xss (k + 1)
      rw [Zex hlt, List.length_append] at hfs
      have HF := Lib.hid (Zex hlt)
      generalize xss.getD k [] = ys at *
      generalize (xss.take k).flatten = fs at *
      unfold maxLen at g2
      clear hc h3
      go_wp2_with fail
      go_roundw
      case rel => exact ⟨k + 1, by omega, by go_num, by rw [HF.out, List.length_append]; go_num, rfl⟩
      case measure => simp [intOf]; omega
    · have hk : k = xss.length := by omega
      have HK := Lib.hid hk
      clear hk
      rw [HK.out, List.take_length] at hfl ⊢
      generalize hN : xss.flatten.length = N at *
      have HN := Lib.hid hN
      clear hN hfl
      go_wp2_with fail
      refine (grow_nil N hl _).mono ?_
      rintro e w1 ⟨u, rfl, hown, g1⟩
      have HRow := Lib.hid (fun hp => h3 hp)
      clear h3
      go_wp2_with fail
      go_loopw [6, 27] (RCat2 w xss) (fun _ i _ => xss.length - (intOf i).toNat)
      case atStart => exact ⟨0, by omega, rfl, hown, g1⟩
      case round =>
        obtain ⟨k, hk, rfl, hown, gk⟩ := hrel
        by_cases hlt : k < xss.length
        · obtain ⟨b, off, rfl, hc⟩ := HRow.out (by omega)
          have hvk : vs[k]? = some (vs.getD k default) := by
            have : k < vs.length := by rw [HL.out]; exact hlt
            simp [List.getD, this]
          have ck := gk.on (hc k _ hvk)
          have hrk := (HR.out.2 k _ hvk).ex gk
          obtain ⟨a', cap', hve, g1, g2⟩ := hrk.len
          rw [hve] at ck hrk
          have HRK := Lib.hid hrk
          clear hve hvk hrk
          have i0' : (0 : Int) <= (k : Int) := by omega
          have i1' : (k : Int) < (xss.length : Int) := by omega
          have hfs := Zid xss (k + 1)
          rw [Zex hlt, List.length_append, HN.out] at hfs
          have HF := Lib.hid (Zex hlt)
          have HO := Lib.hid hown
          clear hown
          generalize xss.getD k [] = ys at *
          generalize (xss.take k).flatten = fs at *
          unfold maxLen at g2
          clear hc
          have hgs := gk.size
          go_wp2_with (first
            | (at_builtin
               refine wpList_append_rowE _ rfl lem.encL (.tmp 31) (.tmp 32) 26 rfl w.heap.size 24 i0 (.agg #[.int .i64 0, .int .i64 0, .int .i64 0, .int .i64 0]) 4 32 Try.underlying26 hi hz0 hz1 hz2 rfl rfl _ fs.length (lem.encL.all fs) rfl HO.out _ ys rfl HRK.out ?c1 ?c2 w gk ?c3 ?_
               rotate_right
               intro v' w1 hown' gb))
          case c1 => unfold maxLen; omega
          case c2 => omega
          case c3 => exact hgs
          go_wp2_with fail
          go_roundw
          case rel => exact ⟨k + 1, by omega, by go_num, by rw [HF.out, lem.encL.all_append, List.length_append]; exact hown', gb⟩
          case measure => simp [intOf]; omega
        · have hk : k = xss.length := by omega
          have HK := Lib.hid hk
          clear hk
          go_wp2_with fail
          go_ret
          exact ⟨_, rfl, by have := hown; rw [HK.out, List.take_length] at this; exact this, gk⟩

theorem concat_one (v u:Value) (xs:List lem.LeM) (w:World) (hv:RowV w v [u]) (hr:RowE lem.encL w u xs) (hl:xs.length<=1000000) :
  Calls Try.prog 18 #[v] w (Owns w xs):=by
 have:=concat_any v [u] [xs] w hv (Rows.one hr) (by simpa using hl)
 simpa using this
theorem concat_at (b:Nat) (u:Value) (xs:List lem.LeM) (w:World) (hc:w.cell? ⟨b,0,none⟩=some u) (hr:RowE lem.encL w u xs) (hl:xs.length<=1000000) :
  Calls Try.prog 18 #[.slice (some ⟨b,0,none⟩) 1 1] w (Owns w xs) :=
 concat_one _ u xs w ⟨_,1,rfl,by simp,by simp [maxLen],fun _=>⟨b,0,rfl,fun i v hv=>by
  cases i with
  | zero=>simp at hv;subst hv;simpa using hc
  | succ i=>simp at hv⟩⟩ hr hl

end Go.Proofs.Ytaondjmimobnbaa.caw
end
section
/- Texts joined. -/
section
/- Package line's Drop, and with's closure, by hand. -/
namespace Go.Proofs.Ytaondjmimobnbaa.wdr
set_option maxRecDepth 100000
set_option linter.unusedVariables false
set_option linter.unusedSimpArgs false
open Go.RowKit ins lem dlf wlm

theorem index_nil (c:Nat) (fv:Value) (w:World) (a:Option Addr):Calls Try.prog 25 #[.slice a 0 c,fv] w fun e w'=>e=.returned (.int .i64 (-1))/\w=w':=by
 go_enter Try.func25,Try.ntmps25
 go_wp2_with fail
 go_loopw [5,8] (fun _ s8 wr=>s8=.int .i64 0/\w=wr) (fun _ i _=>0)
 case atStart=>exact ⟨rfl,rfl⟩
 case round =>
  obtain ⟨rfl,rfl⟩:=hrel
  go_wp2_with fail
  go_ret
  exact ⟨rfl,rfl⟩
theorem delete_nil (fv:Value) (w:World):Calls Try.prog 19 #[.slice none 0 0,fv] w fun e w'=>e=.returned (.slice none 0 0)/\w=w':=by
 have hI:=index_nil 0 fv w none
 go_enter Try.func19,Try.ntmps19
 go_wp2_with (go_at_call 25;refine hI.mono ?_;rintro e w' ⟨rfl,rfl⟩)
 go_ret
 exact ⟨rfl,rfl⟩
def OwnsW (w:World) (xs:List LeM) (e:Ending) (w':World):Prop:=∃ v,e=.returned v/\w'.ownsRow w.heap.size 24 4 v xs.length (encL.all xs)/\Ex w w'
theorem ex_grown {w w1 W:World} {o:Obj} {b:Nat} (g1:Ex (w.alloc o) w1) (hb:(w.alloc o).heap.size<=b) (hW:w1.grownBy W (some b)):Ex w W:=by
 have h:=Ex.trans (Ex.mk_alloc w o) g1
 have h2:=g1.size
 simp only [World.size_alloc] at hb h2
 exact Below.grown h hW h.size (fun k hk=>by cases hk;omega)
theorem dropped (c:Int) (x:LeM) (a:Nat) (W:World) (h1:W.cell? ⟨a,0,none⟩=some (.int .i64 c)) :
  Calls Try.prog 20 (#[lv x]++#[.pointer (some ⟨a,0,none⟩)]) W fun e W'=>e=.returned (.bool (x.1 == c))/\Ex W W':=by
 have ha:a < W.heap.size:=World.block_lt_of_cell? _ _ h1
 have hw:=Ex.mk_alloc W (.cells #[.int .i64 x.1,.int .i64 x.2.1,.int .i64 x.2.2.1,.int .i64 x.2.2.2] 24)
 have k1:=hw.on h1
 have K:=Lib.hid hw
 clear hw h1
 obtain ⟨x0,x1,x2,x3⟩:=x
 simp only [lv] at *
 go_enter Try.func20,Try.ntmps20
 go_wp2_with fail
 all_goals (go_ret;refine ⟨?_,K.out⟩;simp_all)
theorem asked (c f:Int) (x:LeM) (a:Nat) (W:World) (h1:W.cell? ⟨a,0,none⟩=some (.int .i64 c)) (h2:W.cell? ⟨a,2,none⟩=some (.int .i64 f)) :
  Calls Try.prog 26 (#[lv x]++#[.pointer (some ⟨a,0,none⟩)]) W fun e W'=>e=.returned (.bool (isW c f x))/\Ex W W':=by
 have ha:a < W.heap.size:=World.block_lt_of_cell? _ _ h1
 have hw:=Ex.mk_alloc W (.cells #[.int .i64 x.1,.int .i64 x.2.1,.int .i64 x.2.2.1,.int .i64 x.2.2.2] 24)
 have k1:=hw.on h1
 have k2:=hw.on h2
 have K:=Lib.hid hw
 clear hw h1 h2
 obtain ⟨x0,x1,x2,x3⟩:=x
 simp only [lv,isW] at *
 by_cases hc:x0=c
 ·subst hc
  go_enter Try.func26,Try.ntmps26
  go_wp2_with fail
  all_goals (go_ret;refine ⟨?_,K.out⟩;simp_all)
 ·go_enter Try.func26,Try.ntmps26
  go_wp2_with fail
  all_goals (go_ret;refine ⟨?_,K.out⟩;simp_all)
theorem callDrop (cap:Array Value) (w:World):(callFunc 20 cap).run Try.prog w=.ok (.enter 20 cap) w:=by
 simp [go_sem]
theorem callWith (cap:Array Value) (w:World):(callFunc 26 cap).run Try.prog w=.ok (.enter 26 cap) w:=by
 simp [go_sem]
theorem index_with (c f:Int) (a:Nat) (l:Value) (xs:List LeM) (w:World) (hr:RowE encL w l xs) (hn6:xs.length<=1000000) (h1:w.cell? ⟨a,0,none⟩=some (.int .i64 c)) (h2:w.cell? ⟨a,2,none⟩=some (.int .i64 f)) :
  Calls Try.prog 25 #[l,.func (.func 26) #[] #[.pointer (some ⟨a,0,none⟩)]] w fun e w'=>e=.returned (.int .i64 (idx (isW c f) xs))/\Ex w w':=by
 by_cases h0:0 < xs.length
 ·obtain ⟨ad,cap,rfl,_⟩:=hr.len
  obtain ⟨b,off,rfl,_⟩:=hr.addr h0
  exact dlw.index_any (isW c f) _ _ callWith b off xs.length cap xs w hr rfl hn6 (fun W hW x=>asked c f x a W (hW.on h1) (hW.on h2))
 ·obtain rfl:xs=[]:=List.eq_nil_of_length_eq_zero (by omega)
  obtain ⟨ad,cap,rfl,_⟩:=hr.len
  refine (index_nil cap _ w ad).mono ?_
  rintro e w' ⟨rfl,rfl⟩
  exact ⟨rfl,Ex.refl _⟩
set_option maxHeartbeats 2000000 in
theorem drop_any (c:Int) (l:Value) (xs:List LeM) (w:World) (hr:RowE encL w l xs) (hn6:xs.length<=1000000) :
  Calls Try.prog 10 #[l,.int .i64 c] w (OwnsW w (xs.filter fun x=>!(x.1 == c))):=by
 obtain ⟨a,cap,rfl,h1,h2⟩:=hr.len
 have gA:=Ex.mk_alloc w (.cells #[.int .i64 c] 3)
 have gB:=Ex.mk_alloc (w.alloc (.cells #[.int .i64 c] 3)) (.cells #[.slice a xs.length cap] 26)
 have HC:=Lib.hid (caw.concat_at (w.heap.size+1) (.slice a xs.length cap) xs ((w.alloc (.cells #[.int .i64 c] 3)).alloc (.cells #[.slice a xs.length cap] 26)) (by rw [World.cell?_alloc_at _ _ _ _ (by rw [World.size_alloc])];rfl) (hr.ex (Ex.trans gA gB)) hn6)
 have HP:=Lib.hid fun W (hW:Ex (w.alloc (.cells #[.int .i64 c] 3)) W) x=>dropped c x w.heap.size W (Zdb hW 0 _ rfl)
 have GA:=Lib.hid gA
 clear gA gB hr
 go_enter Try.func10,Try.ntmps10
 go_wp2_with (go_at_call 18;refine HC.out.mono ?_;rintro e w1 ⟨v,rfl,hown,g1⟩;have HW:=Lib.hid hown;rcases hown.2 with ⟨rfl,h0⟩ | ⟨b,cap',cur,rfl,hb,hq,hqq⟩ <;> clear hown)
 ·refine (delete_nil _ _).mono ?_
  rintro e w2 ⟨rfl,rfl⟩
  go_wp2_with fail
  go_ret
  have hx:xs=[]:=List.eq_nil_of_length_eq_zero h0
  subst hx
  exact ⟨_,rfl,World.ownsRow_nil _ _ _ _,Ex.trans GA.out (Ex.trans (Ex.mk_alloc _ _) g1)⟩
 ·refine (dlw.delete_any (fun x=>x.1 == c) _ _ callDrop _ b _ cap' xs _ HW.out hn6 (fun W hW x=>HP.out W (ex_grown g1 hb hW) x)).mono ?_
  rintro e w2 ⟨rfl,hown2,gb⟩
  have HO2:=Lib.hid hown2
  clear hown2
  go_wp2_with fail
  go_ret
  exact ⟨_,rfl,own_mono HO2.out (by simp only [World.size_alloc];omega),Ex.trans GA.out (ex_grown g1 hb gb)⟩
end Go.Proofs.Ytaondjmimobnbaa.wdr
end
section
/- Package line's behind, and with where its client does not wait for that file yet, by hand. -/
namespace Go.Proofs.Ytaondjmimobnbaa.wwi
set_option maxRecDepth 100000
set_option linter.unusedVariables false
set_option linter.unusedSimpArgs false
open Go.RowKit ins lem dlf wdr wlm

theorem own_slice {W:World} {base:Nat} {e:TypeId} {v:Value} {n:Nat} {xs:List Value} (h:W.ownsRow base e 4 v n xs):∃ ad c,v=.slice ad n c:=by
 rcases h.2 with ⟨rfl,rfl⟩ | ⟨_,_,_,rfl,_⟩
 ·exact ⟨_,_,rfl⟩
 ·exact ⟨_,_,rfl⟩
set_option maxHeartbeats 2000000 in
theorem behind_any (x:LeM) (base n:Nat) (v:Value) (ys:List LeM) (w:World) (hown:w.ownsRow base 24 4 v n (encL.all ys)) (hn:n < 4) (hbase:base<=w.heap.size) :
  Calls Try.prog 27 #[v,lv x] w fun e w'=>∃ v',e=.returned v'/\w'.ownsRow base 24 4 v' (n+1) (encL.all (ys++[x]))/\Below base w w':=by
 obtain ⟨i0,hi,hz0,hz1,hz2⟩:=info_parts dlw.info_el
 have g0:=Ex.mk_alloc w (.cells #[.int .i64 x.1,.int .i64 x.2.1,.int .i64 x.2.2.1,.int .i64 x.2.2.2] 24)
 have g1:=Ex.mk_alloc (w.alloc (.cells #[.int .i64 x.1,.int .i64 x.2.1,.int .i64 x.2.2.1,.int .i64 x.2.2.2] 24)) (.cells #[.int .i64 x.1,.int .i64 x.2.1,.int .i64 x.2.2.1,.int .i64 x.2.2.2] 24)
 have hv:RowE encL ((w.alloc (.cells #[.int .i64 x.1,.int .i64 x.2.1,.int .i64 x.2.2.1,.int .i64 x.2.2.2] 24)).alloc (.cells #[.int .i64 x.1,.int .i64 x.2.1,.int .i64 x.2.2.1,.int .i64 x.2.2.2] 24)) (.slice (some ⟨w.heap.size+1,0,none⟩) 1 1) [x]:=RowE.lit_at encL _ [x] _ 1 _ (by rw [World.size_alloc]) rfl (by unfold maxLen;omega) _ rfl
 obtain ⟨ad,c,rfl⟩:=own_slice hown
 have hfar:∀ k,(Value.slice ad n c).ownBlock=some k->base<=k:=fun k hk=>(hown.lt k hk).1
 obtain ⟨v',w',hrun,h1,h2,h3⟩:=run_append_rowE (P:=Try.prog) _ encL base 26 26 24 i0 _ 4 32 Try.underlying26 hi hz0 hz1 hz2 rfl rfl _ n (encL.all ys) (Zgs hown (Ex.trans g0 g1)) _ [x] hv (by unfold maxLen;simp;omega) (by simp;omega) (by simp only [World.size_alloc];omega)
 have hfin:w'.ownsRow base 24 4 v' (n+1) (encL.all (ys++[x]))/\Below base w w':=by
  refine ⟨by rw [encL.all_append];exact h1,?_⟩
  exact Below.grown (Below.mono (Ex.trans g0 g1) hbase) h2 (by simp only [World.size_alloc];omega) hfar
 have HF:=Lib.hid hfin
 have HR:=Lib.hid hrun
 have hnz:¬ (4:Int)<=(n:Int):=by omega
 clear hrun h1 h2 h3 hv hown g0 g1 hfar hfin
 obtain ⟨x0,x1,x2,x3⟩:=x
 simp only [lv] at *
 go_enter Try.func27,Try.ntmps27
 go_wp2_with (at_builtin;refine Lib.wpList_append_run _ rfl _ _ _ _ rfl _ _ rfl rfl _ _ HR.out ?_)
 go_ret
 exact ⟨_,rfl,HF.out⟩
set_option maxHeartbeats 4000000 in
theorem with_out (x:LeM) (l:Value) (xs:List LeM) (w:World) (hr:RowE encL w l xs) (hn6:xs.length<=1000000) (hi:idx (isW x.1 x.2.2.1) xs=-1) (hl:(dropW xs x.1).length < 4) :
  Calls Try.prog 17 #[l,lv x] w (OwnsW w (dropW xs x.1++[x])):=by
 obtain ⟨a,cap,rfl,_⟩:=hr.len
 have g0:=Ex.mk_alloc w (.cells #[.int .i64 x.1,.int .i64 x.2.1,.int .i64 x.2.2.1,.int .i64 x.2.2.2] 24)
 have HI:=Lib.hid (index_with x.1 x.2.2.1 w.heap.size _ xs _ (hr.ex g0) hn6 (Zdb (Ex.refl _) 0 _ rfl) (Zdb (Ex.refl _) 2 _ rfl))
 have HD:=Lib.hid fun W (h:Ex w W)=>drop_any x.1 _ xs W (hr.ex h) hn6
 have HB:=Lib.hid fun W base v (h:W.ownsRow base 24 4 v (dropW xs x.1).length (encL.all (dropW xs x.1))) (hb:base<=W.heap.size)=>behind_any x base _ v _ W h hl hb
 have mixed:Try.prog.follows .mixedOrders=true:=by kernel_rfl
 rw [hi] at HI
 clear hr hi hl hn6
 obtain ⟨x0,x1,x2,x3⟩:=x
 simp only [lv,dropW] at *
 generalize (xs.filter fun x=>!(x.1 == x0))=ys at *
 go_enter Try.func17,Try.ntmps17
 go_wp2_with (go_at_call 25;refine HI.out.mono ?_;rintro e w1 ⟨rfl,g1⟩)
 obtain ⟨k0,k1,k2,k3⟩:=box4 g1
 have G1:=Lib.hid (Ex.trans g0 g1)
 clear g0 g1
 go_region_with (first
  | (go_at_call 10;refine (HD.out _ (by first | exact G1.out | exact Ex.dr G1.out)).mono ?_;rintro e w2 ⟨v,rfl,ho,g2⟩;obtain ⟨ad,c,rfl⟩:=own_slice ho;obtain ⟨m0,m1,m2,m3⟩:=(⟨g2.on k0,g2.on k1,g2.on k2,g2.on k3⟩:_/\_/\_/\_);have HO:=Lib.hid ho;have G2:=Lib.hid g2;clear ho g2)
  | (go_at_call 27;refine (HB.out _ _ _ HO.out (by exact G2.out.size)).mono ?_;rintro e w3 ⟨v',rfl,h3,b3⟩;have H3:=Lib.hid h3;have B3:=Lib.hid b3;clear h3 b3))
 all_goals
  go_wp2_with fail
  go_ret
  have hs:=G1.out.size
  refine ⟨_,rfl,?_,Below.trans (Ex.dr G1.out) (Below.trans (Below.mono G2.out (by simpa using hs)) (Below.mono B3.out (by simpa using hs)))⟩
  rw [List.length_append]
  exact own_mono H3.out (by simpa using hs)
end Go.Proofs.Ytaondjmimobnbaa.wwi
end
end
end
