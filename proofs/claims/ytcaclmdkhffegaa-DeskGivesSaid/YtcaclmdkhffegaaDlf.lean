/- slices.IndexFunc and slices.DeleteFunc at []api.Lease: whatever the predicate. -/
import Derived.Test.YtcaclmdkhffegaaIns
import Derived.Shelf.Abstract
import Derived.Test.YtcaclmdkhffegaaWlm
namespace Go.Proofs.Ytcaclmdkhffegaa.dlf
set_option maxRecDepth 100000
set_option linter.unusedVariables false
set_option linter.unusedSimpArgs false
open Go.RowKit ins lem

set_option maxHeartbeats 2000000 in
theorem index_any (p:LeM->Bool) (g:Nat) (lb:Array Value) (eg:∀ args w,(callFunc g args).run Try.prog w=.ok (.enter g args) w) (b n cap:Nat) (xs:List LeM) (w:World) (hr:RowE encL w (.slice (some ⟨b,0,none⟩) n cap) xs) (hn:xs.length=n) (hn6:n<=1000000)
  (hp:∀ W,Ex w W->∀ x,Calls Try.prog g (#[lv x]++lb) W fun e W'=>e=.returned (.bool (p x))/\Ex W W') :
  Calls Try.prog 82 #[.slice (some ⟨b,0,none⟩) n cap,.func (.func g) #[] lb] w fun e w'=>e=.returned (.int .i64 (idx p xs))/\Ex w w':=by
 have HR:=Lib.hid hr
 have HP:=Lib.hid hp
 have HN:=Lib.hid hn
 have mixed:Try.prog.follows .mixedOrders=true:=by kernel_rfl
 clear hr hp hn
 go_enter Try.func82,Try.ntmps82
 go_wp2_with fail
 go_loopw [5,8] (fun _ s8 wr=>∃ k:Nat,k<=n/\s8=.int .i64 k/\Ex w wr/\Hid (∀ (j:Nat) (x:LeM),j < k->xs[j]?=some x->p x=false)) (fun _ i _=>n - (intOf i).toNat)
 case atStart=>exact ⟨0,by omega,rfl,Ex.refl _,Lib.hid fun j x hj=>absurd hj (Nat.not_lt_zero _)⟩
 case round =>
  obtain ⟨k,hk,rfl,gk,HA⟩:=hrel
  by_cases hlt:k < n
  ·have hltz:(k:Int) < (n:Int):=by omega
   obtain ⟨x,hx⟩:∃ x,xs[k]?=some x:=⟨_,List.getElem?_eq_getElem (by have:=HN.out;omega)⟩
   have e0:=(HR.out.ex gk).at (j:=0) hx rfl
   have e1:=(HR.out.ex gk).at (j:=1) hx rfl
   have e2:=(HR.out.ex gk).at (j:=2) hx rfl
   have e3:=(HR.out.ex gk).at (j:=3) hx rfl
   simp only [encL,Nat.add_zero,Nat.zero_add] at e0 e1 e2 e3
   have HX:=Lib.hid hx
   have HC:=Lib.hid fun W (h:Ex w W)=>HP.out W h x
   clear hx
   obtain ⟨x0,x1,x2,x3⟩:=x
   simp only [lv] at HC e0 e1 e2 e3
   cases hq:p (x0,x1,x2,x3) with
   | true =>
    rw [hq] at HC
    have HQ:=Lib.hid hq
    clear hq
    go_wp2_with (go_at_fn g;refine (HC.out _ gk).mono ?_;rintro e w' ⟨rfl,gg⟩)
    go_ret
    exact ⟨by rw [idx_hit HX.out HQ.out HA.out];rfl,Ex.trans gk gg⟩
   | false =>
    rw [hq] at HC
    have HQ:=Lib.hid hq
    clear hq
    go_wp2_with (go_at_fn g;refine (HC.out _ gk).mono ?_;rintro e w' ⟨rfl,gg⟩)
    go_roundw
    case rel =>
     refine ⟨k+1,by omega,by go_num,Ex.trans gk gg,Lib.hid fun j y hj hy=>?_⟩
     by_cases e:j=k
     ·subst e
      rw [HX.out] at hy
      cases hy
      exact HQ.out
     ·exact HA.out j y (by omega) hy
    case measure=>simp [intOf];omega
  ·have hltz:¬ (k:Int) < (n:Int):=by omega
   go_wp2_with fail
   go_ret
   exact ⟨by rw [idx_miss fun j y hy=>HA.out j y (by have:=(List.getElem?_eq_some_iff.1 hy).1;have:=HN.out;omega) hy];rfl,gk⟩

theorem Zbt {w w':World} (h:Ex w w') (row:Option Nat):w.grownBy w' row:=⟨h.os,h.tape,h.output,h.size,fun k hk _=>h.block k hk⟩
theorem Ze3 {w w':World} {base:Nat} {e:TypeId} {v:Value} {n:Nat} {xs:List Value} (h:w.ownsRow base e 4 v n xs) (g:Ex w w'):w'.ownsRow base e 4 v n xs:=h.kept (row:=none) (Zbt g none) (by
 rcases h.2 with ⟨rfl,_⟩ | ⟨_,_,_,rfl,_⟩
 ·exact .inl rfl
 ·exact .inr (by simp [Value.ownBlock]))
structure Kept (p:LeM->Bool) (xs dk:List LeM) (i j:Nat):Prop where
 lt:i < j
 le:j<=xs.length
 len:dk.length=xs.length
 front:dk.take i=(xs.take j).filter fun x=>!p x
 back:dk.drop j=xs.drop j
theorem Kept.at {p:LeM->Bool} {xs dk:List LeM} {i j:Nat} (h:Kept p xs dk i j) {x:LeM} (hx:xs[j]?=some x):dk[j]?=some x:=by
 have:=congrArg (fun l:List LeM=>l[0]?) h.back
 simpa [hx] using this
theorem Kept.skip {p:LeM->Bool} {xs dk:List LeM} {i j:Nat} (h:Kept p xs dk i j) {x:LeM} (hx:xs[j]?=some x) (hp:p x=true):Kept p xs dk i (j+1):=by
 obtain ⟨hj,rfl⟩:=List.getElem?_eq_some_iff.1 hx
 refine ⟨by have:=h.lt;omega,hj,h.len,?_,?_⟩
 ·rw [h.front,List.take_add_one,hx,List.filter_append]
  simp [hp]
 ·rw [<- List.drop_drop,<- List.drop_drop,h.back]
theorem Kept.keep {p:LeM->Bool} {xs dk:List LeM} {i j:Nat} (h:Kept p xs dk i j) {x:LeM} (hx:xs[j]?=some x) (hp:p x=false):Kept p xs (dk.set i x) (i+1) (j+1):=by
 obtain ⟨hj,rfl⟩:=List.getElem?_eq_some_iff.1 hx
 have h1:=h.lt
 have h2:=h.len
 refine ⟨by omega,hj,by simp [h2],?_,?_⟩
 ·rw [List.take_add_one,List.take_set_of_le (by omega),h.front,List.getElem?_set_self (by omega),List.take_add_one,hx,List.filter_append]
  simp [hp]
 ·rw [List.drop_set_of_lt (by omega),<- List.drop_drop,h.back,List.drop_drop]
theorem Kept.start {p:LeM->Bool} {xs:List LeM} {k:Nat} {x:LeM} (hx:xs[k]?=some x) (hp:p x=true) (hno:∀ (j:Nat) (y:LeM),j < k->xs[j]?=some y->p y=false):Kept p xs xs k (k+1):=by
 obtain ⟨hk,rfl⟩:=List.getElem?_eq_some_iff.1 hx
 refine ⟨by omega,hk,rfl,?_,rfl⟩
 rw [List.take_add_one,hx,List.filter_append]
 simp only [Option.toList_some,List.filter_cons,hp,Bool.not_true,Bool.false_eq_true,if_false,List.filter_nil,List.append_nil]
 rw [List.filter_eq_self.2]
 intro y hy
 obtain ⟨j,hj⟩:=List.mem_iff_getElem?.1 hy
 rw [List.getElem?_take] at hj
 split at hj
 ·rw [hno j y (by assumption) hj];rfl
 ·cases hj

theorem set4:∀ (dk:List LeM) (i:Nat) (x:LeM),i < dk.length->((((encL.all dk).set (i * 4) (.int .i64 x.1)).set (i * 4+1) (.int .i64 x.2.1)).set (i * 4+2) (.int .i64 x.2.2.1)).set (i * 4+3) (.int .i64 x.2.2.2)=encL.all (dk.set i x)
 | [],i,x,h=>absurd h (Nat.not_lt_zero _)
 | y :: dk,0,x,_=>by
  rw [List.set_cons_zero,encL.all_cons,encL.all_cons]
  show List.set (List.set (List.set (List.set ([Value.int .i64 y.1,.int .i64 y.2.1,.int .i64 y.2.2.1,.int .i64 y.2.2.2]++encL.all dk) _ _) _ _) _ _) _ _=[Value.int .i64 x.1,.int .i64 x.2.1,.int .i64 x.2.2.1,.int .i64 x.2.2.2]++encL.all dk
  simp
 | y :: dk,i+1,x,hi=>by
  have h:=set4 dk i x (by simpa using hi)
  rw [List.set_cons_succ,encL.all_cons,encL.all_cons,<- h]
  show List.set (List.set (List.set (List.set ([Value.int .i64 y.1,.int .i64 y.2.1,.int .i64 y.2.2.1,.int .i64 y.2.2.2]++encL.all dk) _ _) _ _) _ _) _ _=[Value.int .i64 y.1,.int .i64 y.2.1,.int .i64 y.2.2.1,.int .i64 y.2.2.2]++_
  rw [show (i+1) * 4=i * 4+1+1+1+1 by omega]
  simp only [List.cons_append,List.nil_append,List.set_cons_succ,show i * 4+1+1+1+1+1=(i * 4+1)+1+1+1+1 from rfl,show i * 4+1+1+1+1+2=(i * 4+2)+1+1+1+1 from rfl,show i * 4+1+1+1+1+3=(i * 4+3)+1+1+1+1 from rfl]
theorem Zme {W:World} {base b n cap:Nat} {e:TypeId} {dk:List LeM} (h:W.ownsRow base e 4 (.slice (some ⟨b,0,none⟩) n cap) n (encL.all dk)) (i:Nat) (hi:i < dk.length) (x:LeM) :
  ((((W.setCell ⟨b,i * 4,none⟩ (.int .i64 x.1)).setCell ⟨b,i * 4+1,none⟩ (.int .i64 x.2.1)).setCell ⟨b,i * 4+2,none⟩ (.int .i64 x.2.2.1)).setCell ⟨b,i * 4+3,none⟩ (.int .i64 x.2.2.2)).ownsRow base e 4 (.slice (some ⟨b,0,none⟩) n cap) n (encL.all (dk.set i x)) ∧
  W.grownBy ((((W.setCell ⟨b,i * 4,none⟩ (.int .i64 x.1)).setCell ⟨b,i * 4+1,none⟩ (.int .i64 x.2.1)).setCell ⟨b,i * 4+2,none⟩ (.int .i64 x.2.2.1)).setCell ⟨b,i * 4+3,none⟩ (.int .i64 x.2.2.2)) (some b):=by
 obtain ⟨h1,g1⟩:=h.stored (i * 4) (.int .i64 x.1)
 obtain ⟨h2,g2⟩:=h1.stored (i * 4+1) (.int .i64 x.2.1)
 obtain ⟨h3,g3⟩:=h2.stored (i * 4+2) (.int .i64 x.2.2.1)
 obtain ⟨h4,g4⟩:=h3.stored (i * 4+3) (.int .i64 x.2.2.2)
 rw [set4 dk i x hi] at h4
 exact ⟨h4,((g1.trans g2).trans g3).trans g4⟩

theorem run_clear_k {P:Program} (w:World) (t ty elem:TypeId) (i0:TypeInfo) (z:Value) (g o k c:Nat) (cur:List Value) (te:TypeId) (hu:P.underlying t=some (.slice elem)) (hi:P.info? elem=some i0) (hz:i0.zero=some z) (hk:0 < k)
  (hg:w.heap[g]?=some (.cells cur.toArray te (0,0))) (hfit:o+(Builtin.zeroCells z.cells k).size<=cur.length) (h1:∀ v ∈ (Builtin.zeroCells z.cells k).toList,v.oneCell'=true) :
  (Builtin.clear_ #[t] ty #[.slice (some ⟨g,o,none⟩) k c]).run P w=.ok (.tuple #[]) (w.setRow g (splice cur o (Builtin.zeroCells z.cells k).toList).toArray):=by
 have hst:=run_storeCells_at P g o te (Builtin.zeroCells z.cells k).toList 0 cur.toArray w hg (by simpa using hfit) h1
 simp only [Nat.add_zero,List.append_assoc] at hst
 have hst':(storeCells ⟨g,o,none⟩ (Builtin.zeroCells z.cells k).toList).run P w=.ok () (w.setRow g (splice cur o (Builtin.zeroCells z.cells k).toList).toArray):=hst
 cases k with
 | zero=>omega
 | succ k=>simp [Builtin.clear_,run_underlying hu,zeroValue,typeInfo,hi,hz,hst']
theorem wpList_clear_run {P:Program} (w:World) {ops:Array Oper} {rest:List Oper} {o:Oper} {a:Act} {Q:Exit->Act->World->Prop} (hgd:o.guard=none) (s:Operand) (t:TypeId)
  (ho:o.op=.call { callee:=.builtin .clear,args:=#[s],argTypes:=#[t] }) (u:Value) (hs:a.eval s=u) {v':Value} {w':World}
  (hr:(Builtin.clear_ #[t] o.type #[u]).run P w=.ok v' w') (h:wpList P ops Q rest (a.put o.dst v') w'):wpList P ops Q (o :: rest) a w:=by
 refine wpList_plain hgd fun _ hK=>?_
 have:=hK _ _ h
 unfold Oper.wp execOp
 simp only [ho,resolve,invoke,builtin,Sem.run_bind,Sem.run_pure,Result.andThen_ok,List.map_toArray,List.map_cons,List.map_nil,hs,hr]
 exact this
def Left (w:World) (base b cap:Nat) (ys:List LeM) (e:Ending) (w':World):Prop:=e=.returned (.slice (some ⟨b,0,none⟩) ys.length cap)/\w'.ownsRow base 57 4 (.slice (some ⟨b,0,none⟩) ys.length cap) ys.length (encL.all ys)/\w.grownBy w' (some b)
set_option maxHeartbeats 4000000 in
theorem delete_any (p:LeM->Bool) (g:Nat) (lb:Array Value) (eg:∀ args w,(callFunc g args).run Try.prog w=.ok (.enter g args) w) (base b n cap:Nat) (xs:List LeM) (w:World) (hown:w.ownsRow base 57 4 (.slice (some ⟨b,0,none⟩) n cap) n (encL.all xs)) (hn6:n<=1000000)
  (hp:∀ W,w.grownBy W (some b)->∀ x,Calls Try.prog g (#[lv x]++lb) W fun e W'=>e=.returned (.bool (p x))/\Ex W W') :
  Calls Try.prog 63 #[.slice (some ⟨b,0,none⟩) n cap,.func (.func g) #[] lb] w (Left w base b cap (xs.filter fun x=>!p x)):=by
 obtain ⟨hrow,hn⟩:=RowE.of_own (E:=encL) hown
 have hI:=index_any p g lb eg b n cap xs w hrow hn hn6 (fun W hW x=>hp W (Zbt hW _) x)
 have mixed:Try.prog.follows .mixedOrders=true:=by kernel_rfl
 have HO:=Lib.hid hown
 have HP:=Lib.hid hp
 have HN:=Lib.hid hn
 clear hown hp hrow
 cases hf:xs.findIdx? p with
 | none =>
  have e1:idx p xs=-1:=by simp [idx,hf]
  rw [e1] at hI
  have hall:(xs.filter fun x=>!p x)=xs:=List.filter_eq_self.2 fun x hx=>by simpa using List.findIdx?_eq_none_iff.1 hf x hx
  have HI:=Lib.hid hI
  clear hI e1 hf
  rw [hall]
  clear hn hall
  go_enter Try.func63,Try.ntmps63
  go_wp2_with (go_at_call 82;refine HI.out.mono ?_;rintro e w' ⟨rfl,gg⟩)
  go_ret
  exact ⟨by rw [HN.out];rfl,by rw [HN.out];exact Ze3 HO.out gg,Zbt gg _⟩
 | some k0 =>
  obtain ⟨hk0,hpk,hno⟩:=List.findIdx?_eq_some_iff_getElem.1 hf
  have hst:=Kept.start (p:=p) (List.getElem?_eq_getElem hk0) hpk (fun j y hj hy=>by
   obtain ⟨h,rfl⟩:=List.getElem?_eq_some_iff.1 hy
   simpa using hno j hj)
  have e1:idx p xs=(k0:Int):=by simp [idx,hf]
  rw [e1] at hI
  have HI:=Lib.hid hI
  have HS:=Lib.hid hst
  rw [hn] at hk0
  have hz1:((k0:Int) == -1)=false:=beq_eq_false_iff_ne.2 (by omega)
  clear hI e1 hf hst hno hpk hn
  go_enter Try.func63,Try.ntmps63
  go_wp2_with (go_at_call 82;refine HI.out.mono ?_;rintro e w' ⟨rfl,gg⟩)
  go_loopw [5,6,7] (fun s5 s6 _ wr=>∃ (i j:Nat) (dk:List LeM),s5=.int .i64 i/\s6=.int .i64 j/\i < j/\j<=n/\Hid (Kept p xs dk i j)/\Hid (wr.ownsRow base 57 4 (.slice (some ⟨b,0,none⟩) n cap) n (encL.all dk))/\w.grownBy wr (some b)) (fun _ s6 _ _=>n - (intOf s6).toNat)
  case atStart=>exact ⟨k0,k0+1,xs,rfl,by go_num,by omega,by omega,HS,Lib.hid (Ze3 HO.out gg),Zbt gg _⟩
  case round =>
   obtain ⟨i,j,dk,rfl,rfl,hij,hjn,HK,HW,gw⟩:=hrel
   by_cases hlt:j < n
   ·have hltz:(j:Int) < (n:Int):=by omega
    obtain ⟨x,hx⟩:∃ x,xs[j]?=some x:=⟨_,List.getElem?_eq_getElem (by have:=HN.out;omega)⟩
    have hdx:=HK.out.at hx
    obtain ⟨hrw,hdn⟩:=RowE.of_own (E:=encL) HW.out
    have c0:=hrw.at (j:=0) hdx rfl
    have c1:=hrw.at (j:=1) hdx rfl
    have c2:=hrw.at (j:=2) hdx rfl
    have c3:=hrw.at (j:=3) hdx rfl
    simp only [encL,Nat.add_zero,Nat.zero_add] at c0 c1 c2 c3
    have HX:=Lib.hid hx
    clear hx hdx hrw
    obtain ⟨x0,x1,x2,x3⟩:=x
    simp only at c0 c1 c2 c3
    have gA:w.grownBy (wr.alloc (.cells #[.int .i64 x0,.int .i64 x1,.int .i64 x2,.int .i64 x3] 57)) (some b):=gw.trans (Zbt (Ex.mk_alloc wr _) _)
    have HC:=Lib.hid (HP.out _ gA (x0,x1,x2,x3))
    have HF:=Lib.hid (show ∀ w',Ex (wr.alloc (.cells #[.int .i64 x0,.int .i64 x1,.int .i64 x2,.int .i64 x3] 57)) w'->(w'.ownsRow base 57 4 (.slice (some ⟨b,0,none⟩) n cap) n (encL.all dk)/\(∃ y0 y1 y2 y3:Value,w'.cell? ⟨b,i * 4,none⟩=some y0/\w'.cell? ⟨b,i * 4+1,none⟩=some y1/\w'.cell? ⟨b,i * 4+2,none⟩=some y2/\w'.cell? ⟨b,i * 4+3,none⟩=some y3)/\∀ t,w'.frozen? ⟨b,t,none⟩=false) from fun w' hg=>by
     have ho:=Ze3 (Ze3 HW.out (Ex.mk_alloc wr _)) hg
     have hil:i < dk.length:=by omega
     obtain ⟨hr',_⟩:=RowE.of_own (E:=encL) ho
     have hy:=List.getElem?_eq_getElem hil
     have d0:=hr'.at (j:=0) hy rfl
     have d1:=hr'.at (j:=1) hy rfl
     have d2:=hr'.at (j:=2) hy rfl
     have d3:=hr'.at (j:=3) hy rfl
     simp only [encL,Nat.add_zero,Nat.zero_add] at d0 d1 d2 d3
     exact ⟨ho,⟨_,_,_,_,d0,d1,d2,d3⟩,fun t=>ho.frozenAt t⟩)
    simp only [lv] at HC
    have i0':(0:Int)<=(i:Int):=by omega
    have i1':(i:Int) < (n:Int):=by omega
    clear gA
    cases hq:p (x0,x1,x2,x3) with
    | true =>
     rw [hq] at HC
     have HQ:=Lib.hid hq
     clear hq
     go_wp2_with (go_at_fn g;refine HC.out.mono ?_;rintro e w' ⟨rfl,gg⟩)
     go_roundw
     case rel=>exact ⟨i,j+1,dk,rfl,by go_num,by omega,by omega,Lib.hid (HK.out.skip HX.out HQ.out),Lib.hid (HF.out _ gg).1,gw.trans (Zbt (Ex.trans (Ex.mk_alloc wr _) gg) _)⟩
     case measure=>simp [intOf];omega
    | false =>
     rw [hq] at HC
     have HQ:=Lib.hid hq
     clear hq
     go_wp2_with (go_at_fn g;refine HC.out.mono ?_;rintro e w' ⟨rfl,gg⟩;obtain ⟨d0,d1,d2,d3⟩:=box4 gg;obtain ⟨ho,⟨y0,y1,y2,y3,f0,f1,f2,f3⟩,ff⟩:=HF.out _ gg;have HO2:=Lib.hid ho;clear ho)
     go_roundw
     case rel=>exact ⟨i+1,j+1,dk.set i (x0,x1,x2,x3),by go_num,by go_num,by omega,by omega,Lib.hid (HK.out.keep HX.out HQ.out),Lib.hid (Zme HO2.out i (by omega) (x0,x1,x2,x3)).1,(gw.trans (Zbt (Ex.trans (Ex.mk_alloc wr _) gg) _)).trans (Zme HO2.out i (by omega) (x0,x1,x2,x3)).2⟩
     case measure=>simp [intOf];omega
   ·obtain rfl:j=n:=by omega
    have hltz:¬ (j:Int) < (j:Int):=by omega
    obtain ⟨i0,hi0,hz0,hz1,hz2⟩:=info_parts info_el
    obtain ⟨cur,hcur,hnc,hcm,hcs,htk,hbb⟩:∃ cur:List Value,wr.heap[b]?=some (.cells cur.toArray 57 (0,0))/\j<=cap/\cap<=maxLen/\cur.length=cap * 4/\cur.take (j * 4)=encL.all dk/\base<=b:=by
     rcases HW.out.2 with ⟨h,_⟩ | ⟨g,c',cur,h,hb,h2,h3,h4,h5,h6⟩
     ·cases h
     ·cases h;exact ⟨cur.toList,by simpa using h2,h3,h4,by simpa using h5,h6,hb⟩
    have hzs:(Builtin.zeroCells (Value.cells (.agg #[.int .i64 0,.int .i64 0,.int .i64 0,.int .i64 0])) (j - i)).size=(j - i) * 4:=by rw [size_zeroCells];rfl
    have hzo:∀ v ∈ (Builtin.zeroCells (Value.cells (.agg #[.int .i64 0,.int .i64 0,.int .i64 0,.int .i64 0])) (j - i)).toList,v.oneCell'=true:=by
     intro v hv
     simp only [Builtin.zeroCells,Value.cells] at hv
     simp at hv
     obtain ⟨a,ha,rfl⟩:=hv
     have:a % 4 < 4:=Nat.mod_lt _ (by omega)
     rcases (show a % 4=0 \/ a % 4=1 \/ a % 4=2 \/ a % 4=3 by omega) with h | h | h | h <;> simp [h] <;> rfl
    have hcl:=fun ty cc=>run_clear_k (P:=Try.prog) wr 27 ty 57 i0 _ b (i * 4) (j - i) cc cur 57 Try.underlying27 hi0 hz0 (by omega) hcur (by rw [hzs,hcs];omega) hzo
    have hil:(xs.filter fun x=>!p x).length=i:=by
     have:=HK.out.front
     rw [List.take_of_length_le (l:=xs) (by have:=HN.out;omega)] at this
     rw [<- this,List.length_take,HK.out.len,HN.out];omega
    have hfin:∀ W:World,W=wr.setRow b (splice cur (i * 4) (Builtin.zeroCells (Value.cells (.agg #[.int .i64 0,.int .i64 0,.int .i64 0,.int .i64 0])) (j - i)).toList).toArray->Left w base b cap (xs.filter fun x=>!p x) (.returned (.slice (some ⟨b,0,none⟩) i cap)) W:=by
     rintro W rfl
     have hfr:=HK.out.front
     rw [List.take_of_length_le (l:=xs) (by have:=HN.out;omega)] at hfr
     refine ⟨by rw [hil],?_,gw.trans (grown_row wr b _)⟩
     rw [hil]
     refine ⟨by rw [encL.all_length,hil];rfl,.inr ⟨b,cap,_,rfl,hbb,setRow_heap wr b _ _ _ _ hcur,by omega,hcm,?_,?_⟩⟩
     ·rw [List.size_toArray,length_splice _ _ _ (by rw [Array.length_toList,hzs,hcs];omega),hcs]
     ·rw [List.toList_toArray,<- hfr]
      unfold splice
      rw [List.take_append_of_le_length (by simp;omega),List.take_take,Nat.min_self]
      have h2:=congrArg (List.take (i * 4)) htk
      rw [List.take_take,show min (i * 4) (j * 4)=i * 4 by omega] at h2
      rw [h2]
      have h3:encL.all dk=encL.all (dk.take i)++encL.all (dk.drop i):=by rw [<- encL.all_append,List.take_append_drop]
      have h4:(encL.all (dk.take i)).length=i * 4:=by rw [encL.all_length,List.length_take,HK.out.len,HN.out];show min i j * 4=_;rw [Nat.min_eq_left (by omega)]
      rw [h3,<- h4,List.take_left' rfl]
    have CL:=Lib.hid hcl
    have FIN:=Lib.hid hfin
    have hb1:(0:Int)<=(i:Int):=by omega
    have hb2:(i:Int)<=(j:Int):=by omega
    have hb3:(i:Int)<=(cap:Int):=by omega
    have hci:¬ (cap=i):=by omega
    have hnz:∀ w,(Go.sizeOf 57).run Try.prog w=.ok 4 w:=fun w=>by simp [sizeOf,typeInfo,hi0,hz1]
    unfold maxLen at hcm
    clear hcl hfin hcur hcs htk hzs hzo hil
    go_wp2_with (refine wpList_clear_run _ rfl _ _ rfl _ rfl (CL.out _ _) ?_)
    go_ret
    exact FIN.out _ rfl
end Go.Proofs.Ytcaclmdkhffegaa.dlf
