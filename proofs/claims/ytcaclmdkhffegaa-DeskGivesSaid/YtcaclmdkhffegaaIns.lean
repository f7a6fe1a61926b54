/- slices.Insert at []api.Lease: a row of the call's own, with so many things put in at a place; the cells of such a copy. -/
import Derived.Test.YtcaclmdkhffegaaChecked
import Derived.Test.YtcaclmdkhffegaaWlm
import Derived.OpenShut
import Derived.OwnWalk
import Derived.WalkLawsBesides
import Derived.KernelRfl
import Derived.Lib.AppendZeros
import Derived.Lib.AppendZerosOnto
import Derived.Lib.Overlaps
import Derived.Laws.Externs
import Derived.Laws.CopyOwn
import Derived.Shelf.RegionOpenPlain
import Derived.Outline
namespace Go.Proofs.Ytcaclmdkhffegaa.ins
set_option maxRecDepth 100000
set_option linter.unusedVariables false
set_option linter.unusedSimpArgs false
open Go.RowKit

theorem Zgc {P:Program} (w:World) (dT sT ty elem:TypeId) (i0:TypeInfo) (g o dLen dCap:Nat) (a:Addr) (sLen sCap:Nat) (cur:List Value) (t:TypeId) (cs:List Value)
  (hu:P.underlying dT=some (.slice elem)) (hi:P.info? elem=some i0) (hg:w.heap[g]?=some (.cells cur.toArray t (0,0))) (hn:cs.length=Nat.min sLen dLen * i0.size)
  (hsrc:∀ j v,cs[j]?=some v->w.cell? (a.add j)=some v) (hfit:o+cs.length<=cur.length) (h1:∀ v ∈ cs,v.oneCell'=true) :
  (Builtin.copy_ #[dT,sT] ty #[.slice (some ⟨g,o,none⟩) dLen dCap,.slice (some a) sLen sCap]).run P w=.ok (goInt (Nat.min sLen dLen)) (w.setRow g (splice cur o cs).toArray):=by
 have hl:=run_loadCells_list (P:=P) w a cs hsrc
 have hst:=run_storeCells_at P g o t cs 0 cur.toArray w hg (by simpa using hfit) h1
 simp only [Nat.add_zero,List.append_assoc] at hst
 have hst':(storeCells ⟨g,o,none⟩ cs).run P w=.ok () (w.setRow g (splice cur o cs).toArray):=hst
 simp [Builtin.copy_,run_underlying hu,Builtin.lenOf,Builtin.firstCells,sizeOf,typeInfo,hi,<- hn,hl,hst']

theorem wp_copy_run {P:Program} (w:World) {o:Oper} {a:Act} {K:Act->World->Prop} {Q:Exit->Act->World->Prop} (d s:Operand) (t t':TypeId)
  (ho:o.op=.call { callee:=.builtin .copy,args:=#[d,s],argTypes:=#[t,t'] }) (v u:Value) (hd:a.eval d=v) (hs:a.eval s=u) {v':Value} {w':World}
  (hr:(Builtin.copy_ #[t,t'] o.type #[v,u]).run P w=.ok v' w') (h:K (a.put o.dst v') w'):o.wp P a w K Q:=by
 unfold Oper.wp execOp
 simp only [ho,resolve,invoke,builtin,Sem.run_bind,Sem.run_pure,Result.andThen_ok,List.map_toArray,List.map_cons,List.map_nil,hd,hs,hr]
 exact h
theorem Zdv {P:Program} (w:World) {ops:Array Oper} {rest:List Oper} {o:Oper} {a:Act} {Q:Exit->Act->World->Prop} (hgd:o.guard=none) (d s:Operand) (t t':TypeId)
  (ho:o.op=.call { callee:=.builtin .copy,args:=#[d,s],argTypes:=#[t,t'] }) (v u:Value) (hd:a.eval d=v) (hs:a.eval s=u) {v':Value} {w':World}
  (hr:(Builtin.copy_ #[t,t'] o.type #[v,u]).run P w=.ok v' w') (h:wpList P ops Q rest (a.put o.dst v') w'):wpList P ops Q (o :: rest) a w :=
 wpList_plain hgd fun _ hK=>wp_copy_run w d s t t' ho v u hd hs hr (hK _ _ h)
theorem step_copy_run {P:Program} {ops:Array Oper} {o:Oper} {a:Act} {w:World} {K:Act->World->Prop} {Q:Exit->Act->World->Prop} {E:Prop}
  (hg:o.guard=none) (d x:Operand) (dT sT:TypeId) (hop:o.op=Op.call { callee:=Callee.builtin Builtin.copy,args:=#[d,x],argTypes:=#[dT,sT] })
  (v u:Value) (hd:a.eval d=v) (hx:a.eval x=u) {v':Value} {w':World} (hr:(Builtin.copy_ #[dT,sT] o.type #[v,u]).run P w=.ok v' w') (hK:K (a.put o.dst v') w') :
  if Region.wanted o (yielded ops a.tmps)=true then Oper.wp P o a w K Q else E:=by
 have hw:Region.wanted o (yielded ops a.tmps)=true:=by simp [Region.wanted,hg]
 rw [if_pos hw]
 exact wp_copy_run w d x dT sT hop v u hd hx hr hK

theorem two_grow (R A D:List Value) (K:Nat) (hK:K+A.length+D.length<=R.length):(splice (splice R K A) (K+A.length) D).take (K+A.length+D.length)=R.take K++A++D:=by
 unfold splice
 rw [show List.take (K+A.length) (R.take K++(A++R.drop (K+A.length)))=R.take K++A by
  rw [<- List.append_assoc,List.take_append_of_le_length (by simp;omega)]
  exact List.take_of_length_le (by simp;omega)]
 rw [<- List.append_assoc,List.take_append_of_le_length (by simp;omega)]
 exact List.take_of_length_le (by simp;omega)
theorem two_shift (C A D:List Value) (K:Nat) (hK:K+A.length+D.length<=C.length):(splice (splice C (K+A.length) D) K A).take (K+A.length+D.length)=C.take K++A++D:=by
 unfold splice
 have h1:List.take K (C.take (K+A.length)++(D++C.drop (K+A.length+D.length)))=C.take K:=by
  rw [List.take_append_of_le_length (by simp;omega),List.take_take]
  congr 1;omega
 have h2:List.drop (K+A.length) (C.take (K+A.length)++(D++C.drop (K+A.length+D.length)))=D++C.drop (K+A.length+D.length):=by
  rw [List.drop_append_of_le_length (by simp;omega),List.drop_of_length_le (by simp;omega)];simp
 rw [h1,h2,<- List.append_assoc,<- List.append_assoc,List.take_append_of_le_length (by simp;omega)]
 exact List.take_of_length_le (by simp;omega)

theorem info_el:(Try.prog.info? 57).map (fun i=>(i.zero,i.size,i.bytes))=some (some (.agg #[.int .i64 0,.int .i64 0,.int .i64 0,.int .i64 0]),4,32):=by kernel_rfl
theorem run_over {w:World} {tS tR e:TypeId} (ht:Try.prog.underlying tS=some (.slice e)) (size:Nat) (hz:∀ w,(Go.sizeOf e).run Try.prog w=.ok size w)
  (a b:Addr) (la ca lb cb:Nat) (hne:a.block ≠ b.block) {ta tb:TypeId} {A B:Array Value} {fa:Nat × Nat} (ha:w.heap[a.block]?=some (.cells A ta fa)) (hA:A.size ≠ 0) (hb:w.heap[b.block]?=some (.cells B tb (0,0))) :
  (Extern.SlicesOverlaps.overlaps #[tS,tS] #[tR] #[.slice (some a) la ca,.slice (some b) lb cb]).run Try.prog w=.ok (.bool false) w:=by
 have hnb:(a.block != b.block)=true:=by simpa using hne
 have hnb':(a.block == b.block)=false:=by simpa using hne
 have hsa:w.shape? a.block=some (ta,A.size):=by simp [World.shape?,ha]
 have hsb:w.shape? b.block=some (tb,B.size):=by simp [World.shape?,hb]
 have hfb:w.frozen? b=false:=by simp [World.frozen?,hb]
 have hfe:w.frozen? { block:=b.block,off:=B.size }=false:=by simp [World.frozen?,hb]
 change Sem.run Try.prog (α:=Value) (do
  let some t := (#[tS, tS] : Array TypeId)[0]? | stuck "slices.overlaps: no parameter types"
  let .slice elem <- underlying t | stuck "slices.overlaps: slice type expected"
  let size <- sizeOf elem
  match (some a:Option Addr),(some b:Option Addr) with
  | some a,some b =>
   if la=0 \/ lb=0 \/ size=0 then pure (Value.bool false)
   else if a.block != b.block && (← frozen a) && (← frozen b) then unsupported .addressObserved
   else do
    if a.block != b.block then do
     noView a;noView b
     if <- mayBeOne a b then return Value.bool ((← choose (.extern "sameAddr.stringBytes" 2)) == 1)
    pure (Value.bool (a.block == b.block && a.off < b.off+lb * size && b.off < a.off+la * size))
  | _,_=>pure (Value.bool false)) w=_
 by_cases h0:la=0 \/ lb=0 \/ size=0
 ·simp [run_underlying ht,hz,h0]
 ·cases hk:A.size with
  | zero=>exact absurd hk hA
  | succ kA =>
   rw [hk] at hsa
   cases hfa:w.frozen? a <;> cases hfa2:w.frozen? { block:=a.block,off:=kA+1 } <;> simp [run_underlying ht,hz,h0,hnb,hnb',frozen,noView,viewAt,mayBeOne,stringish,shape,Sem.run,hsa,hsb,hfb,hfe,hfa,hfa2]

def Tells (w:World) (b base:Nat) (n:Nat) (xs:List Value) (e:Ending) (w':World):Prop:=∃ v,e=.returned v/\w'.ownsRow base 57 4 v n xs/\w.grownBy w' (some b)/\(v.ownBlock=some b \/ v.ownBlock=some w.heap.size)
theorem grown_row (w:World) (b:Nat) (c:Array Value):w.grownBy (w.setRow b c) (some b):=⟨rfl,rfl,rfl,by simp [World.setRow],fun k _ hk=>setRow_other w b k c (fun h=>hk (by rw [h]))⟩

variable {α : Type}
set_option maxHeartbeats 4000000 in
theorem insert_end (E:Enc α) (hE:E.sz=4) (w:World) (base b n cap:Nat) (xs:List Value) (hown:w.ownsRow base 57 4 (.slice (some ⟨b,0,none⟩) n cap) n xs) (hbase:base<=w.heap.size)
  (vb voff m vc:Nat) (news:List α) (hm:news.length=m) (hm0:0 < m) (hnm:n+m<=1000000) (hr:RowE E w (.slice (some ⟨vb,voff,none⟩) m vc) news) :
  Calls Try.prog 93 #[.slice (some ⟨b,0,none⟩) n cap,.int .i64 (n:Int),.slice (some ⟨vb,voff,none⟩) m vc] w (Tells w b base (n+m) (xs++E.all news)):=by
 obtain ⟨i0,hi,hz0,hz1,hz2⟩:=info_parts info_el
 obtain ⟨v',w',hrun,h1,h2,h3⟩:=Zcn (P:=Try.prog) w E base 27 27 57 i0 _ 4 32 Try.underlying27 hi hz0 hz1 hz2 rfl hE _ n xs hown _ news hr (by unfold maxLen;omega) (by omega) hbase
 rw [hm] at h1
 have H1:=Lib.hid h1
 have H2:=Lib.hid h2
 have H3:=Lib.hid h3
 have HR:=Lib.hid hrun
 have hz1':¬ ((m:Int)=0):=by omega
 have hnc:n<=cap:=by
  rcases hown.2 with ⟨h,_⟩ | ⟨_,_,_,h,_,_,h2,_⟩
  ·cases h
  ·cases h;exact h2
 clear h1 h2 h3 hrun hown hr hbase
 go_enter Try.func93,Try.ntmps93
 go_wp2_with (at_builtin;refine Lib.wpList_append_run _ rfl _ _ _ _ rfl _ _ rfl rfl _ _ HR.out ?_)
 all_goals (go_ret;exact ⟨_,rfl,H1.out,H2.out,H3.out⟩)

theorem addr4 (b o k:Nat):(⟨b,o,none⟩:Addr).add k=⟨b,o+k,none⟩:=by unfold Addr.add;split <;> simp_all
theorem Zb7 (need old:Nat) (h:old < need):Builtin.nextslicecap need old<=2 * need+768:=by
 have key:∀ r c,c<=2 * need+768->Builtin.growBy need r c<=2 * need+768:=by
  intro r
  induction r with
  | zero=>intro c hc;exact hc
  | succ r ih =>
   intro c hc
   unfold Builtin.growBy
   split
   ·exact hc
   ·exact ih _ (by omega)
 unfold Builtin.nextslicecap
 split
 ·omega
 ·split
  ·omega
  ·exact key _ _ (by omega)
set_option maxHeartbeats 4000000 in
theorem insert_grow (E:Enc α) (hE:E.sz=4) (w:World) (base b n cap i:Nat) (xs:List Value) (hown:w.ownsRow base 57 4 (.slice (some ⟨b,0,none⟩) n cap) n xs) (hbase:base<=w.heap.size) (h1x:∀ v ∈ xs,v.oneCell'=true)
  (vb voff m vc:Nat) (news:List α) (hm:news.length=m) (hm0:0 < m) (hnm:n+m<=1000000) (hr:RowE E w (.slice (some ⟨vb,voff,none⟩) m vc) news) (hi:i < n) (hroom:cap < n+m) :
  Calls Try.prog 93 #[.slice (some ⟨b,0,none⟩) n cap,.int .i64 (i:Int),.slice (some ⟨vb,voff,none⟩) m vc] w (Tells w b base (n+m) (xs.take (i * 4)++E.all news++xs.drop (i * 4))):=by
 obtain ⟨i0,hi0,hz0,hz1,hz2⟩:=info_parts info_el
 have hxl:xs.length=n * 4:=hown.1
 obtain ⟨cur,hcur,hnc,hcm,hcs,htk⟩:∃ cur:Array Value,w.heap[b]?=some (.cells cur 57 (0,0))/\n<=cap/\cap<=maxLen/\cur.size=cap * 4/\cur.toList.take (n * 4)=xs:=by
  rcases hown.2 with ⟨h,_⟩ | ⟨g,c',cur,h,_,h2,h3,h4,h5,h6⟩
  ·cases h
  ·cases h;exact ⟨cur,h2,h3,h4,h5,h6⟩
 have hcell:∀ j v,xs[j]?=some v->w.cell? ⟨b,j,none⟩=some v:=fun j v hj=>by
  simp only [World.cell?,hcur]
  rw [<- htk,List.getElem?_take] at hj
  split at hj
  ·simpa using hj
  ·cases hj
 have hbw:b < w.heap.size:=(Array.getElem?_eq_some_iff.1 hcur).1
 have hvcell:∀ j v,(E.all news)[j]?=some v->w.cell? ⟨vb,voff+j,none⟩=some v:=fun j v hj=>hr.cell hj
 have hvw:vb < w.heap.size:=by
  obtain ⟨_,_,h,hh⟩:=hr.addr hm0
  cases h;exact hh
 have hal:(E.all news).length=m * 4:=by rw [E.all_length,hm,hE]
 have hal1:=E.all_one' news
 generalize hA:E.all news=A at *
 clear hA hr hown
 have hold:(Builtin.firstCells i0.size i (.slice (some ⟨b,0,none⟩) i cap)).run Try.prog w.drew=.ok (xs.take (i * 4)).toArray w.drew:=by
  rw [hz1]
  exact run_firstCells_some (P:=Try.prog) (w:=w.drew) 4 i ⟨b,0,none⟩ i cap (xs.take (i * 4)) (by rw [List.length_take];omega) (fun j v hj=>by
   rw [addr4,Nat.zero_add]
   rw [List.getElem?_take] at hj
   split at hj
   ·exact hcell j v hj
   ·cases hj)
 have hfit:Builtin.nextslicecap (i+(n+m - i)) cap * i0.bytes<=281474976710656:=by
  have e1:=Zb7 (i+(n+m - i)) cap (by omega)
  rw [hz2]
  omega
 have hrz:=fun ty=>Lib.run_append_grow_zeros (P:=Try.prog) w 27 3 ty 57 i0 _ .i64 .i64 Try.underlying27 Try.underlying3 hi0 hz0 (some ⟨b,0,none⟩) i cap (xs.take (i * 4)) hold (n+m - i) (by omega) (by omega) (by omega) (by omega) (by rw [hz2];omega) hfit
 have hkk:((n+m - i:Nat):Int)=(n:Int)+(m:Int) - (i:Int):=by omega
 have hkn:i+(n+m - i)=n+m:=by omega
 simp only [hkk,hkn] at hrz
 have hGn:n+m<=grownCap w (n+m) cap 57:=grownCap_ge w _ _ _
 have hGm:grownCap w (n+m) cap 57<=maxLen:=grownCap_le_maxLen w _ _ _ (by unfold maxLen;omega)
 generalize grownCap w (n+m) cap 57=G at *
 obtain ⟨ROW,hROW,hRl,hRt⟩:∃ ROW:List Value,(xs.take (i * 4)).toArray++Builtin.zeroCells (Value.cells (.agg #[.int .i64 0,.int .i64 0,.int .i64 0,.int .i64 0])) (n+m - i)++Builtin.zeroCells (Value.cells (.agg #[.int .i64 0,.int .i64 0,.int .i64 0,.int .i64 0])) (G - (n+m))=ROW.toArray/\ROW.length=G * 4/\ROW.take (i * 4)=xs.take (i * 4):=by
  refine ⟨_,(Array.toArray_toList).symm,?_,?_⟩
  ·rw [Array.length_toList,Array.size_append,Array.size_append,size_zeroCells,size_zeroCells]
   show (xs.take (i * 4)).toArray.size+(n+m - i) * 4+(G - (n+m)) * 4=_
   rw [List.size_toArray,List.length_take]
   omega
  ·simp only [Array.toList_append,List.append_assoc]
   rw [List.take_append_of_le_length (by simp;omega)]
   exact List.take_of_length_le (by simp;omega)
 rw [hROW] at hrz
 obtain ⟨W1,hW1⟩:∃ W1,W1=w.drew.alloc (.cells ROW.toArray 57):=⟨_,rfl⟩
 rw [<- hW1] at hrz
 have hq1:W1.heap[w.heap.size]?=some (.cells ROW.toArray 57 (0,0)):=by rw [hW1];exact heap_alloc_new w.drew _
 have hold1:∀ k,k < w.heap.size->W1.heap[k]?=w.heap[k]?:=fun k hk=>by
  rw [hW1];show (w.heap.push _)[k]?=_;rw [Array.getElem?_push,if_neg (by omega)]
 have hw1s:W1.heap.size=w.heap.size+1:=by rw [hW1];show (w.heap.push _).size=_;simp
 have hw1o:W1.os=w.os/\W1.tape=w.tape/\W1.output=w.output:=by rw [hW1];exact ⟨rfl,rfl,rfl⟩
 clear hW1 hROW hold hfit
 generalize hqq:w.heap.size=q at *
 have hdl:(xs.drop (i * 4)).length=(n - i) * 4:=by rw [List.length_drop];omega
 have hxt:(xs.take (i * 4)).length=i * 4:=by rw [List.length_take];omega
 have hcA:∀ (W:World),W.heap=W1.heap->∀ ty dc,(Builtin.copy_ #[27,27] ty #[.slice (some ⟨q,i * 4,none⟩) (n+m - i) dc,.slice (some ⟨vb,voff,none⟩) m vc]).run Try.prog W=.ok (goInt (Nat.min m (n+m - i))) (W.setRow q (splice ROW (i * 4) A).toArray):=fun W hW ty dc =>
  Zgc W _ _ ty 57 i0 q (i * 4) (n+m - i) dc ⟨vb,voff,none⟩ m vc ROW 57 A Try.underlying27 hi0 (by rw [hW];exact hq1) (by rw [hz1,hal];show _=min _ _ * 4;rw [Nat.min_eq_left (by omega)])
   (fun j v hj=>by
    rw [addr4]
    have:=hvcell j v hj
    simp only [World.cell?,hW,hold1 vb hvw] at this ⊢
    exact this) (by rw [hRl];omega) hal1
 have hcB:∀ (W:World),W.heap=(W1.setRow q (splice ROW (i * 4) A).toArray).heap->∀ ty dc sc,(Builtin.copy_ #[27,27] ty #[.slice (some ⟨q,(i+m) * 4,none⟩) (n+m - (i+m)) dc,.slice (some ⟨b,i * 4,none⟩) (n - i) sc]).run Try.prog W=.ok (goInt (Nat.min (n - i) (n+m - (i+m)))) (W.setRow q (splice (splice ROW (i * 4) A) ((i+m) * 4) (xs.drop (i * 4))).toArray):=fun W hW ty dc sc =>
  Zgc W _ _ ty 57 i0 q ((i+m) * 4) (n+m - (i+m)) dc ⟨b,i * 4,none⟩ (n - i) sc _ 57 (xs.drop (i * 4)) Try.underlying27 hi0 (by rw [hW];exact setRow_heap W1 q _ _ _ _ hq1) (by rw [hz1,hdl];show _=min _ _ * 4;rw [Nat.min_eq_left (by omega)])
   (fun j v hj=>by
    rw [addr4]
    rw [List.getElem?_drop] at hj
    have:=hcell _ v hj
    have hne:b ≠ q:=by omega
    simp only [World.cell?,hW,setRow_other W1 q b _ hne,hold1 b hbw] at this ⊢
    exact this) (by rw [length_splice _ _ _ (by rw [hRl];omega),hRl];omega) (fun v hv=>h1x v (List.mem_of_mem_drop hv))
 have hfin:∀ (W:World),W.heap=((W1.setRow q (splice ROW (i * 4) A).toArray).setRow q (splice (splice ROW (i * 4) A) ((i+m) * 4) (xs.drop (i * 4))).toArray).heap->W.os=w.os/\W.tape=w.tape/\W.output=w.output->Tells w b base (n+m) (xs.take (i * 4)++A++xs.drop (i * 4)) (.returned (.slice (some ⟨q,0,none⟩) (n+m) G)) W:=by
  intro W hW ho
  have hh:W.heap[q]?=some (.cells (splice (splice ROW (i * 4) A) ((i+m) * 4) (xs.drop (i * 4))).toArray 57 (0,0)):=by rw [hW];exact setRow_heap _ q _ _ _ _ (setRow_heap W1 q _ _ _ _ hq1)
  have hls:(splice (splice ROW (i * 4) A) ((i+m) * 4) (xs.drop (i * 4))).length=G * 4:=by
   rw [length_splice _ _ _ (by rw [length_splice _ _ _ (by rw [hRl];omega),hRl];omega),length_splice _ _ _ (by rw [hRl];omega),hRl]
  have h2:=two_grow ROW A (xs.drop (i * 4)) (i * 4) (by rw [hRl];omega)
  rw [hRt,hal,hdl,show i * 4+m * 4=(i+m) * 4 by omega] at h2
  refine ⟨_,rfl,⟨by simp only [List.length_append,hxt,hal,hdl];omega,.inr ⟨q,G,_,rfl,by omega,hh,hGn,hGm,by simpa using hls,?_⟩⟩,⟨ho.1,ho.2.1,ho.2.2,?_,fun k hk hkb=>?_⟩,.inr (by rw [hqq];rfl)⟩
  ·rw [List.toList_toArray,show (n+m) * 4=(i+m) * 4+(n - i) * 4 by omega]
   exact h2
  ·rw [hW];simp [World.setRow];omega
  ·rw [hW,setRow_other _ q k _ (by omega),setRow_other _ q k _ (by omega)]
   exact hold1 k (by omega)
 have hE1:∀ w:World,w.drew.heap=w.heap:=fun _=>rfl
 have hgt:(cap:Int) < (n:Int)+(m:Int):=by omega
 have hz1':¬ ((m:Int)=0):=by omega
 have hz2':¬ ((i:Int)=(n:Int)):=by omega
 have hb1:(0:Int)<=(i:Int)+(m:Int):=by omega
 have hb3:(i:Int)<=(n:Int):=by omega
 have hw1:IntKind.i64.wrap ((i:Int)+(m:Int))=(i:Int)+(m:Int):=by rw [IntKind.wrap_i64];omega
 have hw2:IntKind.i64.wrap ((n:Int)+(m:Int))=(n:Int)+(m:Int):=by rw [IntKind.wrap_i64];omega
 have hw3:IntKind.i64.wrap ((n:Int)+(m:Int) - (i:Int))=(n:Int)+(m:Int) - (i:Int):=by rw [IntKind.wrap_i64];omega
 have htn:((i:Int)+(m:Int)).toNat=i+m:=by omega
 have hGi:¬ (G=i):=by omega
 have hGim:¬ (G=i+m):=by omega
 have hci:¬ (cap=i):=by omega
 have hnz:∀ w,(Go.sizeOf 57).run Try.prog w=.ok 4 w:=fun w=>by simp [sizeOf,typeInfo,hi0,hz1]
 have FIN:=Lib.hid hfin
 have CA:=Lib.hid hcA
 have CB:=Lib.hid hcB
 have RZ:=Lib.hid hrz
 have HO:=Lib.hid hw1o
 unfold maxLen at hcm hGm
 clear hfin hcA hcB hrz hw1o hcell hvcell hold1 hal1 h1x hcur htk hcs hdl hxt hRt hRl hal hq1 hw1s hbw hvw
 go_enter Try.func93,Try.ntmps93
 go_wp2_with (first
  | (at_builtin;refine Lib.wpList_append_run _ rfl _ _ _ _ rfl _ _ rfl rfl _ _ (RZ.out _) ?_)
  | (refine Zdv _ rfl _ _ _ _ rfl _ _ rfl rfl (CA.out _ rfl _ _) ?_)
  | (refine Zdv _ rfl _ _ _ _ rfl _ _ rfl rfl (CA.out _ (hE1 _) _ _) ?_))
 have mixed:Try.prog.follows .mixedOrders=true:=by kernel_rfl
 go_region_law_o (refine step_copy_run rfl _ _ _ _ rfl (.slice (some ⟨q,(i+m) * 4,none⟩) (n+m - (i+m)) (G - (i+m))) (.slice (some ⟨b,i * 4,none⟩) (n - i) (cap - i)) (by simp [Act.eval,Act.put]) (by simp [Act.eval,Act.put]) (CB.out (W1.setRow q (splice ROW (i * 4) A).toArray).drew rfl _ _ _) ?_)
 go_wp2_with fail
 all_goals (go_ret;exact FIN.out _ rfl HO.out)

set_option maxHeartbeats 4000000 in
theorem insert_shift (E:Enc α) (hE:E.sz=4) (w:World) (base b n cap i:Nat) (xs:List Value) (hown:w.ownsRow base 57 4 (.slice (some ⟨b,0,none⟩) n cap) n xs) (hbase:base<=w.heap.size) (h1x:∀ v ∈ xs,v.oneCell'=true)
  (vb voff m vc:Nat) (news:List α) (hm:news.length=m) (hm0:0 < m) (hnm:n+m<=1000000) (hr:RowE E w (.slice (some ⟨vb,voff,none⟩) m vc) news) (hvb:vb ≠ b) (hi:i < n) (hroom:n+m<=cap) :
  Calls Try.prog 93 #[.slice (some ⟨b,0,none⟩) n cap,.int .i64 (i:Int),.slice (some ⟨vb,voff,none⟩) m vc] w (Tells w b base (n+m) (xs.take (i * 4)++E.all news++xs.drop (i * 4))):=by
 obtain ⟨i0,hi0,hz0,hz1,hz2⟩:=info_parts info_el
 have hxl:xs.length=n * 4:=hown.1
 obtain ⟨cur,hcur,hnc,hcm,hcs,htk,hbb⟩:∃ cur:List Value,w.heap[b]?=some (.cells cur.toArray 57 (0,0))/\n<=cap/\cap<=maxLen/\cur.length=cap * 4/\cur.take (n * 4)=xs/\base<=b:=by
  rcases hown.2 with ⟨h,_⟩ | ⟨g,c',cur,h,hb,h2,h3,h4,h5,h6⟩
  ·cases h
  ·cases h;exact ⟨cur.toList,by simpa using h2,h3,h4,by simpa using h5,h6,hb⟩
 have hcell:∀ j v,xs[j]?=some v->w.cell? ⟨b,j,none⟩=some v:=fun j v hj=>by
  simp only [World.cell?,hcur]
  rw [<- htk,List.getElem?_take] at hj
  split at hj
  ·simpa using hj
  ·cases hj
 have hbw:b < w.heap.size:=(Array.getElem?_eq_some_iff.1 hcur).1
 have hvcell:∀ j v,(E.all news)[j]?=some v->w.cell? ⟨vb,voff+j,none⟩=some v:=fun j v hj=>hr.cell hj
 have hal:(E.all news).length=m * 4:=by rw [E.all_length,hm,hE]
 have hal1:=E.all_one' news
 generalize hA:E.all news=A at *
 clear hA hr hown
 obtain ⟨VA,VT,VF,hva,hva0⟩:∃ (VA:Array Value) (VT:TypeId) (VF:Nat × Nat),w.heap[vb]?=some (.cells VA VT VF)/\VA.size ≠ 0:=by
  obtain ⟨u,hu⟩:∃ u,A[0]?=some u:=⟨_,List.getElem?_eq_getElem (by omega)⟩
  have:=hvcell 0 u hu
  simp only [World.cell?] at this
  split at this
  ·rename_i c t f hh
   refine ⟨c,t,f,hh,fun h=>?_⟩
   rw [Array.getElem?_eq_none (by omega)] at this
   cases this
  ·cases this
 have hnz:∀ w,(Go.sizeOf 57).run Try.prog w=.ok 4 w:=fun w=>by simp [sizeOf,typeInfo,hi0,hz1]
 have hov:∀ W:World,W.heap=w.heap->∀ lb cb,(callFunc 102 #[.slice (some ⟨vb,voff,none⟩) m vc,.slice (some ⟨b,(i+m) * 4,none⟩) lb cb]).run Try.prog W=.ok (.value (.bool false)) W:=fun W hW lb cb=>by
  rw [run_callFunc_extern Try.func102 (by kernel_rfl) (by kernel_rfl) (by kernel_rfl) (e:=Extern.SlicesOverlaps.overlaps #[27,27] #[4]) (by kernel_rfl),
   run_over (w:=W) Try.underlying27 4 hnz ⟨vb,voff,none⟩ ⟨b,(i+m) * 4,none⟩ m vc lb cb hvb (by rw [hW];exact hva) hva0 (by rw [hW];exact hcur)]
  rfl
 have hdl:(xs.drop (i * 4)).length=(n - i) * 4:=by rw [List.length_drop];omega
 have hxt:(xs.take (i * 4)).length=i * 4:=by rw [List.length_take];omega
 have hcA:∀ (W:World),W.heap=w.heap->∀ ty dc sc,(Builtin.copy_ #[27,27] ty #[.slice (some ⟨b,(i+m) * 4,none⟩) (n+m - (i+m)) dc,.slice (some ⟨b,i * 4,none⟩) (n+m - i) sc]).run Try.prog W=.ok (goInt (Nat.min (n+m - i) (n+m - (i+m)))) (W.setRow b (splice cur ((i+m) * 4) (xs.drop (i * 4))).toArray):=fun W hW ty dc sc =>
  Zgc W _ _ ty 57 i0 b ((i+m) * 4) (n+m - (i+m)) dc ⟨b,i * 4,none⟩ (n+m - i) sc cur 57 (xs.drop (i * 4)) Try.underlying27 hi0 (by rw [hW];exact hcur) (by rw [hz1,hdl];show _=min _ _ * 4;rw [Nat.min_eq_right (by omega)];omega)
   (fun j v hj=>by
    rw [addr4]
    rw [List.getElem?_drop] at hj
    have:=hcell _ v hj
    simp only [World.cell?,hW] at this ⊢
    exact this) (by rw [hdl];omega) (fun v hv=>h1x v (List.mem_of_mem_drop hv))
 have hl1:(splice cur ((i+m) * 4) (xs.drop (i * 4))).length=cap * 4:=by rw [length_splice _ _ _ (by rw [hdl];omega),hcs]
 have hcB:∀ (W:World),W.heap=(w.setRow b (splice cur ((i+m) * 4) (xs.drop (i * 4))).toArray).heap->∀ ty dc,(Builtin.copy_ #[27,27] ty #[.slice (some ⟨b,i * 4,none⟩) (n+m - i) dc,.slice (some ⟨vb,voff,none⟩) m vc]).run Try.prog W=.ok (goInt (Nat.min m (n+m - i))) (W.setRow b (splice (splice cur ((i+m) * 4) (xs.drop (i * 4))) (i * 4) A).toArray):=fun W hW ty dc =>
  Zgc W _ _ ty 57 i0 b (i * 4) (n+m - i) dc ⟨vb,voff,none⟩ m vc _ 57 A Try.underlying27 hi0 (by rw [hW];exact setRow_heap w b _ _ _ _ hcur) (by rw [hz1,hal];show _=min _ _ * 4;rw [Nat.min_eq_left (by omega)])
   (fun j v hj=>by
    rw [addr4]
    have:=hvcell j v hj
    simp only [World.cell?,hW,setRow_other w b vb _ hvb] at this ⊢
    exact this) (by rw [hl1];omega) hal1
 have hfin:∀ (W:World),W.heap=((w.setRow b (splice cur ((i+m) * 4) (xs.drop (i * 4))).toArray).setRow b (splice (splice cur ((i+m) * 4) (xs.drop (i * 4))) (i * 4) A).toArray).heap->W.os=w.os/\W.tape=w.tape/\W.output=w.output->Tells w b base (n+m) (xs.take (i * 4)++A++xs.drop (i * 4)) (.returned (.slice (some ⟨b,0,none⟩) (n+m) cap)) W:=by
  intro W hW ho
  have hh:W.heap[b]?=some (.cells (splice (splice cur ((i+m) * 4) (xs.drop (i * 4))) (i * 4) A).toArray 57 (0,0)):=by rw [hW];exact setRow_heap _ b _ _ _ _ (setRow_heap w b _ _ _ _ hcur)
  have hls:(splice (splice cur ((i+m) * 4) (xs.drop (i * 4))) (i * 4) A).length=cap * 4:=by
   rw [length_splice _ _ _ (by rw [hl1];omega),hl1]
  have h2:=two_shift cur A (xs.drop (i * 4)) (i * 4) (by omega)
  rw [hal,hdl,show i * 4+m * 4=(i+m) * 4 by omega] at h2
  refine ⟨_,rfl,⟨by simp only [List.length_append,hxt,hal,hdl];omega,.inr ⟨b,cap,_,rfl,hbb,hh,hroom,hcm,by simpa using hls,?_⟩⟩,⟨ho.1,ho.2.1,ho.2.2,?_,fun k hk hkb=>?_⟩,.inl rfl⟩
  ·rw [List.toList_toArray,show (n+m) * 4=(i+m) * 4+(n - i) * 4 by omega,h2,<- htk,List.take_take,show min (i * 4) (n * 4)=i * 4 by omega]
  ·rw [hW];simp [World.setRow]
  ·have hkb':k ≠ b:=fun h=>hkb (by rw [h])
   rw [hW,setRow_other _ b k _ hkb',setRow_other _ b k _ hkb']
 have hgt:¬ ((cap:Int) < (n:Int)+(m:Int)):=by omega
 have hz1':¬ ((m:Int)=0):=by omega
 have hz2':¬ ((i:Int)=(n:Int)):=by omega
 have hb1:(0:Int)<=(i:Int)+(m:Int):=by omega
 have hb3:(i:Int)<=(n:Int):=by omega
 have hb4:(i:Int)<=(n:Int)+(m:Int):=by omega
 have hb5:(n:Int)+(m:Int)<=(cap:Int):=by omega
 have hb6:(0:Int)<=(n:Int)+(m:Int):=by omega
 have hw1:IntKind.i64.wrap ((i:Int)+(m:Int))=(i:Int)+(m:Int):=by rw [IntKind.wrap_i64];omega
 have hw2:IntKind.i64.wrap ((n:Int)+(m:Int))=(n:Int)+(m:Int):=by rw [IntKind.wrap_i64];omega
 have htn:((i:Int)+(m:Int)).toNat=i+m:=by omega
 have htn2:((n:Int)+(m:Int)).toNat=n+m:=by omega
 have hci:¬ (cap=i):=by omega
 have hcim:¬ (cap=i+m):=by omega
 have FIN:=Lib.hid hfin
 have CA:=Lib.hid hcA
 have CB:=Lib.hid hcB
 have OV:=Lib.hid hov
 unfold maxLen at hcm
 have mixed:Try.prog.follows .mixedOrders=true:=by kernel_rfl
 clear hfin hcA hcB hcell hvcell hal1 h1x hcur htk hcs hdl hxt hl1 hal hbw hva hva0 hov
 go_enter Try.func93,Try.ntmps93
 go_wp2_with (simp only [OV.out w rfl])
 go_region_law_o (refine step_copy_run rfl _ _ _ _ rfl (.slice (some ⟨b,(i+m) * 4,none⟩) (n+m - (i+m)) (cap - (i+m))) (.slice (some ⟨b,i * 4,none⟩) (n+m - i) (cap - i)) (by simp [Act.eval,Act.put]) (by simp [Act.eval,Act.put]) (CA.out w.drew rfl _ _ _) ?_)
 go_wp2_with (refine Zdv _ rfl _ _ _ _ rfl _ _ rfl rfl (CB.out (w.drew.setRow b (splice cur ((i+m) * 4) (xs.drop (i * 4))).toArray) rfl _ _) ?_)
 all_goals (go_ret;exact FIN.out _ rfl ⟨rfl,rfl,rfl⟩)
theorem insert_any (E:Enc α) (hE:E.sz=4) (w:World) (base b n cap i:Nat) (xs:List Value) (hown:w.ownsRow base 57 4 (.slice (some ⟨b,0,none⟩) n cap) n xs) (hbase:base<=w.heap.size) (h1x:∀ v ∈ xs,v.oneCell'=true)
  (vb voff m vc:Nat) (news:List α) (hm:news.length=m) (hm0:0 < m) (hnm:n+m<=1000000) (hr:RowE E w (.slice (some ⟨vb,voff,none⟩) m vc) news) (hvb:vb ≠ b) (hi:i<=n) :
  Calls Try.prog 93 #[.slice (some ⟨b,0,none⟩) n cap,.int .i64 (i:Int),.slice (some ⟨vb,voff,none⟩) m vc] w (Tells w b base (n+m) (xs.take (i * 4)++E.all news++xs.drop (i * 4))):=by
 have hxl:xs.length=n * 4:=hown.1
 rcases Nat.lt_or_ge i n with h | h
 ·rcases Nat.lt_or_ge cap (n+m) with h2 | h2
  ·exact insert_grow E hE w base b n cap i xs hown hbase h1x vb voff m vc news hm hm0 hnm hr h h2
  ·exact insert_shift E hE w base b n cap i xs hown hbase h1x vb voff m vc news hm hm0 hnm hr hvb h h2
 ·obtain rfl:i=n:=by omega
  rw [<- hxl,List.take_length,List.drop_length,List.append_nil]
  exact insert_end E hE w base b i cap xs hown hbase vb voff m vc news hm hm0 hnm hr
end Go.Proofs.Ytcaclmdkhffegaa.ins
