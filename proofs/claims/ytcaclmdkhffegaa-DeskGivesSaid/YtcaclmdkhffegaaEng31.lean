/- Texts joined. -/
import Derived.Test.YtcaclmdkhffegaaMrg3
section
/- The engine: a row of the call's own that is not written any more becomes a thing (which may live on). -/
namespace Go.Proofs.Ytcaclmdkhffegaa.eng
open Go Go.RowKit
variable {W0 : Base}
set_option linter.unusedVariables false
set_option linter.unusedSimpArgs false

def Zmr (t:Nat) (x:AAct) (st:St):Option (AAct × St × List Fact):=match x.tm.get t with
 | some (.sliceS r v lo len sz)=>(lookS st r v).bind fun (e,el,esz)=>cond (isC0 lo && Nat.beq sz esz && Nat.blt (st.next+1) 16777215 && Nat.blt (t+1) 16777216 && Nat.blt (r+1) 16777216)
   (some ({ x with tm:=T.set 24 x.tm t (some (.dat st.next)) },{ st with heap:=T.set 24 (T.set 24 st.heap r none) st.next (some (Zbc (e,true))),next:=st.next+1 },(wantW e len).V)) none
 | _=>none
theorem freeze_ok {B:Base} {m:Map} {x x':AAct} {st st':St} {a:Act} {w:World} {t:Nat} {fs:List Fact} (hat:At B m x st a w) (h:Zmr t x st=some (x',st',fs)) (hf:∀ f ∈ fs,f.holds B):∃ m',At B m' x' st' a w:=by
 unfold Zmr at h
 split at h
 rotate_left
 ·cases h
 rename_i r v lo len sz hx
 simp only [Option.bind_eq_some_iff] at h
 obtain ⟨⟨e,el,esz⟩,hl,h⟩:=h
 simp only [cond_eq_ite] at h
 split at h
 rotate_left
 ·cases h
 rename_i hc
 simp only [Bool.and_eq_true,Nat.beq_eq,Nat.blt_eq] at hc
 obtain ⟨⟨⟨⟨hc0,hz⟩,hnx⟩,ht⟩,hr⟩:=hc
 subst hz
 cases h
 obtain ⟨o0,ho0,hs0,hv0,hro0,hel0,_⟩:=Zej hl
 obtain ⟨u,hu,hut⟩:=hat.tm.get t _ hx
 have hwf:(wantW e len).Fits B fun _=>True:=⟨fun _ _=>trivial,hf⟩
 obtain ⟨b,n,cs,h1,h2,h3,h4,h5,h6⟩:=Zjp hat.rel hl hc0 trivial (Zjl hat.rel hl trivial hu hwf) hu
 have hR:=hat.rel
 have hF:=hat.fresh
 let m':Map:=⟨m.f,fun k=>if k=st.next then some (u,fun q=>q=b.1) else m.d k,m.s⟩
 have hle:m.Le m':=⟨fun _ _ _ h=>h,fun k y hy=>by
  show (if k=st.next then _ else _)=_
  by_cases hk:k=st.next
  ·subst hk;rw [(hF st.next trivial (Nat.le_refl _)).2] at hy;cases hy
  ·rw [if_neg hk];exact hy,fun _ _ h=>h⟩
 have hg:∀ k,(T.set 24 (T.set 24 st.heap r none) st.next (some (Zbc (e,true)))).get k=if k=st.next then some (Zbc (e,true)) else if k=r then none else st.heap.get k:=fun k=>by
  rw [T.get_set _ _ _ _ _ (show st.next+1 < 2 ^ 24 by omega),T.get_set _ _ _ _ _ (show r+1 < 2 ^ 24 from hr)]
 have hold:∀ k o,(T.set 24 (T.set 24 st.heap r none) st.next (some (Zbc (e,true)))).get k=some o->(k=st.next/\o=Zbc (e,true)) \/ (k ≠ st.next/\k ≠ r/\st.heap.get k=some o):=fun k o ho=>by
  rw [hg] at ho
  by_cases hk:k=st.next
  ·rw [if_pos hk] at ho;cases ho;exact .inl ⟨hk,rfl⟩
  ·rw [if_neg hk] at ho
   by_cases hk2:k=r
   ·rw [if_pos hk2] at ho;cases ho
   ·rw [if_neg hk2] at ho;exact .inr ⟨hk,hk2,ho⟩
 have hvs:∀ k o v n,(T.set 24 (T.set 24 st.heap r none) st.next (some (Zbc (e,true)))).get k=some o->(v,n) ∈ o.vers->k ≠ st.next/\k ≠ r/\st.heap.get k=some o:=fun k o v n ho hv=>by
  rcases hold k o ho with ⟨_,rfl⟩ | h
  ·simp [Zbc] at hv
  ·exact h
 have hd1:m'.d st.next=some (u,fun q=>q=b.1):=by show (if st.next=st.next then _ else _)=_;rw [if_pos rfl]
 have hd2:∀ k,k ≠ st.next->m'.d k=m.d k:=fun k hk=>by show (if k=st.next then _ else _)=_;rw [if_neg hk]
 have hone:u.oneCell'=true:=by rw [h3];rfl
 have hrel:Rel B (fun _=>True) m' (T.set 24 (T.set 24 st.heap r none) st.next (some (Zbc (e,true)))).get w:=by
  refine ⟨?_,?_,?_,hR.size0,hR.amb,?_,?_,?_,hR.sv,hR.same,?_,?_⟩
  ·intro k o ha ho v' n' hv'
   obtain ⟨_,_,ho'⟩:=hvs k o v' n' ho hv'
   obtain ⟨b',hb',hB⟩:=hR.blk k o ha ho' v' n' hv'
   exact ⟨b',hb',hB.mono hle rfl⟩
  ·intro k k' o o' v1 n1 v2 n2 b1 b2 ha ha' ho ho' hv1 hv2 hb1 hb2 he
   exact hR.inj k k' o o' v1 n1 v2 n2 b1 b2 ha ha' (hvs k o v1 n1 ho hv1).2.2 (hvs k' o' v2 n2 ho' hv2).2.2 hv1 hv2 hb1 hb2 he
  ·intro k o v1 n1 rest ha ho hv1 v2 hlt
   exact hR.top k o v1 n1 rest ha (hvs k o v1 n1 ho (by rw [hv1];simp)).2.2 hv1 v2 hlt
  ·intro k o v1 n1 b1 ha ho hv1 hb1
   exact hR.abv k o v1 n1 b1 ha (hvs k o v1 n1 ho hv1).2.2 hv1 hb1
  ·intro k o e1 ha ho hd
   rcases hold k o ho with ⟨rfl,rfl⟩ | ⟨hk,_,ho'⟩
   ·simp only [Zbc,Option.some.injEq] at hd
    subst hd
    exact ⟨u,_,hd1,hone,fun q hq=>by rw [hq];exact h5,fun w2 hw2=>⟨_,h2,h6 w2 (hw2 b.1 rfl)⟩⟩
   ·obtain ⟨v1,fp,hm,g1,g2,g3⟩:=hR.dat k o e1 ha ho' hd
    exact ⟨v1,fp,by rw [hd2 k hk];exact hm,g1,g2,g3⟩
  ·intro k o e1 v1 fp k' o' u' n' b' ha ha' ho hd hm ho' hu' hb' hfp
   obtain ⟨hk1,hk2,ho2⟩:=hvs k' o' u' n' ho' hu'
   rcases hold k o ho with ⟨rfl,rfl⟩ | ⟨hk,_,ho1⟩
   ·rw [hd1] at hm
    cases hm
    have hfp:b'.1=b.1:=hfp
    exact hk2 (hR.inj k' r o' o0 u' n' v 0 b' b ha' trivial ho2 ho0 hu' (by rw [hv0];exact List.mem_singleton.2 rfl) hb' h1 hfp)
   ·rw [hd2 k hk] at hm
    exact hR.disj k o e1 v1 fp k' o' u' n' b' ha ha' ho1 hd hm ho2 hu' hb' hfp
  ·intro k o e1 v1 fp ha ho hd hm hro q hq
   rcases hold k o ho with ⟨rfl,rfl⟩ | ⟨hk,_,ho1⟩
   ·rw [hd1] at hm
    cases hm
    have hq:q=b.1:=hq
    exact .inr (by rw [hq];exact h4)
   ·rw [hd2 k hk] at hm
    exact hR.fpb k o e1 v1 fp ha ho1 hd hm hro q hq
  ·intro k o e1 v1 n1 b1 ha ho hs hv1 hb1
   exact hR.row k o e1 v1 n1 b1 ha (hvs k o v1 n1 ho hv1).2.2 hs hv1 hb1
 refine ⟨m',hrel,?_,?_⟩
 ·intro k ha hk
  have hk':st.next+1<=k:=hk
  obtain ⟨f1,f2⟩:=hF k ha (by omega)
  exact ⟨f1,by rw [hd2 k (by omega)];exact f2⟩
 ·refine ⟨hat.tm.size,fun k y hy=>?_,Ze4 hle hat.tm.defers⟩
  have hy:(T.set 24 x.tm t (some (AV.dat st.next))).get k=some y:=hy
  rw [T.get_set _ _ _ _ _ (show t+1 < 2 ^ 24 from ht)] at hy
  by_cases hk:k=t
  ·rw [if_pos hk] at hy
   cases hy
   refine ⟨u,?_,by rw [hk];exact hut⟩
   simp only [AV.den,hd1,Option.bind_some,hone,cond_true]
  ·rw [if_neg hk] at hy
   obtain ⟨v1,hv1,hg1⟩:=hat.tm.get k y hy
   exact ⟨v1,AV.den_mono hle y hv1,hg1⟩
def Zki:List Nat->AAct->St->Option (AAct × St × List Fact)
 | [],x,st=>some (x,st,[])
 | t :: ts,x,st=>(Zmr t x st).bind fun (x1,st1,f1)=>(Zki ts x1 st1).map fun (x2,st2,f2)=>(x2,st2,f1++f2)
theorem freezes_ok {B:Base}:∀ (ts:List Nat) {m:Map} {x x':AAct} {st st':St} {a:Act} {w:World} {fs:List Fact},At B m x st a w->Zki ts x st=some (x',st',fs)->(∀ f ∈ fs,f.holds B)->∃ m',At B m' x' st' a w
 | [],m,x,x',st,st',a,w,fs,hat,h,hf=>by
  simp only [Zki,Option.some.injEq,Prod.mk.injEq] at h
  obtain ⟨rfl,rfl,rfl⟩:=h
  exact ⟨m,hat⟩
 | t :: ts,m,x,x',st,st',a,w,fs,hat,h,hf=>by
  simp only [Zki,Option.bind_eq_some_iff,Option.map_eq_some_iff] at h
  obtain ⟨⟨x1,st1,f1⟩,h1,⟨x2,st2,f2⟩,h2,h3⟩:=h
  cases h3
  obtain ⟨m1,g1⟩:=freeze_ok hat h1 fun f hf'=>hf f (by simp [hf'])
  exact freezes_ok ts g1 h2 fun f hf'=>hf f (by simp [hf'])
def segZ (P:Program) (O:Orc) (n:Nat) (cs:List Code) (sh:Shape) (path:List Nat) (ts:List Nat) (sh':Shape) (rho:List (Nat × Nat)) (H:FuncId->Oper->Option Hint:=fun _ _=>none):Option (List Fact × List SX) :=
 (canon sh path).bind fun (x,st)=>(Zl2 (Zp1 P O n H) cs x st).bind fun (e,x',st',lg)=>(Zki ts x' st').bind fun (x2,st2,f2)=>(Zlz sh' rho x2 st2).bind fun (es,fs)=>match e with | .normal=>cond (canon sh' []).isSome (some (lg.V++f2++fs,es)) none | _=>none
theorem seg_okZ (hN:GoodP Try.prog) (hM:Try.prog.follows .mixedOrders=true) {O:Orc} (hO:OrcOk Try.prog O) {n:Nat} {l l2:List Code} {sh sh':Shape} {path ts:List Nat} {rho:List (Nat × Nat)} {H:FuncId->Oper->Option Hint} {fs:List Fact} {es:List SX}
  (hrun:segZ Try.prog O n l sh path ts sh' rho H=some (fs,es)) {C:Base} {ps:List PV} {a:Act} {w:World} (h:Zag C sh ps a w) (hf:∀ x ∈ fs,x.holds (C.with ps)) {Q:Exit->Act->World->Prop}
  (hQ:∀ qs a' w',evs (fun i=>ps[i]?) C.F es=some qs->Zag C sh' qs a' w'->wpL Try.prog l2 Q a' w'):wpL Try.prog (l++l2) Q a w:=by
 simp only [segZ,Option.bind_eq_some_iff] at hrun
 obtain ⟨⟨x,st⟩,hcan,⟨e',x',st',lg⟩,hcode,⟨x2,st2,f2⟩,hfr,⟨es',fs'⟩,hrd,hrun⟩:=hrun
 split at hrun
 rotate_left
 ·cases hrun
 rename_i he
 cases hc:(canon sh' []).isSome with
 | false=>simp [hc] at hrun
 | true =>
  simp only [hc,cond_true,Option.some.injEq,Prod.mk.injEq] at hrun
  obtain ⟨rfl,rfl⟩:=hrun
  obtain ⟨x0,st0,m,h0,hl,hat⟩:=h
  obtain ⟨st1,h1,rfl⟩:=canon_path hcan
  rw [h0] at h1
  cases h1
  refine Zkj (W0:=C.with ps) (Zj5 hN hM hO n) l l2 x _ _ _ _ _ hcode (fun _=>True) m a w ⟨fun _ _=>trivial,fun f hf'=>hf f (by simp [hf'])⟩ hat.rel hat.fresh hat.tm Q ?_
  intro m' a' w' hok hT'
  obtain ⟨m2,hat2⟩:=freezes_ok ts ⟨hok.rel,hok.fresh,hT'⟩ hfr fun f hf'=>hf f (by simp [hf'])
  obtain ⟨qs,q1,q2⟩:=reabs (B:=C.with ps) hat2 hrd (fun f hf'=>hf f (by simp [hf'])) hc
  exact ⟨fun _=>hQ qs a' w' q1 q2,fun h=>absurd (by first | rfl | assumption) h⟩
end Go.Proofs.Ytcaclmdkhffegaa.eng
end
section
/- The engine: closed runs over what is told: what is told of rows that are written down is written down; what such a run takes for granted is reckoned. -/
namespace Go.Proofs.Ytcaclmdkhffegaa.eng
open Go Go.RowKit
variable {W0 : Base}
set_option linter.unusedVariables false
set_option linter.unusedSimpArgs false

def natPV:Option PV->Option Nat | some (.v (.int .i64 (.ofNat z)))=>some z | _=>none
theorem Zdl {e:SX} {z:Nat} {B:Base} (h:natPV (ev0 e)=some z):B.ev e=some (.v (.int .i64 (z:Int))):=by
 unfold natPV at h
 split at h
 ·rename_i y hy
  cases h
  exact Za3 e hy
 ·cases h
def Fact.chk:Fact->Bool
 | .ok e=>match ev0 e with | some (.v x)=>x.oneCell' | _=>false
 | .is e (.bool b)=>match ev0 e with | some (.v (.bool c))=>b == c | _=>false
 | .is e (.int .i64 n)=>match ev0 e with | some (.v (.int .i64 m))=>decide (m=n) | _=>false
 | .at e n=>match ev0 e with | some (.v (.int _ z))=>decide (z=(n:Int)) | _=>false
 | .idx e i sz q=>match ev0 e,ev0 i with | some (.row n cs),some (.v (.int _ z))=>decide (0<=z) && decide (z < (n:Int)) && Nat.ble (z.toNat * sz+q) cs.length | _,_=>false
 | .sub e lo hi sz=>(ev0 (.sub e lo hi sz)).isSome
 | .rng i n=>match ev0 i,ev0 n with | some (.v (.int _ z)),some (.v (.int .i64 m))=>decide (0<=z) && decide (z < m) | _,_=>false
 | .upto n K=>match natPV (ev0 n) with | some z=>Nat.ble z K | none=>false
 | .le3 lo hi n=>match natPV (ev0 lo),natPV (ev0 hi),natPV (ev0 n) with | some a,some b,some c=>Nat.ble a b && Nat.ble b c | _,_,_=>false
 | .cut lo len n=>match natPV (ev0 lo),natPV (ev0 len),natPV (ev0 n) with | some a,some b,some c=>Nat.ble (a+b) c | _,_,_=>false
 | .same x y=>match natPV (ev0 x),natPV (ev0 y) with | some a,some b=>Nat.beq a b | _,_=>false
 | .cells e sz=>match ev0 e with
  | some (.row n cs)=>(match Zcc cs with | some vs=>Nat.beq vs.length (n * sz) && Nat.ble n 4294967296 && vs.all Value.oneCell' | none=>false)
  | _=>false
 | _=>false
theorem chk_ok {B:Base}:∀ (f:Fact),f.chk=true->f.holds B:=by
 intro f h
 unfold Fact.chk at h
 split at h
 ·rename_i e
  split at h
  ·rename_i x hx;exact ⟨x,Za3 e hx,h⟩
  ·cases h
 ·rename_i e b
  split at h
  ·rename_i c hc
   have:b=c:=by simpa using h
   subst this
   exact Za3 e hc
  ·cases h
 ·rename_i e n
  split at h
  ·rename_i m hm
   have:m=n:=by simpa using h
   subst this
   exact Za3 e hm
  ·cases h
 ·rename_i e n
  split at h
  ·rename_i k z hz
   have:z=(n:Int):=by simpa using h
   subst this
   exact ⟨k,Za3 e hz⟩
  ·cases h
 ·rename_i e i sz q
  split at h
  ·rename_i n cs k z hn hz
   simp only [Bool.and_eq_true,decide_eq_true_eq,Nat.ble_eq] at h
   exact ⟨n,cs,k,z,Za3 e hn,Za3 i hz,h.1.1,h.1.2,h.2⟩
  ·cases h
 ·rename_i e lo hi sz
  obtain ⟨p,hp⟩:=Option.isSome_iff_exists.1 h
  exact ⟨p,Za3 _ hp⟩
 ·rename_i i n
  split at h
  ·rename_i k z m hz hm
   simp only [Bool.and_eq_true,decide_eq_true_eq] at h
   exact ⟨k,z,m,Za3 i hz,Za3 n hm,h.1,h.2⟩
  ·cases h
 ·rename_i n K
  split at h
  ·rename_i z hz;exact ⟨z,Zdl hz,by simpa using h⟩
  ·cases h
 ·rename_i lo hi n
  split at h
  ·rename_i a b c ha hb hc
   simp only [Bool.and_eq_true,Nat.ble_eq] at h
   exact ⟨a,b,c,Zdl ha,Zdl hb,Zdl hc,h.1,h.2⟩
  ·cases h
 ·rename_i lo len n
  split at h
  ·rename_i a b c ha hb hc
   exact ⟨a,b,c,Zdl ha,Zdl hb,Zdl hc,by simpa using h⟩
  ·cases h
 ·rename_i x y
  split at h
  ·rename_i a b ha hb
   have:=Nat.eq_of_beq_eq_true h
   subst this
   exact ⟨a,Zdl ha,Zdl hb⟩
  ·cases h
 ·rename_i e sz
  split at h
  ·rename_i n cs he
   split at h
   ·rename_i vs hvs
    simp only [Bool.and_eq_true,Nat.beq_eq,Nat.ble_eq,List.all_eq_true] at h
    refine ⟨n,vs,by rw [<- Zgf hvs];exact Za3 e he,h.1.1,?_,h.2⟩
    have:maxLen=9223372036854775807:=by unfold maxLen;simp [IntKind.max]
    omega
   ·cases h
  ·cases h
 ·cases h

def normX (e:SX):SX:=match ev0 e with
 | some (.v v)=>.con v
 | some (.row n cs)=>match Zcc cs with | some vs=>.lit n (vs.map .con) | none=>e
 | none=>e
theorem evs0_con:∀ (vs:List Value),evs0 (vs.map SX.con)=some (vs.map PV.v)
 | []=>rfl
 | v :: vs=>by simp [evs0,ev0,evs0_con vs]
theorem normX_ok (e:SX):ev0 (normX e)=ev0 e:=by
 unfold normX
 split
 ·rename_i v h;rw [h];rfl
 ·rename_i n cs h
  split
  ·rename_i vs hvs
   rw [h,Zgf hvs]
   simp [ev0,evs0_con]
  ·rfl
 ·rfl
theorem norms_ok:∀ (es:List SX),evs0 (es.map normX)=evs0 es
 | []=>rfl
 | e :: es=>by simp [evs0,normX_ok e,norms_ok es]
def Zkm (f:FuncId) (E:FnE) (lit:List SX->Option (List SX)) (args:List AV) (st:St):Option (ARet × St × Log):=(Za9 E.ins args).bind fun ls=>(Zfx st ls E.leaks).bind fun (es,lA)=>(lit (es.map normX)).bind fun rs=>(outD (fun i=>rs.getD i c0) E.kinds 0 st.next (st.next+(Zaq E.kinds 0).length) st.path).bind fun (cs,fs,p',os) =>
 cond (Nat.blt (st.next+(Zaq E.kinds 0).length+os.length) 16777215 && Nat.beq E.kinds.length (shLen E.outs))
  (some (.ret (Zha E.outs (cs.map fold1)),resSt st (fun i=>rs.getD i c0) E.kinds p' os,⟨lA.A ||| Zce st E.kinds os,Zce st E.kinds os,lA.V++fs⟩)) none
def LitOk (f:FuncId) (E:FnE) (lit:List SX->Option (List SX)):Prop :=
 ∃ spec,ToldF f E spec/\∀ es rs,lit es=some rs->∃ ps qs,evs0 es=some ps/\spec ps=some qs/\evs0 rs=some qs
theorem evs0_get:∀ {rs:List SX} {qs:List PV},evs0 rs=some qs->∀ i q,qs[i]?=some q->ev0 (rs.getD i c0)=some q
 | [],qs,h,i,q,hq=>by simp [evs0] at h;subst h;simp at hq
 | r :: rs,qs,h,i,q,hq=>by
  simp only [evs0,Option.bind_eq_some_iff,Option.map_eq_some_iff] at h
  obtain ⟨p,h1,ps,h2,rfl⟩:=h
  cases i with
  | zero=>simp at hq;subst hq;simpa using h1
  | succ i=>simpa using evs0_get h2 i q (by simpa using hq)
theorem callLit_ok {f:FuncId} {E:FnE} {lit:List SX->Option (List SX)} (hlit:LitOk f E lit) {args:List AV} {st st':St} {r:ARet} {lg:Log} (hr:Zkm f E lit args st=some (r,st',lg)) (W0:Base) (A:Nat->Prop) (m:Map) (w:World) (vs:List Value) (hA:lg.Fits W0 A) (hR:Rel W0 A m st.heap.get w) (hF:Fresh A m st.next) (hvs:denL m args=some vs) :
  Calls Try.prog f vs.toArray w (CPost W0 A m st w r st' lg):=by
 simp only [Zkm,Option.bind_eq_some_iff] at hr
 obtain ⟨ls,hls,⟨es,lA⟩,hes,rs,hrs,⟨cs,fs,p',os⟩,hout,hr⟩:=hr
 obtain ⟨spec,htold,hl⟩:=hlit
 obtain ⟨ps',qs,hps',hqs,hrq⟩:=hl _ rs hrs
 rw [norms_ok] at hps'
 cases hc:(Nat.blt (st.next+(Zaq E.kinds 0).length+os.length) 16777215 && Nat.beq E.kinds.length (shLen E.outs)) with
 | false=>simp [hc] at hr
 | true =>
  simp only [hc,cond_true,Option.some.injEq,Prod.mk.injEq] at hr
  obtain ⟨rfl,rfl,rfl⟩:=hr
  simp only [Bool.and_eq_true,Nat.blt_eq,Nat.beq_eq] at hc
  have hlA:lA.Fits W0 A:=⟨fun r hr=>hA.1 r (Zaz hr),fun f hf=>hA.2 f (by simp [hf])⟩
  obtain ⟨us,hus,hul,rfl⟩:=Zb9 E.ins args hls hvs
  obtain ⟨ps,hps,hpl,hrd⟩:=Zdq hR hes hlA hus
  rw [Zhw es hps'] at hps
  cases hps
  refine (htold w (May W0 A m st w) us ps' qs hqs hpl.symm (by omega) (fun k hk=>hk.1) hrd).mono ?_
  rintro e w' ⟨us',ow,h1,h2,how,h3,rfl,hex⟩
  obtain ⟨m',S,F',hden⟩:=results hR hF hex (g:=fun i=>rs.getD i c0) (by omega) (by omega) (fun i q hq=>Za3 _ (evs0_get hrq i q hq)) how h3 hout (fun f hf=>hA.2 f (by simp [hf])) hc.1 (fun r hr=>hA.1 r (Zay hr))
  exact ⟨m',⟨S,F'⟩,_,Ze6 (Zms S.rel.sv hden) (by omega),rfl⟩
theorem callLit_gk {f:FuncId} {E:FnE} {lit:List SX->Option (List SX)} {args:List AV} {st st':St} {r:ARet} {lg:Log} (hr:Zkm f E lit args st=some (r,st',lg)):Gk st st' lg:=by
 simp only [Zkm,Option.bind_eq_some_iff] at hr
 obtain ⟨ls,hls,⟨es,lA⟩,hes,rs,hrs,⟨cs,fs,p',os⟩,hout,hr⟩:=hr
 cases hc:(Nat.blt (st.next+(Zaq E.kinds 0).length+os.length) 16777215 && Nat.beq E.kinds.length (shLen E.outs)) with
 | false=>simp [hc] at hr
 | true =>
  simp only [hc,cond_true,Option.some.injEq,Prod.mk.injEq] at hr
  obtain ⟨rfl,rfl,rfl⟩:=hr
  simp only [Bool.and_eq_true,Nat.blt_eq,Nat.beq_eq] at hc
  exact Zge hc.1 (fun r hr=>hr)
def Znh (tab:FuncId->Option (FnE × (List SX->Option (List SX)))):Orc:=fun f args st=>(tab f).bind fun (E,lit)=>Zkm f E lit args st
theorem orcLit_ok (tab:FuncId->Option (FnE × (List SX->Option (List SX)))) (h:∀ f E lit,tab f=some (E,lit)->LitOk f E lit):OrcOk Try.prog (Znh tab):=by
 refine ⟨?_,?_⟩
 ·intro f args st r st' lg hr W0 A m w vs hA hR hF hvs
  simp only [Znh,Option.bind_eq_some_iff] at hr
  obtain ⟨⟨E,lit⟩,hE,hr⟩:=hr
  exact callLit_ok (h f E lit hE) hr W0 A m w vs hA hR hF hvs
 ·intro f args st r st' lg hr
  simp only [Znh,Option.bind_eq_some_iff] at hr
  obtain ⟨⟨E,lit⟩,hE,hr⟩:=hr
  exact callLit_gk hr
def Zmm (x:Option (List Fact × List SX)):Bool:=match x with
 | some (fs,[e])=>fs.all Fact.chk && (match ev0 e with | some (.v (.bool true))=>true | _=>false)
 | _=>false
def hStop (_:FuncId) (_:Oper):Option Hint:=some .stop
theorem lit_true {x:Option (List Fact × List SX)} (h:Zmm x=true):∃ fs e,x=some (fs,[e])/\(∀ f ∈ fs,f.chk=true)/\ev0 e=some (.v (.bool true)):=by
 unfold Zmm at h
 split at h
 ·rename_i fs e
  simp only [Bool.and_eq_true,List.all_eq_true] at h
  refine ⟨fs,e,rfl,h.1,?_⟩
  obtain ⟨_,h⟩:=h
  split at h
  ·rename_i h1;exact h1
  ·cases h
 ·cases h
theorem told_lit (hM:Try.prog.follows .mixedOrders=true) (hN:GoodP Try.prog) {f:FuncId} {E:FnE} {O:Orc} {n:Nat} {path:List Nat} {H:FuncId->Oper->Option Hint} (hO:OrcOk Try.prog O) {spec:List PV->Option (List PV)} (hspec:∀ ps qs,spec ps=some qs->ps=[]/\qs=[.v (.bool true)]) (hrun:Zmm (runTo Try.prog O n f E [] path H)=true) (hpl0:E.kinds.all CK.plain=true:=by rfl):ToldF f E spec:=by
 refine Zbr hM hN (fun _ _=>none) [] (fun ps qs h _=>?_) hpl0
 obtain ⟨rfl,rfl⟩:=hspec ps qs h
 obtain ⟨fs,e,h1,h2,h3⟩:=lit_true hrun
 exact ⟨O,n,path,H,fs,[e],hO,h1,fun w FP x hx=>chk_ok x (h2 x hx),by simp [evs,Za3 e h3]⟩
end Go.Proofs.Ytcaclmdkhffegaa.eng
end
