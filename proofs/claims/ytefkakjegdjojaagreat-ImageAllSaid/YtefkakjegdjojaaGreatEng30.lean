/- The engine: a row of the call's own that is not Zej any more becomes a thing (which may live on). -/
import Derived.Test.YtefkakjegdjojaaGreatMrg3
namespace Go.Proofs.YtefkakjegdjojaaGreat.eng
open Go Go.RowKit
variable {W0 : Base}
set_option linter.unusedVariables false
set_option linter.unusedSimpArgs false

def Zvn (t:Nat) (x:AAct) (st:St):Option (AAct × St × List Fact):=match x.tm.get t with
 | some (.sliceS r v lo len sz)=>(lookS st r v).bind fun (e,el,esz)=>cond (isC0 lo && Nat.beq sz esz && Nat.blt (st.next+1) 16777215 && Nat.blt (t+1) 16777216 && Nat.blt (r+1) 16777216)
   (some ({ x with tm:=T.set 24 x.tm t (some (.dat st.next)) },{ st with heap:=T.set 24 (T.set 24 st.heap r none) st.next (some (Zcu (e,true))),next:=st.next+1 },(wantW e len).V)) none
 | _=>none
theorem freeze_ok {B:Base} {m:Map} {x x':AAct} {st st':St} {a:Act} {w:World} {t:Nat} {fs:List Fact} (hat:At B m x st a w) (h:Zvn t x st=some (x',st',fs)) (hf:∀ f ∈ fs,f.holds B):∃ m',At B m' x' st' a w:=by
 unfold Zvn at h
 split at h
 rotate_left
 ·cases h
 rename_i r v lo len sz hx
 simp only [Option.bind_eq_some_iff] at h
 obtain ⟨⟨e,el,esz⟩,hl,h⟩:=h
 simp only [cond_eq_ite] at h
 split at h
 rotate_left
 ·cases h
 rename_i hc
 simp only [Bool.and_eq_true,Nat.beq_eq,Nat.blt_eq] at hc
 obtain ⟨⟨⟨⟨hc0,hz⟩,hnx⟩,ht⟩,hr⟩:=hc
 subst hz
 cases h
 obtain ⟨o0,ho0,hs0,hv0,hro0,hel0,_⟩:=Zkz hl
 obtain ⟨u,hu,hut⟩:=hat.tm.get t _ hx
 have hwf:(wantW e len).Fits B fun _=>True:=⟨fun _ _=>trivial,hf⟩
 obtain ⟨b,n,cs,h1,h2,h3,h4,h5,h6⟩:=Ztp hat.rel hl hc0 trivial (Ztj hat.rel hl trivial hu hwf) hu
 have hR:=hat.rel
 have hF:=hat.fresh
 let m':Map:=⟨m.f,fun k=>if k=st.next then some (u,fun q=>q=b.1) else m.d k,m.s⟩
 have hle:m.Le m':=⟨fun _ _ _ h=>h,fun k y hy=>by
  show (if k=st.next then _ else _)=_
  by_cases hk:k=st.next
  ·subst hk;rw [(hF st.next trivial (Nat.le_refl _)).2] at hy;cases hy
  ·rw [if_neg hk];exact hy,fun _ _ h=>h⟩
 have hg:∀ k,(T.set 24 (T.set 24 st.heap r none) st.next (some (Zcu (e,true)))).get k=if k=st.next then some (Zcu (e,true)) else if k=r then none else st.heap.get k:=fun k=>by
  rw [T.get_set _ _ _ _ _ (show st.next+1 < 2 ^ 24 by omega),T.get_set _ _ _ _ _ (show r+1 < 2 ^ 24 from hr)]
 have hold:∀ k o,(T.set 24 (T.set 24 st.heap r none) st.next (some (Zcu (e,true)))).get k=some o->(k=st.next/\o=Zcu (e,true)) \/ (k ≠ st.next/\k ≠ r/\st.heap.get k=some o):=fun k o ho=>by
  rw [hg] at ho
  by_cases hk:k=st.next
  ·rw [if_pos hk] at ho;cases ho;exact .inl ⟨hk,rfl⟩
  ·rw [if_neg hk] at ho
   by_cases hk2:k=r
   ·rw [if_pos hk2] at ho;cases ho
   ·rw [if_neg hk2] at ho;exact .inr ⟨hk,hk2,ho⟩
 have hvs:∀ k o v n,(T.set 24 (T.set 24 st.heap r none) st.next (some (Zcu (e,true)))).get k=some o->(v,n) ∈ o.vers->k ≠ st.next/\k ≠ r/\st.heap.get k=some o:=fun k o v n ho hv=>by
  rcases hold k o ho with ⟨_,rfl⟩ | h
  ·simp [Zcu] at hv
  ·exact h
 have hd1:m'.d st.next=some (u,fun q=>q=b.1):=by show (if st.next=st.next then _ else _)=_;rw [if_pos rfl]
 have hd2:∀ k,k ≠ st.next->m'.d k=m.d k:=fun k hk=>by show (if k=st.next then _ else _)=_;rw [if_neg hk]
 have hone:u.oneCell'=true:=by rw [h3];rfl
 have hrel:Rel B (fun _=>True) m' (T.set 24 (T.set 24 st.heap r none) st.next (some (Zcu (e,true)))).get w:=by
  refine ⟨?_,?_,?_,hR.size0,hR.amb,?_,?_,?_,hR.sv,hR.same,?_,?_⟩
  ·intro k o ha ho v' n' hv'
   obtain ⟨_,_,ho'⟩:=hvs k o v' n' ho hv'
   obtain ⟨b',hb',hB⟩:=hR.blk k o ha ho' v' n' hv'
   exact ⟨b',hb',hB.mono hle rfl⟩
  ·intro k k' o o' v1 n1 v2 n2 b1 b2 ha ha' ho ho' hv1 hv2 hb1 hb2 he
   exact hR.inj k k' o o' v1 n1 v2 n2 b1 b2 ha ha' (hvs k o v1 n1 ho hv1).2.2 (hvs k' o' v2 n2 ho' hv2).2.2 hv1 hv2 hb1 hb2 he
  ·intro k o v1 n1 rest ha ho hv1 v2 hlt
   exact hR.top k o v1 n1 rest ha (hvs k o v1 n1 ho (by rw [hv1];simp)).2.2 hv1 v2 hlt
  ·intro k o v1 n1 b1 ha ho hv1 hb1
   exact hR.abv k o v1 n1 b1 ha (hvs k o v1 n1 ho hv1).2.2 hv1 hb1
  ·intro k o e1 ha ho hd
   rcases hold k o ho with ⟨rfl,rfl⟩ | ⟨hk,_,ho'⟩
   ·simp only [Zcu,Option.some.injEq] at hd
    subst hd
    exact ⟨u,_,hd1,hone,fun q hq=>by rw [hq];exact h5,fun w2 hw2=>⟨_,h2,h6 w2 (hw2 b.1 rfl)⟩⟩
   ·obtain ⟨v1,fp,hm,g1,g2,g3⟩:=hR.dat k o e1 ha ho' hd
    exact ⟨v1,fp,by rw [hd2 k hk];exact hm,g1,g2,g3⟩
  ·intro k o e1 v1 fp k' o' u' n' b' ha ha' ho hd hm ho' hu' hb' hfp
   obtain ⟨hk1,hk2,ho2⟩:=hvs k' o' u' n' ho' hu'
   rcases hold k o ho with ⟨rfl,rfl⟩ | ⟨hk,_,ho1⟩
   ·rw [hd1] at hm
    cases hm
    have hfp:b'.1=b.1:=hfp
    exact hk2 (hR.inj k' r o' o0 u' n' v 0 b' b ha' trivial ho2 ho0 hu' (by rw [hv0];exact List.mem_singleton.2 rfl) hb' h1 hfp)
   ·rw [hd2 k hk] at hm
    exact hR.disj k o e1 v1 fp k' o' u' n' b' ha ha' ho1 hd hm ho2 hu' hb' hfp
  ·intro k o e1 v1 fp ha ho hd hm hro q hq
   rcases hold k o ho with ⟨rfl,rfl⟩ | ⟨hk,_,ho1⟩
   ·rw [hd1] at hm
    cases hm
    have hq:q=b.1:=hq
    exact .inr (by rw [hq];exact h4)
   ·rw [hd2 k hk] at hm
    exact hR.fpb k o e1 v1 fp ha ho1 hd hm hro q hq
  ·intro k o e1 v1 n1 b1 ha ho hs hv1 hb1
   exact hR.row k o e1 v1 n1 b1 ha (hvs k o v1 n1 ho hv1).2.2 hs hv1 hb1
 refine ⟨m',hrel,?_,?_⟩
 ·intro k ha hk
  have hk':st.next+1<=k:=hk
  obtain ⟨f1,f2⟩:=hF k ha (by omega)
  exact ⟨f1,by rw [hd2 k (by omega)];exact f2⟩
 ·refine ⟨hat.tm.size,fun k y hy=>?_,Zlx hle hat.tm.defers⟩
  have hy:(T.set 24 x.tm t (some (AV.dat st.next))).get k=some y:=hy
  rw [T.get_set _ _ _ _ _ (show t+1 < 2 ^ 24 from ht)] at hy
  by_cases hk:k=t
  ·rw [if_pos hk] at hy
   cases hy
   refine ⟨u,?_,by rw [hk];exact hut⟩
   simp only [AV.den,hd1,Option.bind_some,hone,cond_true]
  ·rw [if_neg hk] at hy
   obtain ⟨v1,hv1,hg1⟩:=hat.tm.get k y hy
   exact ⟨v1,AV.den_mono hle y hv1,hg1⟩
def Zuc:List Nat->AAct->St->Option (AAct × St × List Fact)
 | [],x,st=>some (x,st,[])
 | t :: ts,x,st=>(Zvn t x st).bind fun (x1,st1,f1)=>(Zuc ts x1 st1).map fun (x2,st2,f2)=>(x2,st2,f1++f2)
theorem freezes_ok {B:Base}:∀ (ts:List Nat) {m:Map} {x x':AAct} {st st':St} {a:Act} {w:World} {fs:List Fact},At B m x st a w->Zuc ts x st=some (x',st',fs)->(∀ f ∈ fs,f.holds B)->∃ m',At B m' x' st' a w
 | [],m,x,x',st,st',a,w,fs,hat,h,hf=>by
  simp only [Zuc,Option.some.injEq,Prod.mk.injEq] at h
  obtain ⟨rfl,rfl,rfl⟩:=h
  exact ⟨m,hat⟩
 | t :: ts,m,x,x',st,st',a,w,fs,hat,h,hf=>by
  simp only [Zuc,Option.bind_eq_some_iff,Option.map_eq_some_iff] at h
  obtain ⟨⟨x1,st1,f1⟩,h1,⟨x2,st2,f2⟩,h2,h3⟩:=h
  cases h3
  obtain ⟨m1,g1⟩:=freeze_ok hat h1 fun f hf'=>hf f (by simp [hf'])
  exact freezes_ok ts g1 h2 fun f hf'=>hf f (by simp [hf'])
def segZ (P:Program) (O:Orc) (n:Nat) (cs:List Code) (sh:Shape) (path:List Nat) (ts:List Nat) (sh':Shape) (rho:List (Nat × Nat)) (H:FuncId->Oper->Option Hint:=fun _ _=>none):Option (List Fact × List SX) :=
 (canon sh path).bind fun (x,st)=>(Zuf (Zvz P O n H) cs x st).bind fun (e,x',st',lg)=>(Zuc ts x' st').bind fun (x2,st2,f2)=>(Zt5 sh' rho x2 st2).bind fun (es,fs)=>match e with | .normal=>cond (canon sh' []).isSome (some (lg.V++f2++fs,es)) none | _=>none
theorem seg_okZ (hN:GoodP Tryz.prog) (hM:Tryz.prog.follows .mixedOrders=true) {O:Orc} (hO:OrcOk Tryz.prog O) {n:Nat} {l l2:List Code} {sh sh':Shape} {path ts:List Nat} {rho:List (Nat × Nat)} {H:FuncId->Oper->Option Hint} {fs:List Fact} {es:List SX}
  (hrun:segZ Tryz.prog O n l sh path ts sh' rho H=some (fs,es)) {C:Base} {ps:List PV} {a:Act} {w:World} (h:Zah C sh ps a w) (hf:∀ x ∈ fs,x.holds (C.with ps)) {Q:Exit->Act->World->Prop}
  (hQ:∀ qs a' w',evs (fun i=>ps[i]?) C.F es=some qs->Zah C sh' qs a' w'->wpL Tryz.prog l2 Q a' w'):wpL Tryz.prog (l++l2) Q a w:=by
 simp only [segZ,Option.bind_eq_some_iff] at hrun
 obtain ⟨⟨x,st⟩,hcan,⟨e',x',st',lg⟩,hcode,⟨x2,st2,f2⟩,hfr,⟨es',fs'⟩,hrd,hrun⟩:=hrun
 split at hrun
 rotate_left
 ·cases hrun
 rename_i he
 cases hc:(canon sh' []).isSome with
 | false=>simp [hc] at hrun
 | true =>
  simp only [hc,cond_true,Option.some.injEq,Prod.mk.injEq] at hrun
  obtain ⟨rfl,rfl⟩:=hrun
  obtain ⟨x0,st0,m,h0,hl,hat⟩:=h
  obtain ⟨st1,h1,rfl⟩:=Zs9 hcan
  rw [h0] at h1
  cases h1
  refine Zr3 (W0:=C.with ps) (Zru hN hM hO n) l l2 x _ _ _ _ _ hcode (fun _=>True) m a w ⟨fun _ _=>trivial,fun f hf'=>hf f (by simp [hf'])⟩ hat.rel hat.fresh hat.tm Q ?_
  intro m' a' w' hok hT'
  obtain ⟨m2,hat2⟩:=freezes_ok ts ⟨hok.rel,hok.fresh,hT'⟩ hfr fun f hf'=>hf f (by simp [hf'])
  obtain ⟨qs,q1,q2⟩:=reabs (B:=C.with ps) hat2 hrd (fun f hf'=>hf f (by simp [hf'])) hc
  exact ⟨fun _=>hQ qs a' w' q1 q2,fun h=>absurd (by first | rfl | assumption) h⟩
end Go.Proofs.YtefkakjegdjojaaGreat.eng
