/- Texts joined: Eng26, Eng27, Eng28, Eng29. -/
import Derived.Test.YtcaclmdkhffegaaMrg3
section
/- The engine: functions that may panic, by contract. -/
namespace Go.Proofs.Ytcaclmdkhffegaa.eng
open Go Go.RowKit
variable {W0 : Base}
set_option linter.unusedVariables false
set_option linter.unusedSimpArgs false

def callX (f:FuncId) (E:FnE) (pans:List Value) (args:List AV) (st:St):Option (ARet × St × Log):=(Za0 E.ins args).bind fun ls=>(Zei st ls E.leaks).bind fun (es,lA)=>match st.path with
 | 0 :: p=>(outD (fun j=>.fn E.k es (j+1)) E.kinds 0 st.next (st.next+(Zaf E.kinds 0).length) p).bind fun (cs,fs,p',os) =>
  cond (Nat.blt (st.next+(Zaf E.kinds 0).length+os.length) 16777215 && Nat.beq E.kinds.length (shLen E.outs))
   (some (.ret (Zfn E.outs cs),resSt { st with path:=p } (fun j=>.fn E.k es (j+1)) E.kinds p' os,⟨lA.A ||| Zbt st E.kinds os,Zbt st E.kinds os,.fx f E pans es :: .is (.fn E.k es 0) (.int .i64 0) :: (lA.V++fs)⟩)) none
 | (j+1) :: p=>cond (Nat.blt st.next 16777215) ((pans[j]?).map fun v=>(.pan v,{ st with path:=p },⟨lA.A,0,.fx f E pans es :: .is (.fn E.k es 0) (.int .i64 ((j+1:Nat):Int)) :: lA.V⟩)) none
 | []=>none
def orcX (tab:FuncId->Option (FnE × List Value)):Orc:=fun f args st=>(tab f).bind fun E=>callX f E.1 E.2 args st
theorem callX_ok {f:FuncId} {E:FnE} {pans:List Value} {args:List AV} {st st':St} {r:ARet} {lg:Log} (hr:callX f E pans args st=some (r,st',lg)) (W0:Base) (A:Nat->Prop) (m:Map) (w:World) (vs:List Value) (hA:lg.Fits W0 A) (hR:Rel W0 A m st.heap.get w) (hF:Fresh A m st.next) (hvs:denL m args=some vs) :
  Calls Try.prog f vs.toArray w (CPost W0 A m st w r st' lg):=by
 simp only [callX,Option.bind_eq_some_iff] at hr
 obtain ⟨ls,hls,⟨es,lA⟩,hes,hr⟩:=hr
 split at hr
 ·rename_i p hpath
  simp only [Option.bind_eq_some_iff] at hr
  obtain ⟨⟨cs,fs,p',os⟩,hout,hr⟩:=hr
  cases hc:(Nat.blt (st.next+(Zaf E.kinds 0).length+os.length) 16777215 && Nat.beq E.kinds.length (shLen E.outs)) with
  | false=>simp [hc] at hr
  | true =>
   simp only [hc,cond_true,Option.some.injEq,Prod.mk.injEq] at hr
   obtain ⟨rfl,rfl,rfl⟩:=hr
   simp only [Bool.and_eq_true,Nat.blt_eq,Nat.beq_eq] at hc
   have hlA:lA.Fits W0 A:=⟨fun r hr=>hA.1 r (Zaj hr),fun f hf=>hA.2 f (by simp [hf])⟩
   obtain ⟨us,hus,hul,rfl⟩:=Zbq E.ins args hls hvs
   obtain ⟨ps,hps,hpl,hrd⟩:=Zcx hR hes hlA hus
   obtain ⟨htold,ps',qs,hps',hqs⟩:=hA.2 (.fx f E pans es) (by simp)
   rw [hps] at hps'
   cases hps'
   have h0:W0.ev (.fn E.k es 0)=some (.v (.int .i64 0)):=hA.2 (.is (.fn E.k es 0) (.int .i64 0)) (by simp)
   have hev:∀ i q,qs[i]?=some q->W0.ev (.fn E.k es i)=some q:=fun i q hq=>by simp [Base.ev,SX.ev,hps,hqs,hq]
   refine (htold w (May W0 A m st w) us ps qs hqs hpl.symm (by omega) (fun k hk=>hk.1) hrd).mono ?_
   rintro e w' (⟨qs',rfl,us',ow,h1,h2,how,h3,rfl,hex⟩ | ⟨j,v,u,rfl,_⟩)
   ·obtain ⟨m',S,F',hden⟩:=results (st:={ st with path:=p }) hR hF hex (g:=fun j=>.fn E.k es (j+1)) (by omega) (by omega) (fun i q hq=>hev (i+1) q (by simpa using hq)) how h3 hout (fun f hf=>hA.2 f (by simp [hf])) hc.1 (fun r hr=>hA.1 r (Zam hr))
    exact ⟨m',⟨S,F'⟩,_,Zdx hden (by omega),rfl⟩
   ·exfalso
    rw [hev 0 _ rfl] at h0
    simp only [Option.some.injEq,PV.v.injEq,Value.int.injEq,true_and] at h0
    all_goals omega
 ·rename_i j p hpath
  simp only [cond_eq_ite,Nat.blt_eq] at hr
  split at hr
  rotate_left
  ·cases hr
  rename_i hsmall
  simp only [Option.map_eq_some_iff,Prod.mk.injEq] at hr
  obtain ⟨v,hv,rfl,rfl,rfl⟩:=hr
  have hlA:lA.Fits W0 A:=⟨fun r hr=>hA.1 r hr,fun f hf=>hA.2 f (by simp [hf])⟩
  obtain ⟨us,hus,hul,rfl⟩:=Zbq E.ins args hls hvs
  obtain ⟨ps,hps,hpl,hrd⟩:=Zcx hR hes hlA hus
  obtain ⟨htold,ps',qs,hps',hqs⟩:=hA.2 (.fx f E pans es) (by simp)
  rw [hps] at hps'
  cases hps'
  have h0:W0.ev (.fn E.k es 0)=some (.v (.int .i64 ((j+1:Nat):Int))):=hA.2 (.is (.fn E.k es 0) (.int .i64 ((j+1:Nat):Int))) (by simp)
  have hev:∀ i q,qs[i]?=some q->W0.ev (.fn E.k es i)=some q:=fun i q hq=>by simp [Base.ev,SX.ev,hps,hqs,hq]
  refine (htold w (May W0 A m st w) us ps qs hqs hpl.symm (by omega) (fun k hk=>hk.1) hrd).mono ?_
  rintro e w' (⟨qs',rfl,_⟩ | ⟨j',v',u',rfl,hv',rfl,hex⟩)
  ·exfalso
   rw [hev 0 _ rfl] at h0
   simp only [Option.some.injEq,PV.v.injEq,Value.int.injEq,true_and] at h0
   all_goals omega
  ·rw [hev 0 _ rfl] at h0
   simp only [Option.some.injEq,PV.v.injEq,Value.int.injEq,true_and] at h0
   obtain rfl:j'=j:=by omega
   rw [hv] at hv'
   cases hv'
   obtain ⟨m',hok,_,_⟩:=Zgv (st:={ st with path:=p }) (lg:=⟨lA.A,0,.fx f E pans es :: .is (.fn E.k es 0) (.int .i64 ((j'+1:Nat):Int)) :: lA.V⟩) hR hF hex [] [] (fun _ _=>False) (by simp [Zat]) rfl (by simpa using hsmall) (fun r h1 h2=>absurd h1 (by simpa using h2)) (fun i e u he=>by simp at he)
   exact ⟨m',⟨hok.step,hok.fresh⟩,u',rfl⟩
 ·cases hr
theorem callX_gk {f:FuncId} {E:FnE} {pans:List Value} {args:List AV} {st st':St} {r:ARet} {lg:Log} (hr:callX f E pans args st=some (r,st',lg)):Gk st st' lg:=by
 simp only [callX,Option.bind_eq_some_iff] at hr
 obtain ⟨ls,hls,⟨es,lA⟩,hes,hr⟩:=hr
 split at hr
 ·rename_i p hpath
  simp only [Option.bind_eq_some_iff] at hr
  obtain ⟨⟨cs,fs,p',os⟩,hout,hr⟩:=hr
  cases hc:(Nat.blt (st.next+(Zaf E.kinds 0).length+os.length) 16777215 && Nat.beq E.kinds.length (shLen E.outs)) with
  | false=>simp [hc] at hr
  | true =>
   simp only [hc,cond_true,Option.some.injEq,Prod.mk.injEq] at hr
   obtain ⟨rfl,rfl,rfl⟩:=hr
   simp only [Bool.and_eq_true,Nat.blt_eq,Nat.beq_eq] at hc
   exact Zew (st:={ st with path:=p }) hc.1 (fun r hr=>hr)
 ·rename_i j p hpath
  simp only [cond_eq_ite,Nat.blt_eq] at hr
  split at hr
  ·simp only [Option.map_eq_some_iff,Prod.mk.injEq] at hr
   obtain ⟨v,hv,rfl,rfl,rfl⟩:=hr
   exact fun r hr=>rfl
  ·cases hr
 ·cases hr
theorem Zi2 (tab:FuncId->Option (FnE × List Value)):OrcOk Try.prog (orcX tab):=by
 refine ⟨?_,?_⟩
 ·intro f args st r st' lg hr W0 A m w vs hA hR hF hvs
  simp only [orcX,Option.bind_eq_some_iff] at hr
  obtain ⟨E,hE,hr⟩:=hr
  exact callX_ok hr W0 A m w vs hA hR hF hvs
 ·intro f args st r st' lg hr
  simp only [orcX,Option.bind_eq_some_iff] at hr
  obtain ⟨E,hE,hr⟩:=hr
  exact callX_gk hr
theorem block_loopX {P:Program} {id:Nat} {b:Code} {k:List Code} {Q:Exit->Act->World->Prop} (I:Nat->Act->World->Prop)
  (h:∀ n a w,I n a w->wpL P (flat b) (fun e a' w'=>(e=.normal/\∃ n',n' < n/\I n' a' w') \/ (e=.exit id/\wpL P k Q a' w') \/ (e=.ret/\Q .ret a' w') \/ (∃ ch,e=.panic ch/\Q (.panic ch) a' w')) a w) {n:Nat} {a:Act} {w:World} (hI:I n a w):wpL P (.block id (.loop b) :: k) Q a w:=by
 refine wp_block (loop_rule I (fun n a w hI=>wp_mono (Zeu (h n a w hI)) ?_) n a w hI)
 rintro e a' w' (⟨rfl,hn⟩ | ⟨rfl,hk⟩ | ⟨rfl,hq⟩ | ⟨ch,rfl,hq⟩)
 ·exact .inl ⟨rfl,hn⟩
 ·refine .inr ⟨by simp,by simp,?_⟩
  simp only [Exit.inBlock,if_true]
  exact hk
 ·exact .inr ⟨by simp,by simp,hq⟩
 ·exact .inr ⟨by simp,by simp,hq⟩
theorem canon_defers {sh:Shape} {path:List Nat} {x:AAct} {st:St} (hc1:canon sh path=some (x,st)):x.defers=[]:=by
 unfold canon at hc1
 simp only [Option.bind_eq_some_iff] at hc1
 obtain ⟨⟨xs,r⟩,_,⟨css,r'⟩,_,hc1⟩:=hc1
 simp only [cond_eq_ite] at hc1
 split at hc1
 ·cases hc1;rfl
 ·cases hc1
theorem told_byXU {f:FuncId} {E:FnE} {pans:List Value} {spec:List PV->Option (List PV)} (F:Fns) (fn:Func) (c:Code) (hfn:Try.prog.funcs[f]?=some fn) (hc:fn.body=some c) (sh0:Shape) (hsh:Zhm E fn f sh0=true)
  (hk:∀ ps qs,spec ps=some qs->∀ i:Nat,sh0.rows[i]?=some none->∃ x,ps[i]?=some (.v x)/\x.oneCell'=true)
  (h:∀ (C:Base) ps qs,C.F=F->spec ps=some qs->∀ a w,Za9 C sh0 ps a w->wpL Try.prog (flat c) (fun e a' w'=>(∃ qs',qs=.v (.int .i64 0) :: qs'/\(e=.normal \/ e=.ret)/\∃ sh' ps' es,Za9 C sh' ps' a' w'/\resTo Try.prog fn sh' E=some es/\evs (fun i=>ps'[i]?) F es=some qs') \/ (∃ (j:Nat) (v u:Value) (sh':Shape) (ps':List PV),qs=[.v (.int .i64 ((j+1:Nat):Int))]/\pans[j]?=some v/\e=.panic [{ v:=pick v u,recovered:=false }]/\Za9 C sh' ps' a' w')) a w) (hpl0:E.kinds.all CK.plain=true:=by rfl):ToldX f E pans spec:=by
 intro w FP us ps qs hsp hul hpl hFP hrd
 unfold Zhm at hsh
 split at hsh
 ·rename_i args st fs hst
  simp only [Bool.and_eq_true,Nat.blt_eq,Nat.beq_eq] at hsh
  obtain ⟨⟨⟨⟨hal,hrl⟩,hcan⟩,hvf⟩,hread⟩:=hsh
  split at hread
  ·rename_i es fs' hre
   simp only [Bool.and_eq_true,Nat.beq_eq] at hread
   obtain ⟨⟨hiv,hel⟩,hvf'⟩:=hread
   have hk':=hk ps qs hsp
   obtain ⟨m,hR,hF,hargs,hv0,_⟩:=Zhl (F:=F) hst hul hpl hFP hrd (Zc2 (B:=⟨w,fun i=>ps[i]?,F,FP,fun _=>False⟩) hk' fs hvf)
   have hT:=Zg8 (f:=f) (fn:=fn) hargs hal
   obtain ⟨qs',q1,q2⟩:=reabs (B:=⟨w,fun i=>ps[i]?,F,FP,fun _=>False⟩) ⟨hR,hF,hT⟩ hre (Zc2 (B:=⟨w,fun i=>ps[i]?,F,FP,fun _=>False⟩) hk' fs' hvf') hcan
   have:=Zht (s:=fun i=>ps[i]?) (F:=F) (ps:=ps) es 0 hiv (by omega) (fun j p hp=>hp)
   rw [List.drop_zero] at this
   simp only at q1
   rw [this] at q1
   cases q1
   refine calls_of_wp_defers hfn hc (wp_mono (Zeu (h _ ps qs rfl hsp _ w q2)) ?_)
   rintro e a' w' hcase
   have nodef:∀ {sh':Shape} {x:AAct} {st1:St} {m1:Map} {ps':List PV},canon sh' []=some (x,st1)->At ((⟨w,fun i=>ps[i]?,F,FP,fun _=>False⟩:Base).with ps') m1 x st1 a' w'->a'.defers=[]:=fun hc1 hat=>by
    have:=hat.tm.defers
    have hx:=canon_defers hc1
    rw [hx] at this
    simpa [denD] using this.symm
   rcases hcase with ⟨qs',rfl,he,sh',ps',es',⟨x,st1,m1,hc1,hl1,hat⟩,hres,hev⟩ | ⟨j,v,uu,sh',ps',rfl,hv,rfl,x,st1,m1,hc1,hl1,hat⟩
   rotate_left
   ·show Leaves Try.prog fn a'.tmps _ a'.defers (.panicking _) w'
    rw [nodef hc1 hat]
    exact .inr ⟨j,v,uu,rfl,hv,rfl,hat.rel.same.1,hat.rel.same.2.1,hat.rel.same.2.2,hat.rel.size0,fun k hk=>hat.rel.amb k hk (fun h=>h)⟩
   simp only [resTo,hc1,Option.bind_some,Option.bind_eq_some_iff] at hres
   obtain ⟨⟨y,l1⟩,hy,ys,hys,ls,hls,⟨es2,l2⟩,hes2,hres⟩:=hres
   cases hv:(l1.V.isEmpty && l2.V.isEmpty) with
   | false=>simp [hv] at hres
   | true =>
    simp only [hv,cond_true,Option.some.injEq] at hres
    subst hres
    simp only [Bool.and_eq_true,List.isEmpty_iff] at hv
    obtain ⟨v,hvv,hrun⟩:=Zd6 hy ⟨fun _ _=>trivial,fun f hf=>by rw [hv.1] at hf;cases hf⟩ hat.rel hat.tm
    obtain ⟨us',h1,h2,rfl⟩:=Zix hys hvv hls
    obtain ⟨qs2,h3,h4,h5⟩:=Zed hat.rel hes2 ⟨fun _ _=>trivial,fun f hf=>by rw [hv.2] at hf;cases hf⟩ h1
    have h3':evs (fun i=>ps'[i]?) F es2=some qs2:=h3
    rw [hev] at h3'
    cases h3'
    have hdef:a'.defers=[]:=nodef hc1 hat
    have fin:Leaves Try.prog fn a'.tmps (fun e w''=>(∃ qs2,PV.v (.int .i64 0) :: qs'=.v (.int .i64 0) :: qs2/\RetD E FP w qs2 e w'') \/ (∃ (j:Nat) (v u:Value),PV.v (.int .i64 0) :: qs'=[.v (.int .i64 ((j+1:Nat):Int))]/\pans[j]?=some v/\e=.panicked [{ v:=pick v u,recovered:=false }]/\Ex w w'')) a'.defers .returning w':=by
     rw [hdef]
     have hll:=Zab h1
     refine ⟨_,hrun,.inl ⟨qs',rfl,us',fun _=>none,h4.symm,by omega,Zbm hpl0,fun i q u hq hu w2 hw2=>h5 i q u _ hq hu (List.getElem?_eq_getElem (show i < ls.length by have:=(List.getElem?_eq_some_iff.1 hu).1;omega)) w2 (fun k hk _=>hw2 k ?_ (fun _ _ h=>by cases h)),rfl,⟨hat.rel.same.1,hat.rel.same.2.1,hat.rel.same.2.2,hat.rel.size0,fun k hk=>hat.rel.amb k hk (fun h=>h)⟩⟩⟩
     rcases hk.2 with h | h
     ·exact .inl h
     ·exact .inr ⟨h,hk.1⟩
    rcases he with rfl | rfl
    ·exact fin
    ·exact fin
  ·cases hread
 ·cases hsh

theorem told_byX {f:FuncId} {E:FnE} {pans:List Value} {spec:List PV->Option (List PV)} (F:Fns) (fn:Func) (c:Code) (hfn:Try.prog.funcs[f]?=some fn) (hc:fn.body=some c) (sh0:Shape) (hsh:Zhm E fn f sh0=true)
  (hk:∀ ps qs,spec ps=some qs->∀ i:Nat,sh0.rows[i]?=some none->∃ x,ps[i]?=some (.v x)/\x.oneCell'=true)
  (h:∀ (C:Base) ps qs,C.F=F->spec ps=some qs->∀ a w,Za9 C sh0 ps a w->wpL Try.prog (flat c) (fun e a' w'=>(∃ qs',qs=.v (.int .i64 0) :: qs'/\(e=.normal \/ e=.ret)/\∃ sh' ps' es,Za9 C sh' ps' a' w'/\resTo Try.prog fn sh' E=some es/\evs (fun i=>ps'[i]?) F es=some qs') \/ (∃ (j:Nat) (v:Value) (sh':Shape) (ps':List PV),qs=[.v (.int .i64 ((j+1:Nat):Int))]/\pans[j]?=some v/\e=.panic [{ v,recovered:=false }]/\Za9 C sh' ps' a' w')) a w) (hpl0:E.kinds.all CK.plain=true:=by rfl):ToldX f E pans spec :=
 told_byXU F fn c hfn hc sh0 hsh hk (fun C ps qs hF hs a w hin=>wpL_mono _ (fun e a' w' he=>by
  rcases he with he | ⟨j,v,sh',ps',g1,g2,g3,g4⟩
  ·exact .inl he
  ·exact .inr ⟨j,v,v,sh',ps',g1,g2,by rw [pick_self];exact g3,g4⟩) (h C ps qs hF hs a w hin)) hpl0

end Go.Proofs.Ytcaclmdkhffegaa.eng
end

section
/- The engine: calls of functions that turn what their first argument points to, and may panic. -/
namespace Go.Proofs.Ytcaclmdkhffegaa.eng
open Go Go.RowKit
variable {W0 : Base}
set_option linter.unusedVariables false
set_option linter.unusedSimpArgs false

theorem given {st:St} {E:PtrE} {r0 v idx sz sub n:Nat} {rest':List (Nat × Nat)} {o:ARoot} {rest ls:List AV} {es:List SX} {lA:Log} {A:Nat->Prop} {m:Map} {w:World} {vs:List Value} (hR:Rel W0 A m st.heap.get w) (har:A r0) (ho:st.heap.get r0=some o) (hvers:o.vers=(v,n) :: rest')
  (hz:idx * sz+sub=0) (hmp:o.mp=false) (hop:o.opn=false) (hnl:n=o.cells.length) (hnE:n=E.cells) (hel:o.elem=E.elem) (hls:Za0 E.ins rest=some ls) (hes:Zen st (ls++o.cells)=some (es,true,lA)) (hlA:lA.Fits W0 A) (hvs:denL m (.ptr r0 v idx sz sub :: rest)=some vs) :
  ∃ (b:Nat × Nat) (c:Array Value) (fz:Nat × Nat) (us:List Value) (ps:List PV),m r0 v=some b/\vs=.pointer (some ⟨b.1,0,none⟩) :: Za7 E.ins us/\us.length=shLen E.ins/\ps.length=shLen E.ins+E.cells/\c.size=E.cells/\w.heap[b.1]?=some (.cells c E.elem fz)/\(∀ i,i < c.size->¬ (fz.1<=i/\i < fz.2)) ∧
   (∀ k,May W0 A m st w k->k < w.heap.size/\k ≠ b.1)/\evs W0.s W0.F es=some ps/\(∀ (i:Nat) (p:PV) (u:Value),ps[i]?=some p->(us++c.toList)[i]?=some u->∀ w2:World,(∀ k,May W0 A m st w k->w2.heap[k]?=w.heap[k]?)->Reads w2 p u):=by
 simp only [denL,Option.bind_eq_some_iff,Option.map_eq_some_iff] at hvs
 obtain ⟨pv,hpv,rv,hrv,rfl⟩:=hvs
 simp only [AV.den,Option.map_eq_some_iff] at hpv
 obtain ⟨b,hb,rfl⟩:=hpv
 rw [hz]
 obtain ⟨b',hb',hB⟩:=hR.blkC r0 o har ho hmp v n (by rw [hvers];simp)
 rw [hb] at hb';cases hb'
 have hB':=hB
 obtain ⟨c,fz,hcc,hfz,hn1,hn2,hcell,hsize⟩:=hB'
 simp only [hop,cond_false] at hsize
 obtain ⟨l,hd,hll,_,hlc⟩:=hB.cells (P:=(default:Program)) (off:=0) (k:=n) (by omega)
 have hcl:Zax o 0 n=o.cells:=by simp [Zax,hnl]
 rw [hcl] at hd
 have hl:l=c.toList:=by
  apply List.ext_getElem?
  intro i
  by_cases hi:i < l.length
  ·have:=hlc i l[i] (List.getElem?_eq_getElem hi)
   simp only [World.cell?,hcc,Nat.zero_add] at this
   rw [List.getElem?_eq_getElem hi]
   simpa using this.symm
  ·rw [List.getElem?_eq_none (by omega),List.getElem?_eq_none (by simp;omega)]
 subst hl
 obtain ⟨us,hus,hul,rfl⟩:=Zbq E.ins rest hls hrv
 obtain ⟨ps,hps,hpl,hrd⟩:=Zdv hR hes hlA (Zah hus hd)
 have hcl2:c.toList.length=n:=hll
 refine ⟨b,c,fz,us,ps,hb,rfl,hul,by rw [hpl,List.length_append];omega,by omega,by rw [<- hel];exact hcc,hfz,fun k hk=>⟨hk.1,fun he=>?_⟩,hps,fun i p u hp hu w2 hw2=>(hrd i p u hp hu).2 rfl w2 hw2⟩
 obtain ⟨r3,o3,e3,v3,fp3,a3,h3,d3,m3,k3⟩:=hk.2.2
 exact hR.disj r3 o3 e3 v3 fp3 r0 o v n b a3 har h3 d3 m3 ho (by rw [hvers];simp) hb (he ▸ k3)
end Go.Proofs.Ytcaclmdkhffegaa.eng
end

section
/- The engine: a contract out of pieces, of a function that turns what its first argument points to and may panic. -/
namespace Go.Proofs.Ytcaclmdkhffegaa.eng
open Go Go.RowKit
variable {W0 : Base}
set_option linter.unusedVariables false
set_option linter.unusedSimpArgs false

theorem turned {E:PtrE} {outs:Sh} {kinds:List CK} {en:List Value->Ending} {FP:Nat->Prop} {b:Nat} {w w':World} {B:Base} (hBh:B.w=w) (hBf:B.fp=FP) (hBm:B.mine=fun k=>k=b) {m1:Map} {st2:St} (hR:Rel B (fun _=>True) m1 st2.heap.get w') {o:ARoot} (ho:st2.heap.get 0=some o) (hmp:o.mp=false) {v n:Nat} {rest:List (Nat × Nat)} (hvers:o.vers=(v,n) :: rest) (hlent:o.lent=true) (hop:o.opn=false) (hnl:n=o.cells.length) (hnE:n=E.cells) (hel2:o.elem=E.elem)
  {ls:List AV} {es2:List SX} {l2:Log} (hes2:Zhp st2 (ls++o.cells)=some (es2,l2)) (hv2:l2.V=[]) {us':List Value} (h1:denL m1 ls=some us') (h2:us'.length=shLen outs) {qs:List PV} (hev:evs B.s B.F es2=some qs) (hpl:kinds.all CK.plain=true) :
  TurnP E outs kinds en FP b w qs (en us') w':=by
 subst hBh hBf
 obtain ⟨b',hb',hB⟩:=hR.blkC 0 o trivial ho hmp v n (by rw [hvers];simp)
 have hmine:b'.1=b:=by
  have:=(hR.abv 0 o v n b' trivial ho (by rw [hvers];simp) hb').2 hlent
  rw [hBm] at this
  exact this
 obtain ⟨l,hd,hll,_,hlc⟩:=hB.cells (P:=(default:Program)) (off:=0) (k:=n) (by omega)
 have hca:Zax o 0 n=o.cells:=by simp [Zax,hnl]
 rw [hca] at hd
 obtain ⟨c',fz',hcc',hfz',hn1,hn2,_,hsz'⟩:=hB
 simp only [hop,cond_false] at hsz'
 have hlc':l=c'.toList:=by
  apply List.ext_getElem?
  intro i
  by_cases hi:i < l.length
  ·have:=hlc i l[i] (List.getElem?_eq_getElem hi)
   simp only [World.cell?,hcc',Nat.zero_add] at this
   rw [List.getElem?_eq_getElem hi]
   simpa using this.symm
  ·rw [List.getElem?_eq_none (by omega),List.getElem?_eq_none (by simp;omega)]
 subst hlc'
 obtain ⟨qs2,h3,h4,h5⟩:=Zed hR hes2 ⟨fun _ _=>trivial,fun f hf=>by rw [hv2] at hf;cases hf⟩ (Zah h1 hd)
 rw [hev] at h3
 cases h3
 rw [hmine] at hcc'
 have hll2:=Zab (Zah h1 hd)
 refine ⟨us',c',fz',fun _=>none,h2,by omega,by rw [h4,List.length_append,h2];omega,by rw [<- hel2];exact hcc',hfz',Zbm hpl,fun i q u hq hu w2 hw2=>h5 i q u _ hq hu (List.getElem?_eq_getElem (show i < (ls++o.cells).length by have:=(List.getElem?_eq_some_iff.1 hu).1;omega)) w2 (fun k hk _=>hw2 k ?_ (fun _ _ h=>by cases h)),rfl,hR.same.1,hR.same.2.1,hR.same.2.2,hR.size0,fun k hk hkb=>hR.amb k hk (by rw [hBm];exact hkb)⟩
 rcases hk.2 with h | h
 ·exact .inl h
 ·exact .inr ⟨h,hk.1⟩
end Go.Proofs.Ytcaclmdkhffegaa.eng
end

section
/- The engine: pieces of code that may end in a panic whose value is not known. -/
namespace Go.Proofs.Ytcaclmdkhffegaa.eng
open Go Go.RowKit
variable {W0 : Base}
set_option linter.unusedVariables false
set_option linter.unusedSimpArgs false

end Go.Proofs.Ytcaclmdkhffegaa.eng
end
