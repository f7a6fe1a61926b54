/- Texts joined: Eng28, Eng29. -/
import Derived.Test.YtnomiffghidmbaaMrg3
set_option linter.unusedVariables false
set_option linter.unusedSimpArgs false
section
/- The engine: a contract out of pieces, of a function that turns what its first argument points to and may panic. -/
namespace Go.Proofs.Ytnomiffghidmbaa.eng
open Go Go.RowKit
variable {W0 : Base}

def cellsTo (sh:Shape) (E:PtrE):Option (List SX):=(canon sh []).bind fun (x,st)=>(getC st 0).bind fun o=>match o.vers with
 | (v,n) :: _=>(Zge st o.cells).bind fun (es,l2)=>cond (l2.V.isEmpty && o.lent && !o.opn && Nat.beq n o.cells.length && Nat.beq n E.cells && Nat.beq o.elem E.elem) (some es) none
 | []=>none
theorem turned {E:PtrE} {outs:Sh} {kinds:List CK} {en:List Value->Ending} {FP:Nat->Prop} {b:Nat} {w w':World} {B:Base} (hBh:B.w=w) (hBf:B.fp=FP) (hBm:B.mine=fun k=>k=b) {m1:Map} {st2:St} (hR:Rel B (fun _=>True) m1 st2.heap.get w') {o:ARoot} (ho:st2.heap.get 0=some o) (hmp:o.mp=false) {v n:Nat} {rest:List (Nat × Nat)} (hvers:o.vers=(v,n) :: rest) (hlent:o.lent=true) (hop:o.opn=false) (hnl:n=o.cells.length) (hnE:n=E.cells) (hel2:o.elem=E.elem)
  {ls:List AV} {es2:List SX} {l2:Log} (hes2:Zge st2 (ls++o.cells)=some (es2,l2)) (hv2:l2.V=[]) {us':List Value} (h1:denL m1 ls=some us') (h2:us'.length=shLen outs) {qs:List PV} (hev:evs B.s B.F es2=some qs) (hpl:kinds.all CK.plain=true) :
  TurnP E outs kinds en FP b w qs (en us') w':=by
 subst hBh hBf
 obtain ⟨b',hb',hB⟩:=hR.blkC 0 o trivial ho hmp v n (by rw [hvers];simp)
 have hmine:b'.1=b:=by
  have:=(hR.abv 0 o v n b' trivial ho (by rw [hvers];simp) hb').2 hlent
  rw [hBm] at this
  exact this
 obtain ⟨l,hd,hll,_,hlc⟩:=hB.cells (P:=(default:Program)) (off:=0) (k:=n) (by omega)
 have hca:Zbc o 0 n=o.cells:=by simp [Zbc,hnl]
 rw [hca] at hd
 obtain ⟨c',fz',hcc',hfz',hn1,hn2,_,hsz'⟩:=hB
 simp only [hop,cond_false] at hsz'
 have hlc':l=c'.toList:=by
  apply List.ext_getElem?
  intro i
  by_cases hi:i < l.length
  ·have:=hlc i l[i] (List.getElem?_eq_getElem hi)
   simp only [World.cell?,hcc',Nat.zero_add] at this
   rw [List.getElem?_eq_getElem hi]
   simpa using this.symm
  ·rw [List.getElem?_eq_none (by omega),List.getElem?_eq_none (by simp;omega)]
 subst hlc'
 obtain ⟨qs2,h3,h4,h5⟩:=Ze7 hR hes2 ⟨fun _ _=>trivial,fun f hf=>by rw [hv2] at hf;cases hf⟩ (Zap h1 hd)
 rw [hev] at h3
 cases h3
 rw [hmine] at hcc'
 have hll2:=Zaj (Zap h1 hd)
 refine ⟨us',c',fz',fun _=>none,h2,by omega,by rw [h4,List.length_append,h2];omega,by rw [<- hel2];exact hcc',hfz',Zfz hpl,fun i q u hq hu w2 hw2=>h5 i q u _ hq hu (List.getElem?_eq_getElem (show i < (ls++o.cells).length by have:=(List.getElem?_eq_some_iff.1 hu).1;omega)) w2 (fun k hk _=>hw2 k ?_ (fun _ _ h=>by cases h)),rfl,hR.same.1,hR.same.2.1,hR.same.2.2,hR.size0,fun k hk hkb=>hR.amb k hk (by rw [hBm];exact hkb)⟩
 rcases hk.2 with h | h
 ·exact .inl h
 ·exact .inr ⟨h,hk.1⟩
theorem Zfm {f:FuncId} {E:PtrE} {pans:List Value} {spec:List PV->Option (List PV)} (F:Fns) (fn:Func) (c:Code) (hfn:Try.prog.funcs[f]?=some fn) (hc:fn.body=some c) (sh0:Shape) (hsh:Zit E fn f sh0=true)
  (hk:∀ ps qs,spec ps=some qs->∀ i:Nat,sh0.rows[i]?=some none->∃ x,ps[i]?=some (.v x)/\x.oneCell'=true)
  (h:∀ (C:Base) ps qs,C.F=F->spec ps=some qs->∀ a w,Zah C sh0 ps a w->wpL Try.prog (flat c) (fun e a' w'=>(∃ qs',qs=.v (.int .i64 0) :: qs'/\(e=.normal \/ e=.ret)/\∃ sh' ps' es,Zah C sh' ps' a' w'/\Zuk Try.prog fn sh' E=some es/\evs (fun i=>ps'[i]?) F es=some qs') \/ (∃ (j:Nat) (v u:Value) (qs':List PV) (sh':Shape) (ps':List PV) (es:List SX),qs=.v (.int .i64 ((j+1:Nat):Int)) :: qs'/\pans[j]?=some v/\e=.panic [{ v:=pick v u,recovered:=false }]/\Zah C sh' ps' a' w'/\cellsTo sh' E=some es/\evs (fun i=>ps'[i]?) F es=some qs')) a w) (hpl0:E.kinds.all CK.plain=true:=by rfl):ToldQ f E pans spec:=by
 intro w FP b cc fz us ps qs hsp hul hpl hcs hcc hfz hFP hrd
 unfold Zit at hsh
 split at hsh
 ·rename_i args st fs hst
  simp only [Bool.and_eq_true,Nat.blt_eq,Nat.beq_eq] at hsh
  obtain ⟨⟨⟨⟨hal,hrl⟩,hcan⟩,hvf⟩,hread⟩:=hsh
  split at hread
  ·rename_i es fs' hre
   simp only [Bool.and_eq_true,Nat.beq_eq] at hread
   obtain ⟨⟨hiv,hel⟩,hvf'⟩:=hread
   have hk':=hk ps qs hsp
   let B:Base:=⟨w,fun i=>ps[i]?,F,FP,fun k=>k=b⟩
   simp only [Zuv,Option.bind_eq_some_iff] at hst
   obtain ⟨⟨args0,st0,fs0⟩,hst0,hst⟩:=hst
   cases hlen:Nat.beq args0.length (E.ins.length+E.cells) with
   | false=>simp [hlen] at hst
   | true =>
    simp only [hlen,cond_true,Option.map_eq_some_iff,Prod.mk.injEq] at hst
    obtain ⟨st1,hput,rfl,rfl,rfl⟩:=hst
    have hlen:=Nat.eq_of_beq_eq_true hlen
    have hcl:cc.toList.length=E.cells:=by simpa using hcs
    have hall:shLen E.all.ins=shLen E.ins+E.cells:=by simp [PtrE.all,Zh5,Zjk]
    obtain ⟨m,hR,hF,hargs,hv0,hfps⟩:=Zfy (F:=F) (X:=fun k=>k=b) (us:=us++cc.toList) (ps:=ps) hst0 (by simp [hul,hpl,hcl]) (by rw [hall];exact hpl) (fun k hk=>(hFP k hk).1)
     (fun i p u hp hu=>⟨hrd i p u hp hu w (fun _ _=>rfl),fun _ w2 hw2=>hrd i p u hp hu w2 hw2⟩) (Zbg (B:=B) hk' fs0 hvf)
    have hfp:∀ r v fp,m.d r=some (v,fp)->∀ k,fp k->FP k:=fun r v fp hm k hk=>by
     rcases hfps r v fp hm k hk with h | ⟨x,hx,hl⟩
     ·exact h
     ·exfalso
      have hx':x < shLen E.ins+E.cells:=by simp [hul,hcl] at hx;omega
      simp [PtrE.all,List.getD,List.getElem?_replicate,hx'] at hl
    have hasm:Zas E.all.ins (us++cc.toList)=Zas E.ins us++cc.toList:=by
     simp only [PtrE.all]
     rw [Zfa _ _ _ _ hul,<- hcl,Ze0]
    rw [hasm] at hargs
    have hail:=Ze9 E.ins us hul
    have t1:=Zch E.ins.length hargs
    have t2:=Zci E.ins.length hargs
    rw [<- hail,List.take_left' rfl,hail] at t1
    rw [<- hail,List.drop_left' rfl,hail] at t2
    obtain ⟨hpt,hnext⟩:=put_ok hput
    have hblt:b < w.heap.size:=by
     rcases Nat.lt_or_ge b w.heap.size with h | h
     ·exact h
     ·rw [Array.getElem?_eq_none h] at hcc;cases hcc
    have hcells:(args0.drop E.ins.length).length=E.cells:=by simp;omega
    have hle:m.Le (m.new st0.next (b,0)):=⟨fun r v x hx=>by
     show (if r=st0.next/\v=0 then some (b,0) else m r v)=some x
     split
     ·rename_i e
      rw [e.1,(hF st0.next trivial (Nat.le_refl _)).1 v] at hx
      cases hx
     ·exact hx,fun _ _ h=>h,fun _ _ h=>h⟩
    have hup:∀ r o,st1.heap.get r=some o->(r=st0.next/\o=Za4 E (args0.drop E.ins.length)) \/ (r ≠ st0.next/\st0.heap.get r=some o):=fun r o ho=>by
     rw [hpt] at ho
     by_cases hr:r=st0.next
     ·simp [Heap.upd,hr] at ho;exact .inl ⟨hr,ho.symm⟩
     ·simp [Heap.upd,hr] at ho;exact .inr ⟨hr,ho⟩
    have hvr:∀ r o v n,st1.heap.get r=some o->(v,n) ∈ o.vers->r=st0.next/\o=Za4 E (args0.drop E.ins.length)/\v=0/\n=E.cells:=fun r o v n ho hv=>by
     rcases hup r o ho with ⟨h1,h2⟩ | ⟨h1,h2⟩
     ·subst h2
      simp only [Za4,List.mem_singleton,Prod.mk.injEq] at hv
      exact ⟨h1,rfl,hv.1,hv.2⟩
     ·rw [hv0 r o h2] at hv;cases hv
    have hmb:(m.new st0.next (b,0)) st0.next 0=some (b,0):=by simp [Map.new]
    have hR1:Rel B (fun _=>True) (m.new st0.next (b,0)) st1.heap.get w:=by
     refine ⟨?_,?_,?_,Nat.le_refl _,fun _ _ _=>rfl,?_,?_,?_,hR.sv,⟨rfl,rfl,rfl⟩,?_,?_⟩
     ·intro r o _ ho v n hv
      obtain ⟨rfl,rfl,rfl,rfl⟩:=hvr r o v n ho hv
      refine ⟨(b,0),hmb,cc,fz,hcc,hfz,by simp only [Za4];omega,by omega,fun i x hi hx=>?_,by simp only [Za4,cond_false];exact hcs⟩
      obtain ⟨u,hu1,hu2⟩:=Zbf t2 hx
      exact ⟨u,AV.den_mono hle x hu1,by simpa using hu2⟩
     ·intro r r' o o' v n v' n' b1 b1' _ _ ho ho' hv hv' _ _ _
      obtain ⟨rfl,_⟩:=hvr r o v n ho hv
      obtain ⟨rfl,_⟩:=hvr r' o' v' n' ho' hv'
      rfl
     ·intro r o v n rest _ ho hv v' hlt
      obtain ⟨rfl,rfl,rfl,rfl⟩:=hvr r o v n ho (by rw [hv];simp)
      have:¬ v'=0:=by omega
      simp [Map.new,this,(hF st0.next trivial (Nat.le_refl _)).1]
     ·intro r o v n b1 _ ho hv hb
      obtain ⟨rfl,rfl,rfl,rfl⟩:=hvr r o v n ho hv
      rw [hmb] at hb
      cases hb
      exact ⟨fun hl=>(by simp [Za4] at hl),fun _=>rfl⟩
     ·intro r o e _ ho hd
      rcases hup r o ho with ⟨h1,h2⟩ | ⟨h1,h2⟩
      ·subst h2;simp [Za4] at hd
      ·exact hR.dat r o e trivial h2 hd
     ·intro r o e v fp r' o' u n b1 _ _ ho hd hm ho' hu hb hfpb
      obtain ⟨rfl,rfl,rfl,rfl⟩:=hvr r' o' u n ho' hu
      rw [hmb] at hb
      cases hb
      exact (hFP _ (hfp r v fp hm _ hfpb)).2 rfl
     ·intro r o e v fp _ ho hd hm hro k hk
      exact .inl (hfp r v fp hm k hk)
     ·intro r o e v n b1 _ ho hs hv hb
      obtain ⟨rfl,rfl,rfl,rfl⟩:=hvr r o v n ho hv
      simp [Za4] at hs
    have hF1:Fresh (fun _=>True) (m.new st0.next (b,0)) st1.next:=by
     intro r _ hr
     rw [hnext] at hr
     have hr':st0.next+1<=r:=hr
     have:¬ r=st0.next:=by omega
     have h:=hF r trivial (by omega)
     refine ⟨fun v=>?_,h.2⟩
     simp only [Map.new,this,false_and,if_false]
     exact h.1 v
    have hdenargs:denL (m.new st0.next (b,0)) (.ptr st0.next 0 0 0 0 :: args0.take E.ins.length)=some (.pointer (some ⟨b,0,none⟩) :: Zas E.ins us):=by
     simp [denL,AV.den,hmb,Zdi hle _ t1]
    have hT:=Zgd (f:=f) (fn:=fn) hdenargs hal
    have hnx:st1.next - 1=st0.next:=by rw [hnext];simp
    obtain ⟨qs',q1,q2⟩:=reabs (B:=B) ⟨hR1,hF1,hT⟩ hre (Zbg (B:=B) hk' fs' hvf') hcan
    have:=Zf5 (s:=fun i=>ps[i]?) (F:=F) (ps:=ps) es 0 hiv (by omega) (fun j p hp=>hp)
    rw [List.drop_zero] at this
    simp only [B] at q1
    rw [this] at q1
    cases q1
    refine calls_of_wp_defers hfn hc (wp_mono (Zcu (h B ps qs rfl hsp _ w q2)) ?_)
    rintro e a' w' hcase
    have nodef:∀ {sh':Shape} {x:AAct} {st1:St} {m1:Map} {ps':List PV},canon sh' []=some (x,st1)->At (B.with ps') m1 x st1 a' w'->a'.defers=[]:=fun hc1 hat=>by
     have:=hat.tm.defers
     have hx:=canon_defers hc1
     rw [hx] at this
     simpa [denD] using this.symm
    rcases hcase with ⟨qs',rfl,he,sh',ps',es',⟨x,st2,m1,hc1,hl1,hat⟩,hres,hev⟩ | ⟨j,v,uu,qs',sh',ps',es',rfl,hv,rfl,⟨x,st2,m1,hc1,hl1,hat⟩,hres,hev⟩
    ·simp only [Zuk,hc1,Option.bind_some,Option.bind_eq_some_iff] at hres
     obtain ⟨⟨y,l1⟩,hy,ys,hys,ls,hls,o,ho,hres⟩:=hres
     obtain ⟨ho,hmp⟩:=Zhc ho
     split at hres
     ·rename_i v n rest hvers
      simp only [Option.bind_eq_some_iff] at hres
      obtain ⟨⟨es2,l2⟩,hes2,hres⟩:=hres
      cases hv:(l1.V.isEmpty && l2.V.isEmpty && o.lent && !o.opn && Nat.beq n o.cells.length && Nat.beq n E.cells && Nat.beq o.elem E.elem) with
      | false=>simp [hv] at hres
      | true =>
       simp only [hv,cond_true,Option.some.injEq] at hres
       subst hres
       simp only [Bool.and_eq_true,List.isEmpty_iff,Nat.beq_eq,Bool.not_eq_true'] at hv
       obtain ⟨⟨⟨⟨⟨⟨hv1,hv2⟩,hlent⟩,hop⟩,hnl⟩,hnE⟩,hel2⟩:=hv
       obtain ⟨vv,hvv,hrun⟩:=Zct hy ⟨fun _ _=>trivial,fun f hf=>by rw [hv1] at hf;cases hf⟩ hat.rel hat.tm
       obtain ⟨us',h1,h2,rfl⟩:=Zg6 hys hvv hls
       have hT:=turned (E:=E) (outs:=E.outs) (kinds:=E.kinds) (en:=fun us'=>.returned (Zfc E.outs us')) (B:=B.with ps') (b:=b) (FP:=FP) (w:=w) rfl rfl rfl hat.rel ho hmp hvers hlent hop hnl hnE hel2 hes2 hv2 h1 h2 hev hpl0
       have fin:Leaves Try.prog fn a'.tmps (fun e w'=>(∃ qs'',PV.v (.int .i64 0) :: qs'=.v (.int .i64 0) :: qs''/\TurnP E E.outs E.kinds (fun us'=>.returned (Zfc E.outs us')) FP b w qs'' e w') \/ (∃ (j:Nat) (v u:Value) (qs'':List PV),PV.v (.int .i64 0) :: qs'=.v (.int .i64 ((j+1:Nat):Int)) :: qs''/\pans[j]?=some v/\TurnP E [] (E.kinds.drop (shLen E.outs)) (fun _=>.panicked [{ v:=pick v u,recovered:=false }]) FP b w qs'' e w')) a'.defers .returning w':=by
        rw [nodef hc1 hat]
        exact ⟨_,hrun,.inl ⟨qs',rfl,hT⟩⟩
       rcases he with rfl | rfl
       ·exact fin
       ·exact fin
     ·cases hres
    ·simp only [cellsTo,hc1,Option.bind_some,Option.bind_eq_some_iff] at hres
     obtain ⟨o,ho,hres⟩:=hres
     obtain ⟨ho,hmp⟩:=Zhc ho
     split at hres
     ·rename_i v1 n rest hvers
      simp only [Option.bind_eq_some_iff] at hres
      obtain ⟨⟨es2,l2⟩,hes2,hres⟩:=hres
      cases hv':(l2.V.isEmpty && o.lent && !o.opn && Nat.beq n o.cells.length && Nat.beq n E.cells && Nat.beq o.elem E.elem) with
      | false=>simp [hv'] at hres
      | true =>
       simp only [hv',cond_true,Option.some.injEq] at hres
       subst hres
       simp only [Bool.and_eq_true,List.isEmpty_iff,Nat.beq_eq,Bool.not_eq_true'] at hv'
       obtain ⟨⟨⟨⟨⟨hv2,hlent⟩,hop⟩,hnl⟩,hnE⟩,hel2⟩:=hv'
       have hpl1:(E.kinds.drop (shLen E.outs)).all CK.plain=true:=List.all_eq_true.2 fun k hk=>List.all_eq_true.1 hpl0 k (List.mem_of_mem_drop hk)
       have hT:=turned (E:=E) (outs:=[]) (kinds:=E.kinds.drop (shLen E.outs)) (en:=fun _=>.panicked [{ v:=pick v uu,recovered:=false }]) (B:=B.with ps') (b:=b) (FP:=FP) (w:=w) (ls:=[]) (us':=[]) rfl rfl rfl hat.rel ho hmp hvers hlent hop hnl hnE hel2 hes2 hv2 rfl rfl hev hpl1
       show Leaves Try.prog fn a'.tmps _ a'.defers (.panicking _) w'
       rw [nodef hc1 hat]
       exact .inr ⟨j,v,uu,qs',rfl,hv,hT⟩
     ·cases hres
  ·cases hread
 ·cases hsh
end Go.Proofs.Ytnomiffghidmbaa.eng
end

section
/- The engine: pieces of code that may end in a panic whose value is not known. -/
namespace Go.Proofs.Ytnomiffghidmbaa.eng
open Go Go.RowKit
variable {W0 : Base}

def segU (P:Program) (O:Orc) (n:Nat) (cs:List Code) (sh:Shape) (path:List Nat) (sh':Shape) (rho:List (Nat × Nat)) (H:FuncId->Oper->Option Hint:=fun _ _=>none):Option (AX × List Fact × List SX) :=
 (canon sh path).bind fun (x,st)=>(Zpf (Zui P O n H) cs x st).bind fun (e,x',st',lg)=>(Zpc sh' rho x' st').bind fun (es,fs)=>cond (canon sh' []).isSome (some (e,lg.V++fs,es)) none
theorem Zbh (hN:GoodP Try.prog) (hM:Try.prog.follows .mixedOrders=true) {O:Orc} (hO:OrcOk Try.prog O) {n:Nat} {l l2:List Code} {sh sh':Shape} {path:List Nat} {rho:List (Nat × Nat)} {H:FuncId->Oper->Option Hint} {e:AX} {fs:List Fact} {es:List SX}
  (hrun:segU Try.prog O n l sh path sh' rho H=some (e,fs,es)) {C:Base} {ps:List PV} {a:Act} {w:World} (h:Zah C sh ps a w) (hf:∀ x ∈ fs,x.holds (C.with ps)) {Q:Exit->Act->World->Prop}
  (hQ:∀ qs a' w',evs (fun i=>ps[i]?) C.F es=some qs->Zah C sh' qs a' w'->(e=.normal->wpL Try.prog l2 Q a' w')/\(e ≠ .normal->∀ u,Q (e.to u) a' w')):wpL Try.prog (l++l2) Q a w:=by
 simp only [segU,Option.bind_eq_some_iff] at hrun
 obtain ⟨⟨x,st⟩,hcan,⟨e',x',st',lg⟩,hcode,⟨es',fs'⟩,hrd,hrun⟩:=hrun
 cases hc:(canon sh' []).isSome with
 | false=>simp [hc] at hrun
 | true =>
  simp only [hc,cond_true,Option.some.injEq,Prod.mk.injEq] at hrun
  obtain ⟨rfl,rfl,rfl⟩:=hrun
  obtain ⟨x0,st0,m,h0,hl,hat⟩:=h
  obtain ⟨st1,h1,rfl⟩:=canon_path hcan
  rw [h0] at h1
  cases h1
  refine Znw (W0:=C.with ps) (Znl hN hM hO n) l l2 x _ _ _ _ _ hcode (fun _=>True) m a w ⟨fun _ _=>trivial,fun f hf'=>hf f (by simp [hf'])⟩ hat.rel hat.fresh hat.tm Q ?_
  intro m' a' w' hok hT'
  obtain ⟨qs,q1,q2⟩:=reabs (B:=C.with ps) ⟨hok.rel,hok.fresh,hT'⟩ hrd (fun f hf'=>hf f (by simp [hf'])) hc
  exact hQ qs a' w' q1 q2
end Go.Proofs.Ytnomiffghidmbaa.eng
end
