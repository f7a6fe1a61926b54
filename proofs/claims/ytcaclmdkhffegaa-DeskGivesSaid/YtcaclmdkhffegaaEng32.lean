/- The engine: calls of functions that are given a function with what it holds, or a written row of things (callG): what lies there is read, nothing of it is turned. -/
import Derived.Test.YtcaclmdkhffegaaEng31
namespace Go.Proofs.Ytcaclmdkhffegaa.eng
open Go Go.RowKit
variable {W0 : Base}
set_option linter.unusedVariables false
set_option linter.unusedSimpArgs false

def boxA (st:St):List Nat->List AV->Option (List AV × Nat)
 | [],[]=>some ([],0)
 | n :: caps,.ptr r v idx sz sub :: xs=>(look st r v).bind fun (o,k)=>cond (Nat.beq (idx * sz+sub) 0 && Nat.ble n k) ((boxA st caps xs).map fun (cs,mk)=>(Za4 o 0 n++cs,(1 <<< r) ||| mk)) none
 | _,_=>none
def rowA (st:St) (n:Nat):AV->Option (List AV × Nat)
 | .slice r v lo sz len cap opn=>(look st r v).bind fun (o,k)=>cond (Nat.beq sz 1 && Nat.beq len n && Nat.ble (lo+n) k && !opn && Nat.ble n cap && Nat.ble cap 9223372036854775807) (some (Za4 o lo n,1 <<< r)) none
 | _=>none
def fnA (st:St) (g:FuncId) (caps:List Nat):AV->Option (List AV × Nat)
 | .func (.func g') fs cap=>cond (Nat.beq g' g && fs.isEmpty) (boxA st caps cap) none
 | _=>none
def aggA (n:Nat) (x:AV):Option (List AV × Nat):=x.aggs.bind fun cs=>cond (Nat.beq cs.length n) (some (cs,0)) none
def leafG (st:St):GA->AV->Option (List AV × Nat)
 | .one,x=>some ([x],0)
 | .agg n,x=>aggA n x
 | .row n,x=>rowA st n x
 | .fn g caps,x=>fnA st g caps x
def Zg3 (st:St):List GA->List AV->Option (List AV × Nat)
 | [],[]=>some ([],0)
 | a :: G,x :: xs=>(leafG st a x).bind fun (bs,m1)=>(Zg3 st G xs).map fun (cs,mk)=>(bs++cs,m1 ||| mk)
 | _,_=>none
theorem boxA_ok {A:Nat->Prop} {m:Map} {st:St} {w:World} (hR:Rel W0 A m st.heap.get w):∀ (caps:List Nat) (xs:List AV) {cs:List AV} {mk:Nat} {vs:List Value},boxA st caps xs=some (cs,mk)->(∀ r,bit mk r->A r)->denL m xs=some vs →
  ∃ us,denL m cs=some us/\BoxG w caps vs us
 | [],[],cs,mk,vs,h,hA,hv=>by
  simp only [boxA,Option.some.injEq,Prod.mk.injEq] at h
  obtain ⟨rfl,rfl⟩:=h
  simp only [denL,Option.some.injEq] at hv
  subst hv
  exact ⟨[],rfl,rfl,rfl⟩
 | n :: caps,.ptr r v idx sz sub :: xs,cs,mk,vs,h,hA,hv=>by
  simp only [boxA,Option.bind_eq_some_iff] at h
  obtain ⟨⟨o,k⟩,hlk,h⟩:=h
  obtain ⟨ho,hvr⟩:=Zes hlk
  simp only [cond_eq_ite,Bool.and_eq_true,Nat.beq_eq,Nat.ble_eq] at h
  split at h
  rotate_left
  ·cases h
  rename_i hc
  obtain ⟨hz,hnk⟩:=hc
  simp only [Option.map_eq_some_iff,Prod.mk.injEq] at h
  obtain ⟨⟨cs',mk'⟩,hrec,rfl,rfl⟩:=h
  simp only [denL,Option.bind_eq_some_iff,Option.map_eq_some_iff] at hv
  obtain ⟨pv,hpv,vs',hvs,rfl⟩:=hv
  simp only [AV.den,Option.map_eq_some_iff] at hpv
  obtain ⟨b,hb,rfl⟩:=hpv
  rw [hz]
  have har:A r:=hA r (Zaz ((Zat _ _).2 rfl))
  obtain ⟨b',hb',hB⟩:=hR.blkC r o har ho (Zdz hlk) v k hvr
  rw [hb] at hb';cases hb'
  obtain ⟨l,hd,hll,_,hcell⟩:=hB.cells (P:=(default:Program)) (off:=0) (k:=n) (by omega)
  obtain ⟨us,hus,hbx⟩:=boxA_ok hR caps xs hrec (fun r hr=>hA r (Zay hr)) hvs
  refine ⟨l++us,Zap hd hus,b.1,l,_,_,hll,fun i u hu=>by simpa using hcell i u hu,rfl,rfl,hbx⟩
 | [],_ :: _,cs,mk,vs,h,hA,hv=>by simp [boxA] at h
 | _ :: _,[],cs,mk,vs,h,hA,hv=>by simp [boxA] at h
theorem leavesG_ok {A:Nat->Prop} {m:Map} {st:St} {w:World} (hR:Rel W0 A m st.heap.get w):∀ (G:List GA) (xs:List AV) {cs:List AV} {mk:Nat} {vs:List Value},Zg3 st G xs=some (cs,mk)->(∀ r,bit mk r->A r)->denL m xs=some vs →
  ∃ us,denL m cs=some us/\Zl8 w G vs us:=by
 intro G
 induction G with
 | nil =>
  intro xs cs mk vs h hA hv
  cases xs with
  | cons _ _=>simp [Zg3] at h
  | nil =>
   simp only [Zg3,Option.some.injEq,Prod.mk.injEq] at h
   obtain ⟨rfl,rfl⟩:=h
   simp only [denL,Option.some.injEq] at hv
   subst hv
   exact ⟨[],rfl,rfl,rfl⟩
 | cons a G ih =>
  intro xs cs mk vs h hA hv
  cases xs with
  | nil=>simp [Zg3] at h
  | cons x xs =>
   simp only [denL,Option.bind_eq_some_iff,Option.map_eq_some_iff] at hv
   obtain ⟨v,hx,vs',hvs,rfl⟩:=hv
   simp only [Zg3,Option.bind_eq_some_iff,Option.map_eq_some_iff,Prod.mk.injEq] at h
   obtain ⟨⟨bs,m1⟩,hl,⟨cs',mk'⟩,hrec,rfl,rfl⟩:=h
   obtain ⟨us,h1,h2⟩:=ih xs hrec (fun r hr=>hA r (Zay hr)) hvs
   have hA1:∀ r,bit m1 r->A r:=fun r hr=>hA r (Zaz hr)
   cases a with
   | one =>
    simp only [leafG,Option.some.injEq,Prod.mk.injEq] at hl
    obtain ⟨rfl,rfl⟩:=hl
    exact ⟨v :: us,by simp [denL,hx,h1],v,vs',us,rfl,rfl,h2⟩
   | agg n =>
    simp only [leafG,aggA,Option.bind_eq_some_iff,cond_eq_ite,Nat.beq_eq] at hl
    obtain ⟨ds,hds,hl⟩:=hl
    split at hl
    rotate_left
    ·cases hl
    rename_i hn
    cases hl
    obtain ⟨l,rfl,hl⟩:=Zkr hds hx
    exact ⟨l++us,Zap hl h1,l,vs',us,by rw [Zaj hl,hn],rfl,rfl,h2⟩
   | row n =>
    simp only [leafG] at hl
    unfold rowA at hl
    split at hl
    rotate_left
    ·cases hl
    rename_i r v lo sz len cap opn
    simp only [Option.bind_eq_some_iff] at hl
    obtain ⟨⟨o,k⟩,hlk,hl⟩:=hl
    obtain ⟨ho,hvr⟩:=Zes hlk
    simp only [cond_eq_ite,Bool.and_eq_true,Nat.beq_eq,Nat.ble_eq,Bool.not_eq_true'] at hl
    split at hl
    rotate_left
    ·cases hl
    rename_i hc
    obtain ⟨⟨⟨⟨⟨rfl,rfl⟩,hk⟩,rfl⟩,hn⟩,hcap⟩:=hc
    cases hl
    simp only [AV.den,Option.map_eq_some_iff] at hx
    obtain ⟨b,hb,rfl⟩:=hx
    have har:A r:=hA1 r ((Zat _ _).2 rfl)
    obtain ⟨b',hb',hB⟩:=hR.blkC r o har ho (Zdz hlk) v k hvr
    rw [hb] at hb';cases hb'
    obtain ⟨l,hd,hll,_,hcell⟩:=hB.cells (P:=(default:Program)) hk
    refine ⟨l++us,Zap hd h1,b.1,lo,cap,l,vs',us,hll,hn,hcap,fun i u hu=>hcell i u hu,by simp,rfl,h2⟩
   | fn g caps =>
    simp only [leafG] at hl
    unfold fnA at hl
    split at hl
    rotate_left
    ·cases hl
    rename_i g' fs cap
    simp only [cond_eq_ite,Bool.and_eq_true,Nat.beq_eq,List.isEmpty_iff] at hl
    split at hl
    rotate_left
    ·cases hl
    rename_i hc
    obtain ⟨rfl,rfl⟩:=hc
    simp only [AV.den,denL,Option.bind_some,Option.map_eq_some_iff] at hx
    obtain ⟨ads,hads,rfl⟩:=hx
    obtain ⟨cs2,hcs,hbx⟩:=boxA_ok hR caps cap hl hA1 hads
    exact ⟨cs2++us,Zap hcs h1,ads,cs2,vs',us,hbx,rfl,rfl,h2⟩
def callG (f:FuncId) (G:List GA) (E:FnE) (args:List AV) (st:St):Option (ARet × St × Log):=(Zg3 st G args).bind fun (ls,mk)=>(Zfx st ls E.leaks).bind fun (es,lA)=>(outD (.fn E.k es) E.kinds 0 st.next (st.next+(Zaq E.kinds 0).length) st.path).bind fun (cs,fs,p',os) =>
 cond (Nat.blt (st.next+(Zaq E.kinds 0).length+os.length) 16777215 && Nat.beq E.kinds.length (shLen E.outs))
  (some (.ret (Zha E.outs cs),resSt st (.fn E.k es) E.kinds p' os,⟨mk ||| (lA.A ||| Zce st E.kinds os),Zce st E.kinds os,.fg f G E es :: (lA.V++fs)⟩)) none
def orcG (tab:FuncId->List AV->Option (List GA × FnE)):Orc:=fun f args st=>(tab f args).bind fun E=>callG f E.1 E.2 args st
theorem callG_ok {f:FuncId} {G:List GA} {E:FnE} {args:List AV} {st st':St} {r:ARet} {lg:Log} (hr:callG f G E args st=some (r,st',lg)) (W0:Base) (A:Nat->Prop) (m:Map) (w:World) (vs:List Value) (hA:lg.Fits W0 A) (hR:Rel W0 A m st.heap.get w) (hF:Fresh A m st.next) (hvs:denL m args=some vs) :
  Calls Try.prog f vs.toArray w (CPost W0 A m st w r st' lg):=by
 simp only [callG,Option.bind_eq_some_iff] at hr
 obtain ⟨⟨ls,mk⟩,hls,⟨es,lA⟩,hes,⟨cs,fs,p',os⟩,hout,hr⟩:=hr
 cases hc:(Nat.blt (st.next+(Zaq E.kinds 0).length+os.length) 16777215 && Nat.beq E.kinds.length (shLen E.outs)) with
 | false=>simp [hc] at hr
 | true =>
  simp only [hc,cond_true,Option.some.injEq,Prod.mk.injEq] at hr
  obtain ⟨rfl,rfl,rfl⟩:=hr
  simp only [Bool.and_eq_true,Nat.blt_eq,Nat.beq_eq] at hc
  have hlA:lA.Fits W0 A:=⟨fun r hr=>hA.1 r (Zay (Zaz hr)),fun f hf=>hA.2 f (by simp [hf])⟩
  obtain ⟨us,hus,hM⟩:=leavesG_ok hR G args hls (fun r hr=>hA.1 r (Zaz hr)) hvs
  obtain ⟨ps,hps,hpl,hrd⟩:=Zdq hR hes hlA hus
  obtain ⟨htold,ps',qs,hps',hqs⟩:=hA.2 (.fg f G E es) (by simp)
  rw [hps] at hps'
  cases hps'
  refine (htold w (May W0 A m st w) vs us ps qs hqs hM hpl.symm (fun k hk=>hk.1) hrd).mono ?_
  rintro e w' ⟨us',ow,h1,h2,how,h3,rfl,hex⟩
  obtain ⟨m',S,F',hden⟩:=results hR hF hex (g:=.fn E.k es) (by omega) (by omega) (fun i q hq=>by simp [Base.ev,SX.ev,hps,hqs,hq]) how h3 hout (fun f hf=>hA.2 f (by simp [hf])) hc.1 (fun r hr=>hA.1 r (Zay (Zay hr)))
  exact ⟨m',⟨S,F'⟩,_,Ze6 hden (by omega),rfl⟩
theorem callG_gk {f:FuncId} {G:List GA} {E:FnE} {args:List AV} {st st':St} {r:ARet} {lg:Log} (hr:callG f G E args st=some (r,st',lg)):Gk st st' lg:=by
 simp only [callG,Option.bind_eq_some_iff] at hr
 obtain ⟨⟨ls,mk⟩,hls,⟨es,lA⟩,hes,⟨cs,fs,p',os⟩,hout,hr⟩:=hr
 cases hc:(Nat.blt (st.next+(Zaq E.kinds 0).length+os.length) 16777215 && Nat.beq E.kinds.length (shLen E.outs)) with
 | false=>simp [hc] at hr
 | true =>
  simp only [hc,cond_true,Option.some.injEq,Prod.mk.injEq] at hr
  obtain ⟨rfl,rfl,rfl⟩:=hr
  simp only [Bool.and_eq_true,Nat.blt_eq,Nat.beq_eq] at hc
  exact Zge hc.1 (fun r hr=>hr)
theorem Zn2 (tab:FuncId->List AV->Option (List GA × FnE)):OrcOk Try.prog (orcG tab):=by
 refine ⟨?_,?_⟩
 ·intro f args st r st' lg hr W0 A m w vs hA hR hF hvs
  simp only [orcG,Option.bind_eq_some_iff] at hr
  obtain ⟨E,hE,hr⟩:=hr
  exact callG_ok hr W0 A m w vs hA hR hF hvs
 ·intro f args st r st' lg hr
  simp only [orcG,Option.bind_eq_some_iff] at hr
  obtain ⟨E,hE,hr⟩:=hr
  exact callG_gk hr
@[simp] theorem holds_fg (B:Base) (f:FuncId) (G:List GA) (E:FnE) (es:List SX):(Fact.fg f G E es).holds B ↔ ToldG f G E (B.F E.k)/\∃ ps qs,evs B.s B.F es=some ps/\B.F E.k ps=some qs:=Iff.rfl
end Go.Proofs.Ytcaclmdkhffegaa.eng
