/- Texts joined. -/
import Derived.Test.YtnomiffghidmbaaMrg4
section
/- The engine: a row of the call's own that is not written any more becomes a thing (which may live on). -/
namespace Go.Proofs.Ytnomiffghidmbaa.eng
open Go Go.RowKit
variable {W0 : Base}
set_option linter.unusedVariables false
set_option linter.unusedSimpArgs false

end Go.Proofs.Ytnomiffghidmbaa.eng
end
section
/- The engine: closed runs over what is told: what is told of rows that are written down is written down; what such a run takes for granted is reckoned. -/
namespace Go.Proofs.Ytnomiffghidmbaa.eng
open Go Go.RowKit
variable {W0 : Base}
set_option linter.unusedVariables false
set_option linter.unusedSimpArgs false

def natPV:Option PV->Option Nat | some (.v (.int .i64 (.ofNat z)))=>some z | _=>none
theorem Zfk {e:SX} {z:Nat} {B:Base} (h:natPV (ev0 e)=some z):B.ev e=some (.v (.int .i64 (z:Int))):=by
 unfold natPV at h
 split at h
 ·rename_i y hy
  cases h
  exact Zbb e hy
 ·cases h
def Fact.chk:Fact->Bool
 | .ok e=>match ev0 e with | some (.v x)=>x.oneCell' | _=>false
 | .is e (.bool b)=>match ev0 e with | some (.v (.bool c))=>b == c | _=>false
 | .is e (.int .i64 n)=>match ev0 e with | some (.v (.int .i64 m))=>decide (m=n) | _=>false
 | .at e n=>match ev0 e with | some (.v (.int _ z))=>decide (z=(n:Int)) | _=>false
 | .idx e i sz q=>match ev0 e,ev0 i with | some (.row n cs),some (.v (.int _ z))=>decide (0<=z) && decide (z < (n:Int)) && Nat.ble (z.toNat * sz+q) cs.length | _,_=>false
 | .sub e lo hi sz=>(ev0 (.sub e lo hi sz)).isSome
 | .rng i n=>match ev0 i,ev0 n with | some (.v (.int _ z)),some (.v (.int .i64 m))=>decide (0<=z) && decide (z < m) | _,_=>false
 | .upto n K=>match natPV (ev0 n) with | some z=>Nat.ble z K | none=>false
 | .le3 lo hi n=>match natPV (ev0 lo),natPV (ev0 hi),natPV (ev0 n) with | some a,some b,some c=>Nat.ble a b && Nat.ble b c | _,_,_=>false
 | .cut lo len n=>match natPV (ev0 lo),natPV (ev0 len),natPV (ev0 n) with | some a,some b,some c=>Nat.ble (a+b) c | _,_,_=>false
 | .same x y=>match natPV (ev0 x),natPV (ev0 y) with | some a,some b=>Nat.beq a b | _,_=>false
 | .cells e sz=>match ev0 e with
  | some (.row n cs)=>(match Za8 cs with | some vs=>Nat.beq vs.length (n * sz) && Nat.ble n 4294967296 && vs.all Value.oneCell' | none=>false)
  | _=>false
 | _=>false
theorem chk_ok {B:Base}:∀ (f:Fact),f.chk=true->f.holds B:=by
 intro f h
 unfold Fact.chk at h
 split at h
 ·rename_i e
  split at h
  ·rename_i x hx;exact ⟨x,Zbb e hx,h⟩
  ·cases h
 ·rename_i e b
  split at h
  ·rename_i c hc
   have:b=c:=by simpa using h
   subst this
   exact Zbb e hc
  ·cases h
 ·rename_i e n
  split at h
  ·rename_i m hm
   have:m=n:=by simpa using h
   subst this
   exact Zbb e hm
  ·cases h
 ·rename_i e n
  split at h
  ·rename_i k z hz
   have:z=(n:Int):=by simpa using h
   subst this
   exact ⟨k,Zbb e hz⟩
  ·cases h
 ·rename_i e i sz q
  split at h
  ·rename_i n cs k z hn hz
   simp only [Bool.and_eq_true,decide_eq_true_eq,Nat.ble_eq] at h
   exact ⟨n,cs,k,z,Zbb e hn,Zbb i hz,h.1.1,h.1.2,h.2⟩
  ·cases h
 ·rename_i e lo hi sz
  obtain ⟨p,hp⟩:=Option.isSome_iff_exists.1 h
  exact ⟨p,Zbb _ hp⟩
 ·rename_i i n
  split at h
  ·rename_i k z m hz hm
   simp only [Bool.and_eq_true,decide_eq_true_eq] at h
   exact ⟨k,z,m,Zbb i hz,Zbb n hm,h.1,h.2⟩
  ·cases h
 ·rename_i n K
  split at h
  ·rename_i z hz;exact ⟨z,Zfk hz,by simpa using h⟩
  ·cases h
 ·rename_i lo hi n
  split at h
  ·rename_i a b c ha hb hc
   simp only [Bool.and_eq_true,Nat.ble_eq] at h
   exact ⟨a,b,c,Zfk ha,Zfk hb,Zfk hc,h.1,h.2⟩
  ·cases h
 ·rename_i lo len n
  split at h
  ·rename_i a b c ha hb hc
   exact ⟨a,b,c,Zfk ha,Zfk hb,Zfk hc,by simpa using h⟩
  ·cases h
 ·rename_i x y
  split at h
  ·rename_i a b ha hb
   have:=Nat.eq_of_beq_eq_true h
   subst this
   exact ⟨a,Zfk ha,Zfk hb⟩
  ·cases h
 ·rename_i e sz
  split at h
  ·rename_i n cs he
   split at h
   ·rename_i vs hvs
    simp only [Bool.and_eq_true,Nat.beq_eq,Nat.ble_eq,List.all_eq_true] at h
    refine ⟨n,vs,by rw [<- Ziu hvs];exact Zbb e he,h.1.1,?_,h.2⟩
    have:maxLen=9223372036854775807:=by unfold maxLen;simp [IntKind.max]
    omega
   ·cases h
  ·cases h
 ·cases h

def normX (e:SX):SX:=match ev0 e with
 | some (.v v)=>.con v
 | some (.row n cs)=>match Za8 cs with | some vs=>.lit n (vs.map .con) | none=>e
 | none=>e
theorem evs0_con:∀ (vs:List Value),evs0 (vs.map SX.con)=some (vs.map PV.v)
 | []=>rfl
 | v :: vs=>by simp [evs0,ev0,evs0_con vs]
theorem normX_ok (e:SX):ev0 (normX e)=ev0 e:=by
 unfold normX
 split
 ·rename_i v h;rw [h];rfl
 ·rename_i n cs h
  split
  ·rename_i vs hvs
   rw [h,Ziu hvs]
   simp [ev0,evs0_con]
  ·rfl
 ·rfl
theorem norms_ok:∀ (es:List SX),evs0 (es.map normX)=evs0 es
 | []=>rfl
 | e :: es=>by simp [evs0,normX_ok e,norms_ok es]
def Znz (f:FuncId) (E:FnE) (lit:List SX->Option (List SX)) (args:List AV) (st:St):Option (ARet × St × Log):=(Zbi E.ins args).bind fun ls=>(Zjp st ls E.leaks).bind fun (es,lA)=>(lit (es.map normX)).bind fun rs=>(outD (fun i=>rs.getD i c0) E.kinds 0 st.next (st.next+(Zao E.kinds 0).length) st.path).bind fun (cs,fs,p',os) =>
 cond (Nat.blt (st.next+(Zao E.kinds 0).length+os.length) 16777215 && Nat.beq E.kinds.length (shLen E.outs))
  (some (.ret (Zju E.outs (cs.map fold1)),resSt st (fun i=>rs.getD i c0) E.kinds p' os,⟨lA.A ||| Zcq st E.kinds os,Zcq st E.kinds os,lA.V++fs⟩)) none
def LitOk (f:FuncId) (E:FnE) (lit:List SX->Option (List SX)):Prop :=
 ∃ spec,ToldF f E spec/\∀ es rs,lit es=some rs->∃ ps qs,evs0 es=some ps/\spec ps=some qs/\evs0 rs=some qs
theorem evs0_get:∀ {rs:List SX} {qs:List PV},evs0 rs=some qs->∀ i q,qs[i]?=some q->ev0 (rs.getD i c0)=some q
 | [],qs,h,i,q,hq=>by simp [evs0] at h;subst h;simp at hq
 | r :: rs,qs,h,i,q,hq=>by
  simp only [evs0,Option.bind_eq_some_iff,Option.map_eq_some_iff] at h
  obtain ⟨p,h1,ps,h2,rfl⟩:=h
  cases i with
  | zero=>simp at hq;subst hq;simpa using h1
  | succ i=>simpa using evs0_get h2 i q (by simpa using hq)
theorem callLit_ok {f:FuncId} {E:FnE} {lit:List SX->Option (List SX)} (hlit:LitOk f E lit) {args:List AV} {st st':St} {r:ARet} {lg:Log} (hr:Znz f E lit args st=some (r,st',lg)) (W0:Base) (A:Nat->Prop) (m:Map) (w:World) (vs:List Value) (hA:lg.Fits W0 A) (hR:Rel W0 A m st.heap.get w) (hF:Fresh A m st.next) (hvs:denL m args=some vs) :
  Calls Try.prog f vs.toArray w (CPost W0 A m st w r st' lg):=by
 simp only [Znz,Option.bind_eq_some_iff] at hr
 obtain ⟨ls,hls,⟨es,lA⟩,hes,rs,hrs,⟨cs,fs,p',os⟩,hout,hr⟩:=hr
 obtain ⟨spec,htold,hl⟩:=hlit
 obtain ⟨ps',qs,hps',hqs,hrq⟩:=hl _ rs hrs
 rw [norms_ok] at hps'
 cases hc:(Nat.blt (st.next+(Zao E.kinds 0).length+os.length) 16777215 && Nat.beq E.kinds.length (shLen E.outs)) with
 | false=>simp [hc] at hr
 | true =>
  simp only [hc,cond_true,Option.some.injEq,Prod.mk.injEq] at hr
  obtain ⟨rfl,rfl,rfl⟩:=hr
  simp only [Bool.and_eq_true,Nat.blt_eq,Nat.beq_eq] at hc
  have hlA:lA.Fits W0 A:=⟨fun r hr=>hA.1 r (Zaw hr),fun f hf=>hA.2 f (by simp [hf])⟩
  obtain ⟨us,hus,hul,rfl⟩:=Zcw E.ins args hls hvs
  obtain ⟨ps,hps,hpl,hrd⟩:=Zgv hR hes hlA hus
  rw [Zk1 es hps'] at hps
  cases hps
  refine (htold w (May W0 A m st w) us ps' qs hqs hpl.symm (by omega) (fun k hk=>hk.1) hrd).mono ?_
  rintro e w' ⟨us',ow,h1,h2,how,h3,rfl,hex⟩
  obtain ⟨m',S,F',hden⟩:=results hR hF hex (g:=fun i=>rs.getD i c0) (by omega) (by omega) (fun i q hq=>Zbb _ (evs0_get hrq i q hq)) how h3 hout (fun f hf=>hA.2 f (by simp [hf])) hc.1 (fun r hr=>hA.1 r (Zaz hr))
  exact ⟨m',⟨S,F'⟩,_,Zgx (Zp8 S.rel.sv hden) (by omega),rfl⟩
theorem callLit_gk {f:FuncId} {E:FnE} {lit:List SX->Option (List SX)} {args:List AV} {st st':St} {r:ARet} {lg:Log} (hr:Znz f E lit args st=some (r,st',lg)):Gk st st' lg:=by
 simp only [Znz,Option.bind_eq_some_iff] at hr
 obtain ⟨ls,hls,⟨es,lA⟩,hes,rs,hrs,⟨cs,fs,p',os⟩,hout,hr⟩:=hr
 cases hc:(Nat.blt (st.next+(Zao E.kinds 0).length+os.length) 16777215 && Nat.beq E.kinds.length (shLen E.outs)) with
 | false=>simp [hc] at hr
 | true =>
  simp only [hc,cond_true,Option.some.injEq,Prod.mk.injEq] at hr
  obtain ⟨rfl,rfl,rfl⟩:=hr
  simp only [Bool.and_eq_true,Nat.blt_eq,Nat.beq_eq] at hc
  exact Zg4 hc.1 (fun r hr=>hr)
def Zum (tab:FuncId->Option (FnE × (List SX->Option (List SX)))):Orc:=fun f args st=>(tab f).bind fun (E,lit)=>Znz f E lit args st
theorem orcLit_ok (tab:FuncId->Option (FnE × (List SX->Option (List SX)))) (h:∀ f E lit,tab f=some (E,lit)->LitOk f E lit):OrcOk Try.prog (Zum tab):=by
 refine ⟨?_,?_⟩
 ·intro f args st r st' lg hr W0 A m w vs hA hR hF hvs
  simp only [Zum,Option.bind_eq_some_iff] at hr
  obtain ⟨⟨E,lit⟩,hE,hr⟩:=hr
  exact callLit_ok (h f E lit hE) hr W0 A m w vs hA hR hF hvs
 ·intro f args st r st' lg hr
  simp only [Zum,Option.bind_eq_some_iff] at hr
  obtain ⟨⟨E,lit⟩,hE,hr⟩:=hr
  exact callLit_gk hr
def Zp4 (x:Option (List Fact × List SX)):Bool:=match x with
 | some (fs,[e])=>fs.all Fact.chk && (match ev0 e with | some (.v (.bool true))=>true | _=>false)
 | _=>false
def hStop (_:FuncId) (_:Oper):Option Hint:=some .stop
theorem lit_true {x:Option (List Fact × List SX)} (h:Zp4 x=true):∃ fs e,x=some (fs,[e])/\(∀ f ∈ fs,f.chk=true)/\ev0 e=some (.v (.bool true)):=by
 unfold Zp4 at h
 split at h
 ·rename_i fs e
  simp only [Bool.and_eq_true,List.all_eq_true] at h
  refine ⟨fs,e,rfl,h.1,?_⟩
  obtain ⟨_,h⟩:=h
  split at h
  ·rename_i h1;exact h1
  ·cases h
 ·cases h
theorem told_lit (hM:Try.prog.follows .mixedOrders=true) (hN:GoodP Try.prog) {f:FuncId} {E:FnE} {O:Orc} {n:Nat} {path:List Nat} {H:FuncId->Oper->Option Hint} (hO:OrcOk Try.prog O) {spec:List PV->Option (List PV)} (hspec:∀ ps qs,spec ps=some qs->ps=[]/\qs=[.v (.bool true)]) (hrun:Zp4 (runTo Try.prog O n f E [] path H)=true) (hpl0:E.kinds.all CK.plain=true:=by rfl):ToldF f E spec:=by
 refine Zbw hM hN (fun _ _=>none) [] (fun ps qs h _=>?_) hpl0
 obtain ⟨rfl,rfl⟩:=hspec ps qs h
 obtain ⟨fs,e,h1,h2,h3⟩:=lit_true hrun
 exact ⟨O,n,path,H,fs,[e],hO,h1,fun w FP x hx=>chk_ok x (h2 x hx),by simp [evs,Zbb e h3]⟩
end Go.Proofs.Ytnomiffghidmbaa.eng
end
