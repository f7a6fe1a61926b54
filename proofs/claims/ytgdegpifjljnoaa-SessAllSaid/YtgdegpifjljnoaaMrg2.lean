/- Texts joined: Eng8c, Eng8d, Eng8e, Eng8m, Eng8i, Eng8f, Eng9, Eng10, Eng11, Eng12, Eng13, Eng14. -/
import Derived.Test.YtgdegpifjljnoaaMrg1
import Derived.Laws.MakeOwn
import Derived.Lib.BufferRead
import Derived.MapKept
import Derived.Lib.MinMax
import Derived.Scope
set_option linter.unusedVariables false
set_option linter.unusedSimpArgs false
section
/- The engine: rows of the call's own of unknown length. -/
namespace Go.Proofs.Ytgdegpifjljnoaa.eng
open Go Go.RowKit
variable {W0 : Base}

def Zai (e:SX) (elem:TypeId) (esz v:Nat):ARoot:={ cells:=[],elem:=elem,esz:=esz,ro:=false,opn:=true,vers:=[(v,0)],dat:=none,sym:=some e }
def lookS (st:St) (r v:Nat):Option (SX × TypeId × Nat):=(st.heap.get r).bind fun o=>o.sym.bind fun e=>match o.vers with
 | [(v',0)]=>cond (Nat.beq v v' && !o.ro && !o.lent && !o.mp) (some (e,o.elem,o.esz)) none
 | _=>none
theorem Zej {st:St} {r v:Nat} {e:SX} {el:TypeId} {sz:Nat} (h:lookS st r v=some (e,el,sz)):∃ o,st.heap.get r=some o/\o.sym=some e/\o.vers=[(v,0)]/\o.ro=false/\o.elem=el/\o.esz=sz/\o.lent=false:=by
 simp only [lookS,Option.bind_eq_some_iff] at h
 obtain ⟨o,ho,e',he,h⟩:=h
 split at h
 ·rename_i v' hv
  simp only [cond_eq_ite,Bool.and_eq_true,Nat.beq_eq,Bool.not_eq_true'] at h
  split at h
  ·rename_i hc
   obtain ⟨⟨⟨rfl,hro⟩,hlt⟩,_⟩:=hc
   cases h
   exact ⟨o,ho,he,hv,hro,rfl,rfl,hlt⟩
  ·cases h
 ·cases h
theorem lookS_mp {st:St} {r v:Nat} {e:SX} {el:TypeId} {sz:Nat} (h:lookS st r v=some (e,el,sz)) {o:ARoot} (ho:st.heap.get r=some o):o.mp=false:=by
 simp only [lookS,Option.bind_eq_some_iff] at h
 obtain ⟨o',ho',e',he,h⟩:=h
 rw [ho] at ho'
 cases ho'
 split at h
 ·simp only [cond_eq_ite,Bool.and_eq_true,Nat.beq_eq,Bool.not_eq_true'] at h
  split at h
  ·rename_i hc
   exact hc.2
  ·cases h
 ·cases h
theorem Zba {st:St} {r v:Nat} {e:SX} {el:TypeId} {sz:Nat} {A:Nat->Prop} {m:Map} {w:World} {b:Nat × Nat} (h:lookS st r v=some (e,el,sz)) (hR:Rel W0 A m st.heap.get w) (ha:A r) (hb:m r v=some b) :
  ∃ (n:Nat) (cs:List PV) (c:Array Value) (fz:Nat × Nat),W0.ev e=some (.row n cs)/\w.heap[b.1]?=some (.cells c el fz)/\(∀ i,i < c.size->¬ (fz.1<=i/\i < fz.2))/\0 < sz/\cs.length=n * sz/\n<=b.2/\c.size=b.2 * sz/\b.2<=maxLen ∧
   ∀ (i:Nat) (p:PV),cs[i]?=some p->∃ v:Value,p=PV.v v/\v.oneCell'=true/\c[i]?=some v:=by
 obtain ⟨o,ho,hs,hv,hro,rfl,rfl,_⟩:=Zej h
 exact (hR.row r o e v 0 b ha ho hs (by rw [hv];simp) hb).c (lookS_mp h ho)
theorem Zd9 {n:Nat} (h:n<=maxLen):n<=9223372036854775807:=by
 have:maxLen=9223372036854775807:=by unfold maxLen;simp [IntKind.max]
 omega
theorem RowAt.blk {w:World} {e:SX} {el:TypeId} {sz v:Nat} {b:Nat × Nat} {m:Map} (h:RowAt W0 w (Zai e el sz v) b e):Blk m w (Zai e el sz v) b 0:=by
 obtain ⟨n,cs,c,fz,h1,h2,h3,h4,h5,h6,h7,h8,h9⟩:=h.c rfl
 exact BlkC.b (o:=Zai e el sz v) ⟨c,fz,h2,h3,Nat.zero_le _,Nat.zero_le _,fun i x hi=>by omega,h7,Zd9 h8⟩ rfl
theorem Zoi {A:Nat->Prop} {m:Map} {st st':St} {w w':World} {r v v':Nat} {b b':Nat × Nat} {e e':SX} {el:TypeId} {sz:Nat} (hR:Rel W0 A m st.heap.get w) (hF:Fresh A m st.next) (hl:lookS st r v=some (e,el,sz)) (ha:A r) (hb:m r v=some b)
  (hp:st.put r (Zai e' el sz v')=some st') (hv:(v'=v/\b'=b) \/ v'=v+1) (hos:w'.os=w.os) (htape:w'.tape=w.tape) (hout:w'.output=w.output) (hsize:w.heap.size<=w'.heap.size) (hkeep:∀ k,k < w.heap.size->k ≠ b.1->w'.heap[k]?=w.heap[k]?)
  (hb':b'.1=b.1 \/ b'.1=w.heap.size) (hrow:RowAt W0 w' (Zai e' el sz v') b' e'):(m.new2 r v' b') r v'=some b'/\Ok W0 A m st w (m.new2 r v' b') st' (Log.turns r) w':=by
 obtain ⟨o,ho,hs,hvs,hro,rfl,rfl,hlt0⟩:=Zej hl
 obtain ⟨hput,hnext⟩:=put_ok hp
 have htop:∀ k,v < k->m r k=none:=fun k hk=>hR.top r o v 0 [] ha ho hvs k hk
 have hle:m.Le (m.new2 r v' b'):=⟨fun k v1 x hx=>by
  show (if k=r/\v1=v' then some b' else m k v1)=some x
  split
  ·rename_i hc
   rw [hc.1,hc.2] at hx
   rcases hv with ⟨h1,h2⟩ | h1
   ·rw [h1,hb] at hx;rw [h2];exact hx
   ·rw [h1,htop _ (Nat.lt_succ_self v)] at hx;cases hx
  ·exact hx,fun _ _ h=>h,fun _ _ h=>h⟩
 refine ⟨by simp [Map.new2],⟨?_,?_⟩⟩
 ·rw [hput]
  refine Step.more (T1:=fun k=>k=r) (Step.put hR ha hle (fun k hk v1=>by simp [Map.new2,hk]) rfl rfl (fun o2 _ _ _ ho2 _ _=>by rw [ho] at ho2;cases ho2;exact hro) rfl ?_ (fun o2 _ _ _ ho2 _ _=>by rw [ho] at ho2;cases ho2;exact hlt0.symm) (fun hl=>by cases hl) hos htape hout hsize ?_ ?_ ?_ ?_) (fun k hk=>by simp only [Log.turns];rw [Zah];exact hk)
  ·intro e1 v1 n1 b1 he hv1 hb1
   simp only [Zai,Option.some.injEq] at he
   subst he
   simp only [Zai,List.mem_singleton,Prod.mk.injEq] at hv1
   obtain ⟨rfl,rfl⟩:=hv1
   simp only [Map.new2,and_self,if_true,Option.some.injEq] at hb1
   subst hb1
   exact hrow
  ·intro k hk hno
   exact hkeep k hk (fun e=>hno o v 0 b ho (by rw [hvs];simp) hb e.symm)
  ·intro v1 n1 hv1
   simp only [Zai,List.mem_singleton,Prod.mk.injEq] at hv1
   obtain ⟨rfl,rfl⟩:=hv1
   exact ⟨b',by simp [Map.new2],hrow.blk⟩
  ·intro v1 n1 rest he v2 hlt
   simp only [Zai,List.cons.injEq,Prod.mk.injEq] at he
   obtain ⟨⟨rfl,_⟩,_⟩:=he
   have:¬ v2=v':=by omega
   simp only [Map.new2,this,and_false,if_false]
   exact htop v2 (by rcases hv with ⟨h1,_⟩ | h1 <;> omega)
  ·intro v1 n1 b1 hv1 hb1 hlt
   simp only [Zai,List.mem_singleton,Prod.mk.injEq] at hv1
   obtain ⟨rfl,rfl⟩:=hv1
   simp only [Map.new2,and_self,if_true,Option.some.injEq] at hb1
   subst hb1
   rcases hb' with h | h
   ·exact ⟨o,v,0,b,ho,by rw [hvs];simp,hb,h.symm⟩
   ·omega
 ·intro r' hra hr'
  rw [hnext] at hr'
  have hne:r' ≠ r:=by
   intro e
   subst e
   rw [(hF r' hra hr').1 v] at hb
   cases hb
  exact ⟨fun v1=>by simp [Map.new2,hne,(hF r' hra hr').1 v1],(hF r' hra hr').2⟩

def c0:SX:=.con (.int .i64 0)
def isC0:SX->Bool | .con (.int .i64 (.ofNat n))=>Nat.beq n 0 | _=>false
theorem Zem {e:SX} (h:isC0 e=true):W0.ev e=some (.v (.int .i64 0)):=by
 unfold isC0 at h
 split at h
 ·simp only [Nat.beq_eq] at h;subst h;rfl
 ·cases h
theorem sv_int {e:SX} {n:Nat} (h:W0.ev e=some (.v (.int .i64 (n:Int)))):W0.sv e=some (.int .i64 (n:Int)):=ev_sv h
theorem Zbx {e:SX} {n:Nat} {cs:List PV} (h:W0.ev e=some (.row n cs)):W0.ev (.len e)=some (.v (.int .i64 (n:Int))):=by
 have h':e.ev W0.s W0.F=some (.row n cs):=h
 simp [Base.ev,SX.ev,h',lenPV]
theorem Zgb {m:Map} (hs:∀ e,m.s e=W0.sv e) {r v:Nat} {b:Nat × Nat} {lo len:SX} {l n sz:Nat} (hb:m r v=some b) (hl:W0.ev lo=some (.v (.int .i64 (l:Int)))) (hn:W0.ev len=some (.v (.int .i64 (n:Int)))) :
  (AV.sliceS r v lo len sz).den m=some (.slice (some ⟨b.1,l * sz,none⟩) n (b.2 - l)):=by
 simp only [AV.den,hb,hs,sv_int hl,sv_int hn,Option.bind_some,natI,Option.map_some]
theorem Zas {m:Map} (hs:∀ e,m.s e=W0.sv e) {r v sz:Nat} {lo len:SX} {u:Value} (h:(AV.sliceS r v lo len sz).den m=some u) :
  ∃ b l n,m r v=some b/\W0.ev lo=some (.v (.int .i64 ((l:Nat):Int)))/\W0.ev len=some (.v (.int .i64 ((n:Nat):Int)))/\u=.slice (some ⟨b.1,l * sz,none⟩) n (b.2 - l):=by
 simp only [AV.den,Option.bind_eq_some_iff,Option.map_eq_some_iff] at h
 obtain ⟨b,hb,l,hl,n,hn,l',hl',n',hn',rfl⟩:=h
 rw [hs] at hl hn
 rw [natI_ok hl'] at hl
 rw [natI_ok hn'] at hn
 exact ⟨b,l',n',hb,sv_ev hl,sv_ev hn,rfl⟩

def St.allocS (st:St) (e:SX) (elem:TypeId) (esz:Nat):Option (AV × St × Log):=(St.put { st with next:=st.next+1 } st.next (Zai e elem esz 0)).map fun st'=>(.sliceS st.next 0 c0 (.len e) esz,st',Log.turns st.next)
theorem Zjy {A:Nat->Prop} {m:Map} {st st':St} {w w':World} {e:SX} {el:TypeId} {sz tot n:Nat} {cs:List PV} {y:AV} {lg:Log} (h:st.allocS e el sz=some (y,st',lg)) (hA:lg.Fits W0 A) (hR:Rel W0 A m st.heap.get w) (hF:Fresh A m st.next)
  (hos:w'.os=w.os) (htape:w'.tape=w.tape) (hout:w'.output=w.output) (hsize:w.heap.size<=w'.heap.size) (hkeep:∀ k,k < w.heap.size->w'.heap[k]?=w.heap[k]?) (hev:W0.ev e=some (.row n cs)) (hrow:RowAt W0 w' (Zai e el sz 0) (w.heap.size,tot) e) :
  y.den (m.new st.next (w.heap.size,tot))=some (.slice (some ⟨w.heap.size,0,none⟩) n tot)/\Ok W0 A m st w (m.new st.next (w.heap.size,tot)) st' lg w':=by
 simp only [St.allocS,Option.map_eq_some_iff] at h
 obtain ⟨s1,hp,he⟩:=h
 cases he
 obtain ⟨hput,hnext⟩:=put_ok hp
 have ha:A st.next:=hA.1 _ (by simp [Log.turns,Zah])
 have hle:m.Le (m.new st.next (w.heap.size,tot)):=⟨fun r v b hb=>by
  show (if r=st.next/\v=0 then some (w.heap.size,tot) else m r v)=some b
  split
  ·rename_i e
   rw [e.1,(hF st.next ha (Nat.le_refl _)).1 v] at hb
   cases hb
  ·exact hb,fun _ _ h=>h,fun _ _ h=>h⟩
 refine ⟨?_,?_,?_⟩
 ·have:=Zgb (W0:=W0) (m:=m.new st.next (w.heap.size,tot)) (r:=st.next) (v:=0) (b:=(w.heap.size,tot)) (lo:=c0) (len:=.len e) (l:=0) (sz:=sz) hR.sv (by simp [Map.new]) rfl (Zbx hev)
  simpa using this
 ·rw [hput]
  refine Step.more (T1:=fun k=>k=st.next) (Step.put (r:=st.next) hR ha hle (fun k hk v=>by simp [Map.new,hk]) rfl rfl (fun _ v _ _ _ _ hb=>by rw [(hF st.next ha (Nat.le_refl _)).1 v] at hb;cases hb) rfl ?_ (fun _ v _ _ _ _ hb=>by rw [(hF st.next ha (Nat.le_refl _)).1 v] at hb;cases hb) (fun hl=>by cases hl) hos htape hout hsize (fun k hk _=>hkeep k hk) ?_ ?_ ?_) (fun k hk=>by simp only [Log.turns];rw [Zah];exact hk)
  ·intro e1 v1 n1 b1 he hv1 hb1
   simp only [Zai,Option.some.injEq] at he
   subst he
   simp only [Zai,List.mem_singleton,Prod.mk.injEq] at hv1
   obtain ⟨rfl,rfl⟩:=hv1
   simp only [Map.new,and_self,if_true,Option.some.injEq] at hb1
   subst hb1
   exact hrow
  ·intro v1 n1 hv1
   simp only [Zai,List.mem_singleton,Prod.mk.injEq] at hv1
   obtain ⟨rfl,rfl⟩:=hv1
   exact ⟨_,by simp [Map.new],hrow.blk⟩
  ·intro v1 n1 rest he v2 hlt
   simp only [Zai,List.cons.injEq,Prod.mk.injEq] at he
   obtain ⟨⟨rfl,_⟩,_⟩:=he
   have:¬ v2=0:=by omega
   simp [Map.new,this,(hF st.next ha (Nat.le_refl _)).1]
  ·intro v1 n1 b1 hv1 hb1 hlt
   simp only [Zai,List.mem_singleton,Prod.mk.injEq] at hv1
   obtain ⟨rfl,rfl⟩:=hv1
   simp [Map.new] at hb1
   subst hb1
   simp at hlt
 ·intro r hra hr
  rw [hnext] at hr
  have:¬ r=st.next:=by simp at hr;omega
  have h:=hF r hra (by simp at hr;omega)
  refine ⟨fun v=>?_,h.2⟩
  simp only [Map.new,this,false_and,if_false]
  exact h.1 v

def Zih (e i:SX) (sz:Nat):Nat->Nat->List AV
 | _,0=>[]
 | q,k+1=>.sym (.cell e i sz q) :: Zih e i sz (q+1) k
def Zpw (P:Program) (st:St) (t:TypeId):AV->Option (AV × Log)
 | .ptrS r v i sz q=>(lookS st r v).bind fun (e,el,esz)=>(tyAgg P t).bind fun ag=>(Zbn P t).bind fun k=>cond (Nat.beq esz sz && (ag || Nat.beq k 1))
   (some (cond ag (.agg (Zih e i sz q k)) (.sym (.cell e i sz q)),(Log.sees r).or (Log.says (.idx e i sz (q+k))))) none
 | _=>none
theorem symCells_den {m:Map} (hs:∀ e,m.s e=W0.sv e) {e i:SX} {sz:Nat}:∀ (k q:Nat) {vs:List Value},vs.length=k->(∀ j v,vs[j]?=some v->W0.ev (.cell e i sz (q+j))=some (.v v)/\v.oneCell'=true)->denL m (Zih e i sz q k)=some vs
 | 0,q,vs,hl,_=>by
  obtain rfl:vs=[]:=List.eq_nil_of_length_eq_zero hl
  rfl
 | k+1,q,v :: vs,hl,h=>by
  obtain ⟨h1,h2⟩:=h 0 v rfl
  rw [Nat.add_zero] at h1
  have ih:=symCells_den hs k (q+1) (vs:=vs) (by simpa using hl) (fun j u hj=>by
   have:=h (j+1) u (by simpa using hj)
   rwa [show q+(j+1)=q+1+j by omega] at this)
  simp [Zih,denL,ih,Zdp hs h1 h2]
 | k+1,q,[],hl,h=>by simp at hl
theorem ev_cell {e i:SX} {sz n q:Nat} {cs:List PV} {k:IntKind} {z:Int} {p:PV} (he:W0.ev e=some (.row n cs)) (hi:W0.ev i=some (.v (.int k z))) (h0:0<=z) (h1:z < (n:Int)) (hc:cs[z.toNat * sz+q]?=some p):W0.ev (.cell e i sz q)=some p:=by
 have he':e.ev W0.s W0.F=some (.row n cs):=he
 have hi':i.ev W0.s W0.F=some (.v (.int k z)):=hi
 simp [Base.ev,SX.ev,he',hi',Zbm,h0,h1,hc]
theorem aLoadS_ok {P:Program} {st:St} {t:TypeId} {x y:AV} {lg:Log} {A:Nat->Prop} {m:Map} {w:World} {u:Value} (h:Zpw P st t x=some (y,lg)) (hA:lg.Fits W0 A)
  (hR:Rel W0 A m st.heap.get w) (hx:x.den m=some u):∃ v,y.den m=some v/\(Instr.loadAt t u).run P w=.ok v w:=by
 unfold Zpw at h
 split at h
 ·rename_i r v i sz q
  simp only [Option.bind_eq_some_iff] at h
  obtain ⟨⟨e,el,esz⟩,hl,ag,hag,k,hk,h⟩:=h
  simp only [cond_eq_ite,Bool.and_eq_true,Nat.beq_eq,Bool.or_eq_true] at h
  split at h
  ·rename_i hc
   obtain ⟨rfl,hk1⟩:=hc
   cases h
   have ha:A r:=(or_A hA).1.1 r (by simp [Log.sees,Zah])
   obtain ⟨n,cs,kd,z,f1,f2,f3,f4,f5⟩:=(or_A hA).2.2 _ (List.mem_singleton.2 rfl)
   simp only [AV.den,Option.bind_eq_some_iff,Option.map_eq_some_iff] at hx
   obtain ⟨b,hb,i',hi',n',hn',rfl⟩:=hx
   rw [hR.sv,ev_sv f2] at hi'
   cases hi'
   simp only [natOf,Option.some.injEq] at hn'
   subst hn'
   obtain ⟨n2,cs2,c,fz,g1,g2,g3,g4,g5,g6,g7,g8,g9⟩:=Zba hl hR ha hb
   rw [f1] at g1
   cases g1
   have hcell:∀ j,j < k->∃ v,cs[z.toNat * esz+(q+j)]?=some (.v v)/\v.oneCell'=true/\w.cell? ⟨b.1,z.toNat * esz+q+j,none⟩=some v:=fun j hj=>by
    have hlt:z.toNat * esz+(q+j) < cs.length:=by omega
    obtain ⟨v,hv,ho,hcv⟩:=g9 _ _ (List.getElem?_eq_getElem hlt)
    refine ⟨v,by rw [List.getElem?_eq_getElem hlt,hv],ho,?_⟩
    simp only [World.cell?,g2]
    rw [Nat.add_assoc]
    exact hcv
   have hload:(Instr.loadAt t (.pointer (some ⟨b.1,z.toNat * esz+q,none⟩))).run P w=(loadVar t ⟨b.1,z.toNat * esz+q,none⟩).run P w:=by simp [Instr.loadAt,Instr.sureAddr]
   rw [hload]
   unfold loadVar
   simp only [Sem.run_bind,Zby hag,Result.andThen_ok]
   cases ag with
   | true =>
    let val:Nat->Value:=fun j=>(w.cell? ⟨b.1,z.toNat * esz+q+j,none⟩).getD .nilFunc
    have hval:∀ j v,((List.range k).map val)[j]?=some v->j < k/\w.cell? ⟨b.1,z.toNat * esz+q+j,none⟩=some v/\cs[z.toNat * esz+(q+j)]?=some (.v v)/\v.oneCell'=true:=fun j v hj=>by
     rw [List.getElem?_map,Option.map_eq_some_iff] at hj
     obtain ⟨j',hj',rfl⟩:=hj
     have hjk:j < k:=by
      have:=(List.getElem?_eq_some_iff.1 hj').1
      simpa using this
     rw [List.getElem?_range hjk] at hj'
     cases hj'
     obtain ⟨v,h1,h2,h3⟩:=hcell j hjk
     have:val j=v:=by simp [val,h3]
     rw [this]
     exact ⟨hjk,h3,h1,h2⟩
    refine ⟨.agg ((List.range k).map val).toArray,?_,?_⟩
    ·simp only [if_true,AV.den]
     rw [symCells_den hR.sv k q (vs:=(List.range k).map val) (by simp) (fun j v hj=>by
      obtain ⟨_,_,h3,h4⟩:=hval j v hj
      exact ⟨ev_cell f1 f2 f3 f4 h3,h4⟩)]
     rfl
    ·have:=run_loadCells_list (P:=P) w ⟨b.1,z.toNat * esz+q,none⟩ ((List.range k).map val) (fun j v hj=>by rw [Zam];exact (hval j v hj).2.1)
     simp only [List.length_map,List.length_range] at this
     simp [Zad hk,this]
   | false =>
    have hk1:k=1:=by simpa using hk1
    subst hk1
    obtain ⟨v,h1,h2,h3⟩:=hcell 0 (by omega)
    refine ⟨v,?_,?_⟩
    ·simp only [Bool.false_eq_true,if_false]
     exact Zdp hR.sv (ev_cell f1 f2 f3 f4 (by simpa using h1)) h2
    ·rw [Nat.add_zero] at h3
     simp [h3]
  ·cases h
 ·cases h

theorem putPV_length {cs ps:List PV} {off:Nat} (h:off+ps.length<=cs.length):(putPV cs off ps).length=cs.length:=by simp [putPV];omega
theorem putPV_get {cs ps:List PV} {off i:Nat} (h:off+ps.length<=cs.length):(putPV cs off ps)[i]?=if i < off then cs[i]? else if i < off+ps.length then ps[i - off]? else cs[i]?:=by
 simp only [putPV,List.getElem?_append,List.getElem?_take,List.getElem?_drop,List.length_append,List.length_take]
 rw [show min off cs.length=off by omega]
 by_cases h1:i < off
 ·rw [if_pos (by omega),if_pos h1,if_pos h1,if_pos h1]
 ·by_cases h2:i < off+ps.length
  ·rw [if_pos h2,if_neg h1,if_neg h1,if_pos h2]
  ·rw [if_neg h2,if_neg h1,if_neg h2]
   congr 1
   omega
theorem putL_get {cs ps:List Value} {off i:Nat} (h:off+ps.length<=cs.length):(cs.take off++ps++cs.drop (off+ps.length))[i]?=if i < off then cs[i]? else if i < off+ps.length then ps[i - off]? else cs[i]?:=by
 simp only [List.getElem?_append,List.getElem?_take,List.getElem?_drop,List.length_append,List.length_take]
 rw [show min off cs.length=off by omega]
 by_cases h1:i < off
 ·rw [if_pos (by omega),if_pos h1,if_pos h1,if_pos h1]
 ·by_cases h2:i < off+ps.length
  ·rw [if_pos h2,if_neg h1,if_neg h1,if_pos h2]
  ·rw [if_neg h2,if_neg h1,if_neg h2]
   congr 1
   omega
theorem Zfm:∀ {ps:List PV} {vs:List Value},Zbz ps=some vs->ps=vs.map PV.v
 | [],vs,h=>by simp [Zbz] at h;subst h;rfl
 | p :: ps,vs,h=>by
  simp only [Zbz,Option.bind_eq_some_iff,Option.map_eq_some_iff] at h
  obtain ⟨v,hv,vs',hvs,rfl⟩:=h
  rw [Zdw hv,Zfm hvs]
  rfl
theorem storeS {P:Program} {st st':St} {r v off:Nat} {e e':SX} {el:TypeId} {sz n:Nat} {cs:List PV} {vs:List Value} {A:Nat->Prop} {m:Map} {w:World} {b:Nat × Nat} (hl:lookS st r v=some (e,el,sz)) (hR:Rel W0 A m st.heap.get w) (hF:Fresh A m st.next) (ha:A r) (hb:m r v=some b)
  (hp:st.put r (Zai e' el sz v)=some st') (he:W0.ev e=some (.row n cs)) (he':W0.ev e'=some (.row n (putPV cs off (vs.map PV.v)))) (hoff:off+vs.length<=n * sz) (h1:∀ x ∈ vs,x.oneCell'=true) :
  ∃ w' m',(storeCells ⟨b.1,off,none⟩ vs).run P w=.ok () w'/\m.Le m'/\m' r v=some b/\Ok W0 A m st w m' st' (Log.turns r) w':=by
 obtain ⟨n2,cs2,c,fz,g1,g2,g3,g4,g5,g6,g7,g8,g9⟩:=Zba hl hR ha hb
 rw [he] at g1
 cases g1
 have hcap:n * sz<=c.size:=by rw [g7];exact Nat.mul_le_mul_right _ g6
 have hrun:=Zbd P b.1 off el fz vs 0 c w g2 g3 (by omega) h1
 simp only [Nat.add_zero] at hrun
 have hlen:(List.take off c.toList++vs++List.drop (off+vs.length) c.toList).length=c.size:=by simp;omega
 obtain ⟨q1,q2⟩:=Zoi (b':=b) hR hF hl ha hb hp (.inl ⟨rfl,rfl⟩) (w':=w.setRow b.1 (List.take off c.toList++vs++List.drop (off+vs.length) c.toList).toArray) rfl rfl rfl (by simp) (fun k _ hk=>setRow_other w b.1 k _ hk) (.inl rfl) (by
  refine ⟨n,_,_,fz,he',setRow_heap w b.1 c _ el fz g2,fun i hi=>g3 i (by simp at hi;omega),g4,?_,g6,?_,g8,?_⟩
  ·rw [putPV_length (by simp;omega)];exact g5
  ·simp only [List.size_toArray,hlen];exact g7
  ·intro i p hi
   rw [putPV_get (by simp;omega)] at hi
   simp only [List.length_map] at hi
   rw [List.getElem?_toArray,putL_get (by simp;omega)]
   split at hi
   ·rename_i h
    rw [if_pos h]
    simpa using g9 i p hi
   ·rename_i h
    rw [if_neg h]
    split at hi
    ·rename_i h2
     rw [if_pos h2]
     rw [List.getElem?_map,Option.map_eq_some_iff] at hi
     obtain ⟨x,hx,rfl⟩:=hi
     exact ⟨x,rfl,h1 x (List.mem_of_getElem? hx),hx⟩
    ·rename_i h2
     rw [if_neg h2]
     simpa using g9 i p hi)
 exact ⟨_,_,hrun,q2.step.ext,q1,q2⟩
def Zl5 (P:Program) (st:St) (t:TypeId) (x y:AV):Option (St × Log):=match x with
 | .ptrS r v i sz q=>(lookS st r v).bind fun (e,el,esz)=>(sxL y.cellsOf).bind fun es=>cond (Zbn P t == some es.length && Nat.beq esz sz && Nat.ble (q+es.length) sz && y.cellsOf.all AV.one)
   ((st.put r (Zai (.rop (.upd sz q) (e :: i :: es)) el sz v)).map fun st'=>(st',(Log.turns r).or (Log.says (.idx e i sz (q+es.length))))) none
 | _=>none
theorem sxL_len:∀ {l:List AV} {es:List SX},sxL l=some es->es.length=l.length
 | [],es,h=>by simp [sxL] at h;subst h;rfl
 | x :: l,es,h=>by
  simp only [sxL,Option.bind_eq_some_iff,Option.map_eq_some_iff] at h
  obtain ⟨e,_,es',h',rfl⟩:=h
  simp [sxL_len h']
theorem Znc {m:Map}:∀ {l:List AV} {vs:List Value},(∀ x ∈ l,AV.one x=true)->denL m l=some vs->∀ v ∈ vs,v.oneCell'=true
 | [],vs,_,h=>by simp [denL] at h;subst h;simp
 | x :: l,vs,h1,h=>by
  simp only [denL,Option.bind_eq_some_iff,Option.map_eq_some_iff] at h
  obtain ⟨v,hv,vs',hvs,rfl⟩:=h
  intro u hu
  rcases List.mem_cons.1 hu with rfl | hu
  ·exact Zpg (h1 x (by simp)) hv
  ·exact Znc (fun y hy=>h1 y (by simp [hy])) hvs u hu
theorem aStoreS_ok {P:Program} {st st':St} {t:TypeId} {x y:AV} {lg:Log} {A:Nat->Prop} {m:Map} {w:World} {u q:Value} (h:Zl5 P st t x y=some (st',lg)) (hA:lg.Fits W0 A)
  (hR:Rel W0 A m st.heap.get w) (hF:Fresh A m st.next) (hx:x.den m=some u) (hy:y.den m=some q):∃ m' w',(Instr.storeAt t u q).run P w=.ok () w'/\Ok W0 A m st w m' st' lg w':=by
 unfold Zl5 at h
 split at h
 ·rename_i r v i sz o
  simp only [Option.bind_eq_some_iff] at h
  obtain ⟨⟨e,el,esz⟩,hl,es,hes,h⟩:=h
  simp only [cond_eq_ite,Bool.and_eq_true,Nat.beq_eq,Nat.ble_eq,beq_iff_eq,List.all_eq_true] at h
  split at h
  ·rename_i hc
   obtain ⟨⟨⟨hs,rfl⟩,hle⟩,hone⟩:=hc
   simp only [Option.map_eq_some_iff] at h
   obtain ⟨s1,hp,he⟩:=h
   cases he
   have ha:A r:=(or_A hA).1.1 r (by simp [Log.turns,Zah])
   obtain ⟨n,cs,kd,z,f1,f2,f3,f4,f5⟩:=(or_A hA).2.2 _ (List.mem_singleton.2 rfl)
   simp only [AV.den,Option.bind_eq_some_iff,Option.map_eq_some_iff] at hx
   obtain ⟨b,hb,i',hi',n',hn',rfl⟩:=hx
   rw [hR.sv,ev_sv f2] at hi'
   cases hi'
   simp only [natOf,Option.some.injEq] at hn'
   subst hn'
   have hc:=Zfp hy
   obtain ⟨ps,p1,p2⟩:=Zle hR.sv _ hes hc
   have hpl:=Zfm p2
   have hvl:q.cells.toList.length=es.length:=by rw [Zae hc,sxL_len hes]
   obtain ⟨n2,cs2,c,fz,g1,g2,g3,g4,g5,g6,g7,g8,g9⟩:=Zba hl hR ha hb
   rw [f1] at g1
   cases g1
   have hoff:z.toNat * esz+o+q.cells.toList.length<=n * esz:=by rw [hvl];omega
   have he':W0.ev (.rop (.upd esz o) (e :: i :: es))=some (.row n (putPV cs (z.toNat * esz+o) (q.cells.toList.map PV.v))):=by
    have f1':e.ev W0.s W0.F=some (.row n cs):=f1
    have f2':i.ev W0.s W0.F=some (.v (.int kd z)):=f2
    have hlen:ps.length=es.length:=by rw [hpl,List.length_map,hvl]
    simp only [Base.ev,SX.ev,evs,f1',f2',p1,Option.bind_some,Option.map_some,ropPV,hpl,List.length_map,hvl,f3,f4,hle,decide_true,Bool.and_self,cond_true]
   obtain ⟨w',m',hrun,_,_,hok⟩:=storeS (P:=P) hl hR hF ha hb hp f1 he' hoff (Znc hone hc)
   refine ⟨m',w',?_,hok.more (fun r hr=>Zat hr)⟩
   have:q.cells.size=es.length:=by simpa using hvl
   simp [Instr.storeAt,Instr.sureAddr,storeVar,Zad hs,this,hrun]
  ·cases h
 ·cases h

def aIdxW (P:Program) (t:TypeId) (x ix:AV):Option (AV × Log):=match x with
 | .sliceS r v lo len sz=>match P.underlying t with
  | some (.slice e)=>ix.sx.bind fun ie=>cond (isC0 lo && (Zbn P e == some sz)) (some (.ptrS r v ie sz 0,Log.says (.rng ie len))) none
  | _=>none
 | _=>none
theorem aIdxW_ok {P:Program} {t:TypeId} {x ix y:AV} {lg:Log} {A:Nat->Prop} {m:Map} {g:Heap} {u iu:Value} {w:World} (h:aIdxW P t x ix=some (y,lg)) (hA:lg.Fits W0 A) (hR:Rel W0 A m g w) (hx:x.den m=some u) (hi:ix.den m=some iu) :
  ∃ v,y.den m=some v/\(Instr.indexAt t u iu).run P w=.ok v w:=by
 unfold aIdxW at h
 split at h
 ·rename_i r v lo len sz
  split at h
  ·rename_i e hu
   simp only [Option.bind_eq_some_iff] at h
   obtain ⟨ie,hie,h⟩:=h
   simp only [cond_eq_ite,Bool.and_eq_true,beq_iff_eq] at h
   split at h
   ·rename_i hc
    cases h
    obtain ⟨k,z,n,f1,f2,f3,f4⟩:=hA.2 _ (List.mem_singleton.2 rfl)
    obtain ⟨b,l,n',hb,h1,h2,rfl⟩:=Zas hR.sv hx
    rw [Zem hc.1] at h1
    rw [f2] at h2
    simp only [Option.some.injEq,PV.v.injEq,Value.int.injEq,true_and] at h1 h2
    have hl0:l=0:=by omega
    subst hl0
    subst h2
    have hiv:=sx_ok hR.sv ix hie hi
    rw [f1] at hiv
    simp only [Option.some.injEq,PV.v.injEq] at hiv
    subst hiv
    refine ⟨.pointer (some ⟨b.1,z.toNat * sz+0,none⟩),by simp [AV.den,hb,hR.sv,ev_sv f1,natOf],?_⟩
    simp [Instr.indexAt,asIntOf,run_underlying hu,f3,f4,Zad hc.2,Zam]
   ·cases h
  ·cases h
 ·cases h
theorem ev_add {x y:SX} {a b:Nat} (h1:W0.ev x=some (.v (.int .i64 (a:Int)))) (h2:W0.ev y=some (.v (.int .i64 (b:Int)))) (ha:a<=4294967296) (hb:b<=4294967296):W0.ev (.bin .add x y)=some (.v (.int .i64 ((a+b:Nat):Int))):=by
 have h1':x.ev W0.s W0.F=some (.v (.int .i64 (a:Int))):=h1
 have h2':y.ev W0.s W0.F=some (.v (.int .i64 (b:Int))):=h2
 have:IntKind.i64.wrap ((a:Int)+(b:Int))=((a+b:Nat):Int):=by rw [IntKind.wrap_i64];omega
 simp only [Base.ev,SX.ev,h1',h2',Option.bind_some,binPV,decide_true,cond_true,this]
def litOf:SX->Option Nat
 | .con (.int .i64 (.ofNat a))=>cond (Nat.ble a 65536) (some a) none
 | .rop .min2 [.con (.int .i64 (.ofNat a)),.con (.int .i64 (.ofNat b))]=>cond (Nat.beq a b && Nat.ble a 65536) (some a) none
 | _=>none
theorem Zik {x:SX} {a:Nat} (h:litOf x=some a):W0.ev x=some (.v (.int .i64 (a:Int))):=by
 unfold litOf at h
 split at h
 ·rename_i a'
  cases hc:Nat.ble a' 65536 with
  | false=>rw [hc] at h;cases h
  | true=>rw [hc] at h;cases h;rfl
 ·rename_i a' b'
  cases hc:(Nat.beq a' b' && Nat.ble a' 65536) with
  | false=>rw [hc] at h;cases h
  | true =>
   rw [hc] at h
   cases h
   simp only [Bool.and_eq_true,Nat.beq_eq] at hc
   obtain ⟨rfl,_⟩:=hc
   simp [Base.ev,SX.ev,evs,ropPV]
 ·cases h
def addC (x y:SX):SX:=match litOf x,litOf y with
 | some a,some b=>.con (.int .i64 (.ofNat (a+b)))
 | _,_=>.bin .add x y
theorem ev_addC {x y:SX} {a b:Nat} (h1:W0.ev x=some (.v (.int .i64 (a:Int)))) (h2:W0.ev y=some (.v (.int .i64 (b:Int)))) (ha:a<=4294967296) (hb:b<=4294967296):W0.ev (addC x y)=some (.v (.int .i64 ((a+b:Nat):Int))):=by
 unfold addC
 split
 ·rename_i a' b' e1 e2
  have f1:=Zik (W0:=W0) e1
  have f2:=Zik (W0:=W0) e2
  rw [h1] at f1
  rw [h2] at f2
  simp only [Option.some.injEq,PV.v.injEq,Value.int.injEq,true_and,Int.ofNat_inj] at f1 f2
  subst f1
  subst f2
  rfl
 ·exact ev_add h1 h2 ha hb
def aIdxP (P:Program) (t:TypeId) (x ix:AV):Option (AV × Log):=match x with
 | .sliceS r v lo len sz=>match P.underlying t with
  | some (.slice e)=>ix.sx.bind fun ie=>cond (Zbn P e == some sz) (some (.ptrS r v (addC lo ie) sz 0,(Log.says (.rng ie len)).or ((Log.says (.upto lo 4294967296)).or (Log.says (.upto ie 4294967296))))) none
  | _=>none
 | _=>none
theorem aIdxP_ok {P:Program} {t:TypeId} {x ix y:AV} {lg:Log} {A:Nat->Prop} {m:Map} {g:Heap} {u iu:Value} {w:World} (h:aIdxP P t x ix=some (y,lg)) (hA:lg.Fits W0 A) (hR:Rel W0 A m g w) (hx:x.den m=some u) (hi:ix.den m=some iu) :
  ∃ v,y.den m=some v/\(Instr.indexAt t u iu).run P w=.ok v w:=by
 unfold aIdxP at h
 split at h
 ·rename_i r v lo len sz
  split at h
  ·rename_i e hu
   simp only [Option.bind_eq_some_iff] at h
   obtain ⟨ie,hie,h⟩:=h
   simp only [cond_eq_ite,beq_iff_eq] at h
   split at h
   ·rename_i hc
    cases h
    obtain ⟨k,z,n,f1,f2,f3,f4⟩:=(or_A hA).1.2 _ (List.mem_singleton.2 rfl)
    obtain ⟨zl,f5,f6⟩:=(or_A (or_A hA).2).1.2 _ (List.mem_singleton.2 rfl)
    obtain ⟨zi,f7,f8⟩:=(or_A (or_A hA).2).2.2 _ (List.mem_singleton.2 rfl)
    obtain ⟨b,l,n',hb,h1,h2,rfl⟩:=Zas hR.sv hx
    rw [h1] at f5
    rw [f2] at h2
    rw [f1] at f7
    simp only [Option.some.injEq,PV.v.injEq,Value.int.injEq,true_and,Int.ofNat_inj] at f5 h2 f7
    obtain ⟨rfl,rfl⟩:=f7
    subst f5
    subst h2
    have hiv:=sx_ok hR.sv ix hie hi
    rw [f1] at hiv
    simp only [Option.some.injEq,PV.v.injEq] at hiv
    subst hiv
    have hadd:=ev_addC h1 f1 f6 f8
    refine ⟨.pointer (some ⟨b.1,(l+zi) * sz+0,none⟩),by simp [AV.den,hb,hR.sv,ev_sv hadd,natOf,show ((l:Int)+(zi:Int)).toNat=l+zi by omega],?_⟩
    simp [Instr.indexAt,asIntOf,run_underlying hu,f3,f4,Zad hc,Zam,Nat.add_mul]
    try omega
   ·cases h
  ·cases h
 ·cases h
def aIdxS (P:Program) (t:TypeId) (x ix:AV):Option (AV × Log):=match aIdxW P t x ix with
 | some r=>some r
 | none=>aIdxP P t x ix
theorem aIdxS_ok {P:Program} {t:TypeId} {x ix y:AV} {lg:Log} {A:Nat->Prop} {m:Map} {g:Heap} {u iu:Value} {w:World} (h:aIdxS P t x ix=some (y,lg)) (hA:lg.Fits W0 A) (hR:Rel W0 A m g w) (hx:x.den m=some u) (hi:ix.den m=some iu) :
  ∃ v,y.den m=some v/\(Instr.indexAt t u iu).run P w=.ok v w:=by
 unfold aIdxS at h
 split at h
 ·rename_i r hr
  cases h
  exact aIdxW_ok hr hA hR hx hi
 ·exact aIdxP_ok h hA hR hx hi
end Go.Proofs.Ytgdegpifjljnoaa.eng
end

section
/- The engine: rows of the call's own of unknown length: made, appended to, copied, cut; texts. -/
namespace Go.Proofs.Ytgdegpifjljnoaa.eng
open Go Go.RowKit
variable {W0 : Base}

theorem flat_get {α:Type} (l:List α) (h0:0 < l.length):∀ (n i:Nat),(List.replicate n l).flatten[i]?=if i < n * l.length then l[i % l.length]? else none
 | 0,i=>by simp
 | n+1,i=>by
  rw [List.replicate_succ,List.flatten_cons,List.getElem?_append]
  by_cases h:i < l.length
  ·rw [if_pos h,if_pos (by rw [Nat.add_mul];omega),Nat.mod_eq_of_lt h]
  ·rw [if_neg h,flat_get l h0 n]
   have e:i % l.length=(i - l.length) % l.length:=Nat.mod_eq_sub_mod (by omega)
   rw [e]
   by_cases h2:i - l.length < n * l.length
   ·rw [if_pos h2,if_pos (by rw [Nat.add_mul];omega)]
   ·rw [if_neg h2,if_neg (by rw [Nat.add_mul];omega)]
theorem flat_len {α:Type} (l:List α) (n:Nat):(List.replicate n l).flatten.length=n * l.length:=by
 induction n with
 | zero=>simp
 | succ n ih=>rw [List.replicate_succ,List.flatten_cons,List.length_append,ih,Nat.add_mul];omega
theorem flat_map {α β:Type} (f:α->β) (l:List α) (n:Nat):(List.replicate n (l.map f)).flatten=(List.replicate n l).flatten.map f:=by
 induction n with
 | zero=>rfl
 | succ n ih=>simp only [List.replicate_succ,List.flatten_cons,List.map_append,ih]
theorem modCells (z:Array Value) (n:Nat) (h0:0 < z.size):((Array.range (n * z.size)).map fun i=>z[i % z.size]!).toList=(List.replicate n z.toList).flatten:=by
 apply List.ext_getElem?
 intro i
 rw [flat_get _ (by simpa using h0)]
 simp only [Array.length_toList,Array.toList_map,List.getElem?_map,Array.toList_range]
 by_cases h:i < n * z.size
 ·have hm:i % z.size < z.size:=Nat.mod_lt _ h0
  rw [List.getElem?_range h,if_pos h]
  simp [hm]
 ·rw [if_neg h,List.getElem?_eq_none (by simp;omega)]
  rfl

theorem Zdo {a:Nat} (h:a<=9223372036854775807):a<=maxLen:=by
 have:(9223372036854775807:Nat)<=maxLen:=by unfold maxLen;simp [IntKind.max]
 omega
def zOk1 (i:TypeInfo) (z:Value):Bool:=Nat.blt 0 i.size && Nat.ble i.bytes 16384 && Nat.beq z.cells.size i.size && z.cells.toList.all oneV
theorem zOk1_ok {i:TypeInfo} {z:Value} (h:zOk1 i z=true):0 < i.size/\i.bytes<=16384/\z.cells.size=i.size/\∀ u ∈ z.cells.toList,u.oneCell'=true:=by
 simp only [zOk1,Bool.and_eq_true,Nat.blt_eq,Nat.ble_eq,Nat.beq_eq,List.all_eq_true] at h
 obtain ⟨⟨⟨h1,h2⟩,h3⟩,h4⟩:=h
 exact ⟨h1,h2,h3,fun u hu=>oneV_ok (h4 u hu)⟩
theorem Zpl {k:SX} {z:List Value} {n:Nat} (h:W0.ev k=some (.v (.int .i64 (n:Int)))):W0.ev (.rop (.rep z) [k])=some (.row n ((List.replicate n z).flatten.map PV.v)):=by
 have h':k.ev W0.s W0.F=some (.v (.int .i64 (n:Int))):=h
 simp [Base.ev,SX.ev,evs,h',ropPV,<- flat_map]
theorem flat_one {z:List Value} {n:Nat} (h:∀ u ∈ z,u.oneCell'=true):∀ u ∈ (List.replicate n z).flatten,u.oneCell'=true:=fun u hu=>by
 rw [List.mem_flatten] at hu
 obtain ⟨l,hl,hu⟩:=hu
 rw [List.mem_replicate] at hl
 rw [hl.2] at hu
 exact h u hu
theorem Zeh {w:World} {e:SX} {el:TypeId} {sz v:Nat} {b:Nat × Nat} {n:Nat} {vs:List Value} {c:Array Value} {fz:Nat × Nat} (h1:W0.ev e=some (.row n (vs.map PV.v))) (h2:w.heap[b.1]?=some (.cells c el fz)) (h3:∀ i,i < c.size->¬ (fz.1<=i/\i < fz.2)) (h4:0 < sz) (h5:vs.length=n * sz)
  (h6:n<=b.2) (h7:c.size=b.2 * sz) (h8:b.2<=maxLen) (h9:∀ (i:Nat) (x:Value),vs[i]?=some x->c[i]?=some x) (h10:∀ x ∈ vs,x.oneCell'=true):RowAt W0 w (Zai e el sz v) b e:=by
 refine ⟨n,_,c,fz,h1,h2,h3,h4,(List.length_map _).trans h5,h6,h7,h8,fun i p hi=>?_⟩
 rw [List.getElem?_map,Option.map_eq_some_iff] at hi
 obtain ⟨x,hx,rfl⟩:=hi
 exact ⟨x,rfl,h10 x (List.mem_of_getElem? hx),h9 i x hx⟩
theorem row_vals {cs:List PV} {c:Array Value} (h:∀ (i:Nat) (p:PV),cs[i]?=some p->∃ v:Value,p=PV.v v/\v.oneCell'=true/\c[i]?=some v):∃ vs:List Value,cs=vs.map PV.v/\(∀ x ∈ vs,x.oneCell'=true)/\∀ (i:Nat) (x:Value),vs[i]?=some x->c[i]?=some x:=by
 refine ⟨cs.map fun p=>(PV.plain p).getD undef,?_,?_,?_⟩
 ·apply List.ext_getElem?
  intro i
  rw [List.getElem?_map,List.getElem?_map]
  cases hi:cs[i]? with
  | none=>rfl
  | some p =>
   obtain ⟨v,rfl,_⟩:=h i p hi
   rfl
 ·intro x hx
  obtain ⟨i,hi⟩:=List.getElem?_of_mem hx
  rw [List.getElem?_map,Option.map_eq_some_iff] at hi
  obtain ⟨p,hp,rfl⟩:=hi
  obtain ⟨v,rfl,h2,_⟩:=h i p hp
  exact h2
 ·intro i x hi
  rw [List.getElem?_map,Option.map_eq_some_iff] at hi
  obtain ⟨p,hp,rfl⟩:=hi
  obtain ⟨v,rfl,_,h3⟩:=h i p hp
  exact h3

def lenX:SX->SX
 | .sidx p q=>.conv .i64 (.sidx p q)
 | e=>e
theorem lenX_ok {e:SX} {v:Value} {n:Nat} (h:W0.ev e=some (.v v)) (hn:W0.ev (lenX e)=some (.v (.int .i64 (n:Int)))):∃ k,v=.int k (n:Int):=by
 unfold lenX at hn
 split at hn
 ·rename_i p q
  have h1:(SX.sidx p q).ev W0.s W0.F=some (.v v):=h
  have h2:=h1
  simp only [Base.ev,SX.ev] at hn h2
  simp only [SX.ev] at h1
  rw [h1] at hn
  simp only [Option.bind_some,Zaj] at hn
  simp only [Option.bind_eq_some_iff] at h2
  obtain ⟨a,_,b,_,h3⟩:=h2
  unfold Zoh at h3
  split at h3
  ·simp only [Option.map_eq_some_iff] at h3
   obtain ⟨x,_,hx⟩:=h3
   simp only [PV.v.injEq] at hx
   subst hx
   simp only [Option.some.injEq,PV.v.injEq,Value.int.injEq,true_and] at hn
   have hlt:=x.toNat_lt
   have hw:IntKind.i64.wrap (x.toNat:Int)=(x.toNat:Int):=by rw [IntKind.wrap_i64];omega
   rw [hw] at hn
   exact ⟨.u8,by rw [hn]⟩
  ·cases h3
 ·rw [h] at hn
  simp only [Option.some.injEq,PV.v.injEq] at hn
  exact ⟨.i64,hn⟩
def Zoq (P:Program) (st:St) (t:TypeId) (l c:AV):Option (AV × St × Log):=match P.underlying t,l.sx,c.sx with
 | some (.slice e),some el,some ec=>(P.info? e).bind fun i=>i.zero.bind fun z=>cond (zOk1 i z)
   ((st.allocS (.rop (.rep z.cells.toList) [lenX el]) e i.size).map fun (y,st',lg)=>(y,st',lg.or ((Log.says (.same (lenX el) (lenX ec))).or (Log.says (.upto (lenX el) 4294967296))))) none
 | _,_,_=>none
theorem aMakeS_ok {P:Program} {st st':St} {t:TypeId} {l c y:AV} {lg:Log} {A:Nat->Prop} {m:Map} {w:World} {vl vc:Value} (h:Zoq P st t l c=some (y,st',lg)) (hA:lg.Fits W0 A)
  (hR:Rel W0 A m st.heap.get w) (hF:Fresh A m st.next) (hl:l.den m=some vl) (hc:c.den m=some vc):∃ m' w' v,y.den m'=some v/\(Instr.makeSlice t vl vc).run P w=.ok v w'/\Ok W0 A m st w m' st' lg w':=by
 unfold Zoq at h
 split at h
 ·rename_i e el ec hu hls hcs
  simp only [Option.bind_eq_some_iff] at h
  obtain ⟨i,hi,z,hz,h⟩:=h
  cases hzo:zOk1 i z with
  | false=>simp [hzo] at h
  | true =>
   simp only [hzo,cond_true,Option.map_eq_some_iff] at h
   obtain ⟨⟨y1,s1,l1⟩,hal,he⟩:=h
   cases he
   obtain ⟨z1,z2,z3,z4⟩:=zOk1_ok hzo
   obtain ⟨n,f1,f2⟩:=(or_A (or_A hA).2).1.2 _ (List.mem_singleton.2 rfl)
   obtain ⟨n',f3,f4⟩:=(or_A (or_A hA).2).2.2 _ (List.mem_singleton.2 rfl)
   rw [f1] at f3
   simp only [Option.some.injEq,PV.v.injEq,Value.int.injEq,true_and,Int.ofNat_inj] at f3
   subst f3
   have hvl:=sx_ok hR.sv l hls hl
   have hvc:=sx_ok hR.sv c hcs hc
   obtain ⟨kl,rfl⟩:=lenX_ok hvl f1
   obtain ⟨kc,rfl⟩:=lenX_ok hvc f2
   have hb:(i.bytes:Int) * (n:Int)<=281474976710656:=by
    have:=Nat.mul_le_mul z2 f4
    rw [<- Int.natCast_mul]
    omega
   have hrun:=run_make (P:=P) w t e i z hu hi hz kl kc n n (by omega) (Int.le_refl _) hb (by omega)
   have hcells:(madeCells z.cells (n * i.size)).toList=(List.replicate n z.cells.toList).flatten:=by
    rw [<- z3];exact modCells z.cells n (by omega)
   have hwk:∀ k,k < w.heap.size->(w.alloc (.cells (madeCells z.cells (n * i.size)) e)).heap[k]?=w.heap[k]?:=fun k hk=>by
    show (w.heap.push _)[k]?=_
    rw [Array.getElem?_push,if_neg (by omega)]
   have hwn:(w.alloc (.cells (madeCells z.cells (n * i.size)) e)).heap[w.heap.size]?=some (.cells (madeCells z.cells (n * i.size)) e):=by
    show (w.heap.push _)[w.heap.size]?=_
    simp
   have hrow:RowAt W0 (w.alloc (.cells (madeCells z.cells (n * i.size)) e)) (Zai (.rop (.rep z.cells.toList) [lenX el]) e i.size 0) (w.heap.size,n) (.rop (.rep z.cells.toList) [lenX el]) :=
    Zeh (fz:=(0,0)) (Zpl f1) hwn (fun _ _=>by omega) z1 (by rw [flat_len];simp [z3]) (Nat.le_refl _) (size_madeCells _ _) (Zdo (by omega)) (fun j x hx=>by rw [<- hcells] at hx;simpa using hx) (flat_one z4)
   obtain ⟨g1,g2⟩:=Zjy (tot:=n) (w':=w.alloc (.cells (madeCells z.cells (n * i.size)) e)) hal (or_A hA).1 hR hF rfl rfl rfl (by show w.heap.size<=(w.heap.push _).size;simp) hwk (Zpl f1) hrow
   refine ⟨_,_,_,g1,?_,g2.more (fun r hr=>Zat hr)⟩
   simpa using hrun
 ·cases h

def Zhj (e len:SX):Log:=Log.says (.same len (.len e))
def srcS (P:Program) (st:St) (i:TypeInfo) (tx:TypeId) (x:AV):Option (SX × Log) :=
 match P.underlying tx with
 | some .string=>cond (Nat.beq i.size 1) (x.sx.map fun s=>(.rop .ofStr [s],Log.says (.ok (.slen s)))) none
 | some (.slice _)=>match x with
  | .sliceS r v lo len sz=>cond (isC0 lo && Nat.beq sz i.size) ((lookS st r v).bind fun (e,el,esz)=>cond (Nat.beq esz sz) (some (e,(Log.sees r).or (Zhj e len))) none) none
  | .dat r=>cond (Nat.blt 0 i.size) (((st.heap.get r).bind (·.dat)).map fun e=>(e,(Log.sees r).or (Log.says (.cells e i.size)))) none
  | x=>(aSrc st i.size x).bind fun (n,ys,l1)=>(sxL ys).map fun es=>(.lit n es,l1)
 | some (.int _)=>match x.sx,i.zero with
  | some k,some z=>cond (zOk1 i z) (some (.rop (.rep z.cells.toList) [k],Log.says (.upto k 4294967296))) none
  | _,_=>none
 | _=>none
theorem Zg8 {e:SX} {s:ByteArray} (h:W0.ev e=some (.v (.string s))):W0.ev (.rop .ofStr [e])=some (.row s.size ((byteCells s).map PV.v)):=by
 have h':e.ev W0.s W0.F=some (.v (.string s)):=h
 simp [Base.ev,SX.ev,evs,h',ropPV,byteCells,Function.comp_def]
theorem slen_str {e:SX} (h:(Fact.ok (.slen e)).holds W0):∃ s,W0.ev e=some (.v (.string s)):=by
 obtain ⟨x,hx,_⟩:=h
 simp only [Base.ev,SX.ev,Option.bind_eq_some_iff] at hx
 obtain ⟨p,hp,hx⟩:=hx
 unfold Zlf at hx
 split at hx
 ·exact ⟨_,hp⟩
 ·cases hx
theorem Zna {P:Program} {st:St} {i:TypeInfo} {tx:TypeId} {x:AV} {en:SX} {lg:Log} {A:Nat->Prop} {m:Map} {w:World} {u:Value} (h:srcS P st i tx x=some (en,lg)) (hA:lg.Fits W0 A) (hR:Rel W0 A m st.heap.get w) (hx:x.den m=some u) :
  ∃ (n:Nat) (vn:List Value),W0.ev en=some (.row n (vn.map PV.v))/\SrcA P i tx u n vn w:=by
 unfold srcS at h
 split at h
 ·rename_i hu
  simp only [cond_eq_ite,Nat.beq_eq] at h
  split at h
  ·rename_i hs
   simp only [Option.map_eq_some_iff] at h
   obtain ⟨s,hsx,h⟩:=h
   cases h
   obtain ⟨str,hstr⟩:=slen_str (hA.2 _ (List.mem_singleton.2 rfl))
   have:=sx_ok hR.sv x hsx hx
   rw [hstr] at this
   cases this
   have hsrc:=Src.ofString (P:=P) w hu str
   rw [<- hs] at hsrc
   exact ⟨str.size,byteCells str,Zg8 hstr,.inl hsrc⟩
  ·cases h
 ·rename_i e' hu
  split at h
  ·rename_i r v lo len sz
   simp only [cond_eq_ite,Bool.and_eq_true,Nat.beq_eq] at h
   split at h
   ·rename_i hc
    simp only [Option.bind_eq_some_iff] at h
    obtain ⟨⟨e,el,esz⟩,hl,h⟩:=h
    split at h
    ·rename_i hs
     cases h
     have hsz:esz=i.size:=hs.trans hc.2
     have ha:A r:=(or_A hA).1.1 r (by simp [Log.sees,Zah])
     obtain ⟨n,f1,f2⟩:=(or_A hA).2.2 _ (List.mem_singleton.2 rfl)
     obtain ⟨b,l,n',hb,h1,h2,rfl⟩:=Zas hR.sv hx
     rw [Zem hc.1] at h1
     rw [f1] at h2
     simp only [Option.some.injEq,PV.v.injEq,Value.int.injEq,true_and,Int.ofNat_inj] at h1 h2
     have hl0:l=0:=by omega
     subst hl0
     subst h2
     obtain ⟨k,cs,c,fz,g1,g2,g3,g4,g5,g6,g7,g8,g9⟩:=Zba hl hR ha hb
     rw [Zbx g1] at f2
     simp only [Option.some.injEq,PV.v.injEq,Value.int.injEq,true_and,Int.ofNat_inj] at f2
     subst f2
     obtain ⟨vs,rfl,v1,v2⟩:=row_vals g9
     refine ⟨k,vs,g1,.inl ?_⟩
     refine Src.ofSlice w hu _ k _ vs (by rw [<- hsz];simpa using g5) (fun j x hj=>?_) v1
     rw [Zam]
     simp only [World.cell?,g2,Nat.zero_mul,Nat.zero_add]
     exact v2 j x hj
    ·cases h
   ·cases h
  ·rename_i r
   simp only [cond_eq_ite,Nat.blt_eq] at h
   split at h
   ·rename_i hs0
    simp only [Option.map_eq_some_iff] at h
    obtain ⟨e,hr,h⟩:=h
    cases h
    obtain ⟨n,vs,f1,f2,f3,f4⟩:=(or_A hA).2.2 _ (List.mem_singleton.2 rfl)
    obtain ⟨oo,u',fp,p,_,_,hm,hou,_,_,hp,hrd⟩:=thing hR hr ((or_A hA).1.1 r (by simp [Log.sees,Zah]))
    simp only [AV.den,hm,Option.bind_some,hou,cond_true,Option.some.injEq] at hx
    subst hx
    rw [hp] at f1
    cases f1
    have:=hrd w (fun _ _=>rfl)
    simp only [Reads] at this
    obtain ⟨a,cap,rfl,h1,h2,h3⟩:=this
    refine ⟨n,vs,hp,.inl ?_⟩
    rcases h3 with h3 | ⟨b,off,rfl,h3⟩
    ·have hv:vs=[]:=by simpa using h3
     subst hv
     have hn:n=0:=by
      simp only [List.length_nil] at f2
      rcases Nat.mul_eq_zero.1 f2.symm with h | h <;> omega
     subst hn
     cases a with
     | none=>exact Src.ofNil w hu cap
     | some a=>exact Src.ofSlice w hu a 0 cap [] (by simp) (fun j u hj=>by simp at hj) (by simp)
    ·refine Src.ofSlice w hu _ n cap vs f2 (fun j x hj=>?_) f4
     obtain ⟨u,hu',hru⟩:=Za8.at h3 (i:=j) (p:=.v x) (by simp [hj])
     simp only [Reads] at hru
     rw [Zam,hu',hru.1]
   ·cases h
  ·simp only [Option.bind_eq_some_iff,Option.map_eq_some_iff] at h
   obtain ⟨⟨n,ys,l1⟩,hs,es,hes,h⟩:=h
   cases h
   obtain ⟨vs,hd,hsrc⟩:=aSrc_ok (P:=P) (tx:=tx) hs (by unfold Zid;rw [hu]) hA hR hx
   obtain ⟨ps,p1,p2⟩:=Zle hR.sv ys hes hd
   refine ⟨n,vs,?_,.inl hsrc⟩
   rw [<- Zfm p2]
   simp [Base.ev,SX.ev,p1]
 ·rename_i kn hu
  split at h
  ·rename_i k z hk hz
   simp only [cond_eq_ite] at h
   split at h
   ·rename_i hzo
    cases h
    obtain ⟨z1,z2,z3,z4⟩:=zOk1_ok hzo
    obtain ⟨n,f1,f2⟩:=hA.2 _ (List.mem_singleton.2 rfl)
    have:=sx_ok hR.sv x hk hx
    rw [f1] at this
    cases this
    refine ⟨n,(List.replicate n z.cells.toList).flatten,Zpl f1,.inr ⟨⟨kn,hu⟩,⟨.i64,rfl⟩,z1,?_,by omega,z,hz,z3,z4,(modCells z.cells n (by omega)).symm⟩⟩
    have:=Nat.mul_le_mul f2 z2
    omega
   ·cases h
  ·cases h
 ·cases h

def Zft (P:Program) (st:St) (t tx:TypeId) (s x:AV):Option (AV × St × Log):=match P.underlying t,s with
 | some (.slice e),.sliceS r v lo len sz=>(P.info? e).bind fun i=>(lookS st r v).bind fun (eo,el,esz)=>cond (isC0 lo && Nat.beq sz i.size && Nat.beq esz i.size && Nat.beq el e && Zck i && Nat.blt 0 i.size && Nat.ble i.bytes 16384)
   ((srcS P st i tx x).bind fun (en,l1)=>(st.put r (Zai (.rop .cat [eo,en]) e i.size (v+1))).map fun st' =>
    (.sliceS r (v+1) c0 (.len (.rop .cat [eo,en])) i.size,st',l1.or ((Log.turns r).or ((Zhj eo len).or (Log.says (.upto (.len (.rop .cat [eo,en])) 4294967296)))))) none
 | _,_=>none
theorem ev_cat {e e2:SX} {n k:Nat} {cs ds:List PV} (h1:W0.ev e=some (.row n cs)) (h2:W0.ev e2=some (.row k ds)):W0.ev (.rop .cat [e,e2])=some (.row (n+k) (cs++ds)):=by
 have h1':e.ev W0.s W0.F=some (.row n cs):=h1
 have h2':e2.ev W0.s W0.F=some (.row k ds):=h2
 simp [Base.ev,SX.ev,evs,h1',h2',ropPV]
theorem aAppendS_ok {P:Program} {st st':St} {t tx ty:TypeId} {s x y:AV} {lg:Log} {A:Nat->Prop} {m:Map} {w:World} {q u:Value} (h:Zft P st t tx s x=some (y,st',lg))
  (hA:lg.Fits W0 A) (hR:Rel W0 A m st.heap.get w) (hF:Fresh A m st.next) (hs:s.den m=some q) (hx:x.den m=some u) :
  ∃ m' w' z,y.den m'=some z/\(Builtin.append_ #[t,tx] ty #[q,u]).run P w=.ok z w'/\Ok W0 A m st w m' st' lg w':=by
 unfold Zft at h
 split at h
 ·rename_i e r v lo len sz ht
  simp only [Option.bind_eq_some_iff] at h
  obtain ⟨i,hi,⟨eo,el,esz⟩,hl,h⟩:=h
  simp only [cond_eq_ite,Bool.and_eq_true,Nat.beq_eq,Nat.blt_eq,Nat.ble_eq] at h
  split at h
  ·rename_i hc
   obtain ⟨⟨⟨⟨⟨⟨hc0,rfl⟩,rfl⟩,rfl⟩,hzf⟩,hs0⟩,hby⟩:=hc
   simp only [Option.bind_eq_some_iff,Option.map_eq_some_iff] at h
   obtain ⟨⟨en,l1⟩,hsr,s1,hp,he⟩:=h
   cases he
   obtain ⟨z,hz,hzs⟩:=Zef hzf
   have ha:A r:=(or_A (or_A hA).2).1.1 r (by simp [Log.turns,Zah])
   obtain ⟨n,f1,f2⟩:=(or_A (or_A (or_A hA).2).2).1.2 _ (List.mem_singleton.2 rfl)
   obtain ⟨nk,f3,f4⟩:=(or_A (or_A (or_A hA).2).2).2.2 _ (List.mem_singleton.2 rfl)
   obtain ⟨k,vn,g0,hsrc⟩:=Zna hsr (or_A hA).1 hR hx
   obtain ⟨b,l,n',hb,h1,h2,rfl⟩:=Zas hR.sv hs
   rw [Zem hc0] at h1
   rw [f1] at h2
   simp only [Option.some.injEq,PV.v.injEq,Value.int.injEq,true_and,Int.ofNat_inj] at h1 h2
   have hl0:l=0:=by omega
   subst hl0
   subst h2
   obtain ⟨n2,cs,c,fz,g1,g2,g3,g4,g5,g6,g7,g8,g9⟩:=Zba hl hR ha hb
   rw [Zbx g1] at f2
   simp only [Option.some.injEq,PV.v.injEq,Value.int.injEq,true_and,Int.ofNat_inj] at f2
   subst f2
   obtain ⟨vs,rfl,v1,v2⟩:=row_vals g9
   have hcat:W0.ev (.rop .cat [eo,en])=some (.row (n2+k) ((vs++vn).map PV.v)):=by rw [List.map_append];exact ev_cat g1 g0
   have hcl:=Zbx hcat
   rw [hcl] at f3
   simp only [Option.some.injEq,PV.v.injEq,Value.int.injEq,true_and,Int.ofNat_inj] at f3
   subst f3
   have hvl:vn.length=k * i.size:=hsrc.newsLen
   simp only [List.length_map] at g5
   have hone:∀ x ∈ vs++vn,x.oneCell'=true:=fun x hx=>(List.mem_append.1 hx).elim (v1 x) (hsrc.one x)
   rw [Nat.zero_mul,Nat.sub_zero]
   have hlo:W0.ev c0=some (.v (.int .i64 ((0:Nat):Int))):=rfl
   have hn2:n2 * i.size<=c.size:=by rw [g7];exact Nat.mul_le_mul_right _ g6
   have hvsget:∀ j,j < n2 * i.size->vs[j]?=c.toList[j]?:=fun j hj=>by
    have hj':j < vs.length:=by omega
    have:=v2 j vs[j] (List.getElem?_eq_getElem hj')
    rw [List.getElem?_eq_getElem hj']
    simpa using this.symm
   by_cases hroom:n2+k<=b.2
   ·have hcap:n2 * i.size+k * i.size<=c.size:=by rw [g7,<- Nat.add_mul];exact Nat.mul_le_mul_right _ hroom
    have hst:=Zbd P b.1 (n2 * i.size) el fz vn 0 c w g2 g3 (by omega) hsrc.one
    simp only [Nat.add_zero] at hst
    have hlen:(List.take (n2 * i.size) c.toList++vn++List.drop (n2 * i.size+vn.length) c.toList).length=c.size:=by simp;omega
    obtain ⟨q1,q2⟩:=Zoi (b':=b) hR hF hl ha hb hp (.inr rfl) (w':=w.setRow b.1 (List.take (n2 * i.size) c.toList++vn++List.drop (n2 * i.size+vn.length) c.toList).toArray) rfl rfl rfl (by simp) (fun k _ hk=>setRow_other w b.1 k _ hk) (.inl rfl)
     (Zeh hcat (setRow_heap w b.1 c _ el fz g2) (fun i hi=>g3 i (by simp at hi;omega)) hs0 (by rw [List.length_append,hvl,g5,Nat.add_mul]) hroom (by simp only [List.size_toArray,hlen];exact g7) g8 (fun j x hj=>by
      rw [List.getElem?_toArray,putL_get (by simp;omega)]
      rw [List.getElem?_append] at hj
      by_cases hj1:j < n2 * i.size
      ·rw [if_pos hj1]
       rw [if_pos (by omega)] at hj
       rw [<- hvsget j hj1]
       exact hj
      ·rw [if_neg hj1]
       rw [if_neg (by omega)] at hj
       have:j - vs.length < vn.length:=(List.getElem?_eq_some_iff.1 hj).1
       rw [if_pos (by omega),<- g5]
       exact hj) hone)
    refine ⟨_,_,_,Zgb q2.step.rel.sv q1 hlo hcl,?_,q2.more (fun r hr=>Za2 (Zat hr))⟩
    rw [Nat.zero_mul,Nat.sub_zero]
    exact Zc8 P t tx ty el i ht hi ⟨b.1,0,none⟩ n2 b.2 k u vn w _ hsrc hroom (by rw [Zam];simpa using hst)
   ·have hlt:b.2 < n2+k:=by omega
    have hfit:Builtin.nextslicecap (n2+k) b.2 * i.bytes<=281474976710656:=by
     have e1:=Zdl _ _ hlt
     have:=Nat.mul_le_mul (Nat.le_trans e1 (show 2 * (n2+k)+768<=8589935360 by omega)) hby
     omega
    have hold:(Builtin.firstCells i.size n2 (.slice (some ⟨b.1,0,none⟩) n2 b.2)).run P w.drew=.ok vs.toArray w.drew:=by
     refine run_firstCells_some w.drew i.size n2 _ _ _ vs g5 (fun j x hj=>?_)
     rw [Zam]
     have e:w.drew.heap[b.1]?=some (.cells c el fz):=g2
     simp only [World.cell?,e,Nat.zero_add]
     exact v2 j x hj
    have hrun:=Zce (P:=P) w t tx ty el i z ht hi hz (some ⟨b.1,0,none⟩) n2 b.2 vs hold u k vn hsrc hlt (by omega) hfit
    obtain ⟨w1,w2,w3,w4,w5,w6⟩:=Zb6 w (.cells ((vs++vn).toArray++Builtin.zeroCells z.cells (grownCap w (n2+k) b.2 el - (n2+k))) el)
    have e2:=Zb9 w (n2+k) b.2 el
    obtain ⟨q1,q2⟩:=Zoi (b':=(w.heap.size,grownCap w (n2+k) b.2 el)) hR hF hl ha hb hp (.inr rfl) w1 w2 w3 w4 (fun k hk _=>w5 k hk) (.inr rfl)
     (Zeh (fz:=(0,0)) hcat w6 (fun i _=>by omega) hs0 (by rw [List.length_append,hvl,g5,Nat.add_mul]) e2 (by
      simp only [Array.size_append,List.size_toArray,List.length_append,hvl,g5,Zcl,hzs,<- Nat.add_mul]
      congr 1
      omega) (Zdo (grownCap_le_maxLen w (n2+k) b.2 el (by unfold maxLen;simp [IntKind.max];omega))) (fun j x hj=>by
      have:j < (vs++vn).length:=(List.getElem?_eq_some_iff.1 hj).1
      rw [Array.getElem?_append_left (by simpa using this)]
      simpa using hj) hone)
    refine ⟨_,_,_,Zgb q2.step.rel.sv q1 hlo hcl,?_,q2.more (fun r hr=>Za2 (Zat hr))⟩
    rw [Nat.zero_mul,Nat.sub_zero]
    exact hrun
  ·cases h
 ·cases h

def symOf (st:St):AV->Option (AV × St × Log)
 | .slice r v lo sz len cap opn=>(getC st r).bind fun o=>match o.vers with
  | (v',n) :: _=>(sxL o.cells).bind fun es=>cond (Nat.beq v v' && Nat.beq lo 0 && Nat.blt 0 sz && Nat.beq n (len * sz) && Nat.beq n o.cells.length && !o.ro && !o.lent && o.sym.isNone && o.cells.all AV.one && Nat.ble len 4294967296 && (o.opn == opn) && cond opn (Nat.beq o.esz sz && Nat.beq cap 0) (Nat.beq cap len))
    ((st.put r (Zai (.lit len es) o.elem sz (v+1))).map fun st'=>(.sliceS r (v+1) c0 (.len (.lit len es)) sz,st',Log.turns r)) none
  | []=>none
 | _=>none
theorem Zif {A:Nat->Prop} {m:Map} {st st':St} {w:World} {x y:AV} {lg:Log} {q:Value} (h:symOf st x=some (y,st',lg)) (hA:lg.Fits W0 A) (hR:Rel W0 A m st.heap.get w) (hF:Fresh A m st.next) (hx:x.den m=some q):∃ m',y.den m'=some q/\Ok W0 A m st w m' st' lg w:=by
 unfold symOf at h
 split at h
 ·rename_i r v lo sz len cap opn
  simp only [Option.bind_eq_some_iff] at h
  obtain ⟨o,ho,h⟩:=h
  obtain ⟨ho,hmp⟩:=Zjp ho
  split at h
  ·rename_i v' n rest hvers
   simp only [Option.bind_eq_some_iff] at h
   obtain ⟨es,hes,h⟩:=h
   cases hc:(Nat.beq v v' && Nat.beq lo 0 && Nat.blt 0 sz && Nat.beq n (len * sz) && Nat.beq n o.cells.length && !o.ro && !o.lent && o.sym.isNone && o.cells.all AV.one && Nat.ble len 4294967296 && (o.opn == opn) && cond opn (Nat.beq o.esz sz && Nat.beq cap 0) (Nat.beq cap len)) with
   | false=>simp [hc] at h
   | true =>
    simp only [hc,cond_true,Option.map_eq_some_iff] at h
    obtain ⟨s1,hp,he⟩:=h
    cases he
    simp only [Bool.and_eq_true,Nat.beq_eq,Nat.blt_eq,Nat.ble_eq,Bool.not_eq_true',List.all_eq_true,beq_iff_eq] at hc
    obtain ⟨⟨⟨⟨⟨⟨⟨⟨⟨⟨⟨rfl,rfl⟩,hs0⟩,hn⟩,hnl⟩,hro⟩,hlt0⟩,hsy⟩,hone⟩,hlen⟩,rfl⟩,hco⟩:=hc
    have ha:A r:=hA.1 r (by simp [Log.turns,Zah])
    simp only [AV.den,Option.map_eq_some_iff] at hx
    obtain ⟨b,hb,rfl⟩:=hx
    obtain ⟨b',hb',hB⟩:=hR.blkC r o ha ho hmp v n (by rw [hvers];simp)
    rw [hb] at hb';cases hb'
    have hB':=hB
    obtain ⟨c,fz,hcc,hfz,hn1,hn2,hcell,hsize⟩:=hB'
    obtain ⟨l,hd,hll,_,hlc⟩:=hB.cells (P:=(default:Program)) (off:=0) (k:=n) (by omega)
    have hcl:Zaw o 0 n=o.cells:=by simp [Zaw,hnl]
    rw [hcl] at hd
    obtain ⟨ps,p1,p2⟩:=Zle hR.sv _ hes hd
    have hps:=Zfm p2
    have hev:W0.ev (.lit len es)=some (.row len (l.map PV.v)):=by
     rw [<- hps];simp [Base.ev,SX.ev,p1]
    let cp:Nat:=cond o.opn (b.2 - cap) cap
    have hcp:c.size=cp * sz/\len<=cp/\cp<=maxLen:=by
     cases hop:o.opn with
     | true =>
      simp only [hop,cond_true,Bool.and_eq_true,Nat.beq_eq] at hco hsize
      obtain ⟨h1,rfl⟩:=hco
      simp only [cp,hop,cond_true,Nat.sub_zero]
      rw [h1] at hsize
      refine ⟨hsize.1,?_,Zdo hsize.2⟩
      have:len * sz<=b.2 * sz:=by omega
      exact Nat.le_of_mul_le_mul_right this hs0
     | false =>
      simp only [hop,cond_false,Nat.beq_eq] at hco hsize
      subst hco
      simp only [cp,hop,cond_false]
      exact ⟨by omega,Nat.le_refl _,Zdo (by omega)⟩
    have hrow:RowAt W0 w (Zai (.lit len es) o.elem sz (v+1)) (b.1,cp) (.lit len es):=Zeh hev hcc hfz hs0 (by omega) hcp.2.1 hcp.1 hcp.2.2 (fun i x hi=>by
     have:=hlc i x hi
     simp only [World.cell?,hcc,Nat.zero_add] at this
     exact this) (Znc hone hd)
    obtain ⟨hput,hnext⟩:=put_ok hp
    have htop:∀ k,v < k->m r k=none:=fun k hk=>hR.top r o v n rest ha ho hvers k hk
    have hle:m.Le (m.new2 r (v+1) (b.1,cp)):=Map.new2_le (htop _ (Nat.lt_succ_self v))
    have hmr:(m.new2 r (v+1) (b.1,cp)) r (v+1)=some (b.1,cp):=by simp [Map.new2]
    refine ⟨m.new2 r (v+1) (b.1,cp),?_,?_,?_⟩
    ·have:=Zgb (W0:=W0) (m:=m.new2 r (v+1) (b.1,cp)) (lo:=c0) (len:=.len (.lit len es)) (l:=0) (sz:=sz) hR.sv hmr rfl (Zbx hev)
     rw [this]
     simp [cp]
    ·rw [hput]
     refine Step.more (T1:=fun k=>k=r) (Step.put hR ha hle (fun k hk v1=>by simp [Map.new2,hk]) rfl rfl (fun o2 _ _ _ ho2 _ _=>by rw [ho] at ho2;cases ho2;exact hro) rfl ?_ (fun o2 _ _ _ ho2 _ _=>by rw [ho] at ho2;cases ho2;exact hlt0.symm) (fun hl=>by cases hl) rfl rfl rfl (Nat.le_refl _) (fun _ _ _=>rfl) ?_ ?_ ?_) (fun k hk=>by simp only [Log.turns];rw [Zah];exact hk)
     ·intro e1 v1 n1 b1 he hv1 hb1
      simp only [Zai,Option.some.injEq] at he
      subst he
      simp only [Zai,List.mem_singleton,Prod.mk.injEq] at hv1
      obtain ⟨rfl,rfl⟩:=hv1
      rw [hmr] at hb1
      cases hb1
      exact hrow
     ·intro v1 n1 hv1
      simp only [Zai,List.mem_singleton,Prod.mk.injEq] at hv1
      obtain ⟨rfl,rfl⟩:=hv1
      exact ⟨_,hmr,hrow.blk⟩
     ·intro v1 n1 rest1 he v2 hlt
      simp only [Zai,List.cons.injEq,Prod.mk.injEq] at he
      obtain ⟨⟨rfl,_⟩,_⟩:=he
      have:¬ v2=v+1:=by omega
      simp [Map.new2,this,htop v2 (by omega)]
     ·intro v1 n1 b1 hv1 hb1 _
      simp only [Zai,List.mem_singleton,Prod.mk.injEq] at hv1
      obtain ⟨rfl,rfl⟩:=hv1
      rw [hmr] at hb1
      cases hb1
      exact ⟨o,v,n,b,ho,by rw [hvers];simp,hb,rfl⟩
    ·intro r' hra hr'
     rw [hnext] at hr'
     have hne:r' ≠ r:=by
      intro e
      subst e
      rw [(hF r' hra hr').1 v] at hb
      cases hb
     exact ⟨fun v1=>by simp [Map.new2,hne,(hF r' hra hr').1 v1],(hF r' hra hr').2⟩
  ·cases h
 ·cases h

def isNew (st:St):SX->Option (Bool × St × Log)
 | .lit (n+1) es=>some (true,st,Log.says (.rng c0 (.len (.lit (n+1) es))))
 | e=>match st.path with
  | b :: rest=>some (Nat.beq b 1,{ st with path:=rest },Log.says (cond (Nat.beq b 1) (.rng c0 (.len e)) (.same (.len e) c0)))
  | []=>none
theorem isNew_ok {st st':St} {e:SX} {b:Bool} {lg:Log} (h:isNew st e=some (b,st',lg)):st'.heap=st.heap/\st'.next=st.next/\lg=Log.says (cond b (.rng c0 (.len e)) (.same (.len e) c0)):=by
 unfold isNew at h
 split at h
 ·cases h;exact ⟨rfl,rfl,rfl⟩
 ·split at h
  ·cases h;exact ⟨rfl,rfl,rfl⟩
  ·cases h
def Zhi (P:Program) (st:St) (t tx:TypeId) (x:AV):Option (AV × St × Log):=match P.underlying t with
 | some (.slice e)=>(P.info? e).bind fun i=>cond (Zck i && Nat.blt 0 i.size && Nat.ble i.bytes 16384) ((srcS P st i tx x).bind fun (en,l1)=>(isNew st en).bind fun (b,st1,l2)=>cond b
   ((st1.allocS en e i.size).map fun (y,st',l3)=>(y,st',(l1.or l2).or (l3.or (Log.says (.upto (.len en) 4294967296)))))
   (some (.val (.slice none 0 0),st1,l1.or l2))) none
 | _=>none
theorem aAppendN_ok {P:Program} {st st':St} {t tx ty:TypeId} {x y:AV} {lg:Log} {A:Nat->Prop} {m:Map} {w:World} {u:Value} (h:Zhi P st t tx x=some (y,st',lg))
  (hA:lg.Fits W0 A) (hR:Rel W0 A m st.heap.get w) (hF:Fresh A m st.next) (hx:x.den m=some u) :
  ∃ m' w' z,y.den m'=some z/\(Builtin.append_ #[t,tx] ty #[.slice none 0 0,u]).run P w=.ok z w'/\Ok W0 A m st w m' st' lg w':=by
 unfold Zhi at h
 split at h
 ·rename_i e ht
  simp only [Option.bind_eq_some_iff] at h
  obtain ⟨i,hi,h⟩:=h
  cases hc:(Zck i && Nat.blt 0 i.size && Nat.ble i.bytes 16384) with
  | false=>simp [hc] at h
  | true =>
   simp only [hc,cond_true,Option.bind_eq_some_iff] at h
   simp only [Bool.and_eq_true,Nat.blt_eq,Nat.ble_eq] at hc
   obtain ⟨⟨hzf,hs0⟩,hby⟩:=hc
   obtain ⟨⟨en,l1⟩,hsr,⟨b,st1,l2⟩,hnw,h⟩:=h
   obtain ⟨z,hz,hzs⟩:=Zef hzf
   obtain ⟨e1,e2,e3⟩:=isNew_ok hnw
   cases b with
   | true =>
    simp only [cond_true,Option.map_eq_some_iff] at h
    obtain ⟨⟨y1,s1,l3⟩,hal,he⟩:=h
    cases he
    obtain ⟨k,vn,g0,hsrc⟩:=Zna hsr (or_A (or_A hA).1).1 hR hx
    have hf2:=(or_A (or_A hA).1).2
    rw [e3] at hf2
    obtain ⟨kk,zz,mm,f1,f2,f3,f4⟩:=hf2.2 _ (List.mem_singleton.2 rfl)
    simp only [cond_true] at f1 f2
    rw [Zbx g0] at f2
    have f1':W0.ev c0=some (.v (.int .i64 0)):=rfl
    rw [f1'] at f1
    simp only [Option.some.injEq,PV.v.injEq,Value.int.injEq,true_and] at f1 f2
    obtain ⟨_,rfl⟩:=f1
    subst f2
    obtain ⟨nk,f5,f6⟩:=(or_A (or_A hA).2).2.2 _ (List.mem_singleton.2 rfl)
    rw [Zbx g0] at f5
    simp only [Option.some.injEq,PV.v.injEq,Value.int.injEq,true_and,Int.ofNat_inj] at f5
    subst f5
    have hvl:vn.length=k * i.size:=hsrc.newsLen
    have hlt:0 < 0+k:=by omega
    have hfit:Builtin.nextslicecap (0+k) 0 * i.bytes<=281474976710656:=by
     have q1:=Zdl _ _ hlt
     have:=Nat.mul_le_mul (Nat.le_trans q1 (show 2 * (0+k)+768<=8589935360 by omega)) hby
     omega
    have hrun:=Zce (P:=P) w t tx ty e i z ht hi hz none 0 0 [] (run_firstCells_none _ _ _ _ _) u k vn hsrc hlt (by omega) hfit
    obtain ⟨w1,w2,w3,w4,w5,w6⟩:=Zb6 w (.cells (([]++vn).toArray++Builtin.zeroCells z.cells (grownCap w (0+k) 0 e - (0+k))) e)
    have q2:=Zb9 w (0+k) 0 e
    have hrow:RowAt W0 (w.drew.alloc (.cells (([]++vn).toArray++Builtin.zeroCells z.cells (grownCap w (0+k) 0 e - (0+k))) e)) (Zai en e i.size 0) (w.heap.size,grownCap w (0+k) 0 e) en :=
     Zeh (fz:=(0,0)) g0 w6 (fun i _=>by omega) hs0 hvl (by omega) (by
      simp only [Array.size_append,List.size_toArray,List.nil_append,hvl,Zcl,hzs,<- Nat.add_mul]
      congr 1
      omega) (Zdo (grownCap_le_maxLen w (0+k) 0 e (by unfold maxLen;simp [IntKind.max];omega))) (fun j x hj=>by
      have:j < vn.length:=(List.getElem?_eq_some_iff.1 hj).1
      rw [Array.getElem?_append_left (by simpa using this)]
      simpa using hj) hsrc.one
    have hR1:Rel W0 A m st1.heap.get w:=by rw [e1];exact hR
    have hF1:Fresh A m st1.next:=by rw [e2];exact hF
    obtain ⟨g1,g2⟩:=Zjy hal (or_A (or_A hA).2).1 hR1 hF1 w1 w2 w3 w4 w5 g0 hrow
    refine ⟨_,w.drew.alloc (.cells (([]++vn).toArray++Builtin.zeroCells z.cells (grownCap w (0+k) 0 e - (0+k))) e),_,g1,by rw [hrun,Nat.zero_add],?_⟩
    have g3:Ok W0 A m st1 w _ s1 ((l1.or l2).or (l3.or (Log.says (.upto (.len en) 4294967296)))) _:=g2.more (fun r hr=>Za2 (Zat hr))
    exact ⟨by rw [<- e1];exact g3.step,g3.fresh⟩
   | false =>
    simp only [cond_false,Option.some.injEq,Prod.mk.injEq] at h
    obtain ⟨rfl,rfl,rfl⟩:=h
    obtain ⟨k,vn,g0,hsrc⟩:=Zna hsr (or_A hA).1 hR hx
    have hf2:=(or_A hA).2
    rw [e3] at hf2
    obtain ⟨kk,f1,f2⟩:=hf2.2 _ (List.mem_singleton.2 rfl)
    have f2':W0.ev c0=some (.v (.int .i64 ((0:Nat):Int))):=rfl
    rw [f2'] at f2
    rw [Zbx g0] at f1
    simp only [Option.some.injEq,PV.v.injEq,Value.int.injEq,true_and,Int.ofNat_inj] at f1 f2
    subst f1
    subst f2
    have hvl:vn.length=0 * i.size:=hsrc.newsLen
    have:vn=[]:=List.eq_nil_of_length_eq_zero (by omega)
    subst this
    refine ⟨m,w,_,rfl,Zc5 t tx ty e i ht hi none 0 0 (Nat.le_refl _) u hsrc,⟨?_,by rw [e2];exact hF⟩⟩
    rw [e1]
    exact Step.refl hR
 ·cases h

def Zhh (P:Program) (st:St) (t tx:TypeId) (s x:AV):Option (AV × St × Log):=match s with
 | .val (.slice none 0 0)=>Zhi P st t tx x
 | .slice ..=>(symOf st s).bind fun (y,st1,l1)=>(Zft P st1 t tx y x).map fun (z,st2,l2)=>(z,st2,l1.or l2)
 | _=>Zft P st t tx s x
theorem aAppendO_ok {P:Program} {st st':St} {t tx ty:TypeId} {s x y:AV} {lg:Log} {A:Nat->Prop} {m:Map} {w:World} {q u:Value} (h:Zhh P st t tx s x=some (y,st',lg))
  (hA:lg.Fits W0 A) (hR:Rel W0 A m st.heap.get w) (hF:Fresh A m st.next) (hs:s.den m=some q) (hx:x.den m=some u) :
  ∃ m' w' z,y.den m'=some z/\(Builtin.append_ #[t,tx] ty #[q,u]).run P w=.ok z w'/\Ok W0 A m st w m' st' lg w':=by
 unfold Zhh at h
 split at h
 ·simp only [AV.den,Option.some.injEq] at hs
  subst hs
  exact aAppendN_ok h hA hR hF hx
 ·simp only [Option.bind_eq_some_iff,Option.map_eq_some_iff] at h
  obtain ⟨⟨y1,st1,l1⟩,h1,⟨z,st2,l2⟩,h2,he⟩:=h
  cases he
  obtain ⟨m1,g1,hok⟩:=Zif h1 (or_A hA).1 hR hF hs
  obtain ⟨m',w',zz,k1,k2,k3⟩:=aAppendS_ok (ty:=ty) h2 (or_A hA).2 hok.rel hok.fresh g1 (AV.den_mono hok.step.ext x hx)
  exact ⟨m',w',zz,k1,k2,hok.trans k3⟩
 ·exact aAppendS_ok h hA hR hF hs hx
end Go.Proofs.Ytgdegpifjljnoaa.eng
end

section
/- The engine: rows of the call's own of unknown length: texts, copy, lengths, parts; one operation. -/
namespace Go.Proofs.Ytgdegpifjljnoaa.eng
open Go Go.RowKit
variable {W0 : Base}

theorem upto_str {e:SX} {K:Nat} (h:(Fact.upto (.slen e) K).holds W0):∃ s,W0.ev e=some (.v (.string s))/\s.size<=K:=by
 obtain ⟨n,hn,hK⟩:=h
 simp only [Base.ev,SX.ev,Option.bind_eq_some_iff] at hn
 obtain ⟨p,hp,hn⟩:=hn
 unfold Zlf at hn
 split at hn
 ·simp only [Option.some.injEq,PV.v.injEq,Value.int.injEq,true_and,Int.ofNat_inj] at hn
  exact ⟨_,hp,by omega⟩
 ·cases hn
def Zj3 (P:Program) (st:St) (src dst:TypeId) (x:AV):Option (AV × St × Log):=match P.underlying src,P.underlying dst,x with
 | some .string,some (.slice e),.sym s=>match P.underlying e with
  | some (.int .u8)=>(st.allocS (.rop .ofStr [s]) e 1).map fun (y,st',lg)=>(y,st',lg.or (Log.says (.upto (.slen s) 4294967296)))
  | _=>none
 | _,_,_=>none
theorem aBytesS_ok {P:Program} {st st':St} {src dst:TypeId} {x y:AV} {lg:Log} {A:Nat->Prop} {m:Map} {w:World} {u:Value} (h:Zj3 P st src dst x=some (y,st',lg)) (hA:lg.Fits W0 A)
  (hR:Rel W0 A m st.heap.get w) (hF:Fresh A m st.next) (hx:x.den m=some u):∃ m' w' v,y.den m'=some v/\(convert src dst u).run P w=.ok v w'/\Ok W0 A m st w m' st' lg w':=by
 unfold Zj3 at h
 split at h
 ·rename_i e s hs hd
  split at h
  ·rename_i he
   simp only [Option.map_eq_some_iff] at h
   obtain ⟨⟨y1,s1,l1⟩,hal,h⟩:=h
   cases h
   obtain ⟨str,hstr,hK⟩:=upto_str ((or_A hA).2.2 _ (List.mem_singleton.2 rfl))
   have hxv:=(Zib hR.sv hx).1
   rw [hstr] at hxv
   cases hxv
   have hgm:grownCap w str.size 0 e<=9223372036854775807:=grownCap_le_maxLen w str.size 0 e (by unfold maxLen;simp [IntKind.max];omega)
   have hg:str.size<=grownCap w str.size 0 e:=Zb9 w str.size 0 e
   have hds:str.data.size=str.size:=rfl
   obtain ⟨h1,h2,h3,h4,h5,h6⟩:=Zb6 w (.cells (bytesRow str (grownCap w str.size 0 e)) e ((bytesRow str (grownCap w str.size 0 e)).size,(bytesRow str (grownCap w str.size 0 e)).size+1))
   have hrow:=Zeh (W0:=W0) (v:=0) (sz:=1) (b:=(w.heap.size,grownCap w str.size 0 e)) (Zg8 hstr) h6 (fun i hi=>by simp;omega) (by omega) (by rw [byteCells_length,Nat.mul_one]) hg (by
    simp only [bytesRow,Array.size_append,Array.size_map,Array.size_replicate,Nat.mul_one];omega) (Zdo hgm) (fun j x hj=>by
     have hlt:j < (byteCells str).length:=(List.getElem?_eq_some_iff.1 hj).1
     rw [byteCells_length] at hlt
     rw [bytesRow,Array.getElem?_append_left (by simpa using hlt)]
     simp only [byteCells,List.getElem?_map,Option.map_eq_some_iff] at hj
     obtain ⟨q,hq,rfl⟩:=hj
     simp at hq
     simp [hq]) (fun x hx=>by obtain ⟨_,_,rfl⟩:=List.mem_map.1 hx;rfl)
   obtain ⟨g1,g2⟩:=Zjy hal (or_A hA).1 hR hF h1 h2 h3 h4 h5 (Zg8 hstr) hrow
   exact ⟨_,_,_,g1,run_bytes_of_string w src dst e str hs hd he,g2.more (fun r hr=>Zat hr)⟩
  ·cases h
 ·cases h
theorem Zfq:∀ {cs:List PV} {l:List UInt8},Zjt cs=some l->cs=l.map fun b=>.v (.int .u8 b.toNat)
 | [],l,h=>by simp [Zjt] at h;subst h;rfl
 | p :: cs,l,h=>by
  simp only [Zjt,Option.bind_eq_some_iff,Option.map_eq_some_iff] at h
  obtain ⟨b,hb,l',hl,rfl⟩:=h
  rw [Zfq hl]
  unfold bytePV at hb
  split at hb
  ·rename_i z
   cases hc:(decide (0<=z) && decide (z < 256)) with
   | false=>simp [hc] at hb
   | true =>
    simp only [hc,cond_true,Option.some.injEq] at hb
    simp only [Bool.and_eq_true,decide_eq_true_eq] at hc
    subst hb
    have:(UInt8.ofNat z.toNat).toNat=z.toNat:=by simp;omega
    simp only [List.map_cons,this]
    rw [show ((z.toNat:Nat):Int)=z by omega]
  ·cases hb
def aStrW (P:Program) (st:St) (src dst:TypeId) (x:AV):Option (AV × Log):=match P.underlying src,P.underlying dst,x with
 | some (.slice e),some .string,.sliceS r v lo len sz=>match P.underlying e with
  | some (.int .u8)=>cond (isC0 lo && Nat.beq sz 1) ((lookS st r v).bind fun (eo,el,esz)=>cond (Nat.beq esz 1) (some (.sym (.rop .toStr [eo]),(Log.sees r).or ((Zhj eo len).or (Log.says (.ok (.rop .toStr [eo])))))) none) none
  | _=>none
 | _,_,_=>none
theorem aStrW_ok {P:Program} {st:St} {src dst:TypeId} {x y:AV} {lg:Log} {A:Nat->Prop} {m:Map} {w:World} {u:Value} (h:aStrW P st src dst x=some (y,lg)) (hA:lg.Fits W0 A)
  (hR:Rel W0 A m st.heap.get w) (hx:x.den m=some u):∃ v,y.den m=some v/\(convert src dst u).run P w=.ok v w:=by
 unfold aStrW at h
 split at h
 ·rename_i e r v lo len sz hs hd
  split at h
  ·rename_i he
   simp only [cond_eq_ite,Bool.and_eq_true,Nat.beq_eq] at h
   split at h
   ·rename_i hc
    simp only [Option.bind_eq_some_iff] at h
    obtain ⟨⟨eo,el,esz⟩,hl,h⟩:=h
    split at h
    ·rename_i hsz
     cases h
     have ha:A r:=(or_A hA).1.1 r (by simp [Log.sees,Zah])
     obtain ⟨n,f1,f2⟩:=(or_A (or_A hA).2).1.2 _ (List.mem_singleton.2 rfl)
     obtain ⟨x,hx2,hone⟩:=(or_A (or_A hA).2).2.2 _ (List.mem_singleton.2 rfl)
     obtain ⟨b,l,n',hb,h1,h2,rfl⟩:=Zas hR.sv hx
     rw [Zem hc.1] at h1
     rw [f1] at h2
     simp only [Option.some.injEq,PV.v.injEq,Value.int.injEq,true_and,Int.ofNat_inj] at h1 h2
     have hl0:l=0:=by omega
     subst hl0
     subst h2
     obtain ⟨k,cs,c,fz,g1,g2,g3,g4,g5,g6,g7,g8,g9⟩:=Zba hl hR ha hb
     rw [Zbx g1] at f2
     simp only [Option.some.injEq,PV.v.injEq,Value.int.injEq,true_and,Int.ofNat_inj] at f2
     subst f2
     have g1':eo.ev W0.s W0.F=some (.row k cs):=g1
     have hx3:=hx2
     simp only [Base.ev,SX.ev,evs,g1',Option.bind_some,Option.map_some,ropPV] at hx2
     cases hq:Nat.beq cs.length k with
     | false=>simp [hq] at hx2
     | true =>
      simp only [hq,cond_true,Option.map_eq_some_iff,PV.v.injEq] at hx2
      obtain ⟨bs,hbs,rfl⟩:=hx2
      have hcs:=Zfq hbs
      have hlen:bs.length=k:=by
       have:=Nat.eq_of_beq_eq_true hq
       rw [hcs,List.length_map] at this
       exact this
      subst hlen
      refine ⟨_,Zdp hR.sv hx3 rfl,run_convert_bytes_back w src dst e _ _ bs hs he hd (fun j hj=>?_)⟩
      rw [Zam]
      obtain ⟨v,hv1,hv2,hv3⟩:=g9 j (.v (.int .u8 (bs[j].toNat:Int))) (by rw [hcs];simp [hj])
      cases hv1
      simp only [World.cell?,g2,Nat.zero_mul,Nat.zero_add]
      exact hv3
    ·cases h
   ·cases h
  ·cases h
 ·cases h
def aStrP (P:Program) (st:St) (src dst:TypeId) (x:AV):Option (AV × Log):=match P.underlying src,P.underlying dst,x with
 | some (.slice e),some .string,.sliceS r v lo len sz=>match P.underlying e with
  | some (.int .u8)=>cond (Nat.beq sz 1) ((lookS st r v).bind fun (eo,el,esz)=>cond (Nat.beq esz 1) (some (.sym (.rop .toStr [.sub eo lo (.bin .add lo len) 1]),(Log.sees r).or ((Log.says (.upto lo 4294967296)).or ((Log.says (.upto len 4294967296)).or (Log.says (.ok (.rop .toStr [.sub eo lo (.bin .add lo len) 1]))))))) none) none
  | _=>none
 | _,_,_=>none
theorem aStrP_ok {P:Program} {st:St} {src dst:TypeId} {x y:AV} {lg:Log} {A:Nat->Prop} {m:Map} {w:World} {u:Value} (h:aStrP P st src dst x=some (y,lg)) (hA:lg.Fits W0 A)
  (hR:Rel W0 A m st.heap.get w) (hx:x.den m=some u):∃ v,y.den m=some v/\(convert src dst u).run P w=.ok v w:=by
 unfold aStrP at h
 split at h
 ·rename_i e r v lo len sz hs hd
  split at h
  ·rename_i he
   simp only [cond_eq_ite,Nat.beq_eq] at h
   split at h
   ·rename_i hc
    simp only [Option.bind_eq_some_iff] at h
    obtain ⟨⟨eo,el,esz⟩,hl,h⟩:=h
    split at h
    ·rename_i hsz
     cases h
     have ha:A r:=(or_A hA).1.1 r (by simp [Log.sees,Zah])
     obtain ⟨z1,f1,k1⟩:=(or_A (or_A hA).2).1.2 _ (List.mem_singleton.2 rfl)
     obtain ⟨z2,f2,k2⟩:=(or_A (or_A (or_A hA).2).2).1.2 _ (List.mem_singleton.2 rfl)
     obtain ⟨x,hx2,hone⟩:=(or_A (or_A (or_A hA).2).2).2.2 _ (List.mem_singleton.2 rfl)
     obtain ⟨b,l,n',hb,h1,h2,rfl⟩:=Zas hR.sv hx
     rw [h1] at f1
     rw [h2] at f2
     simp only [Option.some.injEq,PV.v.injEq,Value.int.injEq,true_and,Int.ofNat_inj] at f1 f2
     subst f1
     subst f2
     obtain ⟨k,cs,c,fz,g1,g2,g3,g4,g5,g6,g7,g8,g9⟩:=Zba hl hR ha hb
     have hw:IntKind.i64.wrap ((l:Int)+(n':Int))=(l:Int)+(n':Int):=IntWalk.i64_in _ ⟨by omega,by omega⟩
     have hx3:=hx2
     simp only [Base.ev] at g1 h1 h2
     simp only [Base.ev,SX.ev,evs,g1,h1,h2,Option.bind_some,Option.map_some,binPV,decide_true,cond_true,hw] at hx2
     cases hq:subPV (.row k cs) (.v (.int .i64 (l:Int))) (.v (.int .i64 ((l:Int)+(n':Int)))) 1 with
     | none=>simp [hq] at hx2
     | some q =>
      rw [hq] at hx2
      simp only [subPV,cond_eq_ite,Bool.and_eq_true,decide_eq_true_eq] at hq
      split at hq
      ·simp only [Option.some.injEq] at hq
       have e1:((l:Int)+(n':Int)).toNat - (l:Int).toNat=n':=by omega
       have e2:(l:Int).toNat=l:=by omega
       rw [e1,e2] at hq
       subst hq
       simp only [Option.bind_some,Option.map_some,ropPV] at hx2
       cases hq:Nat.beq ((cs.drop (l * 1)).take (n' * 1)).length n' with
       | false=>rw [hq] at hx2;simp only [cond_false,Option.map_none,reduceCtorEq] at hx2
       | true =>
        rw [hq] at hx2
        simp only [cond_true,Option.map_eq_some_iff,PV.v.injEq] at hx2
        obtain ⟨bs,hbs,rfl⟩:=hx2
        have hcs:=Zfq hbs
        have hlen:bs.length=n':=by
         have:=Nat.eq_of_beq_eq_true hq
         rw [hcs,List.length_map] at this
         exact this
        subst hlen
        refine ⟨_,Zdp hR.sv hx3 rfl,run_convert_bytes_back w src dst e _ _ bs hs he hd (fun j hj=>?_)⟩
        rw [Zam]
        have hj2:cs[l * 1+j]?=some (.v (.int .u8 (bs[j].toNat:Int))):=by
         have h5:=congrArg (fun z=>z[j]?) hcs
         simp only [List.getElem?_take,List.getElem?_drop,List.getElem?_map] at h5
         rw [if_pos (by omega),List.getElem?_eq_getElem hj] at h5
         exact h5
        obtain ⟨v,hv1,hv2,hv3⟩:=g9 _ _ hj2
        cases hv1
        simp only [World.cell?,g2]
        subst hc
        exact hv3
      ·cases hq
    ·cases h
   ·cases h
  ·cases h
 ·cases h
def aStrD (P:Program) (st:St) (src dst:TypeId) (x:AV):Option (AV × Log):=match P.underlying src,P.underlying dst,x with
 | some (.slice e),some .string,.dat r=>match P.underlying e with
  | some (.int .u8)=>((st.heap.get r).bind (·.dat)).map fun eo=>(.sym (.rop .toStr [eo]),(Log.sees r).or (Log.says (.ok (.rop .toStr [eo]))))
  | _=>none
 | _,_,_=>none
theorem aStrD_ok {P:Program} {st:St} {src dst:TypeId} {x y:AV} {lg:Log} {A:Nat->Prop} {m:Map} {w:World} {u:Value} (h:aStrD P st src dst x=some (y,lg)) (hA:lg.Fits W0 A)
  (hR:Rel W0 A m st.heap.get w) (hx:x.den m=some u):∃ v,y.den m=some v/\(convert src dst u).run P w=.ok v w:=by
 unfold aStrD at h
 split at h
 ·rename_i e r hs hd
  split at h
  ·rename_i he
   simp only [Option.map_eq_some_iff,Prod.mk.injEq] at h
   obtain ⟨eo,hr,rfl,rfl⟩:=h
   obtain ⟨oo,u0,fp,p,_,_,hm,hou,_,_,hp,hrd⟩:=thing hR hr ((or_A hA).1.1 r (by simp [Log.sees,Zah]))
   simp only [AV.den,hm,Option.bind_some,hou,cond_true,Option.some.injEq] at hx
   subst hx
   obtain ⟨x,hx2,hone⟩:=(or_A hA).2.2 _ (List.mem_singleton.2 rfl)
   have hx3:=hx2
   have hp':eo.ev W0.s W0.F=some p:=hp
   simp only [Base.ev,SX.ev,evs,hp',Option.bind_some,Option.map_some] at hx2
   cases p with
   | v z=>simp [ropPV] at hx2
   | row k cs =>
    simp only [ropPV] at hx2
    cases hq:Nat.beq cs.length k with
    | false=>simp [hq] at hx2
    | true =>
     simp only [hq,cond_true,Option.map_eq_some_iff,PV.v.injEq] at hx2
     obtain ⟨bs,hbs,rfl⟩:=hx2
     have hcs:=Zfq hbs
     have hlen:bs.length=k:=by
      have:=Nat.eq_of_beq_eq_true hq
      rw [hcs,List.length_map] at this
      exact this
     subst hlen
     have hrw:=hrd w (fun _ _=>rfl)
     simp only [Reads] at hrw
     obtain ⟨a,cap,rfl,_,_,hcell⟩:=hrw
     refine ⟨_,Zdp hR.sv hx3 rfl,?_⟩
     cases a with
     | none =>
      have h0:bs=[]:=by
       rcases hcell with h | ⟨b,off,h,_⟩
       ·rw [h] at hcs
        exact List.map_eq_nil_iff.1 hcs.symm
       ·cases h
      subst h0
      exact Lib.run_convert_nil_bytes w src dst e cap hs he hd
     | some ad =>
      refine run_convert_bytes_back w src dst e _ _ bs hs he hd (fun j hj=>?_)
      rcases hcell with h | ⟨b,off,h,hl⟩
      ·rw [h] at hcs
       have:=List.map_eq_nil_iff.1 hcs.symm
       rw [this] at hj
       simp at hj
      ·cases h
       rw [Zam]
       obtain ⟨v,hv1,hv2⟩:=Za8.at hl (i:=j) (p:=.v (.int .u8 (bs[j].toNat:Int))) (by rw [hcs];simp [hj])
       simp only [Reads] at hv2
       rw [hv2.1] at hv1
       exact hv1
  ·cases h
 ·cases h
def aStrS (P:Program) (st:St) (src dst:TypeId) (x:AV):Option (AV × Log):=match aStrW P st src dst x with
 | some r=>some r
 | none=>match aStrP P st src dst x with
  | some r=>some r
  | none=>aStrD P st src dst x
theorem aStrS_ok {P:Program} {st:St} {src dst:TypeId} {x y:AV} {lg:Log} {A:Nat->Prop} {m:Map} {w:World} {u:Value} (h:aStrS P st src dst x=some (y,lg)) (hA:lg.Fits W0 A)
  (hR:Rel W0 A m st.heap.get w) (hx:x.den m=some u):∃ v,y.den m=some v/\(convert src dst u).run P w=.ok v w:=by
 unfold aStrS at h
 split at h
 ·rename_i r hr
  cases h
  exact aStrW_ok hr hA hR hx
 ·split at h
  ·rename_i r hr
   cases h
   exact aStrP_ok hr hA hR hx
  ·exact aStrD_ok h hA hR hx

def aStrO (P:Program) (st:St) (src dst:TypeId) (x:AV):Option (AV × St × Log):=match aStrS P st src dst x with
 | some (y,lg)=>some (y,st,lg)
 | none=>(symOf st x).bind fun (x',st1,l1)=>(aStrS P st1 src dst x').map fun (y,l2)=>(y,st1,l1.or l2)
theorem aStrO_ok {P:Program} {st st':St} {src dst:TypeId} {x y:AV} {lg:Log} {A:Nat->Prop} {m:Map} {w:World} {u:Value} (h:aStrO P st src dst x=some (y,st',lg)) (hA:lg.Fits W0 A)
  (hR:Rel W0 A m st.heap.get w) (hF:Fresh A m st.next) (hx:x.den m=some u):∃ m' v,y.den m'=some v/\(convert src dst u).run P w=.ok v w/\Ok W0 A m st w m' st' lg w:=by
 unfold aStrO at h
 split at h
 ·rename_i y' lg' hs
  simp only [Option.some.injEq,Prod.mk.injEq] at h
  obtain ⟨rfl,rfl,rfl⟩:=h
  obtain ⟨v,hv,hrun⟩:=aStrS_ok hs hA hR hx
  exact ⟨m,v,hv,hrun,Ok.refl hR hF⟩
 ·simp only [Option.bind_eq_some_iff,Option.map_eq_some_iff] at h
  obtain ⟨⟨x',s1,l1⟩,hsy,⟨y',l2⟩,hs,he⟩:=h
  cases he
  obtain ⟨m',hx',hok⟩:=Zif hsy (or_A hA).1 hR hF hx
  obtain ⟨v,hv,hrun⟩:=aStrS_ok hs (or_A hA).2 hok.rel hx'
  exact ⟨m',v,hv,hrun,hok.more (fun r hr=>Zat hr)⟩
def Zm2 (P:Program) (st:St) (t tx:TypeId) (d x:AV):Option (AV × St × Log):=match P.underlying t,P.underlying tx,d with
 | some (.slice e),some .string,.sliceS r v lo len sz=>(P.info? e).bind fun i=>(lookS st r v).bind fun (eo,el,esz)=>x.sx.bind fun s=>cond (Nat.beq i.size 1 && Nat.beq sz 1 && Nat.beq esz 1)
   ((st.put r (Zai (.rop (.copy 1) [eo,lo,len,.rop .ofStr [s]]) el 1 v)).map fun st'=>(.sym (.rop .min2 [.slen s,len]),st',(Log.turns r).or ((Log.says (.cut lo len (.len eo))).or (Log.says (.ok (.slen s)))))) none
 | _,_,_=>none
theorem ev_bin_min {a b:SX} {x y:Nat} (h1:W0.ev a=some (.v (.int .i64 (x:Int)))) (h2:W0.ev b=some (.v (.int .i64 (y:Int)))):W0.ev (.rop .min2 [a,b])=some (.v (.int .i64 ((Nat.min x y:Nat):Int))):=by
 have h1':a.ev W0.s W0.F=some (.v (.int .i64 (x:Int))):=h1
 have h2':b.ev W0.s W0.F=some (.v (.int .i64 (y:Int))):=h2
 have:((Nat.min x y:Nat):Int)=min (x:Int) (y:Int):=by
  show ((min x y:Nat):Int)=_
  omega
 rw [this]
 simp [Base.ev,SX.ev,evs,h1',h2',ropPV]
theorem ev_slen {e:SX} {s:ByteArray} (h:W0.ev e=some (.v (.string s))):W0.ev (.slen e)=some (.v (.int .i64 (s.size:Int))):=by
 have h':e.ev W0.s W0.F=some (.v (.string s)):=h
 simp [Base.ev,SX.ev,h',Zlf]
theorem byteCells_take (s:ByteArray) (k:Nat):((s.extract 0 k).data.map fun b=>Value.int .u8 b.toNat).toList=(byteCells s).take k:=by
 simp [byteCells,ByteArray.data_extract,List.map_take]
theorem aCopyS_ok {P:Program} {st st':St} {t tx ty:TypeId} {d x y:AV} {lg:Log} {A:Nat->Prop} {m:Map} {w:World} {q u:Value} (h:Zm2 P st t tx d x=some (y,st',lg)) (hA:lg.Fits W0 A)
  (hR:Rel W0 A m st.heap.get w) (hF:Fresh A m st.next) (hd:d.den m=some q) (hx:x.den m=some u):∃ m' w' v,y.den m'=some v/\(Builtin.copy_ #[t,tx] ty #[q,u]).run P w=.ok v w'/\Ok W0 A m st w m' st' lg w':=by
 unfold Zm2 at h
 split at h
 ·rename_i e r v lo len sz ht htx
  simp only [Option.bind_eq_some_iff] at h
  obtain ⟨i,hi,⟨eo,el,esz⟩,hl,s,hsx,h⟩:=h
  simp only [cond_eq_ite,Bool.and_eq_true,Nat.beq_eq] at h
  split at h
  ·rename_i hc
   obtain ⟨⟨hi1,rfl⟩,rfl⟩:=hc
   simp only [Option.map_eq_some_iff] at h
   obtain ⟨s1,hp,he⟩:=h
   cases he
   have ha:A r:=(or_A hA).1.1 r (by simp [Log.turns,Zah])
   obtain ⟨la,ln,lk,f1,f2,f3,f4⟩:=(or_A (or_A hA).2).1.2 _ (List.mem_singleton.2 rfl)
   obtain ⟨str,hstr⟩:=slen_str ((or_A (or_A hA).2).2.2 _ (List.mem_singleton.2 rfl))
   have hxv:=sx_ok hR.sv x hsx hx
   rw [hstr] at hxv
   cases hxv
   obtain ⟨b,l,n,hb,h1,h2,rfl⟩:=Zas hR.sv hd
   rw [f1] at h1
   rw [f2] at h2
   simp only [Option.some.injEq,PV.v.injEq,Value.int.injEq,true_and,Int.ofNat_inj] at h1 h2
   subst h1
   subst h2
   obtain ⟨k,cs,c,fz,g1,g2,g3,g4,g5,g6,g7,g8,g9⟩:=Zba hl hR ha hb
   rw [Zbx g1] at f3
   simp only [Option.some.injEq,PV.v.injEq,Value.int.injEq,true_and,Int.ofNat_inj] at f3
   subst f3
   let vs:=(byteCells str).take (Nat.min str.size ln)
   have hvl:vs.length=Nat.min str.size ln:=by
    simp only [vs,List.length_take,byteCells_length]
    show min (Nat.min str.size ln) str.size=Nat.min str.size ln
    exact Nat.min_eq_left (Nat.min_le_left _ _)
   have hml:Nat.min str.size ln<=ln:=Nat.min_le_right _ _
   have he':W0.ev (.rop (.copy 1) [eo,lo,len,.rop .ofStr [s]])=some (.row k (putPV cs (la * 1) (vs.map PV.v))):=by
    have g1':eo.ev W0.s W0.F=some (.row k cs):=g1
    have f1':lo.ev W0.s W0.F=some (.v (.int .i64 (la:Int))):=f1
    have f2':len.ev W0.s W0.F=some (.v (.int .i64 (ln:Int))):=f2
    have hs':SX.ev W0.s W0.F (.rop .ofStr [s])=some (.row str.size ((byteCells str).map PV.v)):=Zg8 hstr
    have q1:(0:Int)<=(la:Int):=by omega
    have q2:(0:Int)<=(ln:Int):=by omega
    have q3:(la:Int)+(ln:Int)<=(k:Int):=by omega
    have q4:Nat.beq ((byteCells str).map PV.v).length str.size=true:=by simp [byteCells_length]
    rw [Base.ev,SX.ev,evs,evs,evs,evs,evs,g1',f1',f2',hs']
    simp only [Option.bind_some,Option.map_some,ropPV,q1,q2,q3,q4,decide_true,Bool.and_self,cond_true,Int.toNat_natCast,Nat.mul_one,<- List.map_take,vs]
   obtain ⟨w',m',hrun,hle,hmb,hok⟩:=storeS (P:=P) (off:=la * 1) (vs:=vs) hl hR hF ha hb hp g1 he' (by rw [hvl];omega) (fun x hx=>by
    have:=List.mem_of_mem_take hx
    obtain ⟨_,_,rfl⟩:=List.mem_map.1 this
    rfl)
   refine ⟨m',w',_,Zdp hok.rel.sv (ev_bin_min (ev_slen hstr) f2) rfl,?_,hok.more (fun r hr=>Zat hr)⟩
   refine Ze3 P t tx ty e i ht hi (some ⟨b.1,la * 1,none⟩) ln (b.2 - la) str.size (.string str) vs w w' rfl ?_ (fun a ha=>by cases ha;exact hrun) (fun h=>by cases h)
   rw [hi1]
   have hb:=byteCells_take str (Nat.min str.size ln)
   simp only [Builtin.firstCells]
   show Result.ok _ w=_
   congr 1
   apply Array.ext'
   simpa [vs] using hb
  ·cases h
 ·cases h

def same2 (e:SX):SX:=.rop .min2 [e,e]
theorem ev_same2 {e:SX} {k:IntKind} {z:Int} (h:W0.ev e=some (.v (.int k z))):W0.ev (same2 e)=some (.v (.int k z)):=by
 have h':e.ev W0.s W0.F=some (.v (.int k z)):=h
 simp [same2,Base.ev,SX.ev,evs,h',ropPV]
def loX:Option AV->Option SX | none=>some (same2 c0) | some a=>a.sx.map same2
def hiX (len:SX):Option AV->Option SX | none=>some len | some a=>a.sx
def Zj2 (P:Program) (t:TypeId) (x:AV) (lo hi mx:Option AV):Option (AV × Log):=match P.underlying t,x,mx with
 | some (.slice e),.sliceS r v l0 len sz,none=>cond (isC0 l0 && (Zbn P e == some sz)) ((loX lo).bind fun le=>(hiX len hi).map fun he =>
   (.sliceS r v le (.bin .sub he le) sz,(Log.says (.le3 le he len)).or (Log.says (.rng le len)))) none
 | _,_,_=>none
theorem Zph {m:Map} (hs:∀ e,m.s e=W0.sv e) {lo:Option AV} {vlo:Option Value} {le:SX} {a:Nat} (h:loX lo=some le) (hd:denO m lo=some vlo) (hev:W0.ev le=some (.v (.int .i64 (a:Int)))):(vlo=none/\a=0) \/ vlo=some (.int .i64 (a:Int)):=by
 cases lo with
 | none =>
  simp only [loX,Option.some.injEq] at h
  subst h
  simp only [denO,Option.some.injEq] at hd
  have:W0.ev (same2 c0)=some (.v (.int .i64 0)):=ev_same2 rfl
  rw [this] at hev
  simp only [Option.some.injEq,PV.v.injEq,Value.int.injEq,true_and] at hev
  exact .inl ⟨hd.symm,by omega⟩
 | some x =>
  simp only [loX,Option.map_eq_some_iff] at h
  obtain ⟨e,he,rfl⟩:=h
  simp only [denO,Option.map_eq_some_iff] at hd
  obtain ⟨v,hv,rfl⟩:=hd
  have h1:=sx_ok hs x he hv
  have h1':e.ev W0.s W0.F=some (.v v):=h1
  simp only [same2,Base.ev,SX.ev,evs,h1',Option.bind_some,Option.map_some,ropPV] at hev
  cases v <;> simp at hev
  obtain ⟨rfl,rfl⟩:=hev
  exact .inr rfl
theorem Zpk {m:Map} (hs:∀ e,m.s e=W0.sv e) {hi:Option AV} {vhi:Option Value} {he len:SX} {b c:Nat} (h:hiX len hi=some he) (hd:denO m hi=some vhi) (hev:W0.ev he=some (.v (.int .i64 (b:Int)))) (hlen:W0.ev len=some (.v (.int .i64 (c:Int)))):(vhi=none/\b=c) \/ vhi=some (.int .i64 (b:Int)):=by
 cases hi with
 | none =>
  simp only [hiX,Option.some.injEq] at h
  subst h
  simp only [denO,Option.some.injEq] at hd
  rw [hlen] at hev
  simp only [Option.some.injEq,PV.v.injEq,Value.int.injEq,true_and,Int.ofNat_inj] at hev
  exact .inl ⟨hd.symm,hev.symm⟩
 | some x =>
  simp only [hiX] at h
  simp only [denO,Option.map_eq_some_iff] at hd
  obtain ⟨v,hv,rfl⟩:=hd
  have h1:=sx_ok hs x h hv
  rw [hev] at h1
  simp only [Option.some.injEq,PV.v.injEq] at h1
  exact .inr (by rw [h1])
theorem Zni {P:Program} {vlo vhi:Option Value} {a b c cap:Nat} (hl:(vlo=none/\a=0) \/ vlo=some (.int .i64 (a:Int))) (hh:(vhi=none/\b=c) \/ vhi=some (.int .i64 (b:Int))) (h1:a<=b) (h2:b<=c) (h3:c<=cap) (w:World) :
  (Instr.sliceBounds true c cap vlo vhi none).run P w=.ok (a,b,cap) w:=by
 have hcap:b<=cap:=by omega
 rcases hl with ⟨rfl,rfl⟩ | rfl <;> rcases hh with ⟨rfl,rfl⟩ | rfl <;> simp [Instr.sliceBounds,Instr.sliceBound,asIntOf,hcap,h1]
theorem ev_sub {x y:SX} {a b:Nat} (h1:W0.ev x=some (.v (.int .i64 (b:Int)))) (h2:W0.ev y=some (.v (.int .i64 (a:Int)))) (hab:a<=b) (hb:b<=9223372036854775807):W0.ev (.bin .sub x y)=some (.v (.int .i64 ((b - a:Nat):Int))):=by
 have h1':x.ev W0.s W0.F=some (.v (.int .i64 (b:Int))):=h1
 have h2':y.ev W0.s W0.F=some (.v (.int .i64 (a:Int))):=h2
 have:IntKind.i64.wrap ((b:Int) - (a:Int))=((b - a:Nat):Int):=by rw [IntKind.wrap_i64];omega
 simp [Base.ev,SX.ev,h1',h2',binPV,this]
theorem aSliceS_ok {P:Program} {t:TypeId} {x y:AV} {lo hi mx:Option AV} {lg:Log} {A:Nat->Prop} {m:Map} {st:St} {w:World} {u:Value} {vlo vhi vmx:Option Value} (h:Zj2 P t x lo hi mx=some (y,lg)) (hA:lg.Fits W0 A)
  (hR:Rel W0 A m st.heap.get w) (hx:x.den m=some u) (hlo:denO m lo=some vlo) (hhi:denO m hi=some vhi) (hmx:denO m mx=some vmx) (hcl:∀ b l n c,u=.slice (some ⟨b,l,none⟩) n c->n<=c/\c<=9223372036854775807):∃ v,y.den m=some v/\(Instr.sliceAt t u vlo vhi vmx).run P w=.ok v w:=by
 unfold Zj2 at h
 split at h
 ·rename_i e r v l0 len sz hu
  simp only [cond_eq_ite,Bool.and_eq_true,beq_iff_eq] at h
  split at h
  ·rename_i hc
   simp only [Option.bind_eq_some_iff,Option.map_eq_some_iff] at h
   obtain ⟨le,hle,he,hhe,h⟩:=h
   cases h
   simp only [denO,Option.some.injEq] at hmx
   subst hmx
   obtain ⟨a,b,c,f1,f2,f3,f4,f5⟩:=(or_A hA).1.2 _ (List.mem_singleton.2 rfl)
   obtain ⟨k,z,n,f6,f7,f8,f9⟩:=(or_A hA).2.2 _ (List.mem_singleton.2 rfl)
   rw [f1] at f6
   rw [f3] at f7
   simp only [Option.some.injEq,PV.v.injEq,Value.int.injEq,true_and] at f6 f7
   obtain ⟨_,rfl⟩:=f6
   subst f7
   obtain ⟨bb,l,n',hb,h1,h2,rfl⟩:=Zas hR.sv hx
   rw [Zem hc.1] at h1
   rw [f3] at h2
   simp only [Option.some.injEq,PV.v.injEq,Value.int.injEq,true_and,Int.ofNat_inj] at h1 h2
   have hl0:l=0:=by omega
   subst hl0
   subst h2
   obtain ⟨c1,c2⟩:=hcl _ _ _ _ rfl
   have hbo:=Zni (P:=P) (cap:=bb.2 - 0) (Zph hR.sv hle hlo f1) (Zpk hR.sv hhe hhi f2 f3) f4 f5 c1 w
   refine ⟨_,Zgb hR.sv hb f1 (ev_sub f2 f1 f4 (by omega)),?_⟩
   rw [Nat.sub_zero] at hbo
   have hne:¬ (bb.2=a):=by omega
   simp [Instr.sliceAt,Instr.slice,run_underlying hu,hbo,Zad hc.2,Zam,hne]
  ·cases h
 ·cases h
end Go.Proofs.Ytgdegpifjljnoaa.eng
end

section
/- The engine: maps of the call's own whose keys are texts. -/
namespace Go.Proofs.Ytgdegpifjljnoaa.eng
open Go Go.RowKit
variable {W0 : Base}




def aopM (P:Program) (o:Oper) (x:AAct) (st:St):Option (AN × St × Log):=none
theorem aopM_ok {P:Program} {o:Oper} {x:AAct} {a:Act} {st st':St} {n:AN} {lg:Log} {A:Nat->Prop} {m:Map} {w:World} (h:aopM P o x st=some (n,st',lg)) (hA:lg.Fits W0 A) (hT:TRel m x a) (hR:Rel W0 A m st.heap.get w) (hF:Fresh A m st.next) :
  ∃ m' w',Ok W0 A m st w m' st' lg w'/\Meets P m' (execOp a.eval o) w w' n:=by simp [aopM] at h
end Go.Proofs.Ytgdegpifjljnoaa.eng
end

section
/- The engine: maps of the call's own whose keys are numbers, and whose values are two plain cells each. -/
namespace Go.Proofs.Ytgdegpifjljnoaa.eng
open Go Go.RowKit
variable {W0 : Base}



def aopMI (P:Program) (o:Oper) (x:AAct) (st:St):Option (AN × St × Log):=none
theorem aopMI_ok {P:Program} {o:Oper} {x:AAct} {a:Act} {st st':St} {n:AN} {lg:Log} {A:Nat->Prop} {m:Map} {w:World} (h:aopMI P o x st=some (n,st',lg)) (hA:lg.Fits W0 A) (hT:TRel m x a) (hR:Rel W0 A m st.heap.get w) (hF:Fresh A m st.next) :
  ∃ m' w',Ok W0 A m st w m' st' lg w'/\Meets P m' (execOp a.eval o) w w' n:=by simp [aopMI] at h
end Go.Proofs.Ytgdegpifjljnoaa.eng
end

section
/- The engine: one operation. -/
namespace Go.Proofs.Ytgdegpifjljnoaa.eng
open Go Go.RowKit
variable {W0 : Base}

def Zps (P:Program) (st:St) (t:TypeId) (x:AV) (lo hi mx:Option AV):Option (AV × Log):=match x with
 | .sliceS r v l0 len sz=>(lookS st r v).bind fun (eo,el,esz)=>(Zj2 P t x lo hi mx).map fun (y,lg)=>(y,(Log.sees r).or ((Zhj eo len).or lg))
 | _=>none
theorem aSliceS_c0 {P:Program} {t:TypeId} {r v sz:Nat} {l0 len:SX} {lo hi mx:Option AV} {res:AV × Log} (h:Zj2 P t (.sliceS r v l0 len sz) lo hi mx=some res):isC0 l0=true:=by
 unfold Zj2 at h
 cases hc:isC0 l0 with
 | true=>rfl
 | false =>
  exfalso
  revert h
  split <;> simp_all
theorem aPartW_ok {P:Program} {st:St} {t:TypeId} {x y:AV} {lo hi mx:Option AV} {lg:Log} {A:Nat->Prop} {m:Map} {w:World} {u:Value} {vlo vhi vmx:Option Value} (h:Zps P st t x lo hi mx=some (y,lg)) (hA:lg.Fits W0 A)
  (hR:Rel W0 A m st.heap.get w) (hx:x.den m=some u) (hlo:denO m lo=some vlo) (hhi:denO m hi=some vhi) (hmx:denO m mx=some vmx):∃ v,y.den m=some v/\(Instr.sliceAt t u vlo vhi vmx).run P w=.ok v w:=by
 unfold Zps at h
 split at h
 ·rename_i r v l0 len sz
  simp only [Option.bind_eq_some_iff,Option.map_eq_some_iff] at h
  obtain ⟨⟨eo,el,esz⟩,hl,⟨y1,l1⟩,hs,he⟩:=h
  cases he
  have ha:A r:=(or_A hA).1.1 r (by simp [Log.sees,Zah])
  obtain ⟨n,f1,f2⟩:=(or_A (or_A hA).2).1.2 _ (List.mem_singleton.2 rfl)
  refine aSliceS_ok hs (or_A (or_A hA).2).2 hR hx hlo hhi hmx ?_
  intro b' l' n' c' he
  obtain ⟨b,l,n2,hb,h1,h2,rfl⟩:=Zas hR.sv hx
  cases he
  rw [f1] at h2
  simp only [Option.some.injEq,PV.v.injEq,Value.int.injEq,true_and,Int.ofNat_inj] at h2
  subst h2
  obtain ⟨k,cs,c,fz,g1,g2,g3,g4,g5,g6,g7,g8,g9⟩:=Zba hl hR ha hb
  rw [Zbx g1] at f2
  simp only [Option.some.injEq,PV.v.injEq,Value.int.injEq,true_and,Int.ofNat_inj] at f2
  subst f2
  rw [Zem (aSliceS_c0 hs)] at h1
  simp only [Option.some.injEq,PV.v.injEq,Value.int.injEq,true_and] at h1
  have hl0:l=0:=by omega
  subst hl0
  have:=Zd9 g8
  omega
 ·cases h
def plus (x y:SX):SX:=match litOf x,litOf y with
 | some a,some b=>same2 (.con (.int .i64 (.ofNat (a+b))))
 | _,_=>.bin .add x y
theorem ev_plus {x y:SX} {a b:Nat} (h1:W0.ev x=some (.v (.int .i64 (a:Int)))) (h2:W0.ev y=some (.v (.int .i64 (b:Int)))) (ha:a<=4294967296) (hb:b<=4294967296):W0.ev (plus x y)=some (.v (.int .i64 ((a+b:Nat):Int))):=by
 unfold plus
 split
 ·rename_i a' b' e1 e2
  have f1:=Zik (W0:=W0) e1
  have f2:=Zik (W0:=W0) e2
  rw [h1] at f1
  rw [h2] at f2
  simp only [Option.some.injEq,PV.v.injEq,Value.int.injEq,true_and,Int.ofNat_inj] at f1 f2
  subst f1
  subst f2
  exact ev_same2 rfl
 ·exact ev_add h1 h2 ha hb
def Zpu (P:Program) (st:St) (t:TypeId) (x:AV) (lo hi mx:Option AV):Option (AV × Log):=match P.underlying t,x,mx with
 | some (.slice e),.sliceS r v l0 len sz,none=>cond (Zbn P e == some sz) ((lookS st r v).bind fun (eo,el,esz)=>(loX lo).bind fun le=>(hiX len hi).map fun he =>
   (.sliceS r v (plus l0 le) (.bin .sub he le) sz,(Log.sees r).or ((Log.says (.cut l0 len (.len eo))).or ((Log.says (.upto l0 4294967296)).or ((Log.says (.upto le 4294967296)).or ((Log.says (.le3 le he len)).or (Log.says (.rng le len)))))))) none
 | _,_,_=>none
theorem aPartP_ok {P:Program} {st:St} {t:TypeId} {x y:AV} {lo hi mx:Option AV} {lg:Log} {A:Nat->Prop} {m:Map} {w:World} {u:Value} {vlo vhi vmx:Option Value} (h:Zpu P st t x lo hi mx=some (y,lg)) (hA:lg.Fits W0 A)
  (hR:Rel W0 A m st.heap.get w) (hx:x.den m=some u) (hlo:denO m lo=some vlo) (hhi:denO m hi=some vhi) (hmx:denO m mx=some vmx):∃ v,y.den m=some v/\(Instr.sliceAt t u vlo vhi vmx).run P w=.ok v w:=by
 unfold Zpu at h
 split at h
 ·rename_i e r v l0 len sz hu
  simp only [cond_eq_ite,beq_iff_eq] at h
  split at h
  ·rename_i hc
   simp only [Option.bind_eq_some_iff,Option.map_eq_some_iff] at h
   obtain ⟨⟨eo,el,esz⟩,hl,le,hle,he,hhe,h⟩:=h
   cases h
   simp only [denO,Option.some.injEq] at hmx
   subst hmx
   have ha:A r:=(or_A hA).1.1 r (by simp [Log.sees,Zah])
   obtain ⟨q1,q2,q3,e1,e2,e3,e4⟩:=(or_A (or_A hA).2).1.2 _ (List.mem_singleton.2 rfl)
   obtain ⟨zl,e5,e6⟩:=(or_A (or_A (or_A hA).2).2).1.2 _ (List.mem_singleton.2 rfl)
   obtain ⟨ze,e7,e8⟩:=(or_A (or_A (or_A (or_A hA).2).2).2).1.2 _ (List.mem_singleton.2 rfl)
   obtain ⟨a,b,c,f1,f2,f3,f4,f5⟩:=(or_A (or_A (or_A (or_A (or_A hA).2).2).2).2).1.2 _ (List.mem_singleton.2 rfl)
   obtain ⟨k,z,n,f6,f7,f8,f9⟩:=(or_A (or_A (or_A (or_A (or_A hA).2).2).2).2).2.2 _ (List.mem_singleton.2 rfl)
   rw [f1] at f6 e7
   rw [f3] at f7
   simp only [Option.some.injEq,PV.v.injEq,Value.int.injEq,true_and,Int.ofNat_inj] at f6 f7 e7
   obtain ⟨_,rfl⟩:=f6
   subst f7
   subst e7
   obtain ⟨bb,l,n',hb,h1,h2,rfl⟩:=Zas hR.sv hx
   rw [h1] at e1 e5
   rw [h2] at e2
   rw [f3] at h2
   simp only [Option.some.injEq,PV.v.injEq,Value.int.injEq,true_and,Int.ofNat_inj] at e1 e2 e5 h2
   subst e1
   subst e5
   subst e2
   subst h2
   obtain ⟨kk,cs,cc,fz,g1,g2,g3,g4,g5,g6,g7,g8,g9⟩:=Zba hl hR ha hb
   rw [Zbx g1] at e3
   simp only [Option.some.injEq,PV.v.injEq,Value.int.injEq,true_and,Int.ofNat_inj] at e3
   subst e3
   have hml:=Zd9 g8
   have hbo:=Zni (P:=P) (cap:=bb.2 - l) (Zph hR.sv hle hlo f1) (Zpk hR.sv hhe hhi f2 f3) f4 f5 (by omega) w
   refine ⟨_,Zgb hR.sv hb (ev_plus h1 f1 e6 e8) (ev_sub f2 f1 f4 (by omega)),?_⟩
   have hne:¬ (bb.2 - l=a):=by omega
   simp [Instr.sliceAt,Instr.slice,run_underlying hu,hbo,Zad hc,Zam,hne,Nat.add_mul,Nat.sub_sub]
  ·cases h
 ·cases h
def Zpt (P:Program) (st:St) (t:TypeId) (x:AV) (lo hi mx:Option AV):Option (AV × Log):=match Zps P st t x lo hi mx with
 | some r=>some r
 | none=>Zpu P st t x lo hi mx
theorem aPartS_ok {P:Program} {st:St} {t:TypeId} {x y:AV} {lo hi mx:Option AV} {lg:Log} {A:Nat->Prop} {m:Map} {w:World} {u:Value} {vlo vhi vmx:Option Value} (h:Zpt P st t x lo hi mx=some (y,lg)) (hA:lg.Fits W0 A)
  (hR:Rel W0 A m st.heap.get w) (hx:x.den m=some u) (hlo:denO m lo=some vlo) (hhi:denO m hi=some vhi) (hmx:denO m mx=some vmx):∃ v,y.den m=some v/\(Instr.sliceAt t u vlo vhi vmx).run P w=.ok v w:=by
 unfold Zpt at h
 split at h
 ·rename_i r hr
  cases h
  exact aPartW_ok hr hA hR hx hlo hhi hmx
 ·exact aPartP_ok h hA hR hx hlo hhi hmx

def Zpj:Option AV->Bool | some (.val (.int .i64 (.ofNat n)))=>Nat.beq n 0 | _=>false
theorem isZero_ok {x:Option AV} {m:Map} {v:Option Value} (h:Zpj x=true) (hd:denO m x=some v):v=some (.int .i64 0):=by
 unfold Zpj at h
 split at h
 ·rename_i n
  simp only [Nat.beq_eq] at h
  subst h
  simpa [denO,AV.den] using hd.symm
 ·cases h
def aCutS (P:Program) (st:St) (t:TypeId) (x:AV) (lo hi mx:Option AV):Option (AV × St × Log):=match P.underlying t,x,lo,mx with
 | some (.slice e),.sliceS r v l0 len sz,none,none=>(lookS st r v).bind fun (eo,el,esz)=>cond (isC0 l0 && Zpj hi && Nat.beq sz esz && Nat.blt 0 sz && (Zbn P e == some sz)) ((st.put r (Zai (.lit 0 []) el sz (v+1))).map fun st'=>(.sliceS r (v+1) c0 c0 sz,st',Log.turns r)) none
 | _,_,_,_=>none
theorem aCutS_ok {P:Program} {st st':St} {t:TypeId} {x y:AV} {lo hi mx:Option AV} {lg:Log} {A:Nat->Prop} {m:Map} {w:World} {u:Value} {vlo vhi vmx:Option Value} (h:aCutS P st t x lo hi mx=some (y,st',lg)) (hA:lg.Fits W0 A)
  (hR:Rel W0 A m st.heap.get w) (hF:Fresh A m st.next) (hx:x.den m=some u) (hlo:denO m lo=some vlo) (hhi:denO m hi=some vhi) (hmx:denO m mx=some vmx):∃ m',Ok W0 A m st w m' st' lg w/\∃ v,y.den m'=some v/\(Instr.sliceAt t u vlo vhi vmx).run P w=.ok v w:=by
 unfold aCutS at h
 split at h
 ·rename_i e r v l0 len sz hu
  simp only [Option.bind_eq_some_iff] at h
  obtain ⟨⟨eo,el,esz⟩,hl,h⟩:=h
  simp only [cond_eq_ite,Bool.and_eq_true,Nat.beq_eq,Nat.blt_eq,beq_iff_eq] at h
  split at h
  ·rename_i hc
   obtain ⟨⟨⟨⟨hc0,hz⟩,rfl⟩,hs0⟩,hsz⟩:=hc
   simp only [Option.map_eq_some_iff] at h
   obtain ⟨s1,hp,he⟩:=h
   cases he
   have hv0:=isZero_ok hz hhi
   simp only [denO,Option.some.injEq] at hlo hmx
   subst hlo hmx hv0
   have ha:A r:=hA.1 r (by simp [Log.turns,Zah])
   obtain ⟨b,l,n',hb,h1,h2,rfl⟩:=Zas hR.sv hx
   rw [Zem hc0] at h1
   simp only [Option.some.injEq,PV.v.injEq,Value.int.injEq,true_and] at h1
   have hl0:l=0:=by omega
   subst hl0
   obtain ⟨n2,cs,c,fz,g1,g2,g3,g4,g5,g6,g7,g8,g9⟩:=Zba hl hR ha hb
   have hev:W0.ev (.lit 0 [])=some (.row 0 (([]:List Value).map PV.v)):=rfl
   obtain ⟨q1,q2⟩:=Zoi (b':=b) hR hF hl ha hb hp (.inr rfl) (w':=w) rfl rfl rfl (Nat.le_refl _) (fun _ _ _=>rfl) (.inl rfl)
    (Zeh hev g2 g3 hs0 (by simp) (Nat.zero_le _) g7 g8 (fun i x hx=>by simp at hx) (fun x hx=>by simp at hx))
   refine ⟨_,q2,_,Zgb q2.step.rel.sv q1 (l:=0) (n:=0) rfl rfl,?_⟩
   rw [Nat.zero_mul,Nat.sub_zero]
   by_cases hb0:b.2=0 <;> simp [Instr.sliceAt,Instr.slice,run_underlying hu,Instr.sliceBounds,Instr.sliceBound,asIntOf,Zad hsz,Zam,hb0]
  ·cases h
 ·cases h

def Zm0 (P:Program) (st:St) (t:TypeId) (x:AV) (lo hi mx:Option AV):Option (AV × St × Log):=match P.underlying t,x,mx with
 | some (.slice el),.dat r,none=>(Zbn P el).bind fun sz=>(st.heap.get r).bind fun o=>o.dat.bind fun e=>(loX lo).bind fun le=>(hiX (.len e) hi).bind fun he=>cond (Nat.blt 0 sz && Nat.blt (st.next+1) 16777215)
   (some (.dat st.next,st.dats [(.sub e le he sz,o.ro)],⟨(1 <<< r) ||| Za0 st.next 1,Za0 st.next 1,[.le3 le he (.len e)]⟩)) none
 | _,_,_=>none
theorem ev_subrow {e lo hi:SX} {n a b sz:Nat} {cs:List PV} (h:W0.ev e=some (.row n cs)) (h1:W0.ev lo=some (.v (.int .i64 (a:Int)))) (h2:W0.ev hi=some (.v (.int .i64 (b:Int)))) (hab:a<=b) (hb:b<=n):W0.ev (.sub e lo hi sz)=some (.row (b - a) ((cs.drop (a * sz)).take ((b - a) * sz))):=by
 have h':e.ev W0.s W0.F=some (.row n cs):=h
 have h1':lo.ev W0.s W0.F=some (.v (.int .i64 (a:Int))):=h1
 have h2':hi.ev W0.s W0.F=some (.v (.int .i64 (b:Int))):=h2
 have q1:(0:Int)<=(a:Int):=by omega
 have q2:(a:Int)<=(b:Int):=by omega
 have q3:(b:Int)<=(n:Int):=by omega
 simp only [Base.ev,SX.ev,h',h1',h2',Option.bind_some,subPV,q1,q2,q3,decide_true,Bool.and_self,cond_true,Int.toNat_natCast]
theorem aPartD_ok {P:Program} {st st':St} {t:TypeId} {x y:AV} {lo hi mx:Option AV} {lg:Log} {A:Nat->Prop} {m:Map} {w:World} {u:Value} {vlo vhi vmx:Option Value} (h:Zm0 P st t x lo hi mx=some (y,st',lg)) (hA:lg.Fits W0 A)
  (hR:Rel W0 A m st.heap.get w) (hF:Fresh A m st.next) (hx:x.den m=some u) (hlo:denO m lo=some vlo) (hhi:denO m hi=some vhi) (hmx:denO m mx=some vmx):∃ m',Ok W0 A m st w m' st' lg w/\∃ v,y.den m'=some v/\(Instr.sliceAt t u vlo vhi vmx).run P w=.ok v w:=by
 unfold Zm0 at h
 split at h
 ·rename_i el r hu
  simp only [Option.bind_eq_some_iff] at h
  obtain ⟨sz,hs,oo,hoo,e,hr,le,hle,he,hhe,h⟩:=h
  simp only [cond_eq_ite,Bool.and_eq_true,Nat.blt_eq] at h
  split at h
  ·rename_i hc
   cases h
   simp only [denO,Option.some.injEq] at hmx
   subst hmx
   obtain ⟨a,b,c,f1,f2,f3,f4,f5⟩:=hA.2 (.le3 le he (.len e)) (by simp)
   have hAr:A r:=hA.1 r (Zat ((Zah _ _).2 rfl))
   have hAn:∀ k,st.next<=k->k < st.next+1->A k:=fun k h1 h2=>hA.1 k (Za2 ((Za9 _ _ _).2 ⟨h1,h2⟩))
   obtain ⟨oo',u0,fp,p,ho,hd,hm,hou,hlt,hfpb,hp,hrd⟩:=thing hR (Option.bind_eq_some_iff.2 ⟨oo,hoo,hr⟩) hAr
   rw [hoo] at ho
   cases ho
   simp only [AV.den,hm,Option.bind_some,hou,cond_true,Option.some.injEq] at hx
   subst hx
   have hrow:∃ n cs,p=.row n cs:=by
    have f3':=f3
    have hp':e.ev W0.s W0.F=some p:=hp
    simp only [Base.ev,SX.ev,hp',Option.bind_some] at f3'
    cases p with
    | v y=>simp [lenPV] at f3'
    | row n cs=>exact ⟨n,cs,rfl⟩
   obtain ⟨n,cs,rfl⟩:=hrow
   rw [Zbx hp] at f3
   simp only [Option.some.injEq,PV.v.injEq,Value.int.injEq,true_and,Int.ofNat_inj] at f3
   subst f3
   have h0:=hrd w (fun _ _=>rfl)
   simp only [Reads] at h0
   obtain ⟨aa,cap,rfl,c1,c2,_⟩:=h0
   have hbo:=Zni (P:=P) (cap:=cap) (Zph hR.sv hle hlo f1) (Zpk hR.sv hhe hhi f2 (Zbx hp)) f4 f5 c1 w
   let res:Value:=.slice (if cap=a then aa else aa.map (·.add (a * sz))) (b - a) (cap - a)
   have hrun:(Instr.sliceAt t (.slice aa n cap) vlo vhi none).run P w=.ok res w:=by
    simp [Instr.sliceAt,Instr.slice,run_underlying hu,hbo,Zad hs,res]
   have hev:W0.ev (.sub e le he sz)=some (.row (b - a) ((cs.drop (a * sz)).take ((b - a) * sz))):=ev_subrow hp f1 f2 f4 f5
   have hreads:∀ w2:World,(∀ k,fp k->w2.heap[k]?=w.heap[k]?)->Reads w2 (.row (b - a) ((cs.drop (a * sz)).take ((b - a) * sz))) res:=fun w2 hw2=>by
    have h:=hrd w2 hw2
    simp only [Reads] at h
    obtain ⟨aa',cap',he',_,_,h6⟩:=h
    cases he'
    simp only [Reads,res]
    refine ⟨_,_,rfl,by omega,by omega,?_⟩
    by_cases hne:(cs.drop (a * sz)).take ((b - a) * sz)=[]
    ·exact .inl hne
    ·right
     have hab:a < b:=by
      rcases Nat.lt_or_ge a b with h | h
      ·exact h
      ·have:b - a=0:=by omega
       rw [this] at hne
       simp at hne
     rcases h6 with h6 | ⟨blk,off,rfl,h6⟩
     ·rw [h6] at hne;simp at hne
     ·refine ⟨blk,off+a * sz,by rw [if_neg (by omega)];simp [Zam],Za8.of fun j q hq=>?_⟩
      have hj:j < (b - a) * sz:=by
       have:=(List.getElem?_eq_some_iff.1 hq).1
       simp only [List.length_take] at this
       all_goals omega
      rw [List.getElem?_take,if_pos hj,List.getElem?_drop] at hq
      have:=Za8.at h6 hq
      rwa [<- Nat.add_assoc] at this
   obtain ⟨m',hok,hd',_⟩:=Zj0 (lg:=⟨(1 <<< r) ||| Za0 st.next 1,Za0 st.next 1,[.le3 le he (.len e)]⟩) hR hF (Ex.refl w) [(.sub e le he sz,oo.ro)] [res] (fun _=>fp) rfl rfl (by simp;omega) (fun k h1 h2=>hAn k h1 (by simpa using h2)) (by
    intro j e' u' h1 h2
    match j,h1,h2 with
    | 0,h1,h2 =>
     simp only [List.getElem?_cons_zero,Option.some.injEq] at h1 h2
     subst h1
     subst h2
     exact ⟨rfl,fun k hk=>⟨hlt k hk,fun hro=>hfpb hro k hk,fun _=>⟨r,oo,e,_,fp,hAr,hoo,hd,hm,hk⟩⟩,fun w2 hw2=>⟨_,hev,hreads w2 hw2⟩⟩
    | j+1,h1,h2=>simp at h1)
   refine ⟨m',hok,res,?_,hrun⟩
   have:=hd' 0 res rfl
   rw [Nat.add_zero] at this
   simp only [AV.den,this,Option.bind_some]
   rfl
  ·cases h
 ·cases h

def aopC (P:Program) (o:Oper) (c:Call) (x:AAct) (st:St):Option (AN × St × Log):=match c.callee with
 | .builtin .append=>match c.argTypes.toList,c.args.toList with
  | [t,tx],[s,y]=>(ev x s).bind fun a=>(ev x y).bind fun b=>(Zhh P st t tx a b).map fun (z,st',lg)=>(.value z,st',lg)
  | _,_=>none
 | .builtin .copy=>match c.argTypes.toList,c.args.toList with
  | [t,tx],[s,y]=>(ev x s).bind fun a=>(ev x y).bind fun b=>(Zm2 P st t tx a b).map fun (z,st',lg)=>(.value z,st',lg)
  | _,_=>none
 | .builtin .len=>match c.argTypes.toList,c.args.toList with
  | [t],[s]=>(ev x s).bind fun a=>match P.underlying t,a with
   | some (.slice _),.sliceS r v lo len sz=>some (.value (.sym len),st,Log.no)
   | _,_=>none
  | _,_=>none
 | .builtin .max=>match c.args.toList with
  | [s,y]=>(ev x s).bind fun a=>(ev x y).bind fun b=>a.sx.bind fun ea=>b.sx.map fun eb=>(.value (.sym (.rop .max2 [ea,eb])),st,Log.says (.ok (.rop .max2 [ea,eb])))
  | _=>none
 | .builtin .min=>match c.args.toList with
  | [s,y]=>(ev x s).bind fun a=>(ev x y).bind fun b=>a.sx.bind fun ea=>b.sx.map fun eb=>(.value (.sym (.rop .min2 [ea,eb])),st,Log.says (.ok (.rop .min2 [ea,eb])))
  | _=>none
 | _=>none
theorem ropInts {o:ROp} (ho:o=.max2 \/ o=.min2) {ea eb:SX} {va vb:Value} (h:(Fact.ok (.rop o [ea,eb])).holds W0) (ha:W0.ev ea=some (.v va)) (hb:W0.ev eb=some (.v vb)):∃ k k' x y,va=.int k x/\vb=.int k' y/\W0.ev (.rop o [ea,eb])=some (.v (.int k (match o with | .max2=>max x y | _=>min x y))):=by
 obtain ⟨v,hv,_⟩:=h
 have ha':ea.ev W0.s W0.F=some (.v va):=ha
 have hb':eb.ev W0.s W0.F=some (.v vb):=hb
 have hv2:=hv
 rcases ho with rfl | rfl <;> simp only [Base.ev,SX.ev,evs,ha',hb',Option.bind_some,Option.map_some] at hv2 ⊢ <;> cases va <;> cases vb <;> simp [ropPV] at hv2 ⊢ <;> exact ⟨_,_,_,⟨rfl,rfl⟩,_,⟨rfl,rfl⟩,rfl,rfl⟩
def aopO (P:Program) (o:Oper) (x:AAct) (st:St):Option (AN × St × Log):=match o.op with
 | .load t a=>(ev x a).bind fun q=>(Zpw P st t q).map fun (y,lg)=>(.value y,st,lg)
 | .store t a b=>(ev x a).bind fun p=>(ev x b).bind fun q=>(Zl5 P st t p q).map fun (st',lg)=>(.value (.val undef),st',lg)
 | .indexAddr t a i=>(ev x a).bind fun q=>(ev x i).bind fun j=>(aIdxS P t q j).map fun (y,lg)=>(.value y,st,lg)
 | .makeSlice t l c=>(ev x l).bind fun a=>(ev x c).bind fun b=>(Zoq P st t a b).map fun (y,st',lg)=>(.value y,st',lg)
 | .convert s d a=>(ev x a).bind fun q=>match aStrO P st s d q with
  | some (y,st',lg)=>some (.value y,st',lg)
  | none=>(Zj3 P st s d q).map fun (y,st',lg)=>(.value y,st',lg)
 | .slice t a lo hi mx=>(ev x a).bind fun q=>(evO x lo).bind fun l=>(evO x hi).bind fun h=>(evO x mx).bind fun n=>match aCutS P st t q l h n with
  | some (y,st',lg)=>some (.value y,st',lg)
  | none=>match Zpt P st t q l h n with
   | some (y,lg)=>some (.value y,st,lg)
   | none=>(Zm0 P st t q l h n).map fun (y,st',lg)=>(.value y,st',lg)
 | .call c=>aopC P o c x st
 | .nilCheck a=>(ev x a).bind fun q=>match q with
  | .ptrS r v e sz sub=>some (.value (.ptrS r v e sz sub),st,Log.no)
  | _=>none
 | _=>none
theorem Zht {P:Program} (hN:GoodP P) {o:Oper} {x:AAct} {a:Act} {st st':St} {n:AN} {lg:Log} {A:Nat->Prop} {m:Map} {w:World} (h:aopO P o x st=some (n,st',lg)) (hA:lg.Fits W0 A) (hT:TRel m x a) (hR:Rel W0 A m st.heap.get w) (hF:Fresh A m st.next) :
  ∃ m' w',Ok W0 A m st w m' st' lg w'/\Meets P m' (execOp a.eval o) w w' n:=by
 unfold aopO at h
 split at h
 ·rename_i t y ho
  simp only [Option.bind_eq_some_iff,Option.map_eq_some_iff] at h
  obtain ⟨q,hq,⟨z,l1⟩,hl,he⟩:=h
  cases he
  obtain ⟨v,hv,hrun⟩:=aLoadS_ok hl hA hR (ev_ok hT hq)
  exact ⟨m,w,Ok.refl hR hF,v,hv,.inl (by simp [execOp,ho,hrun])⟩
 ·rename_i t y z ho
  simp only [Option.bind_eq_some_iff,Option.map_eq_some_iff] at h
  obtain ⟨p,hp,q,hq,⟨s1,l1⟩,hs,he⟩:=h
  cases he
  obtain ⟨m',w',hrun,hok⟩:=aStoreS_ok hs hA hR hF (ev_ok hT hp) (ev_ok hT hq)
  exact ⟨m',w',hok,undef,rfl,.inr ⟨rfl,by simp [execOp,ho,hrun]⟩⟩
 ·rename_i t y i ho
  simp only [Option.bind_eq_some_iff,Option.map_eq_some_iff] at h
  obtain ⟨q,hq,j,hj,⟨z,l1⟩,hs,he⟩:=h
  cases he
  obtain ⟨v,hv,hrun⟩:=aIdxS_ok hs hA hR (ev_ok hT hq) (ev_ok hT hj)
  exact ⟨m,w,Ok.refl hR hF,v,hv,.inl (by simp [execOp,ho,hrun])⟩
 ·rename_i t l c ho
  simp only [Option.bind_eq_some_iff,Option.map_eq_some_iff] at h
  obtain ⟨p,hp,q,hq,⟨y,s1,l1⟩,hy,he⟩:=h
  cases he
  obtain ⟨m',w',v,hv,hrun,hok⟩:=aMakeS_ok hy hA hR hF (ev_ok hT hp) (ev_ok hT hq)
  exact ⟨m',w',hok,v,hv,.inl (by simp [execOp,ho,hrun])⟩
 ·rename_i s d y ho
  simp only [Option.bind_eq_some_iff] at h
  obtain ⟨q,hq,h⟩:=h
  split at h
  ·rename_i z s1 lg' hz
   simp only [Option.some.injEq,Prod.mk.injEq] at h
   obtain ⟨rfl,rfl,rfl⟩:=h
   obtain ⟨m',v,hv,hrun,hok⟩:=aStrO_ok hz hA hR hF (ev_ok hT hq)
   exact ⟨m',w,hok,v,hv,.inl (by simp [execOp,ho,hrun])⟩
  ·simp only [Option.map_eq_some_iff] at h
   obtain ⟨⟨z,s1,l1⟩,hz,he⟩:=h
   cases he
   obtain ⟨m',w',v,hv,hrun,hok⟩:=aBytesS_ok hz hA hR hF (ev_ok hT hq)
   exact ⟨m',w',hok,v,hv,.inl (by simp [execOp,ho,hrun])⟩
 ·rename_i t y lo hi mx ho
  simp only [Option.bind_eq_some_iff] at h
  obtain ⟨q,hq,l,hl,hh,hhh,k,hk,h⟩:=h
  split at h
  ·rename_i z s1 lg' hz
   simp only [Option.some.injEq,Prod.mk.injEq] at h
   obtain ⟨rfl,rfl,rfl⟩:=h
   obtain ⟨m',hok,v,hv,hrun⟩:=aCutS_ok hz hA hR hF (ev_ok hT hq) (Zeu hT hl) (Zeu hT hhh) (Zeu hT hk)
   exact ⟨m',w,hok,v,hv,.inl (by simp [execOp,ho,hrun])⟩
  ·split at h
   ·rename_i z lg' hz
    simp only [Option.some.injEq,Prod.mk.injEq] at h
    obtain ⟨rfl,rfl,rfl⟩:=h
    obtain ⟨v,hv,hrun⟩:=aPartS_ok hz hA hR (ev_ok hT hq) (Zeu hT hl) (Zeu hT hhh) (Zeu hT hk)
    exact ⟨m,w,Ok.refl hR hF,v,hv,.inl (by simp [execOp,ho,hrun])⟩
   ·simp only [Option.map_eq_some_iff] at h
    obtain ⟨⟨z,s1,l1⟩,hz,he⟩:=h
    cases he
    obtain ⟨m',hok,v,hv,hrun⟩:=aPartD_ok hz hA hR hF (ev_ok hT hq) (Zeu hT hl) (Zeu hT hhh) (Zeu hT hk)
    exact ⟨m',w,hok,v,hv,.inl (by simp [execOp,ho,hrun])⟩
 ·rename_i c ho
  have hex:execOp a.eval o=(do let d <- resolve a.eval c o.type;invoke d.target d.args):=by unfold execOp;rw [ho]
  have hbu:∀ b,c.callee=.builtin b->∃ cs,execOp a.eval o=builtin b c.argTypes o.type cs (c.args.map a.eval):=fun b hb=>by
   rw [hex];unfold resolve;rw [hb];exact ⟨_,rfl⟩
  unfold aopC at h
  split at h
  ·rename_i hc
   obtain ⟨cs,hcs⟩:=hbu _ hc
   split at h
   ·rename_i t tx s y hat har
    simp only [Option.bind_eq_some_iff,Option.map_eq_some_iff] at h
    obtain ⟨p,hp,q,hq,⟨z,s1,l1⟩,hap,he⟩:=h
    cases he
    have e1:c.argTypes=#[t,tx]:=by apply Array.ext';simpa using hat
    have e2:c.args=#[s,y]:=by apply Array.ext';simpa using har
    obtain ⟨m',w',v,hv,hrun,hok⟩:=aAppendO_ok (ty:=o.type) hap hA hR hF (ev_ok hT hp) (ev_ok hT hq)
    refine ⟨m',w',hok,v,hv,.inl ?_⟩
    rw [hcs,e1,e2]
    simpa [builtin] using run_v hrun
   ·cases h
  ·rename_i hc
   obtain ⟨cs,hcs⟩:=hbu _ hc
   split at h
   ·rename_i t tx s y hat har
    simp only [Option.bind_eq_some_iff,Option.map_eq_some_iff] at h
    obtain ⟨p,hp,q,hq,⟨z,s1,l1⟩,hap,he⟩:=h
    cases he
    have e1:c.argTypes=#[t,tx]:=by apply Array.ext';simpa using hat
    have e2:c.args=#[s,y]:=by apply Array.ext';simpa using har
    obtain ⟨m',w',v,hv,hrun,hok⟩:=aCopyS_ok (ty:=o.type) (tx:=tx) hap hA hR hF (ev_ok hT hp) (ev_ok hT hq)
    refine ⟨m',w',hok,v,hv,.inl ?_⟩
    rw [hcs,e1,e2]
    simpa [builtin] using run_v hrun
   ·cases h
  ·rename_i hc
   obtain ⟨cs,hcs⟩:=hbu _ hc
   split at h
   ·rename_i t s hat har
    simp only [Option.bind_eq_some_iff] at h
    obtain ⟨p,hp,h⟩:=h
    split at h
    ·rename_i e r v lo len sz hu
     simp only [Option.some.injEq,Prod.mk.injEq] at h
     obtain ⟨rfl,rfl,rfl⟩:=h
     have e1:c.argTypes=#[t]:=by apply Array.ext';simpa using hat
     have e2:c.args=#[s]:=by apply Array.ext';simpa using har
     obtain ⟨b,l,nn,hb,h1,h2,hv⟩:=Zas hR.sv (ev_ok hT hp)
     refine ⟨m,w,Ok.refl hR hF,_,Zdp hR.sv h2 rfl,.inl ?_⟩
     rw [hcs,e1,e2]
     simp [builtin,Builtin.len_,hv,run_underlying hu,goInt]
    ·cases h
   ·cases h
  ·rename_i hc
   obtain ⟨cs,hcs⟩:=hbu _ hc
   split at h
   ·rename_i s y har
    simp only [Option.bind_eq_some_iff,Option.map_eq_some_iff] at h
    obtain ⟨p,hp,q,hq,ea,hea,eb,heb,he⟩:=h
    cases he
    have e2:c.args=#[s,y]:=by apply Array.ext';simpa using har
    obtain ⟨k,k',xx,yy,g1,g2,g3⟩:=ropInts (.inl rfl) (hA.2 _ (List.mem_singleton.2 rfl)) (sx_ok hR.sv p hea (ev_ok hT hp)) (sx_ok hR.sv q heb (ev_ok hT hq))
    refine ⟨m,w,Ok.refl hR hF,_,Zdp hR.sv g3 rfl,.inl ?_⟩
    rw [hcs,e2]
    simp [builtin,g1,g2,Lib.run_max_ints]
   ·cases h
  ·rename_i hc
   obtain ⟨cs,hcs⟩:=hbu _ hc
   split at h
   ·rename_i s y har
    simp only [Option.bind_eq_some_iff,Option.map_eq_some_iff] at h
    obtain ⟨p,hp,q,hq,ea,hea,eb,heb,he⟩:=h
    cases he
    have e2:c.args=#[s,y]:=by apply Array.ext';simpa using har
    obtain ⟨k,k',xx,yy,g1,g2,g3⟩:=ropInts (.inr rfl) (hA.2 _ (List.mem_singleton.2 rfl)) (sx_ok hR.sv p hea (ev_ok hT hp)) (sx_ok hR.sv q heb (ev_ok hT hq))
    refine ⟨m,w,Ok.refl hR hF,_,Zdp hR.sv g3 rfl,.inl ?_⟩
    rw [hcs,e2]
    simp [builtin,g1,g2,Lib.run_min_ints]
   ·cases h
  ·cases h
 ·rename_i y ho
  simp only [Option.bind_eq_some_iff] at h
  obtain ⟨q,hq,h⟩:=h
  have hv:=ev_ok hT hq
  split at h
  ·simp only [Option.some.injEq,Prod.mk.injEq] at h
   obtain ⟨rfl,rfl,rfl⟩:=h
   refine ⟨m,w,Ok.refl hR hF,_,hv,.inl ?_⟩
   simp only [AV.den,Option.bind_eq_some_iff,Option.map_eq_some_iff] at hv
   obtain ⟨b,hb,c,hc,n,hn,hv⟩:=hv
   simp [execOp,ho,<- hv]
  ·cases h
 ·cases h

def aopI (P:Program) (o:Oper) (x:AAct) (st:St):Option (AN × St × Log):=match o.op with
 | .indexAddr t a i=>(ev x a).bind fun q=>(ev x i).bind fun j=>(symOf st q).bind fun (q',s1,l1)=>(aIdxS P t q' j).map fun (y,l2)=>(.value y,s1,l1.or l2)
 | .assign a=>(ev x a).bind fun q=>(symOf st q).map fun (q',s1,l1)=>(.value q',s1,l1)
 | _=>none
theorem aopI_ok {P:Program} {o:Oper} {x:AAct} {a:Act} {st st':St} {n:AN} {lg:Log} {A:Nat->Prop} {m:Map} {w:World} (h:aopI P o x st=some (n,st',lg)) (hA:lg.Fits W0 A) (hT:TRel m x a) (hR:Rel W0 A m st.heap.get w) (hF:Fresh A m st.next) :
  ∃ m' w',Ok W0 A m st w m' st' lg w'/\Meets P m' (execOp a.eval o) w w' n:=by
 unfold aopI at h
 split at h
 ·rename_i t y i ho
  simp only [Option.bind_eq_some_iff,Option.map_eq_some_iff] at h
  obtain ⟨q,hq,j,hj,⟨q',s1,l1⟩,hsy,⟨z,l2⟩,hs,he⟩:=h
  cases he
  obtain ⟨m',hx',hok⟩:=Zif hsy (or_A hA).1 hR hF (ev_ok hT hq)
  obtain ⟨v,hv,hrun⟩:=aIdxS_ok hs (or_A hA).2 hok.rel hx' (AV.den_mono hok.ext _ (ev_ok hT hj))
  exact ⟨m',w,hok.more (fun r hr=>Zat hr),v,hv,.inl (by simp [execOp,ho,hrun])⟩
 ·rename_i y ho
  simp only [Option.bind_eq_some_iff,Option.map_eq_some_iff] at h
  obtain ⟨q,hq,⟨q',s1,l1⟩,hsy,he⟩:=h
  cases he
  obtain ⟨m',hx',hok⟩:=Zif hsy hA hR hF (ev_ok hT hq)
  exact ⟨m',w,hok,_,hx',.inl (by simp [execOp,ho])⟩
 ·cases h
def Zlh (st:St):AV->Option (SX × Log)
 | .dat r=>((st.heap.get r).bind (·.dat)).map fun e=>(.len e,Log.sees r)
 | .sliceS _ _ _ len _=>some (len,Log.no)
 | .slice _ _ _ _ len _ _=>some (.con (.int .i64 (len:Int)),Log.no)
 | _=>none
def Zlm (P:Program) (o:Oper) (x:AAct) (st:St):Option (AN × St × Log):=match o.op with
 | .indexAddr t a i=>(ev x a).bind fun q=>(ev x i).bind fun j=>j.sx.bind fun ie=>match P.underlying t with
  | some (.slice _)=>(Zlh st q).bind fun (n,l0)=>match st.path with
   | 0 :: rest=>some (.panic anyV,{ st with path:=rest },(l0.or (Log.says (.ok n))).or (Log.says (.is (.bin .lss ie (.con (.int .i64 0))) (.bool true))))
   | _ :: rest=>some (.panic anyV,{ st with path:=rest },l0.or (Log.says (.is (.bin .geq ie n) (.bool true))))
   | []=>none
  | _=>none
 | .makeSlice t l c=>(ev x l).bind fun a=>(ev x c).bind fun b=>a.sx.bind fun ea=>b.sx.bind fun eb=>match P.underlying t with
  | some (.slice e)=>cond (P.info? e).isSome (some (.panic anyV,st,(Log.says (.is (.bin .lss ea (.con (.int .i64 0))) (.bool true))).or ((Log.says (.is (.bin .lss (.conv .i64 ea) (.con (.int .i64 0))) (.bool true))).or (Log.says (.is (.bin .lss (.conv .i64 eb) (.con (.int .i64 0))) (.bool true)))))) none
  | _=>none
 | _=>none
theorem Zmt {a b:SX} (h:(Fact.is (.bin .lss a b) (.bool true)).holds W0):∃ k x y,W0.ev a=some (.v (.int k x))/\W0.ev b=some (.v (.int k y))/\x < y:=by
 have h:W0.ev (.bin .lss a b)=some (.v (.bool true)):=h
 simp only [Base.ev,SX.ev,Option.bind_eq_some_iff] at h
 obtain ⟨p,hp,q,hq,h⟩:=h
 unfold binPV at h
 split at h
 ·rename_i k x k' y
  simp only [cond_eq_ite,decide_eq_true_eq] at h
  split at h
  ·rename_i hk
   subst hk
   simp at h
   exact ⟨k,x,y,hp,hq,h⟩
  ·cases h
 ·simp at h
 ·cases h
theorem geq_is {a b:SX} (h:(Fact.is (.bin .geq a b) (.bool true)).holds W0):∃ k x y,W0.ev a=some (.v (.int k x))/\W0.ev b=some (.v (.int k y))/\y<=x:=by
 have h:W0.ev (.bin .geq a b)=some (.v (.bool true)):=h
 simp only [Base.ev,SX.ev,Option.bind_eq_some_iff] at h
 obtain ⟨p,hp,q,hq,h⟩:=h
 unfold binPV at h
 split at h
 ·rename_i k x k' y
  simp only [cond_eq_ite,decide_eq_true_eq] at h
  split at h
  ·rename_i hk
   subst hk
   simp at h
   exact ⟨k,x,y,hp,hq,h⟩
  ·cases h
 ·simp at h
 ·cases h
theorem Zjm {st:St} {q:AV} {n:SX} {l0:Log} {A:Nat->Prop} {m:Map} {w:World} {u:Value} (h:Zlh st q=some (n,l0)) (hA:l0.Fits W0 A) (hR:Rel W0 A m st.heap.get w) (hq:q.den m=some u) {k:IntKind} {y:Int} (hy:W0.ev n=some (.v (.int k y))):∃ a len cap,u=.slice a len cap/\y=(len:Int):=by
 unfold Zlh at h
 split at h
 ·rename_i r
  simp only [Option.map_eq_some_iff] at h
  obtain ⟨e,hr,he⟩:=h
  cases he
  obtain ⟨oo,v,fp,p,_,_,hm,hou,_,_,hp,hrd⟩:=thing hR hr (hA.1 r (by simp [Log.sees,Zah]))
  simp only [AV.den,hm,Option.bind_some,hou,cond_true,Option.some.injEq] at hq
  subst hq
  have hp':e.ev W0.s W0.F=some p:=hp
  simp only [Base.ev,SX.ev,hp',Option.bind_some] at hy
  cases p with
  | v x=>simp [lenPV] at hy
  | row nn cs =>
   simp only [lenPV,Option.some.injEq,PV.v.injEq,Value.int.injEq] at hy
   have:=hrd w (fun _ _=>rfl)
   simp only [Reads] at this
   obtain ⟨a,cap,rfl,_⟩:=this
   exact ⟨a,nn,cap,rfl,hy.2.symm⟩
 ·simp only [Option.some.injEq,Prod.mk.injEq] at h
  obtain ⟨rfl,rfl⟩:=h
  obtain ⟨b,l,n',hb,h1,h2,rfl⟩:=Zas hR.sv hq
  rw [hy] at h2
  simp only [Option.some.injEq,PV.v.injEq,Value.int.injEq] at h2
  exact ⟨_,_,_,rfl,h2.2⟩
 ·simp only [Option.some.injEq,Prod.mk.injEq] at h
  obtain ⟨rfl,rfl⟩:=h
  simp only [AV.den,Option.map_eq_some_iff] at hq
  obtain ⟨b,hb,rfl⟩:=hq
  simp only [Base.ev,SX.ev,Option.some.injEq,PV.v.injEq,Value.int.injEq] at hy
  exact ⟨_,_,_,rfl,hy.2.symm⟩
 ·cases h
theorem outLen_slice {st:St} {q:AV} {n:SX} {l0:Log} {A:Nat->Prop} {m:Map} {w:World} {u:Value} (h:Zlh st q=some (n,l0)) (hA:l0.Fits W0 A) (hR:Rel W0 A m st.heap.get w) (hq:q.den m=some u) (hk:(Fact.ok n).holds W0):∃ a len cap,u=.slice a len cap:=by
 have h':=h
 unfold Zlh at h
 split at h
 ·rename_i r
  simp only [Option.map_eq_some_iff] at h
  obtain ⟨e,hr,he⟩:=h
  cases he
  obtain ⟨v,hv,_⟩:=hk
  have hv2:=hv
  simp only [Base.ev,SX.ev,Option.bind_eq_some_iff] at hv
  obtain ⟨p,hp,hl⟩:=hv
  cases p with
  | v x=>simp [lenPV] at hl
  | row nn cs =>
   have hl2:W0.ev (.len e)=some (.v (.int .i64 (nn:Int))):=by simp [Base.ev,SX.ev,hp,lenPV]
   obtain ⟨a,len,cap,g,_⟩:=Zjm h' hA hR hq hl2
   exact ⟨a,len,cap,g⟩
 ·obtain ⟨b,l,n',hb,_,_,hq'⟩:=Zas hR.sv hq
  exact ⟨_,_,_,hq'⟩
 ·simp only [AV.den,Option.map_eq_some_iff] at hq
  obtain ⟨b,hb,hq'⟩:=hq
  exact ⟨_,_,_,hq'.symm⟩
 ·cases h
theorem aopOut_st {P:Program} {o:Oper} {x:AAct} {st st':St} {n:AN} {lg:Log} (h:Zlm P o x st=some (n,st',lg)):∃ rest,st'={ st with path:=rest }:=by
 unfold Zlm at h
 split at h
 ·simp only [Option.bind_eq_some_iff] at h
  obtain ⟨q,_,j,_,ie,_,h⟩:=h
  split at h
  ·simp only [Option.bind_eq_some_iff] at h
   obtain ⟨⟨n1,l0⟩,_,h⟩:=h
   split at h
   ·simp only [Option.some.injEq,Prod.mk.injEq] at h
    exact ⟨_,h.2.1.symm⟩
   ·simp only [Option.some.injEq,Prod.mk.injEq] at h
    exact ⟨_,h.2.1.symm⟩
   ·cases h
  ·cases h
 ·simp only [Option.bind_eq_some_iff] at h
  obtain ⟨a,_,b,_,ea,_,eb,_,h⟩:=h
  split at h
  ·simp only [cond_eq_ite] at h
   split at h
   ·simp only [Option.some.injEq,Prod.mk.injEq] at h
    exact ⟨st.path,h.2.1.symm⟩
   ·cases h
  ·cases h
 ·cases h
theorem aopOut_ok {P:Program} {o:Oper} {x:AAct} {a:Act} {st st':St} {n:AN} {lg:Log} {A:Nat->Prop} {m:Map} {w:World} (h:Zlm P o x st=some (n,st',lg)) (hA:lg.Fits W0 A) (hT:TRel m x a) (hR:Rel W0 A m st.heap.get w) (hF:Fresh A m st.next) :
  ∃ m' w',Ok W0 A m st w m' st' lg w'/\Meets P m' (execOp a.eval o) w w' n:=by
 unfold Zlm at h
 split at h
 ·rename_i t y i ho
  simp only [Option.bind_eq_some_iff] at h
  obtain ⟨q,hq,j,hj,ie,hie,h⟩:=h
  have hqd:=ev_ok hT hq
  have hiv:=sx_ok hR.sv j hie (ev_ok hT hj)
  split at h
  ·rename_i el hu
   simp only [Option.bind_eq_some_iff] at h
   obtain ⟨⟨n1,l0⟩,hol,h⟩:=h
   have fin:∀ (rest:List Nat) (f:Fact) (l1:Log),(some (AN.panic anyV,{ st with path:=rest },l1.or (Log.says f)):Option (AN × St × Log))=some (n,st',lg) →
     (f.holds W0->l1.Fits W0 A->∃ (aa:Option Addr) (len cap:Nat) (k:IntKind) (z:Int),a.eval y=.slice aa len cap/\a.eval i=.int k z/\(aa=none \/ z < 0 \/ (len:Int)<=z))->∃ m' w',Ok W0 A m st w m' st' lg w'/\Meets P m' (execOp a.eval o) w w' n:=by
    intro rest f l1 h hf
    simp only [Option.some.injEq,Prod.mk.injEq] at h
    obtain ⟨rfl,rfl,rfl⟩:=h
    obtain ⟨aa,len,cap,k,z,e1,e2,e3⟩:=hf ((or_A hA).2.2 _ (List.mem_singleton.2 rfl)) (or_A hA).1
    obtain ⟨v,d,hrun⟩:=Znb (t:=t) hu aa len cap k z e3 w
    exact ⟨m,{ w with drawn:=d },⟨Ze1 d hR,hF⟩,v,by simp [execOp,ho,e1,e2,hrun,Zg3]⟩
   have slc:l0.Fits W0 A->∀ {k:IntKind} {y':Int},W0.ev n1=some (.v (.int k y'))->∃ aa len cap,a.eval y=.slice aa len cap/\y'=(len:Int):=fun h0 _ _ hy=>Zjm hol h0 hR hqd hy
   split at h
   ·refine fin _ _ _ h (fun hf h0=>?_)
    obtain ⟨k,x1,y1,g1,g2,g3⟩:=Zmt hf
    rw [hiv] at g1
    simp only [Option.some.injEq,PV.v.injEq] at g1
    simp only [Base.ev,SX.ev,Option.some.injEq,PV.v.injEq,Value.int.injEq] at g2
    obtain ⟨aa,len,cap,e1⟩:=outLen_slice hol (or_A h0).1 hR hqd ((or_A h0).2.2 _ (List.mem_singleton.2 rfl))
    exact ⟨aa,len,cap,k,x1,e1,g1,.inr (.inl (by omega))⟩
   ·refine fin _ _ _ h (fun hf h0=>?_)
    obtain ⟨k,x1,y1,g1,g2,g3⟩:=geq_is hf
    rw [hiv] at g1
    simp only [Option.some.injEq,PV.v.injEq] at g1
    obtain ⟨aa,len,cap,e1,e2⟩:=slc h0 g2
    exact ⟨aa,len,cap,k,x1,e1,g1,.inr (.inr (by omega))⟩
   ·cases h
  ·cases h
 ·rename_i t l c ho
  simp only [Option.bind_eq_some_iff] at h
  obtain ⟨p,hp,q,hq,ea,hea,eb,heb,h⟩:=h
  split at h
  ·rename_i e hu
   cases hi:(P.info? e).isSome with
   | false=>simp [hi] at h
   | true =>
    simp only [hi,cond_true,Option.some.injEq,Prod.mk.injEq] at h
    obtain ⟨rfl,rfl,rfl⟩:=h
    have hl:=sx_ok hR.sv p hea (ev_ok hT hp)
    have hc:=sx_ok hR.sv q heb (ev_ok hT hq)
    obtain ⟨k1,x1,y1,a1,a2,a3⟩:=Zmt ((or_A hA).1.2 _ (List.mem_singleton.2 rfl))
    obtain ⟨k2,x2,y2,b1,b2,b3⟩:=Zmt ((or_A (or_A hA).2).1.2 _ (List.mem_singleton.2 rfl))
    obtain ⟨k3,x3,y3,c1,c2,c3⟩:=Zmt ((or_A (or_A hA).2).2.2 _ (List.mem_singleton.2 rfl))
    rw [hl] at a1
    simp only [Option.some.injEq,PV.v.injEq] at a1
    have hl':ea.ev W0.s W0.F=some (.v (a.eval l)):=hl
    have hc':eb.ev W0.s W0.F=some (.v (a.eval c)):=hc
    simp only [Base.ev,SX.ev,Option.some.injEq,PV.v.injEq,Value.int.injEq] at a2 b2 c2
    simp only [Base.ev,SX.ev,hl',a1,Zaj,Option.bind_some,Option.some.injEq,PV.v.injEq,Value.int.injEq] at b1
    simp only [Base.ev,SX.ev,hc',Option.bind_some] at c1
    unfold Zaj at c1
    split at c1
    ·rename_i kc n hn
     simp only [PV.v.injEq] at hn
     simp only [Option.some.injEq,PV.v.injEq,Value.int.injEq] at c1
     obtain ⟨v,hrun⟩:=run_make_out (P:=P) (t:=t) hu hi (kl:=k1) (kc:=kc) (n:=x1) (k:=n) (by omega) (by omega) (by omega) w
     exact ⟨m,w,Ok.refl hR hF,v,by simp [execOp,ho,a1,hn,hrun,Zg3]⟩
    ·cases c1
  ·cases h
 ·cases h
theorem run_boundsB (P:Program) (k:IntKind) (x y:Int) (w:World):∃ v n,(boundsPanic (α:=Nat) k x y .sliceB).run P w=.halt (.panic v) { w with drawn:=n }:=by
 unfold boundsPanic
 split
 ·refine ⟨.iface P.rt.boundsError (.agg #[.int .i64 (IntKind.i64.wrap x), .int .i64 y, .bool (w.tape w.drawn (.extern "runtime.boundsError.signed" 2) % 2 == 1), .int .u8 3]), w.drawn + 1, ?_⟩
  simp [Question.forced,Question.cut,runtimePanic,goPanic]
  rfl
 ·refine ⟨.iface P.rt.boundsError (.agg #[.int .i64 (IntKind.i64.wrap x),.int .i64 y,.bool (k != .u64),.int .u8 3]),w.drawn,?_⟩
  simp [runtimePanic,goPanic]
  rfl
theorem run_part_out {P:Program} {t e:TypeId} (hu:P.underlying t=some (.slice e)) (a:Option Addr) (n c:Nat) (k:IntKind) (i:Int) (h:(n:Int) < i) (w:World):∃ v d,(Instr.sliceAt t (.slice a n c) (some (.int k i)) none none).run P w=.halt (.panic v) { w with drawn:=d }:=by
 obtain ⟨v,d,hr⟩:=run_boundsB P k i (n:Int) w
 have hn:¬ (0<=i/\i<=(n:Int)):=by omega
 exact ⟨v,d,by simp [Instr.sliceAt,Instr.slice,Instr.sliceBounds,Instr.sliceBound,run_underlying hu,asIntOf,hn,hr,Result.andThen]⟩
def Zjw (P:Program) (o:Oper) (x:AAct) (st:St):Option (AN × St × Log):=match o.op with
 | .slice t a (some i) none none=>(ev x a).bind fun q=>(ev x i).bind fun j=>j.sx.bind fun ie=>match P.underlying t with
  | some (.slice _)=>(Zlh st q).map fun (n,l0)=>(.panic anyV,st,l0.or (Log.says (.is (.bin .lss n ie) (.bool true))))
  | _=>none
 | _=>none
theorem aopPast_st {P:Program} {o:Oper} {x:AAct} {st st':St} {n:AN} {lg:Log} (h:Zjw P o x st=some (n,st',lg)):st'=st:=by
 unfold Zjw at h
 split at h
 ·simp only [Option.bind_eq_some_iff] at h
  obtain ⟨q,_,j,_,ie,_,h⟩:=h
  split at h
  ·simp only [Option.map_eq_some_iff,Prod.mk.injEq] at h
   obtain ⟨_,_,_,h,_⟩:=h
   exact h.symm
  ·cases h
 ·cases h
theorem aopPast_ok {P:Program} {o:Oper} {x:AAct} {a:Act} {st st':St} {n:AN} {lg:Log} {A:Nat->Prop} {m:Map} {w:World} (h:Zjw P o x st=some (n,st',lg)) (hA:lg.Fits W0 A) (hT:TRel m x a) (hR:Rel W0 A m st.heap.get w) (hF:Fresh A m st.next) :
  ∃ m' w',Ok W0 A m st w m' st' lg w'/\Meets P m' (execOp a.eval o) w w' n:=by
 unfold Zjw at h
 split at h
 ·rename_i t y i ho
  simp only [Option.bind_eq_some_iff] at h
  obtain ⟨q,hq,j,hj,ie,hie,h⟩:=h
  have hqd:=ev_ok hT hq
  have hiv:=sx_ok hR.sv j hie (ev_ok hT hj)
  split at h
  ·rename_i el hu
   simp only [Option.map_eq_some_iff,Prod.mk.injEq] at h
   obtain ⟨⟨n1,l0⟩,hol,rfl,rfl,rfl⟩:=h
   obtain ⟨k,x1,y1,g1,g2,g3⟩:=Zmt ((or_A hA).2.2 _ (List.mem_singleton.2 rfl))
   rw [hiv] at g2
   simp only [Option.some.injEq,PV.v.injEq] at g2
   obtain ⟨aa,len,cap,e1,e2⟩:=Zjm hol (or_A hA).1 hR hqd g1
   obtain ⟨v,d,hrun⟩:=run_part_out (t:=t) hu aa len cap k y1 (by omega) w
   exact ⟨m,{ w with drawn:=d },⟨Ze1 d hR,hF⟩,v,by simp [execOp,ho,e1,g2,hrun,Zg3]⟩
  ·cases h
 ·cases h
def Zj4 (P:Program) (st:St) (src dst:TypeId) (x:AV):Option (AV × St × Log):=match P.underlying src,P.underlying dst,x with
 | some .string,some (.slice e),.sym s=>match P.underlying e with
  | some (.int .u8)=>cond (Nat.blt (st.next+1) 16777215) (some (.dat st.next,st.dats [(.rop .ofStr [s],true)],⟨Za0 st.next 1,Za0 st.next 1,[.upto (.slen s) 4294967296]⟩)) none
  | _=>none
 | _,_,_=>none
theorem aBytesD_ok {P:Program} {st st':St} {src dst:TypeId} {x y:AV} {lg:Log} {A:Nat->Prop} {m:Map} {w:World} {u:Value} (h:Zj4 P st src dst x=some (y,st',lg)) (hA:lg.Fits W0 A)
  (hR:Rel W0 A m st.heap.get w) (hF:Fresh A m st.next) (hx:x.den m=some u):∃ m' w' v,y.den m'=some v/\(convert src dst u).run P w=.ok v w'/\Ok W0 A m st w m' st' lg w':=by
 unfold Zj4 at h
 split at h
 ·rename_i e s hs hd
  split at h
  ·rename_i he
   cases hc:Nat.blt (st.next+1) 16777215 with
   | false=>simp [hc] at h
   | true =>
    simp only [hc,cond_true,Option.some.injEq,Prod.mk.injEq] at h
    obtain ⟨rfl,rfl,rfl⟩:=h
    obtain ⟨str,hstr,hK⟩:=upto_str (hA.2 _ (List.mem_singleton.2 rfl))
    have hxv:=(Zib hR.sv hx).1
    rw [hstr] at hxv
    cases hxv
    have hgm:grownCap w str.size 0 e<=9223372036854775807:=grownCap_le_maxLen w str.size 0 e (by unfold maxLen;simp [IntKind.max];omega)
    have hg:str.size<=grownCap w str.size 0 e:=Zb9 w str.size 0 e
    obtain ⟨h1,h2,h3,h4,h5,h6⟩:=Zb6 w (.cells (bytesRow str (grownCap w str.size 0 e)) e ((bytesRow str (grownCap w str.size 0 e)).size,(bytesRow str (grownCap w str.size 0 e)).size+1))
    have hrun:=run_bytes_of_string w src dst e str hs hd he
    have hex:Ex w (w.drew.alloc (.cells (bytesRow str (grownCap w str.size 0 e)) e ((bytesRow str (grownCap w str.size 0 e)).size,(bytesRow str (grownCap w str.size 0 e)).size+1))):=⟨h1,h2,h3,h4,h5⟩
    obtain ⟨m',hok,hd',_⟩:=Zj0 (lg:=⟨Za0 st.next 1,Za0 st.next 1,[.upto (.slen s) 4294967296]⟩) hR hF hex [(.rop .ofStr [s],true)] [.slice (some ⟨w.heap.size,0,none⟩) str.size (grownCap w str.size 0 e)] (fun _ k=>k=w.heap.size) rfl rfl (by simpa using hc) (fun r k1 k2=>hA.1 r ((Za9 _ _ _).2 ⟨k1,k2⟩)) (by
     intro i e1 u1 he1 hu1
     match i,he1,hu1 with
     | 0,he1,hu1 =>
      simp at he1 hu1
      subst he1;subst hu1
      refine ⟨rfl,fun k hk=>⟨?_,fun _=>.inr ?_,fun hlt=>?_⟩,fun w2 hw2=>⟨_,Zg8 hstr,?_⟩⟩
      ·subst hk
       exact (Array.getElem?_eq_some_iff.1 h6).1
      ·have:=hR.size0
       omega
      ·omega
      ·simp only [Reads]
       refine ⟨_,_,rfl,hg,Zdo hgm,.inr ⟨w.heap.size,0,rfl,Za8.of fun j p hj=>?_⟩⟩
       rw [List.getElem?_map,Option.map_eq_some_iff] at hj
       obtain ⟨x,hj,rfl⟩:=hj
       have hlt:j < (byteCells str).length:=(List.getElem?_eq_some_iff.1 hj).1
       rw [byteCells_length] at hlt
       have hds:str.data.size=str.size:=rfl
       refine ⟨x,?_,?_⟩
       ·simp only [World.cell?,hw2 w.heap.size rfl,h6,Nat.zero_add]
        rw [bytesRow,Array.getElem?_append_left (by simpa using hlt)]
        simp only [byteCells,List.getElem?_map,Option.map_eq_some_iff] at hj
        obtain ⟨q,hq,rfl⟩:=hj
        simp at hq
        simp [hq]
       ·obtain ⟨_,_,rfl⟩:=List.mem_map.1 (List.mem_of_getElem? hj)
        exact ⟨rfl,rfl⟩
     | i+1,he1,hu1=>simp at he1)
    have hd0:=hd' 0 _ rfl
    rw [Nat.add_zero] at hd0
    refine ⟨m',_,_,?_,hrun,hok⟩
    simp only [AV.den,hd0,Option.bind_some]
    rfl
  ·cases h
 ·cases h
def aSrcT (st:St) (esz:Nat) (x:AV):Option (Nat × List AV × Log):=match x with
 | .dat r=>((st.heap.get r).bind (·.dat)).bind fun e=>match ev0 e with
  | some (.row n cs)=>(Zbz cs).bind fun vs=>cond (Nat.beq vs.length (n * esz) && vs.all Value.oneCell' && Nat.blt 0 esz) (some (n,vs.map .val,Log.sees r)) none
  | _=>none
 | _=>none
theorem Zhk:∀ {cs:List PV} {vs:List Value},Zbz cs=some vs->cs=vs.map PV.v
 | [],vs,h=>by simp [Zbz] at h;subst h;rfl
 | p :: ps,vs,h=>by
  simp only [Zbz,Option.bind_eq_some_iff,Option.map_eq_some_iff] at h
  obtain ⟨x,hx,l,hl,rfl⟩:=h
  cases p with
  | v y=>cases hx;rw [Zhk hl];rfl
  | row n cs=>cases hx
theorem aSrcT_ok {P:Program} {st:St} {esz n:Nat} {tx e':TypeId} {x:AV} {ys:List AV} {lg:Log} {A:Nat->Prop} {m:Map} {w:World} {u:Value} (h:aSrcT st esz x=some (n,ys,lg)) (hu:P.underlying tx=some (.slice e')) (hA:lg.Fits W0 A) (hR:Rel W0 A m st.heap.get w) (hx:x.den m=some u) :
  ∃ vs,denL m ys=some vs/\Src P esz tx u n vs w:=by
 unfold aSrcT at h
 split at h
 ·rename_i r
  simp only [Option.bind_eq_some_iff] at h
  obtain ⟨e,hr,h⟩:=h
  split at h
  ·rename_i k cs hev
   simp only [Option.bind_eq_some_iff] at h
   obtain ⟨vs,hvs,h⟩:=h
   simp only [cond_eq_ite,Bool.and_eq_true,Nat.beq_eq,Nat.blt_eq,List.all_eq_true] at h
   split at h
   ·rename_i hc
    obtain ⟨⟨f2,f4⟩,hs0⟩:=hc
    cases h
    refine ⟨vs,Zbl m _,?_⟩
    obtain ⟨oo,u',fp,p,_,_,hm,hou,_,_,hp,hrd⟩:=thing hR (Option.bind_eq_some_iff.2 (by simpa [Option.bind_eq_some_iff] using hr)) (hA.1 r (by simp [Log.sees,Zah]))
    simp only [AV.den,hm,Option.bind_some,hou,cond_true,Option.some.injEq] at hx
    subst hx
    have hp0:W0.ev e=some (.row n cs):=Zaz e hev
    rw [hp] at hp0
    cases hp0
    have:=hrd w (fun _ _=>rfl)
    simp only [Reads] at this
    obtain ⟨a,cap,rfl,h1,h2,h3⟩:=this
    have hcs:=Zhk hvs
    subst hcs
    rcases h3 with h3 | ⟨b,off,rfl,h3⟩
    ·have hv:vs=[]:=by simpa using h3
     subst hv
     have hn:n=0:=by
      simp only [List.length_nil] at f2
      rcases Nat.mul_eq_zero.1 f2.symm with h | h <;> omega
     subst hn
     cases a with
     | none=>exact Src.ofNil w hu cap
     | some a=>exact Src.ofSlice w hu a 0 cap [] (by simp) (fun j u hj=>by simp at hj) (by simp)
    ·refine Src.ofSlice w hu _ n cap vs f2 (fun j x hj=>?_) f4
     obtain ⟨u,hu',hru⟩:=Za8.at h3 (i:=j) (p:=.v x) (by simp [hj])
     simp only [Reads] at hru
     rw [Zam,hu',hru.1]
   ·cases h
  ·cases h
 ·cases h
def aAppT (P:Program) (o:Oper) (x:AAct) (st:St):Option (AN × St × Log):=match o.op with
 | .call c=>match c.callee with
  | .builtin .append=>match c.argTypes.toList,c.args.toList with
   | [t,tx],[s,y]=>(ev x s).bind fun a=>(ev x y).bind fun b=>match P.underlying t,P.underlying tx with
    | some (.slice e),some (.slice _)=>(P.info? e).bind fun i=>(aSrcT st i.size b).bind fun (n,ys,l1)=>(aOnto st e i n ys a).map fun (z,st',l2)=>(.value z,st',l1.or l2)
    | _,_=>none
   | _,_=>none
  | _=>none
 | _=>none
theorem aAppT_ok {P:Program} {o:Oper} {x:AAct} {a:Act} {st st':St} {n:AN} {lg:Log} {A:Nat->Prop} {m:Map} {w:World} (h:aAppT P o x st=some (n,st',lg)) (hA:lg.Fits W0 A) (hT:TRel m x a) (hR:Rel W0 A m st.heap.get w) (hF:Fresh A m st.next) :
  ∃ m' w',Ok W0 A m st w m' st' lg w'/\Meets P m' (execOp a.eval o) w w' n:=by
 unfold aAppT at h
 split at h
 ·rename_i c ho
  split at h
  ·rename_i hcal
   split at h
   ·rename_i t tx s y h1 h2
    simp only [Option.bind_eq_some_iff] at h
    obtain ⟨p,hp,q,hq,h⟩:=h
    split at h
    ·rename_i e e' ht htx
     simp only [Option.bind_eq_some_iff,Option.map_eq_some_iff] at h
     obtain ⟨i,hi,⟨k,ys,l1⟩,hs,⟨z,s1,l2⟩,hon,he⟩:=h
     cases he
     obtain ⟨u,hu,hue⟩:∃ u,q.den m=some u/\a.eval y=u:=⟨_,ev_ok hT hq,rfl⟩
     obtain ⟨vs,hd,hsrc⟩:=aSrcT_ok (P:=P) hs htx (or_A hA).1 hR hu
     obtain ⟨m',w',v,hv,hrun,hok⟩:=Zl6 (ty:=o.type) hon (or_A hA).2 hR hF ht hi (ev_ok hT hp) hd (.inl hsrc)
     refine ⟨m',w',hok.more (fun r hr=>by simp only [Log.or];exact Za2 hr),v,hv,.inl ?_⟩
     have e1:c.argTypes=#[t,tx]:=by simpa using congrArg List.toArray h1
     have e2:c.args=#[s,y]:=by simpa using congrArg List.toArray h2
     subst hue
     simp [execOp,ho,hcal,resolve,invoke,builtin,e1,e2,hrun,Result.andThen]
    ·cases h
   ·cases h
  ·cases h
 ·cases h
def aopH (P:Program) (H:Option Hint) (o:Oper) (x:AAct) (st:St):Option (AN × St × Log):=match H with
 | some .stop=>match aopT P o x st with
  | some r=>decB P o r
  | none=>match aAppT P o x st with
   | some r=>decB P o r
   | none=>(aopO P o x st).bind (decB P o)
 | some .out=>Zlm P o x st
 | some .cut=>match st.path with
  | 0 :: rest=>(aopO P o x { st with path:=rest }).bind (decB P o)
  | _ :: rest=>Zjw P o x { st with path:=rest }
  | []=>none
 | some .still=>match o.op with
  | .convert s d a=>(ev x a).bind fun q=>(Zj4 P st s d q).map fun (y,st',lg)=>(.value y,st',lg)
  | _=>none
 | some .mp=>match aopMI P o x st with
  | some r=>decB P o r
  | none=>match aopM P o x st with
   | some r=>decB P o r
   | none=>match aop P o x st with
    | some r=>decB P o r
    | none=>(aopS P o x st).bind (decB P o)
 | some .lazy=>match aop P o x st with
  | some r=>some r
  | none=>match aopO P o x st with
   | some r=>some r
   | none=>match aLz P o x st with
    | some r=>some r
    | none=>aopS P o x st
 | some .parts=>match aop P o x st with
  | some r=>decB P o r
  | none=>match aopO P o x st with
   | some r=>decB P o r
   | none=>match aLz P o x st with
    | some r=>decB P o r
    | none=>(aopS P o x st).bind (decB P o)
 | some .own=>match aopO P o x st with
  | some r=>decB P o r
  | none=>match aopI P o x st with
   | some r=>decB P o r
   | none=>match aop P o x st with
    | some r=>decB P o r
    | none=>(aopS P o x st).bind (decB P o)
 | none=>match aop P o x st with
  | some r=>decB P o r
  | none=>match aopO P o x st with
   | some r=>decB P o r
   | none=>(aopS P o x st).bind (decB P o)
theorem Zfe {P:Program} (hN:GoodP P) {H:Option Hint} {o:Oper} {x:AAct} {a:Act} {st st':St} {n:AN} {lg:Log} {A:Nat->Prop} {m:Map} {w:World} (h:aopH P H o x st=some (n,st',lg)) (hA:lg.Fits W0 A) (hT:TRel m x a) (hR:Rel W0 A m st.heap.get w) (hF:Fresh A m st.next) :
  ∃ m' w',Ok W0 A m st w m' st' lg w'/\Meets P m' (execOp a.eval o) w w' n:=by
 unfold aopH at h
 split at h
 ·split at h
  ·rename_i r hr
   obtain ⟨n1,s1,l1⟩:=r
   exact Zbr h hA (fun hA1=>aopT_ok hN hr hA1 hT hR hF)
  ·split at h
   ·rename_i r hr
    obtain ⟨n1,s1,l1⟩:=r
    exact Zbr h hA (fun hA1=>aAppT_ok hr hA1 hT hR hF)
   ·simp only [Option.bind_eq_some_iff] at h
    obtain ⟨⟨n1,s1,l1⟩,hr,h⟩:=h
    exact Zbr h hA (fun hA1=>Zht hN hr hA1 hT hR hF)
 ·exact aopOut_ok h hA hT hR hF
 ·split at h
  ·rename_i rest hp
   simp only [Option.bind_eq_some_iff] at h
   obtain ⟨⟨n1,s1,l1⟩,hr,h⟩:=h
   obtain ⟨m',w',hok,hm⟩:=Zbr (st:={ st with path:=rest }) h hA (fun hA1=>Zht hN hr hA1 hT hR hF)
   exact ⟨m',w',⟨hok.step,hok.fresh⟩,hm⟩
  ·rename_i rest hp
   obtain ⟨m',w',hok,hm⟩:=aopPast_ok h hA hT hR hF
   exact ⟨m',w',⟨hok.step,hok.fresh⟩,hm⟩
  ·cases h
 ·split at h
  ·rename_i s d b ho
   simp only [Option.bind_eq_some_iff,Option.map_eq_some_iff] at h
   obtain ⟨q,hq,⟨y,s1,l1⟩,hb,he⟩:=h
   cases he
   obtain ⟨m',w',v,hv,hrun,hok⟩:=aBytesD_ok hb hA hR hF (ev_ok hT hq)
   exact ⟨m',w',hok,v,hv,.inl (by simp [execOp,ho,hrun])⟩
  ·cases h
 ·split at h
  ·rename_i r hr
   obtain ⟨n1,s1,l1⟩:=r
   exact Zbr h hA (fun hA1=>aopMI_ok hr hA1 hT hR hF)
  ·split at h
   ·rename_i r hr
    obtain ⟨n1,s1,l1⟩:=r
    exact Zbr h hA (fun hA1=>aopM_ok hr hA1 hT hR hF)
   ·split at h
    ·rename_i r hr
     obtain ⟨n1,s1,l1⟩:=r
     exact Zbr h hA (fun hA1=>Zlk hN hr hA1 hT hR hF)
    ·simp only [Option.bind_eq_some_iff] at h
     obtain ⟨⟨n1,s1,l1⟩,hr,h⟩:=h
     exact Zbr h hA (fun hA1=>Zhr hN hr hA1 hT hR hF)
 ·split at h
  ·rename_i r hr
   cases h
   exact Zlk hN hr hA hT hR hF
  ·split at h
   ·rename_i r hr
    cases h
    exact Zht hN hr hA hT hR hF
   ·split at h
    ·rename_i r hr
     cases h
     exact aLz_ok hr hA hT hR hF
    ·exact Zhr hN h hA hT hR hF
 ·split at h
  ·rename_i r hr
   obtain ⟨n1,s1,l1⟩:=r
   exact Zbr h hA (fun hA1=>Zlk hN hr hA1 hT hR hF)
  ·split at h
   ·rename_i r hr
    obtain ⟨n1,s1,l1⟩:=r
    exact Zbr h hA (fun hA1=>Zht hN hr hA1 hT hR hF)
   ·split at h
    ·rename_i r hr
     obtain ⟨n1,s1,l1⟩:=r
     exact Zbr h hA (fun hA1=>aLz_ok hr hA1 hT hR hF)
    ·simp only [Option.bind_eq_some_iff] at h
     obtain ⟨⟨n1,s1,l1⟩,hr,h⟩:=h
     exact Zbr h hA (fun hA1=>Zhr hN hr hA1 hT hR hF)
 ·split at h
  ·rename_i r hr
   obtain ⟨n1,s1,l1⟩:=r
   exact Zbr h hA (fun hA1=>Zht hN hr hA1 hT hR hF)
  ·split at h
   ·rename_i r hr
    obtain ⟨n1,s1,l1⟩:=r
    exact Zbr h hA (fun hA1=>aopI_ok hr hA1 hT hR hF)
   ·split at h
    ·rename_i r hr
     obtain ⟨n1,s1,l1⟩:=r
     exact Zbr h hA (fun hA1=>Zlk hN hr hA1 hT hR hF)
    ·simp only [Option.bind_eq_some_iff] at h
     obtain ⟨⟨n1,s1,l1⟩,hr,h⟩:=h
     exact Zbr h hA (fun hA1=>Zhr hN hr hA1 hT hR hF)
 ·split at h
  ·rename_i r hr
   obtain ⟨n1,s1,l1⟩:=r
   exact Zbr h hA (fun hA1=>Zlk hN hr hA1 hT hR hF)
  ·split at h
   ·rename_i r hr
    obtain ⟨n1,s1,l1⟩:=r
    exact Zbr h hA (fun hA1=>Zht hN hr hA1 hT hR hF)
   ·simp only [Option.bind_eq_some_iff] at h
    obtain ⟨⟨n1,s1,l1⟩,hr,h⟩:=h
    exact Zbr h hA (fun hA1=>Zhr hN hr hA1 hT hR hF)
end Go.Proofs.Ytgdegpifjljnoaa.eng
end

section
/- The engine: operations one behind the other, code, calls. -/
namespace Go.Proofs.Ytgdegpifjljnoaa.eng
open Go
variable {W0 : Base}

inductive AX where
 | normal
 | exit (id:Nat)
 | goto (l:Nat)
 | ret
 | panic (v:Value)
inductive ARet where
 | ret (x:AV)
 | pan (v:Value)
def AX.to (e:AX) (u:Value:=undef):Exit:=match e with
 | .normal=>.normal
 | .exit id=>.exit id
 | .goto l=>.goto l
 | .ret=>.ret
 | .panic v=>.panic [{ v:=pick v u,recovered:=false }]
def AX.tame:AX->Bool | .panic v=>!isAny v | _=>true
theorem AX.to_tame {e:AX} (h:e.tame=true) (u u':Value):e.to u=e.to u':=by
 cases e <;> try rfl
 rename_i v
 have hv:isAny v=false:=by simpa [AX.tame] using h
 simp only [AX.to,Zjl hv]
abbrev CR:=Option (AX × AAct × St × Log)
structure Eng where
 code:Code->AAct->St->CR
 loop:Code->AAct->St->CR
 call:FuncId->List AV->St->Option (ARet × St × Log)
 hint:FuncId->Oper->Option Hint

def AAct.put (x:AAct) (dst:Option Tmp) (y:AV):Option AAct:=match dst with
 | none=>some x
 | some d=>cond (Nat.blt d x.n && Nat.blt (d+1) 16777216) (some { x with tm:=T.set 24 x.tm d (some y) }) none
theorem AAct.put_ok {m:Map} {x x':AAct} {a:Act} {dst:Option Tmp} {y:AV} {v:Value} (h:TRel m x a) (hp:x.put dst y=some x') (hy:y.den m=some v):TRel m x' (a.put dst v):=by
 cases dst with
 | none=>simp [AAct.put] at hp;subst hp;exact h
 | some d =>
  simp only [AAct.put] at hp
  cases hc:(Nat.blt d x.n && Nat.blt (d+1) 16777216) with
  | false=>simp [hc] at hp
  | true =>
   simp only [hc,cond_true,Option.some.injEq] at hp
   simp only [Bool.and_eq_true,Nat.blt_eq] at hc
   subst hp
   refine ⟨by simp [Act.put,h.size],?_,h.defers⟩
   intro t z hz
   simp only at hz
   rw [T.get_set _ _ _ _ _ (by have:=hc.2;exact this)] at hz
   simp only [Act.put]
   by_cases htd:t=d
   ·subst htd
    simp at hz
    subst hz
    exact ⟨v,hy,by simp [h.size,hc.1]⟩
   ·rw [if_neg htd] at hz
    obtain ⟨u,hu,hg⟩:=h.get t z hz
    exact ⟨u,hu,by rw [Array.getElem?_setIfInBounds_ne (Ne.symm htd)];exact hg⟩

def Zm6 (ops:Array Oper) (x:AAct) (o:Oper):Option Bool:=match o.guard with
 | none=>some true
 | some (j,want)=>match (ops[j]?).bind (·.dst) with
  | none=>some false
  | some t=>match x.tm.get t with
   | some (.val (.bool b))=>some (b == want)
   | some (.val (.tuple _))=>some false
   | _=>none
theorem wantedA_ok {m:Map} {ops:Array Oper} {x:AAct} {a:Act} {o:Oper} {b:Bool} (h:TRel m x a) (hw:Zm6 ops x o=some b):Region.wanted o (yielded ops a.tmps)=b:=by
 unfold Zm6 at hw
 unfold Region.wanted
 split at hw
 ·rename_i hg
  rw [hg];simp at hw;subst hw;rfl
 ·rename_i j want hg
  rw [hg]
  simp only [yielded]
  split at hw
  ·rename_i hd
   simp at hw;subst hw
   simp [hd]
  ·rename_i t hd
   rw [hd]
   split at hw
   ·rename_i c ht
    obtain ⟨v,hv,hg'⟩:=h.get t _ ht
    simp only [AV.den,Option.some.injEq] at hv
    subst hv
    simp only [Option.some.injEq] at hw
    subst hw
    simp [hg']
   ·rename_i c ht
    obtain ⟨v,hv,hg'⟩:=h.get t _ ht
    simp only [AV.den,Option.some.injEq] at hv
    subst hv
    simp only [Option.some.injEq] at hw
    subst hw
    simp [hg']
   ·cases hw

def opA (P:Program) (E:Eng) (ops:Array Oper) (o:Oper) (x:AAct) (st:St):Option (Option Value × AAct × St × Log) :=
 (Zm6 ops x o).bind fun b=>cond b
  ((aopH P (E.hint x.f o) o x st).bind fun (n,st1,l1)=>match n with
   | .value y=>(x.put o.dst y).map fun x'=>(none,x',st1,l1)
   | .panic v=>some (some v,x,st1,l1)
   | .enter f args=>(E.call f args st1).bind fun (r,st2,l2)=>match r with
    | .ret y=>(x.put o.dst y).map fun x'=>(none,x',st2,l1.or l2)
    | .pan v=>some (some v,x,st2,l1.or l2)
   | .defer d=>(AAct.put { x with defers:=d :: x.defers } o.dst (.val undef)).map fun x'=>(none,x',st1,l1))
  ((x.put o.dst (.val undef)).map fun x'=>(none,x',st,Log.no))

def Gk (st st':St) (lg:Log):Prop:=∀ r,¬ bit lg.T r->st'.heap.get r=st.heap.get r
def Zbo (C:FuncId->List AV->St->Option (ARet × St × Log)):Prop:=∀ f args st r st' lg,C f args st=some (r,st',lg)->Gk st st' lg
def CPost (W0:Base) (A:Nat->Prop) (m:Map) (st:St) (w:World) (r:ARet) (st':St) (lg:Log):Ending->World->Prop:=fun e w' =>
 ∃ m',Ok W0 A m st w m' st' lg w'/\(match r with | .ret y=>∃ v,y.den m'=some v/\e=.returned v | .pan v=>∃ u,e=.panicked [{ v:=pick v u,recovered:=false }])
def Zee (P:Program) (C:FuncId->List AV->St->Option (ARet × St × Log)):Prop :=
 ∀ f args st r st' lg,C f args st=some (r,st',lg)->∀ W0 A m w vs,lg.Fits W0 A->Rel W0 A m st.heap.get w->Fresh A m st.next->denL m args=some vs->Calls P f vs.toArray w (CPost W0 A m st w r st' lg)
def XPost (W0:Base) (A:Nat->Prop) (m:Map) (st:St) (w:World) (e:AX) (x':AAct) (st':St) (lg:Log):Exit->Act->World->Prop:=fun ex a' w' =>
 ∃ m',Ok W0 A m st w m' st' lg w'/\TRel m' x' a'/\∃ u,ex=e.to u
def CodeOk (P:Program) (C:Code->AAct->St->CR):Prop :=
 ∀ c x st e x' st' lg,C c x st=some (e,x',st',lg)->∀ W0 A m a w,lg.Fits W0 A->Rel W0 A m st.heap.get w->Fresh A m st.next->TRel m x a->c.wp P (XPost W0 A m st w e x' st' lg) a w
def LoopWp (P:Program) (c:Code) (Q:Exit->Act->World->Prop) (a:Act) (w:World):Prop :=
 ∀ (b:Frame) (k:List Item) (cs:List Frame),∃ e a' w',Q e a' w'/\Arrives P (lone (b.at a (.code c :: .inLoop c :: k)) cs w) b k cs e a' w'
def LoopOk (P:Program) (C:Code->AAct->St->CR):Prop :=
 ∀ c x st e x' st' lg,C c x st=some (e,x',st',lg)->∀ W0 A m a w,lg.Fits W0 A->Rel W0 A m st.heap.get w->Fresh A m st.next->TRel m x a->LoopWp P c (XPost W0 A m st w e x' st' lg) a w
structure EngOk (P:Program) (E:Eng):Prop where
 code:CodeOk P E.code
 loop:LoopOk P E.loop
 call:Zee P E.call


theorem Zok {P:Program} (hN:GoodP P) {E:Eng} (hE:Zee P E.call) {ops:Array Oper} {o:Oper} {i:Nat} (hi:ops[i]?=some o) {x x':AAct} {st st':St} {pv:Option Value} {lg:Log} (h:opA P E ops o x st=some (pv,x',st',lg))
  {A:Nat->Prop} {m:Map} {a:Act} {w:World} (hA:lg.Fits W0 A) (hR:Rel W0 A m st.heap.get w) (hF:Fresh A m st.next) (hT:TRel m x a) {K:Act->World->Prop} {Q:Exit->Act->World->Prop}
  (hK:pv=none->∀ m' a' w',Ok W0 A m st w m' st' lg w'->TRel m' x' a'->(∃ v,a'.tmps=(a.put o.dst v).tmps)->K a' w')
  (hQ:∀ v,pv=some v->∀ u m' w',Ok W0 A m st w m' st' lg w'->TRel m' x' a->Q (.panic [{ v:=pick v u,recovered:=false }]) a w'):wpOp P ops Q i K a w:=by
 unfold opA at h
 simp only [Option.bind_eq_some_iff] at h
 obtain ⟨b,hb,h⟩:=h
 have hw:=wantedA_ok hT hb
 unfold wpOp
 rw [hi]
 simp only [hw]
 cases b with
 | false =>
  simp only [cond_false,Option.map_eq_some_iff,Prod.mk.injEq] at h
  obtain ⟨x1,hx1,rfl,rfl,rfl,rfl⟩:=h
  simp only [Bool.false_eq_true,if_false]
  exact hK rfl m _ w (Ok.refl hR hF) (AAct.put_ok hT hx1 rfl) ⟨undef,rfl⟩
 | true =>
  simp only [cond_true,Option.bind_eq_some_iff] at h
  obtain ⟨⟨n,st1,l1⟩,hop,h⟩:=h
  simp only [if_true]
  refine .inl ?_
  unfold Oper.wp
  cases n with
  | value y =>
   simp only [Option.map_eq_some_iff,Prod.mk.injEq] at h
   obtain ⟨x1,hx1,rfl,rfl,rfl,rfl⟩:=h
   obtain ⟨m',w',hok,v,hv,hrun⟩:=Zfe hN hop hA hT hR hF
   rcases hrun with hrun | ⟨rfl,hrun⟩
   ·rw [hrun]
    exact hK rfl m' _ w' hok (AAct.put_ok (hT.mono hok.ext) hx1 hv) ⟨v,rfl⟩
   ·rw [hrun]
    exact hK rfl m' _ w' hok (AAct.put_ok (hT.mono hok.ext) hx1 hv) ⟨undef,rfl⟩
  | panic v =>
   simp only [Option.some.injEq,Prod.mk.injEq] at h
   obtain ⟨rfl,rfl,rfl,rfl⟩:=h
   obtain ⟨m',w',hok,hrun⟩:=Zfe hN hop hA hT hR hF
   simp only [Meets] at hrun
   obtain ⟨u,hrun⟩:=hrun
   rw [hrun]
   exact hQ v rfl u m' w' hok (hT.mono hok.ext)
  | enter f args =>
   simp only [Option.bind_eq_some_iff] at h
   obtain ⟨⟨r,st2,l2⟩,hcall,h⟩:=h
   have key:∀ (hA':(l1.or l2).Fits W0 A),∃ m1 w1,∃ vs:List Value,Ok W0 A m st w m1 st1 l1 w1/\(execOp a.eval o).run P w=.ok (.enter f vs.toArray) w1/\Calls P f vs.toArray w1 (CPost W0 A m1 st1 w1 r st2 l2):=by
    intro hA'
    obtain ⟨m1,w1,hok,vs,hvs,hrun⟩:=Zfe hN hop (or_A hA').1 hT hR hF
    exact ⟨m1,w1,vs,hok,hrun,hE f args st1 r st2 l2 hcall W0 A m1 w1 vs (or_A hA').2 hok.rel hok.fresh hvs⟩
   cases r with
   | ret y =>
    simp only [Option.map_eq_some_iff,Prod.mk.injEq] at h
    obtain ⟨x1,hx1,rfl,rfl,rfl,rfl⟩:=h
    obtain ⟨m1,w1,vs,hok,hrun,hc⟩:=key hA
    rw [hrun]
    refine Calls.mono hc ?_
    rintro e w2 ⟨m2,hok2,v,hv,rfl⟩
    exact hK rfl m2 _ w2 (hok.trans hok2) (AAct.put_ok ((hT.mono hok.ext).mono hok2.ext) hx1 hv) ⟨v,rfl⟩
   | pan v =>
    simp only [Option.some.injEq,Prod.mk.injEq] at h
    obtain ⟨rfl,rfl,rfl,rfl⟩:=h
    obtain ⟨m1,w1,vs,hok,hrun,hc⟩:=key hA
    rw [hrun]
    refine Calls.mono hc ?_
    rintro e w2 ⟨m2,hok2,u,rfl⟩
    exact hQ v rfl u m2 w2 (hok.trans hok2) ((hT.mono hok.ext).mono hok2.ext)
  | defer d =>
   simp only [Option.map_eq_some_iff,Prod.mk.injEq] at h
   obtain ⟨x1,hx1,rfl,rfl,rfl,rfl⟩:=h
   obtain ⟨m',w',hok,d',hd,hrun⟩:=Zfe hN hop hA hT hR hF
   rw [hrun]
   have hT':=hT.mono hok.ext
   have hT2:TRel m' { x with defers:=d :: x.defers } { a with defers:=d' :: a.defers }:=⟨hT'.size,hT'.get,by simp [denD,hd,hT'.defers]⟩
   refine hK rfl m' _ w' hok (AAct.put_ok hT2 hx1 rfl) ⟨undef,?_⟩
   cases o.dst <;> rfl

theorem upon_mono' {P:Program} {o:Oper} {a:Act} {K K':Act->World->Prop} {Q Q':Exit->Act->World->Prop} (hK:∀ a w,K a w->K' a w) (hQ:∀ e a w,Q e a w->Q' e a w) {r:Result Next} (h:o.upon P a K Q r):o.upon P a K' Q' r:=by
 have hL:LetsOut Q->LetsOut Q':=fun ⟨a,w,hq⟩=>⟨a,w,hQ _ _ _ hq⟩
 cases r with
 | ok n w' =>
  cases n <;> simp only [Oper.upon] at h ⊢
  case value v=>exact hK _ _ h
  case skip=>exact hK _ _ h
  case defer d=>exact hK _ _ h
  case enter f args =>
   refine Calls.mono h fun e w'' he=>?_
   cases e with
   | returned v=>exact hK _ _ he
   | panicked c=>exact hQ _ _ _ he
   | outgrown=>exact hL he
  case row row args=>exact Rows.mono h fun v w'' he=>hK _ _ he
 | halt x w'=>cases x <;> simp only [Oper.upon] at h ⊢;exact hQ _ _ _ h
theorem wpOp_mono' {P:Program} {ops:Array Oper} {i:Nat} {a:Act} {w:World} {K K':Act->World->Prop} {Q Q':Exit->Act->World->Prop} (hK:∀ a w,K a w->K' a w) (hQ:∀ e a w,Q e a w->Q' e a w) (h:wpOp P ops Q i K a w):wpOp P ops Q' i K' a w:=by
 unfold wpOp at *
 split
 ·rename_i hn;rw [hn] at h;exact hK _ _ h
 ·rename_i o ho
  rw [ho] at h
  simp only at h
  split
  ·rename_i hw
   rw [if_pos hw] at h
   exact h.imp (upon_mono' hK hQ) (fun ⟨h1,a,w,hq⟩=>⟨h1,a,w,hQ _ _ _ hq⟩)
  ·rename_i hw
   rw [if_neg hw] at h
   exact hK _ _ h
theorem wpOps_mono {P:Program} {ops:Array Oper} {Q Q':Exit->Act->World->Prop} (hQ:∀ e a w,Q e a w->Q' e a w):∀ (l:List Nat) (a:Act) (w:World),wpOps P ops Q l a w->wpOps P ops Q' l a w:=by
 intro l
 induction l with
 | nil=>intro a w h;exact hQ _ _ _ h
 | cons i rest ih =>
  intro a w h
  rw [wpOps_cons] at h ⊢
  exact wpOp_mono' ih hQ h

def opsA (P:Program) (E:Eng) (ops:Array Oper):List Oper->AAct->St->CR
 | [],x,st=>some (.normal,x,st,Log.no)
 | o :: rest,x,st=>(opA P E ops o x st).bind fun (pv,x1,st1,l1)=>match pv with
  | some v=>some (.panic v,x1,st1,l1)
  | none=>(opsA P E ops rest x1 st1).map fun (e,x2,st2,l2)=>(e,x2,st2,l1.or l2)
theorem opsA_ok {P:Program} (hN:GoodP P) {E:Eng} (hE:Zee P E.call) {ops:Array Oper}:∀ (l pre:List Oper) (x:AAct) (st:St) (e:AX) (x':AAct) (st':St) (lg:Log),ops.toList=pre++l->opsA P E ops l x st=some (e,x',st',lg) →
  ∀ (A:Nat->Prop) (m:Map) (a:Act) (w:World),lg.Fits W0 A->Rel W0 A m st.heap.get w->Fresh A m st.next->TRel m x a->wpOps P ops (XPost W0 A m st w e x' st' lg) (List.range' pre.length l.length) a w:=by
 intro l
 induction l with
 | nil =>
  intro pre x st e x' st' lg hops h A m a w hA hR hF hT
  simp only [opsA,Option.some.injEq,Prod.mk.injEq] at h
  obtain ⟨rfl,rfl,rfl,rfl⟩:=h
  exact ⟨m,Ok.refl hR hF,hT,undef,rfl⟩
 | cons o rest ih =>
  intro pre x st e x' st' lg hops h A m a w hA hR hF hT
  simp only [opsA,Option.bind_eq_some_iff] at h
  obtain ⟨⟨pv,x1,st1,l1⟩,hop,h⟩:=h
  have hi:ops[pre.length]?=some o:=by
   rw [<- Array.getElem?_toList,hops]
   simp
  rw [List.length_cons,List.range'_succ,wpOps_cons]
  cases pv with
  | some v =>
   simp only [Option.some.injEq,Prod.mk.injEq] at h
   obtain ⟨rfl,rfl,rfl,rfl⟩:=h
   refine Zok hN hE hi hop hA hR hF hT (fun hn=>by cases hn) (fun v' hv u m' w' hok hT'=>?_)
   cases hv
   exact ⟨m',hok,hT',u,rfl⟩
  | none =>
   simp only [Option.map_eq_some_iff] at h
   obtain ⟨⟨e2,x2,st2,l2⟩,hrest,he⟩:=h
   cases he
   refine Zok hN hE hi hop (or_A hA).1 hR hF hT (fun _ m1 a1 w1 hok hT1 _=>?_) (fun v' hv=>by cases hv)
   have:=ih (pre++[o]) x1 st1 e2 x2 st2 l2 (by rw [hops];simp) hrest A m1 a1 w1 (or_A hA).2 hok.rel hok.fresh hT1
   rw [List.length_append,List.length_singleton] at this
   refine wpOps_mono ?_ _ a1 w1 this
   rintro ex a' w' ⟨m',hok',hT',u,rfl⟩
   exact ⟨m',hok.trans hok',hT',u,rfl⟩

end Go.Proofs.Ytgdegpifjljnoaa.eng
end

section
/- The engine: what a call answers; things put off; recovery. -/
namespace Go.Proofs.Ytgdegpifjljnoaa.eng
open Go
variable {W0 : Base}

def aRes1 (P:Program) (x:AAct) (st:St):ResultVar->Option (AV × Log)
 | .tmp t=>(x.tm.get t).map fun y=>(y,Log.no)
 | .cell a t=>(x.tm.get a).bind fun p=>aLoad P st t p
def aResL (P:Program) (x:AAct) (st:St):List ResultVar->Option (List AV × Log)
 | []=>some ([],Log.no)
 | r :: rs=>(aRes1 P x st r).bind fun (y,l1)=>(aResL P x st rs).map fun (ys,l2)=>(y :: ys,l1.or l2)
def Zen (P:Program) (fn:Func) (x:AAct) (st:St):Option (AV × Log):=(aResL P x st fn.results.toList).map fun (ys,lg)=>(match ys with | [y]=>y | _=>.tuple ys,lg)

theorem aLoad_ptr {P:Program} {st:St} {t:TypeId} {x:AV} {y:AV} {lg:Log} (h:aLoad P st t x=some (y,lg)) {m:Map} {u:Value} (hx:x.den m=some u):∃ p,u=.pointer (some p):=by
 unfold aLoad at h
 split at h
 ·simp only [AV.den,Option.map_eq_some_iff] at hx
  obtain ⟨b,_,rfl⟩:=hx
  exact ⟨_,rfl⟩
 ·cases h

def Zmo (tmps:Array Value):ResultVar->Sem Value
 | .tmp t=>pure (tmps.getD t undef)
 | .cell q t=>do loadVar t (← asAddr (tmps.getD q undef))
theorem aRes1_ok {P:Program} {x:AAct} {a:Act} {st:St} {r:ResultVar} {y:AV} {lg:Log} {A:Nat->Prop} {m:Map} {w:World} (h:aRes1 P x st r=some (y,lg)) (hA:lg.Fits W0 A) (hR:Rel W0 A m st.heap.get w) (hT:TRel m x a) :
  ∃ v,y.den m=some v/\(Zmo a.tmps r).run P w=.ok v w:=by
 cases r with
 | tmp t =>
  simp only [aRes1,Option.map_eq_some_iff,Prod.mk.injEq] at h
  obtain ⟨z,hz,rfl,rfl⟩:=h
  obtain ⟨v,hv,hg⟩:=hT.get t z hz
  exact ⟨v,hv,by simp [Zmo,hg]⟩
 | cell q t =>
  simp only [aRes1,Option.bind_eq_some_iff] at h
  obtain ⟨z,hz,h⟩:=h
  obtain ⟨v,hv,hg⟩:=hT.get q z hz
  obtain ⟨p,rfl⟩:=aLoad_ptr h hv
  obtain ⟨u,hu,hrun⟩:=aLoad_ok h hA hR hv
  refine ⟨u,hu,?_⟩
  simp only [Instr.loadAt,Instr.sureAddr,Sem.run_bind,Sem.run_pure,Result.andThen_ok] at hrun
  simp [Zmo,hg,asAddr,hrun]

theorem aResL_ok {P:Program} {x:AAct} {a:Act} {st:St} {A:Nat->Prop} {m:Map} {w:World} (hR:Rel W0 A m st.heap.get w) (hT:TRel m x a):∀ (rs:List ResultVar) {ys:List AV} {lg:Log},aResL P x st rs=some (ys,lg)->lg.Fits W0 A →
  ∃ vs,denL m ys=some vs/\(rs.mapM (Zmo a.tmps)).run P w=.ok vs w
 | [],ys,lg,h,hA=>by
  simp only [aResL,Option.some.injEq,Prod.mk.injEq] at h
  obtain ⟨rfl,rfl⟩:=h
  exact ⟨[],rfl,by simp⟩
 | r :: rs,ys,lg,h,hA=>by
  simp only [aResL,Option.bind_eq_some_iff,Option.map_eq_some_iff] at h
  obtain ⟨⟨y,l1⟩,h1,⟨zs,l2⟩,h2,he⟩:=h
  cases he
  obtain ⟨v,hv,hrun⟩:=aRes1_ok h1 (or_A hA).1 hR hT
  obtain ⟨vs,hvs,hruns⟩:=aResL_ok hR hT rs h2 (or_A hA).2
  refine ⟨v :: vs,by simp [denL,hv,hvs],?_⟩
  rw [List.mapM_cons]
  simp only [Sem.run_bind,hrun,Result.andThen_ok,hruns,Sem.run_pure]

theorem Zdq {P:Program} {fn:Func} {x:AAct} {a:Act} {st:St} {y:AV} {lg:Log} {A:Nat->Prop} {m:Map} {w:World} (h:Zen P fn x st=some (y,lg)) (hA:lg.Fits W0 A) (hR:Rel W0 A m st.heap.get w) (hT:TRel m x a) :
  ∃ v,y.den m=some v/\(results fn a.tmps).run P w=.ok v w:=by
 simp only [Zen,Option.map_eq_some_iff] at h
 obtain ⟨⟨ys,l1⟩,hl,he⟩:=h
 cases he
 obtain ⟨vs,hvs,hrun⟩:=aResL_ok hR hT _ hl hA
 have hlen:=Zae hvs
 have hres:results fn a.tmps=(do let vs <- fn.results.mapM (Zmo a.tmps);pure (if h:vs.size=1 then vs[0] else .tuple vs)):=by
  unfold results
  congr 2
 rw [hres,Array.mapM_eq_mapM_toList]
 simp only [Sem.run_bind,Sem.run_map,hrun,Result.andThen_ok,Sem.run_pure]
 by_cases h1:vs.length=1
 ·obtain ⟨v,rfl⟩:∃ v,vs=[v]:=by
   match vs,h1 with
   | [v],_=>exact ⟨v,rfl⟩
  obtain ⟨z,rfl⟩:∃ z,ys=[z]:=by
   match ys,hlen with
   | [z],_=>exact ⟨z,rfl⟩
  have hz:z.den m=some v:=by
   simp only [denL,Option.bind_eq_some_iff,Option.map_eq_some_iff] at hvs
   obtain ⟨q,hq,b,hb,he⟩:=hvs
   cases he
   exact hq
  exact ⟨v,hz,by simp⟩
 ·refine ⟨.tuple vs.toArray,?_,by simp [h1]⟩
  have:(match ys with | [y]=>y | _=>AV.tuple ys)=.tuple ys:=by
   match ys,hlen with
   | [],_=>rfl
   | [z],h=>simp at h;exact absurd h h1
   | _ :: _ :: _,_=>rfl
  rw [this]
  simp [AV.den,hvs]

def mkTm:List AV->Nat->T AV->T AV
 | [],_,t=>t
 | y :: ys,i,t=>mkTm ys (i+1) (T.set 24 t i (some y))
theorem mkTm_get:∀ (ys:List AV) (i:Nat) (t:T AV) (k:Nat),i+ys.length < 16777215->(mkTm ys i t).get k=if i<=k/\k < i+ys.length then ys[k - i]? else t.get k
 | [],i,t,k,_=>by
  have:¬ (i<=k/\k < i+0):=by omega
  simp only [mkTm,List.length_nil]
  rw [if_neg this]
 | y :: ys,i,t,k,h=>by
  simp only [List.length_cons] at h ⊢
  rw [mkTm,mkTm_get ys (i+1) _ k (by omega),T.get_set _ _ _ _ _ (show i+1 < 16777216 by omega)]
  by_cases h1:k=i
  ·subst h1
   have:¬ (k+1<=k/\k < k+1+ys.length):=by omega
   rw [if_neg this,if_pos rfl,if_pos (by omega)]
   simp
  ·by_cases h2:i+1<=k/\k < i+1+ys.length
   ·rw [if_pos h2,if_pos (by omega)]
    rw [show k - i=(k - (i+1))+1 by omega]
    simp
   ·rw [if_neg h2,if_neg h1,if_neg (by omega)]
def Zjh (fn:Func) (args:List AV) (f:FuncId:=0):AAct:={ tm:=mkTm args 0 .nil,n:=args.length+(fn.ntmps - args.length),defers:=[],f:=f }
theorem Zgz {m:Map} {f:FuncId} {fn:Func} {args:List AV} {vs:List Value} (h:denL m args=some vs) (hl:args.length < 16777215):TRel m (Zjh fn args f) { tmps:=vs.toArray++Array.replicate (fn.ntmps - vs.toArray.size) undef,defers:=[] }:=by
 have hlen:=Zae h
 refine ⟨by simp [Zjh,hlen],?_,rfl⟩
 intro t y hy
 simp only [Zjh] at hy
 rw [mkTm_get _ _ _ _ (by omega)] at hy
 split at hy
 ·rename_i hc
  simp only [Nat.sub_zero] at hy
  obtain ⟨v,hv,hg⟩:=Za7 h hy
  refine ⟨v,hv,?_⟩
  rw [Array.getElem?_append_left (by simp;omega)]
  simpa using hg
 ·simp [T.get] at hy

inductive SMode where
 | returning
 | panicking (v:Value)
 | recovered (v:Value)
def SMode.to (s:SMode) (u:Value):FrameMode:=match s with
 | .returning=>.returning
 | .panicking v=>.panicking [{ v:=pick v u,recovered:=false }]
 | .recovered v=>.panicking [{ v:=pick v u,recovered:=true }]
def SMode.settled:SMode->SMode
 | .recovered v=>.returning
 | s=>s
theorem settled_ok (s:SMode) (u:Value):s.settled.to u=settle (s.to u):=by cases s <;> rfl

def Zfb (o:Oper):Bool:=match o.op with | .call { callee:=.builtin .recover,.. }=>true | _=>false
theorem isRecover_ok {P:Program} {o:Oper} (h:Zfb o=true) (ρ:Operand->Value) (w:World):(execOp ρ o).run P w=.ok .recover w:=by
 unfold Zfb at h
 split at h
 ·rename_i ho
  simp [execOp,ho,resolve,invoke,builtin]
 ·cases h
def AAct.lacks (x:AAct):Option Tmp->Bool
 | none=>true
 | some d=>(x.tm.get d).isNone
theorem AAct.lacks_ok {m:Map} {x:AAct} {a:Act} {dst:Option Tmp} (h:TRel m x a) (hl:x.lacks dst=true) (v:Value):TRel m x (a.put dst v):=by
 cases dst with
 | none=>exact h
 | some d =>
  refine ⟨by simp [Act.put,h.size],?_,h.defers⟩
  intro t z hz
  by_cases htd:t=d
  ·subst htd
   simp [AAct.lacks,hz] at hl
  ·obtain ⟨u,hu,hg⟩:=h.get t z hz
   exact ⟨u,hu,by simp only [Act.put];rw [Array.getElem?_setIfInBounds_ne (Ne.symm htd)];exact hg⟩
abbrev CRS:=Option (AX × AAct × SMode × St × Log)
def opsS (P:Program) (E:Eng) (ops:Array Oper):List Oper->AAct->SMode->St->CRS
 | [],x,s,st=>some (.normal,x,s,st,Log.no)
 | o :: rest,x,s,st=>cond (Zfb o)
  (match o.guard,s with
   | none,.panicking v=>cond (isAny v) (cond (x.lacks o.dst) (opsS P E ops rest x (.recovered v) st) none) ((x.put o.dst (.val v)).bind fun x1=>opsS P E ops rest x1 (.recovered v) st)
   | none,s=>(x.put o.dst (.val .nilIface)).bind fun x1=>opsS P E ops rest x1 s st
   | some _,_=>none)
  ((opA P E ops o x st).bind fun (pv,x1,st1,l1)=>match pv with
   | some v=>some (.panic v,x1,s,st1,l1)
   | none=>(opsS P E ops rest x1 s st1).map fun (e,x2,s2,st2,l2)=>(e,x2,s2,st2,l1.or l2))
def codeS (P:Program) (E:Eng):Code->AAct->SMode->St->CRS
 | .seq a b,x,s,st=>(codeS P E a x s st).bind fun (e,x1,s1,st1,l1)=>match e with
  | .normal=>(codeS P E b x1 s1 st1).map fun (e2,x2,s2,st2,l2)=>(e2,x2,s2,st2,l1.or l2)
  | e=>some (e,x1,s1,st1,l1)
 | .cond c t f,x,s,st=>(ev x c).bind fun v=>match v with
  | .val (.bool true)=>codeS P E t x s st
  | .val (.bool false)=>codeS P E f x s st
  | _=>none
 | .region id ops false,x,s,st=>opsS P E ops ops.toList x s st
 | c,x,s,st=>(E.code c x st).map fun (e,x1,st1,l1)=>(e,x1,s,st1,l1)

def SPost (W0:Base) (A:Nat->Prop) (m:Map) (st:St) (w:World) (c₀:Frame) (cs:List Frame) (e:AX) (x':AAct) (s':SMode) (st':St) (lg:Log):Exit->Act->List Frame->World->Prop:=fun ex a' cs' w' =>
 ∃ m',Ok W0 A m st w m' st' lg w'/\TRel m' x' a'/\(∃ u,ex=e.to u)/\∃ u',cs'={ c₀ with mode:=s'.to u' } :: cs

theorem opA_upon {P:Program} (hN:GoodP P) {E:Eng} (hE:Zee P E.call) {ops:Array Oper} {o:Oper} {x x':AAct} {st st':St} {pv:Option Value} {lg:Log} (h:opA P E ops o x st=some (pv,x',st',lg))
  {A:Nat->Prop} {m:Map} {a:Act} {w:World} (hA:lg.Fits W0 A) (hR:Rel W0 A m st.heap.get w) (hF:Fresh A m st.next) (hT:TRel m x a) {K:Act->World->Prop} {Q:Exit->Act->World->Prop}
  (hK:pv=none->∀ m' a' w',Ok W0 A m st w m' st' lg w'->TRel m' x' a'->K a' w')
  (hQ:∀ v,pv=some v->∀ u m' w',Ok W0 A m st w m' st' lg w'->TRel m' x' a->Q (.panic [{ v:=pick v u,recovered:=false }]) a w') :
  (Region.wanted o (yielded ops a.tmps)=false/\K (a.put o.dst undef) w) \/ (Region.wanted o (yielded ops a.tmps)=true/\∃ r,(execOp a.eval o).run P w=r/\(∀ w',r ≠ .ok .recover w')/\o.upon P a K Q r):=by
 unfold opA at h
 simp only [Option.bind_eq_some_iff] at h
 obtain ⟨b,hb,h⟩:=h
 have hw:=wantedA_ok hT hb
 cases b with
 | false =>
  simp only [cond_false,Option.map_eq_some_iff,Prod.mk.injEq] at h
  obtain ⟨x1,hx1,rfl,rfl,rfl,rfl⟩:=h
  exact .inl ⟨hw,hK rfl m _ w (Ok.refl hR hF) (AAct.put_ok hT hx1 rfl)⟩
 | true =>
  simp only [cond_true,Option.bind_eq_some_iff] at h
  obtain ⟨⟨n,st1,l1⟩,hop,h⟩:=h
  refine .inr ⟨hw,?_⟩
  cases n with
  | value y =>
   simp only [Option.map_eq_some_iff,Prod.mk.injEq] at h
   obtain ⟨x1,hx1,rfl,rfl,rfl,rfl⟩:=h
   obtain ⟨m',w',hok,v,hv,hrun⟩:=Zfe hN hop hA hT hR hF
   rcases hrun with hrun | ⟨rfl,hrun⟩
   ·exact ⟨_,hrun,by simp,hK rfl m' _ w' hok (AAct.put_ok (hT.mono hok.ext) hx1 hv)⟩
   ·exact ⟨_,hrun,by simp,hK rfl m' _ w' hok (AAct.put_ok (hT.mono hok.ext) hx1 hv)⟩
  | panic v =>
   simp only [Option.some.injEq,Prod.mk.injEq] at h
   obtain ⟨rfl,rfl,rfl,rfl⟩:=h
   obtain ⟨m',w',hok,hrun⟩:=Zfe hN hop hA hT hR hF
   simp only [Meets] at hrun
   obtain ⟨u,hrun⟩:=hrun
   exact ⟨_,hrun,by simp,hQ v rfl u m' w' hok (hT.mono hok.ext)⟩
  | enter f args =>
   simp only [Option.bind_eq_some_iff] at h
   obtain ⟨⟨r,st2,l2⟩,hcall,h⟩:=h
   have key:∀ (hA':(l1.or l2).Fits W0 A),∃ m1 w1,∃ vs:List Value,Ok W0 A m st w m1 st1 l1 w1/\(execOp a.eval o).run P w=.ok (.enter f vs.toArray) w1/\Calls P f vs.toArray w1 (CPost W0 A m1 st1 w1 r st2 l2):=by
    intro hA'
    obtain ⟨m1,w1,hok,vs,hvs,hrun⟩:=Zfe hN hop (or_A hA').1 hT hR hF
    exact ⟨m1,w1,vs,hok,hrun,hE f args st1 r st2 l2 hcall W0 A m1 w1 vs (or_A hA').2 hok.rel hok.fresh hvs⟩
   cases r with
   | ret y =>
    simp only [Option.map_eq_some_iff,Prod.mk.injEq] at h
    obtain ⟨x1,hx1,rfl,rfl,rfl,rfl⟩:=h
    obtain ⟨m1,w1,vs,hok,hrun,hc⟩:=key hA
    refine ⟨_,hrun,by simp,?_⟩
    refine Calls.mono hc ?_
    rintro e w2 ⟨m2,hok2,v,hv,rfl⟩
    exact hK rfl m2 _ w2 (hok.trans hok2) (AAct.put_ok ((hT.mono hok.ext).mono hok2.ext) hx1 hv)
   | pan v =>
    simp only [Option.some.injEq,Prod.mk.injEq] at h
    obtain ⟨rfl,rfl,rfl,rfl⟩:=h
    obtain ⟨m1,w1,vs,hok,hrun,hc⟩:=key hA
    refine ⟨_,hrun,by simp,?_⟩
    refine Calls.mono hc ?_
    rintro e w2 ⟨m2,hok2,u,rfl⟩
    exact hQ v rfl u m2 w2 (hok.trans hok2) ((hT.mono hok.ext).mono hok2.ext)
  | defer d =>
   simp only [Option.map_eq_some_iff,Prod.mk.injEq] at h
   obtain ⟨x1,hx1,rfl,rfl,rfl,rfl⟩:=h
   obtain ⟨m',w',hok,d',hd,hrun⟩:=Zfe hN hop hA hT hR hF
   refine ⟨_,hrun,by simp,?_⟩
   have hT':=hT.mono hok.ext
   have hT2:TRel m' { x with defers:=d :: x.defers } { a with defers:=d' :: a.defers }:=⟨hT'.size,hT'.get,by simp [denD,hd,hT'.defers]⟩
   exact hK rfl m' _ w' hok (AAct.put_ok hT2 hx1 rfl)

theorem wpOpsS_mono {P:Program} {ops:Array Oper} {Q Q':Exit->Act->List Frame->World->Prop} (hQ:∀ e a cs w,Q e a cs w->Q' e a cs w):∀ (l:List Nat) (a:Act) (cs:List Frame) (w:World),wpOpsS P ops Q l a cs w->wpOpsS P ops Q' l a cs w:=by
 intro l
 induction l with
 | nil=>intro a cs w h;exact hQ _ _ _ _ h
 | cons i rest ih =>
  intro a cs w h
  simp only [wpOpsS] at h ⊢
  split
  ·rename_i ho;rw [ho] at h;exact ih _ _ _ h
  ·rename_i o ho
   rw [ho] at h
   simp only at h
   split
   ·rename_i hw
    rw [if_pos hw] at h
    split
    ·rename_i w' hr
     rw [hr] at h
     simp only at h
     split
     ·rename_i v cs' hc
      rw [hc] at h
      exact ih _ _ _ h
     ·rename_i hc
      rw [hc] at h
      exact ih _ _ _ h
    ·rename_i r hne
     split at h
     ·rename_i w' hr
      exact absurd hr (hne w')
     ·exact upon_mono' (fun a w h=>ih a cs w h) (fun e a w h=>hQ e a cs w h) h
   ·rename_i hw
    rw [if_neg hw] at h
    exact ih _ _ _ h
theorem opsS_ok {P:Program} (hN:GoodP P) {E:Eng} (hE:Zee P E.call) {ops:Array Oper} (c₀:Frame) (cs:List Frame):∀ (l pre:List Oper) (x:AAct) (s:SMode) (st:St) (e:AX) (x':AAct) (s':SMode) (st':St) (lg:Log),ops.toList=pre++l->opsS P E ops l x s st=some (e,x',s',st',lg) →
  ∀ (A:Nat->Prop) (m:Map) (a:Act) (w:World),lg.Fits W0 A->Rel W0 A m st.heap.get w->Fresh A m st.next->TRel m x a->∀ u0:Value,wpOpsS P ops (SPost W0 A m st w c₀ cs e x' s' st' lg) (List.range' pre.length l.length) a ({ c₀ with mode:=s.to u0 } :: cs) w:=by
 intro l
 induction l with
 | nil =>
  intro pre x s st e x' s' st' lg hops h A m a w hA hR hF hT u0
  simp only [opsS,Option.some.injEq,Prod.mk.injEq] at h
  obtain ⟨rfl,rfl,rfl,rfl,rfl⟩:=h
  exact ⟨m,Ok.refl hR hF,hT,⟨undef,rfl⟩,u0,rfl⟩
 | cons o rest ih =>
  intro pre x s st e x' s' st' lg hops h A m a w hA hR hF hT u0
  have hi:ops[pre.length]?=some o:=by
   rw [<- Array.getElem?_toList,hops]
   simp
  rw [List.length_cons,List.range'_succ]
  simp only [wpOpsS,hi]
  simp only [opsS] at h
  have hpre:ops.toList=(pre++[o])++rest:=by rw [hops];simp
  cases hrec:Zfb o with
  | true =>
   simp only [hrec,cond_true] at h
   have hrun:=isRecover_ok (P:=P) hrec a.eval w
   split at h
   ·rename_i v hg
    rw [if_pos (by simp [Region.wanted,hg]),hrun]
    simp only [recoverD,SMode.to]
    cases hany:isAny v with
    | true =>
     simp only [hany,cond_true] at h
     cases hlk:x.lacks o.dst with
     | false=>simp [hlk] at h
     | true =>
      simp only [hlk,cond_true] at h
      have:=ih (pre++[o]) x (.recovered v) st e x' s' st' lg hpre h A m (a.put o.dst (pick v u0)) w hA hR hF (AAct.lacks_ok hT hlk _) u0
      rw [List.length_append,List.length_singleton] at this
      exact this
    | false =>
     simp only [hany,cond_false,Option.bind_eq_some_iff] at h
     obtain ⟨x1,hx1,h⟩:=h
     have:=ih (pre++[o]) x1 (.recovered v) st e x' s' st' lg hpre h A m (a.put o.dst v) w hA hR hF (AAct.put_ok hT hx1 rfl) u0
     rw [List.length_append,List.length_singleton] at this
     rw [Zjl hany]
     simp only [SMode.to,Zjl hany] at this
     exact this
   ·rename_i s _ _ hg hns
    simp only [Option.bind_eq_some_iff] at h
    obtain ⟨x1,hx1,h⟩:=h
    rw [if_pos (by simp [Region.wanted,hg]),hrun]
    have hnone:recoverD ({ c₀ with mode:=s.to u0 } :: cs)=none:=by
     cases s with
     | returning=>rfl
     | panicking v=>exact absurd rfl (hns v)
     | recovered v=>rfl
    simp only [hnone]
    have:=ih (pre++[o]) x1 s st e x' s' st' lg hpre h A m (a.put o.dst .nilIface) w hA hR hF (AAct.put_ok hT hx1 rfl) u0
    rw [List.length_append,List.length_singleton] at this
    exact this
   ·cases h
  | false =>
   simp only [hrec,cond_false,Option.bind_eq_some_iff] at h
   obtain ⟨⟨pv,x1,st1,l1⟩,hop,h⟩:=h
   have go:∀ (K:Act->World->Prop) (Q:Exit->Act->World->Prop) (hA1:l1.Fits W0 A),(pv=none->∀ m' a' w',Ok W0 A m st w m' st1 l1 w'->TRel m' x1 a'->K a' w')->(∀ v,pv=some v->∀ u m' w',Ok W0 A m st w m' st1 l1 w'->TRel m' x1 a->Q (.panic [{ v:=pick v u,recovered:=false }]) a w') →
     (Region.wanted o (yielded ops a.tmps)=false/\K (a.put o.dst undef) w) \/ (Region.wanted o (yielded ops a.tmps)=true/\∃ r,(execOp a.eval o).run P w=r/\(∀ w',r ≠ .ok .recover w')/\o.upon P a K Q r) :=
    fun K Q hA1 hK hQ=>opA_upon hN hE hop hA1 hR hF hT hK hQ
   have fin:((Region.wanted o (yielded ops a.tmps)=false/\wpOpsS P ops (SPost W0 A m st w c₀ cs e x' s' st' lg) (List.range' (pre.length+1) rest.length) (a.put o.dst undef) ({ c₀ with mode:=s.to u0 } :: cs) w) \/ (Region.wanted o (yielded ops a.tmps)=true/\∃ r,(execOp a.eval o).run P w=r/\(∀ w',r ≠ .ok .recover w') ∧
     o.upon P a (fun a' w'=>wpOpsS P ops (SPost W0 A m st w c₀ cs e x' s' st' lg) (List.range' (pre.length+1) rest.length) a' ({ c₀ with mode:=s.to u0 } :: cs) w') (fun e' a' w'=>SPost W0 A m st w c₀ cs e x' s' st' lg e' a' ({ c₀ with mode:=s.to u0 } :: cs) w') r)):=by
    cases pv with
    | some v =>
     simp only [Option.some.injEq,Prod.mk.injEq] at h
     obtain ⟨rfl,rfl,rfl,rfl,rfl⟩:=h
     refine go (fun a' w'=>wpOpsS P ops (SPost W0 A m st w c₀ cs (AX.panic v) x1 s st1 l1) (List.range' (pre.length+1) rest.length) a' ({ c₀ with mode:=s.to u0 } :: cs) w') (fun e' a' w'=>SPost W0 A m st w c₀ cs (AX.panic v) x1 s st1 l1 e' a' ({ c₀ with mode:=s.to u0 } :: cs) w') hA (fun hn=>by cases hn) (fun v' hv u m' w' hok hT'=>?_)
     cases hv
     exact ⟨m',hok,hT',⟨u,rfl⟩,u0,rfl⟩
    | none =>
     simp only [Option.map_eq_some_iff] at h
     obtain ⟨⟨e2,x2,s2,st2,l2⟩,hrest,he⟩:=h
     cases he
     refine go (fun a' w'=>wpOpsS P ops (SPost W0 A m st w c₀ cs e2 x2 s2 st2 (l1.or l2)) (List.range' (pre.length+1) rest.length) a' ({ c₀ with mode:=s.to u0 } :: cs) w') (fun e' a' w'=>SPost W0 A m st w c₀ cs e2 x2 s2 st2 (l1.or l2) e' a' ({ c₀ with mode:=s.to u0 } :: cs) w') (or_A hA).1 (fun _ m1 a1 w1 hok hT1=>?_) (fun v' hv=>by cases hv)
     have:=ih (pre++[o]) x1 s st1 e2 x2 s2 st2 l2 hpre hrest A m1 a1 w1 (or_A hA).2 hok.rel hok.fresh hT1 u0
     rw [List.length_append,List.length_singleton] at this
     refine wpOpsS_mono ?_ _ a1 _ w1 this
     rintro ex a' cs' w' ⟨m',hok',hT',he,hu⟩
     exact ⟨m',hok.trans hok',hT',he,hu⟩
   rcases fin with ⟨hw,hk⟩ | ⟨hw,r,hr,hne,hup⟩
   ·rw [if_neg (by rw [hw];simp)]
    exact hk
   ·rw [if_pos hw,hr]
    split
    ·rename_i w' ;exact absurd rfl (hne w')
    ·exact hup

theorem codeS_ok {P:Program} (hN:GoodP P) {E:Eng} (hE:EngOk P E) (c₀:Frame) (cs:List Frame):∀ (c:Code) (x:AAct) (s:SMode) (st:St) (e:AX) (x':AAct) (s':SMode) (st':St) (lg:Log),codeS P E c x s st=some (e,x',s',st',lg) →
  ∀ (A:Nat->Prop) (m:Map) (a:Act) (w:World),lg.Fits W0 A->Rel W0 A m st.heap.get w->Fresh A m st.next->TRel m x a->∀ u0:Value,c.wpS P (SPost W0 A m st w c₀ cs e x' s' st' lg) a ({ c₀ with mode:=s.to u0 } :: cs) w:=by
 have leaf:∀ (c:Code) (x:AAct) (s:SMode) (st:St) (e:AX) (x':AAct) (s':SMode) (st':St) (lg:Log),((E.code c x st).map fun (p:AX × AAct × St × Log)=>(p.1,p.2.1,s,p.2.2.1,p.2.2.2))=some (e,x',s',st',lg) →
  ∀ (A:Nat->Prop) (m:Map) (a:Act) (w:World),lg.Fits W0 A->Rel W0 A m st.heap.get w->Fresh A m st.next->TRel m x a->∀ u0:Value,c.wpS P (SPost W0 A m st w c₀ cs e x' s' st' lg) a ({ c₀ with mode:=s.to u0 } :: cs) w:=by
  intro c x s st e x' s' st' lg h A m a w hA hR hF hT u0
  simp only [Option.map_eq_some_iff] at h
  obtain ⟨⟨e1,x1,st1,l1⟩,hc,he⟩:=h
  cases he
  refine wpS_of_wp (wp_mono (hE.code c x st _ _ _ _ hc W0 A m a w hA hR hF hT) ?_)
  rintro ex a' w' ⟨m',hok,hT',he⟩
  exact ⟨m',hok,hT',he,u0,rfl⟩
 have smono:∀ (c:Code) (Q Q':Exit->Act->List Frame->World->Prop) (a:Act) (cs:List Frame) (w:World),(∀ e a cs w,Q e a cs w->Q' e a cs w)->c.wpS P Q a cs w->c.wpS P Q' a cs w :=
  fun c Q Q' a cs w hq h b k hb hr=>let ⟨e,a',cs',w',q,r⟩:=h b k hb hr;⟨e,a',cs',w',hq _ _ _ _ q,r⟩
 intro c
 induction c with
 | seq p q ihp ihq =>
  intro x s st e x' s' st' lg h A m a w hA hR hF hT u0
  simp only [codeS,Option.bind_eq_some_iff] at h
  obtain ⟨⟨e1,x1,s1,st1,l1⟩,hp,h⟩:=h
  refine wpS_seq ?_
  cases e1 with
  | normal =>
   simp only [Option.map_eq_some_iff] at h
   obtain ⟨⟨e2,x2,s2,st2,l2⟩,hq,he⟩:=h
   cases he
   refine smono p _ _ a _ w ?_ (ihp x s st .normal x1 s1 st1 l1 hp A m a w (or_A hA).1 hR hF hT u0)
   rintro ex a1 cs1 w1 ⟨m1,hok,hT1,⟨_,rfl⟩,u1,rfl⟩
   refine smono q _ _ a1 _ w1 ?_ (ihq x1 s1 st1 e2 x2 s2 st2 l2 hq A m1 a1 w1 (or_A hA).2 hok.rel hok.fresh hT1 u1)
   rintro ex a2 cs2 w2 ⟨m2,hok2,hT2,he,hu⟩
   exact ⟨m2,hok.trans hok2,hT2,he,hu⟩
  | _ =>
   simp only [Option.some.injEq,Prod.mk.injEq] at h
   obtain ⟨rfl,rfl,rfl,rfl,rfl⟩:=h
   refine smono p _ _ a _ w ?_ (ihp x s st _ x1 s1 st1 l1 hp A m a w hA hR hF hT u0)
   rintro ex a1 cs1 w1 ⟨m1,hok,hT1,⟨u1,rfl⟩,hu⟩
   exact ⟨m1,hok,hT1,⟨u1,rfl⟩,hu⟩
 | cond cc p q ihp ihq =>
  intro x s st e x' s' st' lg h A m a w hA hR hF hT u0
  simp only [codeS,Option.bind_eq_some_iff] at h
  obtain ⟨v,hv,h⟩:=h
  have hc:=ev_ok hT hv
  split at h
  ·simp only [AV.den,Option.some.injEq] at hc
   exact wpS_cond hc.symm (by simpa using ihp x s st e x' s' st' lg h A m a w hA hR hF hT u0)
  ·simp only [AV.den,Option.some.injEq] at hc
   exact wpS_cond hc.symm (by simpa using ihq x s st e x' s' st' lg h A m a w hA hR hF hT u0)
  ·cases h
 | region id ops d =>
  intro x s st e x' s' st' lg h A m a w hA hR hF hT u0
  cases d with
  | false =>
   simp only [codeS] at h
   have:=opsS_ok hN hE.call c₀ cs ops.toList [] x s st e x' s' st' lg (by simp) h A m a w hA hR hF hT u0
   simp only [List.length_nil,Array.length_toList,<- List.range_eq_range'] at this
   exact wpS_region this
  | true=>exact leaf _ x s st e x' s' st' lg h A m a w hA hR hF hT u0
 | _=>intro x s st e x' s' st' lg h A m a w hA hR hF hT u0;exact leaf _ x s st e x' s' st' lg h A m a w hA hR hF hT u0

end Go.Proofs.Ytgdegpifjljnoaa.eng
end

section
/- The engine whole: code, calls, things put off. -/
namespace Go.Proofs.Ytgdegpifjljnoaa.eng
open Go
variable {W0 : Base}

def AX.ends:AX->Bool | .normal=>true | .ret=>true | _=>false
def Zmw (P:Program) (E:Eng) (d:ADef) (s:SMode) (st:St):Option (SMode × St × Log):=match d.fn with
 | .func f=>(P.funcs[f]?).bind fun fn=>fn.body.bind fun c=>cond (Nat.blt (d.args++d.cap).length 16777215)
  ((codeS P E c (Zjh fn (d.args++d.cap) f) s st).bind fun (e,x1,s1,st1,l1)=>cond e.ends
   (cond x1.defers.isEmpty ((Zen P fn x1 st1).map fun (y,l2)=>(s1.settled,st1,l1.or l2)) none) none) none
 | _=>none
def Zdn (P:Program) (E:Eng) (fn:Func) (x:AAct):List ADef->SMode->St->Option (ARet × St × Log)
 | [],.returning,st=>(Zen P fn x st).map fun (y,lg)=>(.ret y,st,lg)
 | [],.panicking v,st=>some (.pan v,st,Log.no)
 | [],.recovered _,st=>none
 | d :: ds,s,st=>(Zmw P E d s st).bind fun (s1,st1,l1)=>(Zdn P E fn x ds s1 st1).map fun (r,st2,l2)=>(r,st2,l1.or l2)

def callF (P:Program) (E:Eng) (f:FuncId) (args:List AV) (st:St):Option (ARet × St × Log) :=
 (P.funcs[f]?).bind fun fn=>fn.body.bind fun c=>cond (Nat.blt args.length 16777215)
  ((E.code c (Zjh fn args f) st).bind fun (e,x1,st1,l1)=>match e with
   | .normal=>(Zdn P E fn x1 x1.defers .returning st1).map fun (r,st2,l2)=>(r,st2,l1.or l2)
   | .ret=>(Zdn P E fn x1 x1.defers .returning st1).map fun (r,st2,l2)=>(r,st2,l1.or l2)
   | .panic v=>(Zdn P E fn x1 x1.defers (.panicking v) st1).map fun (r,st2,l2)=>(r,st2,l1.or l2)
   | _=>none) none

theorem deferA_ok {P:Program} (hN:GoodP P) {E:Eng} (hE:EngOk P E) {d:ADef} {s s':SMode} {st st':St} {lg:Log} (h:Zmw P E d s st=some (s',st',lg)) {A:Nat->Prop} {m:Map} {w:World} {d':Deferred} (u0:Value) (hA:lg.Fits W0 A) (hR:Rel W0 A m st.heap.get w) (hF:Fresh A m st.next) (hd:d.den m=some d') :
  ∃ fv cap f args,d'.target=.fn fv cap/\(invoke d'.target d'.args).run P w=.ok (.enter f args) w/\CallsD P f args (s.to u0) w (fun e u' w'=>∃ v,e=.returned v/\∃ m',Ok W0 A m st w m' st' lg w'/\∃ u2,settle u'=s'.to u2):=by
 unfold Zmw at h
 split at h
 ·rename_i f hfn
  simp only [Option.bind_eq_some_iff] at h
  obtain ⟨fn,hf,c,hc,h⟩:=h
  cases hl:Nat.blt (d.args++d.cap).length 16777215 with
  | false=>simp only [hl,cond_false] at h;cases h
  | true =>
   simp only [hl,cond_true,Option.bind_eq_some_iff] at h
   obtain ⟨⟨e,x1,s1,st1,l1⟩,hcode,h⟩:=h
   cases he:e.ends with
   | false=>simp [he] at h
   | true =>
    cases hemp:x1.defers.isEmpty with
    | false=>simp [he,hemp] at h
    | true =>
     simp only [he,hemp,cond_true,Option.map_eq_some_iff] at h
     obtain ⟨⟨y,l2⟩,hres,heq⟩:=h
     cases heq
     simp only [ADef.den,Option.bind_eq_some_iff,Option.map_eq_some_iff] at hd
     obtain ⟨cv,hcv,av,hav,rfl⟩:=hd
     have hn:=namesOk_ok hN.1 hf
     have hb:fn.body.isNone=false:=by rw [hc];rfl
     refine ⟨d.fn,cv.toArray,f,(av++cv).toArray,rfl,?_,?_⟩
     ·rw [hfn]
      simp only [invoke,run_callFunc_enter hf hn hb]
      simp
     ·refine callsD_of_wpS hf hc ?_
      intro c₀ cs hm
      have hden:=Zag hav hcv
      have hstart:=Zgz (f:=f) (fn:=fn) hden (by simpa using hl)
      have hw:=codeS_ok hN hE c₀ cs c _ s st e x1 s1 st' l1 hcode A m _ w (or_A hA).1 hR hF hstart u0
      have hc0:({ c₀ with mode:=s.to u0 }:Frame)=c₀:=by rw [<- hm]
      rw [hc0] at hw
      intro b k hb hr
      obtain ⟨ex,a',cs',w',⟨m',hok,hT',⟨ue,rfl⟩,u2,rfl⟩,harr⟩:=hw b k hb hr
      have hd0:a'.defers=[]:=by
       have:=hT'.defers
       rw [List.isEmpty_iff.1 hemp] at this
       simpa [denD] using this.symm
      obtain ⟨v,hv,hrun⟩:=Zdq hres (or_A hA).2 hok.rel hT'
      refine ⟨e.to ue,a',_,w',?_,harr⟩
      cases e with
      | normal=>exact ⟨hd0,s1.to u2,rfl,v,hrun,v,rfl,m',hok.more (fun r hr=>Zat hr),u2,(settled_ok s1 u2).symm⟩
      | ret=>exact ⟨hd0,s1.to u2,rfl,v,hrun,v,rfl,m',hok.more (fun r hr=>Zat hr),u2,(settled_ok s1 u2).symm⟩
      | _=>simp [AX.ends] at he
 ·cases h

theorem leaveA_ok {P:Program} (hN:GoodP P) {E:Eng} (hE:EngOk P E) {fn:Func} {x:AAct} {a:Act}:∀ (ds:List ADef) (s:SMode) (st:St) (r:ARet) (st':St) (lg:Log),Zdn P E fn x ds s st=some (r,st',lg) →
  ∀ (A:Nat->Prop) (m:Map) (w:World) (vds:List Deferred),lg.Fits W0 A->Rel W0 A m st.heap.get w->Fresh A m st.next->TRel m x a->denD m ds=some vds->∀ u0:Value,Leaves P fn a.tmps (CPost W0 A m st w r st' lg) vds (s.to u0) w:=by
 intro ds
 induction ds with
 | nil =>
  intro s st r st' lg h A m w vds hA hR hF hT hd u0
  simp only [denD,Option.some.injEq] at hd
  subst hd
  cases s with
  | returning =>
   simp only [Zdn,Option.map_eq_some_iff] at h
   obtain ⟨⟨y,l1⟩,hres,he⟩:=h
   cases he
   obtain ⟨v,hv,hrun⟩:=Zdq hres hA hR hT
   exact ⟨v,hrun,m,Ok.refl hR hF,v,hv,rfl⟩
  | panicking v =>
   simp only [Zdn,Option.some.injEq,Prod.mk.injEq] at h
   obtain ⟨rfl,rfl,rfl⟩:=h
   exact ⟨m,Ok.refl hR hF,u0,rfl⟩
  | recovered v=>simp [Zdn] at h
 | cons d ds ih =>
  intro s st r st' lg h A m w vds hA hR hF hT hd u0
  simp only [denD,Option.bind_eq_some_iff,Option.map_eq_some_iff] at hd
  obtain ⟨d',hd',ds',hds,rfl⟩:=hd
  simp only [Zdn,Option.bind_eq_some_iff,Option.map_eq_some_iff] at h
  obtain ⟨⟨s1,st1,l1⟩,hdef,⟨r2,st2,l2⟩,hlv,he⟩:=h
  cases he
  obtain ⟨fv,cap,f,args,htar,hinv,hcall⟩:=deferA_ok hN hE hdef u0 (or_A hA).1 hR hF hd'
  have hne:s.to u0 ≠ .run:=by cases s <;> simp [SMode.to]
  have hcont:CallsD P f args (s.to u0) w fun
    | .returned _,u',w'=>Leaves P fn a.tmps (CPost W0 A m st w r2 st2 (l1.or l2)) ds' (settle u') w'
    | .panicked chain,u',w'=>Leaves P fn a.tmps (CPost W0 A m st w r2 st2 (l1.or l2)) ds' (raised u' chain) w'
    | .outgrown,_,w'=>CPost W0 A m st w r2 st2 (l1.or l2) .outgrown w':=by
   refine hcall.mono ?_
   rintro e u' w' ⟨v,rfl,m',hok,u2,hset⟩
   show Leaves P fn a.tmps _ ds' (settle u') w'
   rw [hset]
   have:=ih s1 st1 r2 st2 l2 hlv A m' w' ds' (or_A hA).2 hok.rel hok.fresh (hT.mono hok.ext) (Zea hok.ext hds) u2
   have hmono:∀ (l:List Deferred) (u:FrameMode) (w0:World),Leaves P fn a.tmps (CPost W0 A m' st1 w' r2 st2 l2) l u w0->Leaves P fn a.tmps (CPost W0 A m st w r2 st2 (l1.or l2)) l u w0:=by
    have hpost:∀ e w0,CPost W0 A m' st1 w' r2 st2 l2 e w0->CPost W0 A m st w r2 st2 (l1.or l2) e w0:=by
     rintro e w0 ⟨m2,hok2,hr⟩
     exact ⟨m2,hok.trans hok2,hr⟩
    intro l
    induction l with
    | nil =>
     intro u w0 h
     cases u with
     | run=>exact h
     | returning=>obtain ⟨v,hv,hq⟩:=h;exact ⟨v,hv,hpost _ _ hq⟩
     | panicking ch=>exact hpost _ _ h
    | cons d l ih =>
     intro u w0 h
     obtain ⟨h1,fv,cap,f,args,h2,h3,h4⟩:=h
     refine ⟨h1,fv,cap,f,args,h2,h3,h4.mono ?_⟩
     intro e u' w1 hq
     cases e with
     | returned v=>exact ih _ _ hq
     | panicked ch=>exact ih _ _ hq
     | outgrown=>exact hpost _ _ hq
   exact hmono _ _ _ this
  exact ⟨hne,fv,cap,f,args,htar,hinv,hcont⟩

theorem callF_ok {P:Program} (hN:GoodP P) {E:Eng} (hE:EngOk P E):Zee P (callF P E):=by
 intro f args st r st' lg h W0 A m w vs hA hR hF hvs
 simp only [callF,Option.bind_eq_some_iff] at h
 obtain ⟨fn,hf,c,hc,h⟩:=h
 cases hl:Nat.blt args.length 16777215 with
 | false=>simp [hl] at h
 | true =>
  simp only [hl,cond_true,Option.bind_eq_some_iff] at h
  obtain ⟨⟨e,x1,st1,l1⟩,hcode,h⟩:=h
  have hstart:=Zgz (f:=f) (fn:=fn) hvs (by simpa using hl)
  refine calls_of_wp_defers hf hc ?_
  have hmono:∀ (m':Map) (w':World) (l2:Log) (hok:Ok W0 A m st w m' st1 l1 w') (l:List Deferred) (u:FrameMode) (tm:Array Value) (w0:World),Leaves P fn tm (CPost W0 A m' st1 w' r st' l2) l u w0->Leaves P fn tm (CPost W0 A m st w r st' (l1.or l2)) l u w0:=by
   intro m' w' l2 hok
   have hpost:∀ e w0,CPost W0 A m' st1 w' r st' l2 e w0->CPost W0 A m st w r st' (l1.or l2) e w0:=by
    rintro e w0 ⟨m2,hok2,hr⟩
    exact ⟨m2,hok.trans hok2,hr⟩
   intro l
   induction l with
   | nil =>
    intro u tm w0 h
    cases u with
    | run=>exact h
    | returning=>obtain ⟨v,hv,hq⟩:=h;exact ⟨v,hv,hpost _ _ hq⟩
    | panicking ch=>exact hpost _ _ h
   | cons d l ih =>
    intro u tm w0 h
    obtain ⟨h1,fv,cap,f,args,h2,h3,h4⟩:=h
    refine ⟨h1,fv,cap,f,args,h2,h3,h4.mono ?_⟩
    intro e u' w1 hq
    cases e with
    | returned v=>exact ih _ _ _ hq
    | panicked ch=>exact ih _ _ _ hq
    | outgrown=>exact hpost _ _ hq
  have leave:∀ (s:SMode) (l2:Log),Zdn P E fn x1 x1.defers s st1=some (r,st',l2)->lg=l1.or l2->∀ m' a' w',Ok W0 A m st w m' st1 l1 w'->TRel m' x1 a'->∀ u0:Value,Leaves P fn a'.tmps (CPost W0 A m st w r st' lg) a'.defers (s.to u0) w':=by
   intro s l2 hlv hlg m' a' w' hok hT' u0
   subst hlg
   exact hmono m' w' l2 hok _ _ _ _ (leaveA_ok hN hE x1.defers s st1 r st' l2 hlv A m' w' a'.defers (or_A hA).2 hok.rel hok.fresh hT' hT'.defers u0)
  have hA1:∀ (l2:Log),lg=l1.or l2->l1.Fits W0 A:=fun l2 hlg=>by subst hlg;exact (or_A hA).1
  cases e with
  | normal =>
   simp only [Option.map_eq_some_iff] at h
   obtain ⟨⟨r2,st2,l2⟩,hlv,he⟩:=h
   cases he
   refine wp_mono (hE.code c _ st _ x1 st1 l1 hcode W0 A m _ w (hA1 l2 rfl) hR hF hstart) ?_
   rintro ex a' w' ⟨m',hok,hT',u,rfl⟩
   exact leave .returning l2 hlv rfl m' a' w' hok hT' u
  | ret =>
   simp only [Option.map_eq_some_iff] at h
   obtain ⟨⟨r2,st2,l2⟩,hlv,he⟩:=h
   cases he
   refine wp_mono (hE.code c _ st _ x1 st1 l1 hcode W0 A m _ w (hA1 l2 rfl) hR hF hstart) ?_
   rintro ex a' w' ⟨m',hok,hT',u,rfl⟩
   exact leave .returning l2 hlv rfl m' a' w' hok hT' u
  | panic v =>
   simp only [Option.map_eq_some_iff] at h
   obtain ⟨⟨r2,st2,l2⟩,hlv,he⟩:=h
   cases he
   refine wp_mono (hE.code c _ st _ x1 st1 l1 hcode W0 A m _ w (hA1 l2 rfl) hR hF hstart) ?_
   rintro ex a' w' ⟨m',hok,hT',u,rfl⟩
   exact leave (.panicking v) l2 hlv rfl m' a' w' hok hT' u
  | exit id=>cases h
  | goto l=>cases h

abbrev Draw:=Eng->Array Oper->AAct->St->CR
def Zot (P:Program) (D:Draw):Prop:=∀ E,Zee P E.call->Zbo E.call->∀ id ops x st e x' st' lg,D E ops x st=some (e,x',st',lg)->∀ W0 A m a w,lg.Fits W0 A->Rel W0 A m st.heap.get w->Fresh A m st.next->TRel m x a->(Code.region id ops true).wp P (XPost W0 A m st w e x' st' lg) a w
def seqA (r:CR) (k:AAct->St->CR):CR:=r.bind fun (e,x1,st1,l1)=>match e with
 | .normal=>(k x1 st1).map fun (e2,x2,st2,l2)=>(e2,x2,st2,l1.or l2)
 | e=>some (e,x1,st1,l1)
def AX.inBlock (id:Nat):AX->AX
 | .exit id'=>cond (Nat.beq id' id) .normal (.exit id')
 | e=>e
def codeF (P:Program) (D:Draw) (E:Eng):Code->AAct->St->CR
 | .skip,x,st=>some (.normal,x,st,Log.no)
 | .label _,x,st=>some (.normal,x,st,Log.no)
 | .region id ops draw,x,st=>cond draw (D E ops x st) (opsA P E ops ops.toList x st)
 | .seq a b,x,st=>seqA (E.code a x st) (E.code b)
 | .cond c t f,x,st=>(ev x c).bind fun v=>match v with
  | .val (.bool true)=>E.code t x st
  | .val (.bool false)=>E.code f x st
  | _=>none
 | .block id body,x,st=>(E.code body x st).map fun (e,r)=>(e.inBlock id,r)
 | .loop body,x,st=>E.loop body x st
 | .exit id,x,st=>some (.exit id,x,st,Log.no)
 | .ret,x,st=>some (.ret,x,st,Log.no)
 | .scope body,x,st=>E.code body x st
 | _,_,_=>none
def loopF (E:Eng) (body:Code) (x:AAct) (st:St):CR:=seqA (E.code body x st) (E.loop body)
def eng (P:Program) (D:Draw) (O:FuncId->List AV->St->Option (ARet × St × Log)) (H:FuncId->Oper->Option Hint:=fun _ _=>none):Nat->Eng
 | 0=>⟨fun _ _ _=>none,fun _ _ _=>none,fun _ _ _=>none,H⟩
 | n+1=>⟨codeF P D (eng P D O H n),loopF (eng P D O H n),fun f args st=>match O f args st with | some r=>some r | none=>callF P (eng P D O H n) f args st,H⟩

theorem XPost.after {A:Nat->Prop} {m m1:Map} {st st1:St} {w w1:World} {l1 l2:Log} {e:AX} {x':AAct} {st':St} (hok:Ok W0 A m st w m1 st1 l1 w1) {ex:Exit} {a:Act} {w':World} (h:XPost W0 A m1 st1 w1 e x' st' l2 ex a w'):XPost W0 A m st w e x' st' (l1.or l2) ex a w':=by
 obtain ⟨m2,hok2,hT,hu⟩:=h
 exact ⟨m2,hok.trans hok2,hT,hu⟩

def Zpz (C:Code->AAct->St->CR):Prop:=∀ c x st e r,C c x st=some (e,r)->∀ l,e ≠ .goto l

theorem codeF_ok {P:Program} (hN:GoodP P) {D:Draw} (hD:Zot P D) {E:Eng} (hE:EngOk P E) (hG:Zbo E.call) (hJ:Zpz E.code):CodeOk P (codeF P D E):=by
 intro c x st e x' st' lg h W0 A m a w hA hR hF hT
 cases c with
 | skip =>
  simp only [codeF,Option.some.injEq,Prod.mk.injEq] at h
  obtain ⟨rfl,rfl,rfl,rfl⟩:=h
  exact wp_skip ⟨m,Ok.refl hR hF,hT,undef,rfl⟩
 | label l =>
  simp only [codeF,Option.some.injEq,Prod.mk.injEq] at h
  obtain ⟨rfl,rfl,rfl,rfl⟩:=h
  exact wp_label ⟨m,Ok.refl hR hF,hT,undef,rfl⟩
 | region id ops draw =>
  simp only [codeF] at h
  cases draw with
  | true=>exact hD E hE.call hG id ops x st e x' st' lg h W0 A m a w hA hR hF hT
  | false =>
   have:=opsA_ok hN hE.call ops.toList [] x st e x' st' lg (by simp) h A m a w hA hR hF hT
   simp only [List.length_nil,Array.length_toList,<- List.range_eq_range'] at this
   exact wp_region this
 | seq p q =>
  simp only [codeF,seqA,Option.bind_eq_some_iff] at h
  obtain ⟨⟨e1,x1,st1,l1⟩,hp,h⟩:=h
  refine wp_seq ?_
  cases e1 with
  | normal =>
   simp only [Option.map_eq_some_iff] at h
   obtain ⟨⟨e2,x2,st2,l2⟩,hq,he⟩:=h
   cases he
   refine wp_mono (hE.code p x st _ _ _ _ hp W0 A m a w (or_A hA).1 hR hF hT) ?_
   rintro ex a1 w1 ⟨m1,hok,hT1,u1,rfl⟩
   refine wp_mono (hE.code q x1 st1 _ _ _ _ hq W0 A m1 a1 w1 (or_A hA).2 hok.rel hok.fresh hT1) ?_
   intro ex a2 w2 hx
   exact XPost.after hok hx
  | _ =>
   simp only [Option.some.injEq,Prod.mk.injEq] at h
   obtain ⟨rfl,rfl,rfl,rfl⟩:=h
   refine wp_mono (hE.code p x st _ _ _ _ hp W0 A m a w hA hR hF hT) ?_
   rintro ex a1 w1 ⟨m1,hok,hT1,u1,rfl⟩
   exact ⟨m1,hok,hT1,u1,rfl⟩
 | cond cc p q =>
  simp only [codeF,Option.bind_eq_some_iff] at h
  obtain ⟨v,hv,h⟩:=h
  have hc:=ev_ok hT hv
  split at h
  ·simp only [AV.den,Option.some.injEq] at hc
   exact wp_cond hc.symm (by simpa using hE.code p x st e x' st' lg h W0 A m a w hA hR hF hT)
  ·simp only [AV.den,Option.some.injEq] at hc
   exact wp_cond hc.symm (by simpa using hE.code q x st e x' st' lg h W0 A m a w hA hR hF hT)
  ·cases h
 | block id body =>
  simp only [codeF,Option.map_eq_some_iff] at h
  obtain ⟨⟨e1,x1,st1,l1⟩,hb,he⟩:=h
  cases he
  refine wp_block (wp_mono (hE.code body x st _ _ _ _ hb W0 A m a w hA hR hF hT) ?_)
  rintro ex a1 w1 ⟨m1,hok,hT1,u1,rfl⟩
  cases e1 with
  | exit id' =>
   simp only [AX.to,Exit.inBlock,AX.inBlock]
   by_cases hid:id'=id
   ·subst hid
    simp only [if_true,Nat.beq_refl,cond_true]
    exact ⟨m1,hok,hT1,u1,rfl⟩
   ·have:Nat.beq id' id=false:=by
     cases hq:Nat.beq id' id with
     | false=>rfl
     | true=>exact absurd (Nat.eq_of_beq_eq_true hq) hid
    simp only [if_neg hid,this,cond_false]
    exact ⟨m1,hok,hT1,u1,rfl⟩
  | _=>exact ⟨m1,hok,hT1,u1,rfl⟩
 | loop body =>
  simp only [codeF] at h
  intro b k cs
  obtain ⟨ex,a',w',hq,harr⟩:=hE.loop body x st e x' st' lg h W0 A m a w hA hR hF hT b k cs
  exact ⟨ex,a',w',hq,.of_steps (.one step_loop) harr⟩
 | exit id =>
  simp only [codeF,Option.some.injEq,Prod.mk.injEq] at h
  obtain ⟨rfl,rfl,rfl,rfl⟩:=h
  exact wp_exit ⟨m,Ok.refl hR hF,hT,undef,rfl⟩
 | ret =>
  simp only [codeF,Option.some.injEq,Prod.mk.injEq] at h
  obtain ⟨rfl,rfl,rfl,rfl⟩:=h
  exact wp_ret ⟨m,Ok.refl hR hF,hT,undef,rfl⟩
 | scope body =>
  simp only [codeF] at h
  refine wp_scope_straight (wp_mono (hE.code body x st _ _ _ _ h W0 A m a w hA hR hF hT) ?_)
  rintro ex a1 w1 ⟨m1,hok,hT1,u1,rfl⟩
  have hj:=hJ body x st e _ h
  cases e with
  | goto l=>exact absurd rfl (hj l)
  | _=>exact ⟨m1,hok,hT1,u1,rfl⟩
 | _=>simp [codeF] at h

theorem loopF_ok {P:Program} {E:Eng} (hE:EngOk P E):LoopOk P (loopF E):=by
 intro c x st e x' st' lg h W0 A m a w hA hR hF hT b k cs
 simp only [loopF,seqA,Option.bind_eq_some_iff] at h
 obtain ⟨⟨e1,x1,st1,l1⟩,hp,h⟩:=h
 cases e1 with
 | normal =>
  simp only [Option.map_eq_some_iff] at h
  obtain ⟨⟨e2,x2,st2,l2⟩,hq,he⟩:=h
  cases he
  obtain ⟨ex,a1,w1,⟨m1,hok,hT1,u1,rfl⟩,harr⟩:=hE.code c x st _ _ _ _ hp W0 A m a w (or_A hA).1 hR hF hT b (.inLoop c :: k) cs
  obtain ⟨ex2,a2,w2,hq2,harr2⟩:=hE.loop c x1 st1 _ _ _ _ hq W0 A m1 a1 w1 (or_A hA).2 hok.rel hok.fresh hT1 b k cs
  exact ⟨ex2,a2,w2,XPost.after hok hq2,.of_steps (Steps.trans harr (.one step_inLoop)) harr2⟩
 | exit id =>
  simp only [Option.some.injEq,Prod.mk.injEq] at h
  obtain ⟨rfl,rfl,rfl,rfl⟩:=h
  obtain ⟨ex,a1,w1,⟨m1,hok,hT1,u1,rfl⟩,harr⟩:=hE.code c x st _ _ _ _ hp W0 A m a w hA hR hF hT b (.inLoop c :: k) cs
  exact ⟨_,a1,w1,⟨m1,hok,hT1,u1,rfl⟩,.pass (x:=.inLoop c) rfl (fun _ _=>.inl (by simp [AX.to])) harr⟩
 | goto l =>
  simp only [Option.some.injEq,Prod.mk.injEq] at h
  obtain ⟨rfl,rfl,rfl,rfl⟩:=h
  obtain ⟨ex,a1,w1,⟨m1,hok,hT1,u1,rfl⟩,harr⟩:=hE.code c x st _ _ _ _ hp W0 A m a w hA hR hF hT b (.inLoop c :: k) cs
  exact ⟨_,a1,w1,⟨m1,hok,hT1,u1,rfl⟩,.pass (x:=.inLoop c) rfl (fun _ _=>.inl (by simp [AX.to])) harr⟩
 | ret =>
  simp only [Option.some.injEq,Prod.mk.injEq] at h
  obtain ⟨rfl,rfl,rfl,rfl⟩:=h
  obtain ⟨ex,a1,w1,⟨m1,hok,hT1,u1,rfl⟩,harr⟩:=hE.code c x st _ _ _ _ hp W0 A m a w hA hR hF hT b (.inLoop c :: k) cs
  exact ⟨_,a1,w1,⟨m1,hok,hT1,u1,rfl⟩,.pass (x:=.inLoop c) rfl (fun _ _=>.inl (by simp [AX.to])) harr⟩
 | panic v =>
  simp only [Option.some.injEq,Prod.mk.injEq] at h
  obtain ⟨rfl,rfl,rfl,rfl⟩:=h
  obtain ⟨ex,a1,w1,⟨m1,hok,hT1,u1,rfl⟩,harr⟩:=hE.code c x st _ _ _ _ hp W0 A m a w hA hR hF hT b (.inLoop c :: k) cs
  exact ⟨_,a1,w1,⟨m1,hok,hT1,u1,rfl⟩,.pass (x:=.inLoop c) rfl (fun _ _=>.inl (by simp [AX.to])) harr⟩

def Zfu (D:Draw):Prop:=∀ E ops x st e r,D E ops x st=some (e,r)->∀ l,e ≠ .goto l
theorem opsA_noJump {P:Program} {E:Eng} {ops:Array Oper}:∀ (l:List Oper) (x:AAct) (st:St) (e:AX) (r:AAct × St × Log),opsA P E ops l x st=some (e,r)->∀ k,e ≠ .goto k:=by
 intro l
 induction l with
 | nil=>intro x st e r h k;simp [opsA] at h;rw [<- h.1];simp
 | cons o rest ih =>
  intro x st e r h k
  simp only [opsA,Option.bind_eq_some_iff] at h
  obtain ⟨⟨pv,x1,st1,l1⟩,_,h⟩:=h
  cases pv with
  | some v=>simp at h;rw [<- h.1];simp
  | none =>
   simp only [Option.map_eq_some_iff] at h
   obtain ⟨⟨e2,x2,st2,l2⟩,hr,he⟩:=h
   cases he
   exact ih x1 st1 _ (x2,st2,l2) hr k
theorem eng_noJump {P:Program} {D:Draw} (hD:Zfu D) {O:FuncId->List AV->St->Option (ARet × St × Log)} {H:FuncId->Oper->Option Hint}:∀ n,Zpz (eng P D O H n).code/\Zpz (eng P D O H n).loop:=by
 intro n
 induction n with
 | zero=>exact ⟨fun c x st e r h=>by simp [eng] at h,fun c x st e r h=>by simp [eng] at h⟩
 | succ n ih =>
  have hseq:∀ (r:CR) (k:AAct->St->CR),(∀ e q,r=some (e,q)->∀ l,e ≠ .goto l)->(∀ x st e q,k x st=some (e,q)->∀ l,e ≠ .goto l)->∀ e q,seqA r k=some (e,q)->∀ l,e ≠ .goto l:=by
   intro r k h1 h2 e q h l
   simp only [seqA,Option.bind_eq_some_iff] at h
   obtain ⟨⟨e1,x1,st1,l1⟩,hr,h⟩:=h
   have:=h1 e1 _ hr
   cases e1 with
   | normal =>
    simp only [Option.map_eq_some_iff] at h
    obtain ⟨⟨e2,x2,st2,l2⟩,hk,he⟩:=h
    cases he
    exact h2 _ _ _ _ hk l
   | _=>simp only [Option.some.injEq,Prod.mk.injEq] at h;rw [<- h.1];exact this l
  refine ⟨?_,?_⟩
  ·intro c x st e r h l
   simp only [eng] at h
   cases c with
   | skip=>simp [codeF] at h;rw [<- h.1];simp
   | label k=>simp [codeF] at h;rw [<- h.1];simp
   | exit k=>simp [codeF] at h;rw [<- h.1];simp
   | ret=>simp [codeF] at h;rw [<- h.1];simp
   | region id ops d =>
    cases d with
    | true=>exact hD _ ops x st e r h l
    | false=>exact opsA_noJump _ x st e r h l
   | seq p q=>exact hseq _ _ (fun e q hq=>ih.1 p x st e q hq) (fun x st e r hr=>ih.1 q x st e r hr) e r h l
   | cond cc p q =>
    simp only [codeF,Option.bind_eq_some_iff] at h
    obtain ⟨v,hv,h⟩:=h
    split at h
    ·exact ih.1 p x st e r h l
    ·exact ih.1 q x st e r h l
    ·cases h
   | block id body =>
    simp only [codeF,Option.map_eq_some_iff] at h
    obtain ⟨⟨e1,r1⟩,hb,he⟩:=h
    cases he
    have:=ih.1 body x st e1 _ hb l
    cases e1 with
    | exit id'=>simp only [AX.inBlock,cond_eq_ite];split <;> simp
    | goto k=>exact this
    | _=>simp [AX.inBlock]
   | loop body=>exact ih.2 body x st e r h l
   | scope body=>exact ih.1 body x st e r h l
   | _=>simp [codeF] at h
  ·intro c x st e r h l
   exact hseq _ _ (fun e q hq=>ih.1 c x st e q hq) (fun x st e r hr=>ih.2 c x st e r hr) e r h l

theorem eng_ok {P:Program} (hN:GoodP P) {D:Draw} (hD:Zot P D) (hDJ:Zfu D) {O:FuncId->List AV->St->Option (ARet × St × Log)} {H:FuncId->Oper->Option Hint} (hO:Zee P O) (hG:∀ n,Zbo (eng P D O H n).call):∀ n,EngOk P (eng P D O H n):=by
 intro n
 induction n with
 | zero=>exact ⟨fun c x st e x' st' lg h=>by simp [eng] at h,fun c x st e x' st' lg h=>by simp [eng] at h,fun f args st r st' lg h=>by simp [eng] at h⟩
 | succ n ih =>
  refine ⟨codeF_ok hN hD ih (hG n) (eng_noJump hDJ n).1,loopF_ok ih,?_⟩
  intro f args st r st' lg h
  simp only [eng] at h
  split at h
  ·rename_i r0 hr
   cases h
   exact hO f args st r st' lg hr
  ·exact callF_ok hN ih f args st r st' lg h

end Go.Proofs.Ytgdegpifjljnoaa.eng
end

section
/- The engine: what it does not name it does not turn. -/
namespace Go.Proofs.Ytgdegpifjljnoaa.eng
open Go
variable {W0 : Base}

theorem Gk.refl (st:St) (lg:Log):Gk st st lg:=fun _ _=>rfl
theorem Gk.trans {a b c:St} {l1 l2:Log} (h:Gk a b l1) (k:Gk b c l2):Gk a c (l1.or l2):=fun r hr=>by
 rw [k r (fun x=>hr (Za2 x)),h r (fun x=>hr (Zat x))]
theorem Gk.orR {a b:St} {l1 l2:Log} (h:Gk a b l2):Gk a b (l1.or l2):=fun r hr=>h r (fun x=>hr (Za2 x))
theorem Gk.orL {a b:St} {l1 l2:Log} (h:Gk a b l1):Gk a b (l1.or l2):=fun r hr=>h r (fun x=>hr (Zat x))

theorem Zgc {st st':St} {r:Nat} {o:ARoot} (h:st.put r o=some st'):Gk st st' (Log.turns r):=fun k hk=>by
 obtain ⟨hp,_⟩:=put_ok h
 rw [hp]
 have:¬ k=r:=fun e=>hk (by simp only [Log.turns];rw [Zah];exact e)
 simp [Heap.upd,this]
theorem Zfs {st st':St} {cells:List AV} {elem:TypeId} {esz:Nat} {opn:Bool} {lg:Log} (h:st.alloc cells elem esz opn=some (st',lg)):Gk st st' lg:=by
 simp only [St.alloc,Option.map_eq_some_iff] at h
 obtain ⟨s1,hp,he⟩:=h
 cases he
 intro r hr
 have:=Zgc hp r hr
 exact this
theorem Zd3 {st st':St} {r v off:Nat} {ys:List AV} {lg:Log} (h:Zcf st r v off ys=some (st',lg)):Gk st st' lg:=by
 simp only [Zcf,Option.bind_eq_some_iff] at h
 obtain ⟨o,ho,h⟩:=h
 split at h
 ·simp only [cond_eq_ite] at h
  split at h
  ·simp only [Option.map_eq_some_iff] at h
   obtain ⟨s1,hp,he⟩:=h
   cases he
   exact Zgc hp
  ·cases h
 ·cases h
theorem aStore_gk {P:Program} {st st':St} {t:TypeId} {x y:AV} {lg:Log} (h:Zmz P st t x y=some (st',lg)):Gk st st' lg:=by
 unfold Zmz at h
 split at h
 ·simp only [cond_eq_ite] at h
  split at h
  ·exact Zd3 h
  ·cases h
 ·cases h
theorem aNew_gk {st st':St} {elem:TypeId} {y z:AV} {lg:Log} (h:aNew st elem y=some (z,st',lg)):Gk st st' lg:=by
 simp only [aNew,Option.map_eq_some_iff] at h
 obtain ⟨⟨s1,l1⟩,hal,he⟩:=h
 cases he
 exact Zfs hal
theorem aToBytes_gk {P:Program} {st st':St} {src dst:TypeId} {x y:AV} {lg:Log} (h:Zhe P st src dst x=some (y,st',lg)):Gk st st' lg:=by
 unfold Zhe at h
 split at h
 ·split at h
  ·simp only [cond_eq_ite] at h
   split at h
   ·simp only [Option.map_eq_some_iff] at h
    obtain ⟨⟨s1,l1⟩,hal,he⟩:=h
    cases he
    exact Zfs hal
   ·cases h
  ·cases h
 ·cases h
theorem aGrow_gk {st st':St} {e:TypeId} {i:TypeInfo} {len cap n:Nat} {olds news:List AV} {y:AV} {lg:Log} (h:aGrow st e i len cap n olds news=some (y,st',lg)):Gk st st' lg:=by
 unfold aGrow at h
 simp only [cond_eq_ite] at h
 split at h
 ·simp only [Option.map_eq_some_iff] at h
  obtain ⟨⟨s1,l1⟩,hal,he⟩:=h
  cases he
  exact Zfs hal
 ·cases h
theorem aVer_gk {st st':St} {o:ARoot} {r v len n:Nat} {i:TypeInfo} {ys:List AV} {y:AV} {lg:Log} (h:aVer st o r v len n i ys=some (y,st',lg)):Gk st st' lg:=by
 simp only [aVer,Option.map_eq_some_iff] at h
 obtain ⟨s1,hp,he⟩:=h
 cases he
 exact Zgc hp
theorem Zl7 {st st':St} {e:TypeId} {i:TypeInfo} {n:Nat} {ys:List AV} {x y:AV} {lg:Log} (h:aOnto st e i n ys x=some (y,st',lg)):Gk st st' lg:=by
 unfold aOnto at h
 split at h
 ·simp only [cond_eq_ite] at h
  split at h
  ·cases h;exact Gk.refl _ _
  ·exact aGrow_gk h
 ·rename_i r v lo sz len cap opn
  cases hsz:Nat.beq sz i.size with
  | false=>simp [hsz] at h
  | true =>
   simp only [hsz,cond_true,Option.bind_eq_some_iff] at h
   obtain ⟨⟨o,nv⟩,hl,h⟩:=h
   cases opn with
   | true =>
    simp only [cond_true] at h
    cases hc:(o.opn && Nat.beq o.esz sz && Nat.blt 0 sz && Nat.ble ((lo+len+n) * sz) nv && Nat.ble cap lo) with
    | true =>
     simp only [hc,cond_true] at h
     cases hn0:Nat.beq n 0 with
     | true=>simp only [hn0,cond_true,Option.some.injEq,Prod.mk.injEq] at h;obtain ⟨_,rfl,_⟩:=h;exact Gk.refl _ _
     | false =>
      simp only [hn0,cond_false,Option.map_eq_some_iff] at h
      obtain ⟨⟨s1,l1⟩,hp,he⟩:=h
      cases he
      exact Zd3 hp
    | false =>
     simp only [hc,cond_false] at h
     simp only [cond_eq_ite] at h
     split at h
     ·exact aVer_gk h
     ·cases h
   | false =>
    simp only [cond_false] at h
    cases hc:Nat.ble (len+n) cap with
    | true =>
     simp only [hc,cond_true] at h
     cases hn0:Nat.beq n 0 with
     | true=>simp only [hn0,cond_true,Option.some.injEq,Prod.mk.injEq] at h;obtain ⟨_,rfl,_⟩:=h;exact Gk.refl _ _
     | false =>
      simp only [hn0,cond_false,Option.map_eq_some_iff] at h
      obtain ⟨⟨s1,l1⟩,hp,he⟩:=h
      cases he
      exact Zd3 hp
    | false =>
     simp only [hc,cond_false] at h
     simp only [cond_eq_ite] at h
     split at h
     ·simp only [Option.map_eq_some_iff] at h
      obtain ⟨⟨y1,s1,l1⟩,hg,he⟩:=h
      cases he
      exact (aGrow_gk hg).orR
     ·cases h
 ·cases h
theorem aAppend_gk {P:Program} {st st':St} {t tx:TypeId} {s x y:AV} {lg:Log} (h:Zj5 P st t tx s x=some (y,st',lg)):Gk st st' lg:=by
 unfold Zj5 at h
 split at h
 ·simp only [Option.bind_eq_some_iff] at h
  obtain ⟨i,hi,h⟩:=h
  cases hk:Zid P tx with
  | true =>
   simp only [hk,cond_true,Option.bind_eq_some_iff,Option.map_eq_some_iff] at h
   obtain ⟨⟨n,ys,l1⟩,h1,⟨y1,s1,l2⟩,h2,he⟩:=h
   cases he
   exact (Zl7 h2).orR
  | false =>
   simp only [hk,cond_false] at h
   split at h
   ·simp only [cond_eq_ite] at h
    split at h
    ·exact Zl7 h
    ·cases h
   ·cases h
 ·cases h
theorem aCopy_gk {P:Program} {st st':St} {t:TypeId} {d x y:AV} {lg:Log} (h:aCopy P st t d x=some (y,st',lg)):Gk st st' lg:=by
 unfold aCopy at h
 split at h
 ·simp only [Option.bind_eq_some_iff] at h
  obtain ⟨i,hi,h⟩:=h
  split at h
  ·simp only [Option.map_eq_some_iff] at h
   obtain ⟨⟨n,ys,l1⟩,h1,he⟩:=h
   cases he
   exact Gk.refl _ _
  ·rename_i r v lo sz len cap opn
   cases hsz:Nat.beq sz i.size with
   | false=>simp [hsz] at h
   | true =>
    simp only [hsz,cond_true,Option.bind_eq_some_iff] at h
    obtain ⟨⟨n,ys,l1⟩,h1,h⟩:=h
    simp only [cond_eq_ite] at h
    split at h
    ·cases h
    ·simp only [Option.map_eq_some_iff] at h
     obtain ⟨⟨s1,l2⟩,hp,he⟩:=h
     cases he
     exact (Zd3 hp).orR
  ·cases h
 ·cases h
theorem aBuildSlice_gk {P:Program} {st st':St} {t:TypeId} {len:Nat} {ps:List (Nat × AV)} {y:AV} {lg:Log} (h:Zdr P st t len ps=some (y,st',lg)):Gk st st' lg:=by
 unfold Zdr at h
 split at h
 ·simp only [Option.bind_eq_some_iff] at h
  obtain ⟨i,hi,h⟩:=h
  split at h
  ·simp only [cond_eq_ite] at h
   split at h
   ·simp only [Option.bind_eq_some_iff,Option.map_eq_some_iff] at h
    obtain ⟨cells,hf,⟨s1,l1⟩,hal,he⟩:=h
    cases he
    exact Zfs hal
   ·split at h
    ·simp only [Option.map_eq_some_iff] at h
     obtain ⟨⟨s1,l1⟩,hal,he⟩:=h
     cases he
     exact Zfs hal
    ·cases h
  ·cases h
 ·cases h
theorem aMakeSlice_gk {P:Program} {st st':St} {t:TypeId} {l c y:AV} {lg:Log} (h:Zed P st t l c=some (y,st',lg)):Gk st st' lg:=by
 unfold Zed at h
 split at h
 ·simp only [Option.bind_eq_some_iff] at h
  obtain ⟨i,hi,h⟩:=h
  split at h
  ·simp only [cond_eq_ite] at h
   split at h
   ·simp only [Option.map_eq_some_iff] at h
    obtain ⟨⟨s1,l1⟩,hal,he⟩:=h
    cases he
    exact Zfs hal
   ·cases h
  ·cases h
 ·cases h

theorem Zhg {P:Program} {o:Oper} {x:AAct} {st st':St} {n:AN} {lg:Log} (h:aPl P o x st=some (n,st',lg)):Gk st st' lg:=by
 simp only [aPl,Option.map_eq_some_iff] at h
 obtain ⟨r,hr,he⟩:=h
 cases r <;> cases he <;> exact Gk.refl _ _
theorem Zdk {st st':St} {y:AV} {n:AN} {lg:Log} (h:vno st y=(n,st',lg)):Gk st st' lg:=by cases h;exact Gk.refl _ _
theorem aCall_gk {P:Program} {o:Oper} {c:Call} {x:AAct} {st st':St} {n:AN} {lg:Log} (h:aCall P o c x st=some (n,st',lg)):Gk st st' lg:=by
 unfold aCall at h
 split at h
 ·split at h
  ·simp only [Option.bind_eq_some_iff,Option.map_eq_some_iff] at h
   obtain ⟨p,hp,q,hq,⟨z,s1,l1⟩,hap,he⟩:=h
   cases he
   exact aAppend_gk hap
  ·cases h
 ·split at h
  ·simp only [Option.bind_eq_some_iff,Option.map_eq_some_iff] at h
   obtain ⟨p,hp,q,hq,⟨z,s1,l1⟩,hap,he⟩:=h
   cases he
   exact aCopy_gk hap
  ·cases h
 ·split at h
  ·simp only [Option.bind_eq_some_iff] at h
   obtain ⟨p,hp,h⟩:=h
   split at h
   ·exact Zdk (Option.some.inj h)
   ·exact Zhg h
  ·cases h
 ·split at h
  ·simp only [Option.bind_eq_some_iff] at h
   obtain ⟨p,hp,h⟩:=h
   split at h
   ·exact Zdk (Option.some.inj h)
   ·exact Zhg h
  ·cases h
 ·exact Zhg h
 ·cases h
 ·simp only [Option.bind_eq_some_iff] at h
  obtain ⟨fv,hfv,args,hargs,⟨fn,p,q⟩,hfn,h⟩:=h
  dsimp only at h
  split at h
  ·simp only [Option.bind_eq_some_iff] at h
   obtain ⟨d,hd,h⟩:=h
   simp only [cond_eq_ite] at h
   split at h
   ·cases h;exact Gk.refl _ _
   ·exact Zhg h
  ·cases h

theorem Zll {P:Program} {o:Oper} {x:AAct} {st st':St} {n:AN} {lg:Log} (h:aop P o x st=some (n,st',lg)):Gk st st' lg:=by
 unfold aop at h
 split at h
 case h_1=>simp only [Option.map_eq_some_iff] at h;obtain ⟨z,hz,he⟩:=h;exact Zdk he
 case h_2=>simp only [Option.map_eq_some_iff] at h;obtain ⟨z,hz,he⟩:=h;exact Zdk he
 case h_3 =>
  simp only [Option.bind_eq_some_iff] at h
  obtain ⟨cv,hcv,h⟩:=h
  split at h
  ·simp only [Option.map_eq_some_iff] at h;obtain ⟨z,hz,he⟩:=h;exact Zdk he
  ·simp only [Option.map_eq_some_iff] at h;obtain ⟨z,hz,he⟩:=h;exact Zdk he
  ·cases h
 case h_4 =>
  simp only [Option.bind_eq_some_iff,Option.map_eq_some_iff] at h
  obtain ⟨i,hi,z,hz,⟨y,s1,l1⟩,hnew,he⟩:=h
  cases he;exact aNew_gk hnew
 case h_5 =>
  simp only [Option.bind_eq_some_iff,Option.map_eq_some_iff] at h
  obtain ⟨q,hq,⟨y,s1,l1⟩,hnew,he⟩:=h
  cases he;exact aNew_gk hnew
 case h_6 =>
  simp only [Option.bind_eq_some_iff,Option.map_eq_some_iff] at h
  obtain ⟨qs,hqs,y,hy,he⟩:=h;exact Zdk he
 case h_7 =>
  simp only [Option.bind_eq_some_iff,Option.map_eq_some_iff] at h
  obtain ⟨qs,hqs,⟨y,s1,l1⟩,hy,he⟩:=h
  cases he;exact aBuildSlice_gk hy
 case h_8 =>
  simp only [Option.bind_eq_some_iff,Option.map_eq_some_iff] at h
  obtain ⟨q,hq,⟨z,l1⟩,hl,he⟩:=h
  cases he;exact Gk.refl _ _
 case h_9 =>
  simp only [Option.bind_eq_some_iff,Option.map_eq_some_iff] at h
  obtain ⟨p,hp,q,hq,⟨s1,l1⟩,hs,he⟩:=h
  cases he;exact aStore_gk hs
 case h_10=>simp only [Option.bind_eq_some_iff,Option.map_eq_some_iff] at h;obtain ⟨q,hq,z,hz,he⟩:=h;exact Zdk he
 case h_11=>simp only [Option.bind_eq_some_iff,Option.map_eq_some_iff] at h;obtain ⟨q,hq,z,hz,he⟩:=h;exact Zdk he
 case h_12 =>
  simp only [Option.bind_eq_some_iff] at h
  obtain ⟨q,hq,j,hj,h⟩:=h
  split at h
  ·exact Zdk (Option.some.inj h)
  ·simp only [cond_eq_ite] at h
   split at h
   ·simp only [Option.some.injEq,Prod.mk.injEq] at h
    obtain ⟨rfl,rfl,rfl⟩:=h
    exact Gk.refl _ _
   ·exact Zhg h
 case h_13=>simp only [Option.bind_eq_some_iff,Option.map_eq_some_iff] at h;obtain ⟨q,hq,z,hz,he⟩:=h;exact Zdk he
 case h_14 =>
  simp only [Option.bind_eq_some_iff] at h
  obtain ⟨q,hq,l,hl,hh,hhh,k,hk,h⟩:=h
  split at h
  ·cases h;exact Gk.refl _ _
  ·exact Zhg h
 case h_15=>simp only [Option.bind_eq_some_iff,Option.map_eq_some_iff] at h;obtain ⟨p,hp,q,hq,he⟩:=h;exact Zdk he
 case h_16 =>
  simp only [Option.bind_eq_some_iff,cond_eq_ite] at h
  obtain ⟨p,hp,q,hq,h⟩:=h
  split at h
  ·simp only [Option.some.injEq,Prod.mk.injEq] at h
   obtain ⟨rfl,rfl,rfl⟩:=h
   exact Gk.refl _ _
  ·simp only [Option.map_eq_some_iff] at h
   obtain ⟨⟨y,s1,l1⟩,hy,he⟩:=h
   cases he;exact aMakeSlice_gk hy
 case h_17 =>
  simp only [Option.bind_eq_some_iff] at h
  obtain ⟨q,hq,h⟩:=h
  simp only [cond_eq_ite] at h
  split at h
  ·cases h
  ·exact Zdk (Option.some.inj h)
 case h_18 =>
  simp only [Option.bind_eq_some_iff] at h
  obtain ⟨q,hq,h⟩:=h
  split at h
  ·cases h;exact Gk.refl _ _
  ·split at h
   ·rename_i z s1 lg' hz
    cases h
    exact aToBytes_gk hz
   ·exact Zhg h
 case h_19 =>
  simp only [Option.bind_eq_some_iff] at h
  obtain ⟨q,hq,h⟩:=h
  split at h
  ·exact Zdk (Option.some.inj h)
  ·exact Zdk (Option.some.inj h)
  ·exact Zhg h
 case h_20=>exact aCall_gk h
 case h_21 =>
  split at h
  ·simp only [Option.bind_eq_some_iff,Option.map_eq_some_iff] at h
   obtain ⟨fv,hfv,args,hargs,⟨fn,p,q⟩,hfn,he⟩:=h
   cases he;exact Gk.refl _ _
  ·cases h
 case h_22=>exact Zhg h

def Zlp (C:Code->AAct->St->CR):Prop:=∀ c x st e x' st' lg,C c x st=some (e,x',st',lg)->Gk st st' lg
theorem Znh {st:St} {es:List (SX × Bool)} {lg:Log} (hlt:st.next+es.length < 16777215) (h:∀ r,bit (Za0 st.next es.length) r->bit lg.T r):Gk st (st.dats es) lg:=by
 intro q hq
 show (Zbg es st.next st.heap).get q=_
 rw [Zbp _ _ _ _ hlt,if_neg]
 intro hq2
 exact hq (h q ((Za9 _ _ _).2 hq2))
theorem Zhs {P:Program} {o:Oper} {x:AAct} {st st':St} {n:AN} {lg:Log} (h:aopS P o x st=some (n,st',lg)):Gk st st' lg:=by
 unfold aopS at h
 split at h
 ·rename_i r hr
  cases h
  unfold aLenD at hr
  split at hr
  ·split at hr
   ·simp only [Option.bind_eq_some_iff] at hr
    obtain ⟨q,hq,hr⟩:=hr
    split at hr
    ·simp only [Option.map_eq_some_iff] at hr
     obtain ⟨e,he,hr⟩:=hr
     cases hr
     exact Gk.refl _ _
    ·cases hr
   ·cases hr
  ·cases hr
 ·split at h
  ·unfold aIdxD at h
   split at h
   ·simp only [Option.bind_eq_some_iff] at h
    obtain ⟨qv,hq,jv,hj,h⟩:=h
    split at h
    ·split at h
     ·simp only [Option.bind_eq_some_iff] at h
      obtain ⟨sz,hs,ie,hie,h⟩:=h
      simp only [cond_eq_ite] at h
      split at h
      ·simp only [Option.map_eq_some_iff] at h
       obtain ⟨e,he,h⟩:=h
       cases h
       exact Gk.refl _ _
      ·cases h
     ·cases h
    ·split at h
     ·split at h
      ·simp only [Option.map_eq_some_iff] at h
       obtain ⟨y,hy,h⟩:=h
       cases h
       exact fun _ _=>rfl
      ·cases h
     ·cases h
   ·cases h
  ·simp only [Option.bind_eq_some_iff,Option.map_eq_some_iff] at h
   obtain ⟨q,hq,⟨y,s1,l1⟩,hl,he⟩:=h
   cases he
   obtain ⟨es,h1,h2,h3⟩:=aLoadD_shape hl
   rw [h1]
   exact Znh h2 (fun r hr=>by rw [h3];exact hr)
  ·simp only [aSym,Option.map_eq_some_iff] at h
   obtain ⟨e,he,h⟩:=h
   cases h
   exact Gk.refl _ _
theorem Zjz {st st':St} {e:SX} {elem:TypeId} {esz:Nat} {y:AV} {lg:Log} (h:st.allocS e elem esz=some (y,st',lg)):Gk st st' lg:=by
 simp only [St.allocS,Option.map_eq_some_iff] at h
 obtain ⟨s1,hp,he⟩:=h
 cases he
 intro r hr
 have:=Zgc hp r hr
 exact this
theorem aAppendS_gk {P:Program} {st st':St} {t tx:TypeId} {s x y:AV} {lg:Log} (hap:Zft P st t tx s x=some (y,st',lg)):Gk st st' lg:=by
 unfold Zft at hap
 split at hap
 ·simp only [Option.bind_eq_some_iff] at hap
  obtain ⟨i,hi,⟨eo,el,esz⟩,hl,hap⟩:=hap
  simp only [cond_eq_ite] at hap
  split at hap
  ·simp only [Option.bind_eq_some_iff,Option.map_eq_some_iff] at hap
   obtain ⟨⟨en,l1⟩,hsr,s1,hp,he⟩:=hap
   cases he
   exact ((Zgc hp).orL).orR
  ·cases hap
 ·cases hap
theorem Zig {st st':St} {x y:AV} {lg:Log} (h:symOf st x=some (y,st',lg)):Gk st st' lg:=by
 unfold symOf at h
 split at h
 ·rename_i r v lo sz len cap opn
  simp only [Option.bind_eq_some_iff] at h
  obtain ⟨o,ho,h⟩:=h
  split at h
  ·rename_i v' n rest hvers
   simp only [Option.bind_eq_some_iff] at h
   obtain ⟨es,hes,h⟩:=h
   have key:∀ bb:Bool,cond bb ((st.put r (Zai (.lit len es) o.elem sz (v+1))).map fun st'=>(AV.sliceS r (v+1) c0 (.len (.lit len es)) sz,st',Log.turns r)) none=some (y,st',lg)->Gk st st' lg:=by
    intro bb hb
    cases bb with
    | false=>cases hb
    | true =>
     simp only [cond_true,Option.map_eq_some_iff] at hb
     obtain ⟨s1,hp,he⟩:=hb
     cases he
     exact Zgc hp
   exact key _ h
  ·cases h
 ·cases h
theorem aAppendN_gk {P:Program} {st st':St} {t tx:TypeId} {x y:AV} {lg:Log} (h:Zhi P st t tx x=some (y,st',lg)):Gk st st' lg:=by
 unfold Zhi at h
 split at h
 ·simp only [Option.bind_eq_some_iff] at h
  obtain ⟨i,hi,h⟩:=h
  cases hc:(Zck i && Nat.blt 0 i.size && Nat.ble i.bytes 16384) with
  | false=>simp [hc] at h
  | true =>
   simp only [hc,cond_true,Option.bind_eq_some_iff] at h
   obtain ⟨⟨en,l1⟩,hsr,⟨b,st1,l2⟩,hnw,h⟩:=h
   obtain ⟨e1,e2,e3⟩:=isNew_ok hnw
   cases b with
   | true =>
    simp only [cond_true,Option.map_eq_some_iff] at h
    obtain ⟨⟨y1,s1,l3⟩,hal,he⟩:=h
    cases he
    have:=((Zjz hal).orL (l2:=Log.says (.upto (.len en) 4294967296))).orR (l1:=l1.or l2)
    intro r hr
    rw [this r hr,e1]
   | false =>
    simp only [cond_false,Option.some.injEq,Prod.mk.injEq] at h
    obtain ⟨rfl,rfl,rfl⟩:=h
    intro r hr
    rw [e1]
 ·cases h
theorem aAppendO_gk {P:Program} {st st':St} {t tx:TypeId} {s x y:AV} {lg:Log} (h:Zhh P st t tx s x=some (y,st',lg)):Gk st st' lg:=by
 unfold Zhh at h
 split at h
 ·exact aAppendN_gk h
 ·simp only [Option.bind_eq_some_iff,Option.map_eq_some_iff] at h
  obtain ⟨⟨y1,st1,l1⟩,h1,⟨z,st2,l2⟩,h2,he⟩:=h
  cases he
  exact (Zig h1).trans (aAppendS_gk h2)
 ·exact aAppendS_gk h
theorem aStrO_gk {P:Program} {s d:TypeId} {x:AV} {st st':St} {z:AV} {lg:Log} (hz:aStrO P st s d x=some (z,st',lg)):Gk st st' lg:=by
 unfold aStrO at hz
 split at hz
 ·simp only [Option.some.injEq,Prod.mk.injEq] at hz
  obtain ⟨rfl,rfl,rfl⟩:=hz
  exact Gk.refl _ _
 ·simp only [Option.bind_eq_some_iff,Option.map_eq_some_iff] at hz
  obtain ⟨⟨x',s1',l1⟩,hsy,⟨y',l2⟩,hs,he⟩:=hz
  cases he
  exact (Zig hsy).orL
theorem aBytesS_gk {P:Program} {s d:TypeId} {x:AV} {st st':St} {z:AV} {lg:Log} (hz:Zj3 P st s d x=some (z,st',lg)):Gk st st' lg:=by
 unfold Zj3 at hz
 split at hz
 ·split at hz
  ·simp only [Option.map_eq_some_iff] at hz
   obtain ⟨⟨y2,s2,l2⟩,hal,he⟩:=hz
   cases he
   exact (Zjz hal).orL
  ·cases hz
 ·cases hz
theorem aCutS_gk {P:Program} {t:TypeId} {x:AV} {lo hi mx:Option AV} {st st':St} {z:AV} {lg:Log} (hz:aCutS P st t x lo hi mx=some (z,st',lg)):Gk st st' lg:=by
 unfold aCutS at hz
 split at hz
 ·simp only [Option.bind_eq_some_iff] at hz
  obtain ⟨⟨eo,el,esz⟩,hl,hz⟩:=hz
  simp only [cond_eq_ite] at hz
  split at hz
  ·simp only [Option.map_eq_some_iff] at hz
   obtain ⟨s2,hp,he⟩:=hz
   cases he
   exact Zgc hp
  ·cases hz
 ·cases hz
theorem aPartD_gk {P:Program} {t:TypeId} {x:AV} {lo hi mx:Option AV} {st st':St} {z:AV} {lg:Log} (hz:Zm0 P st t x lo hi mx=some (z,st',lg)):Gk st st' lg:=by
 unfold Zm0 at hz
 split at hz
 ·simp only [Option.bind_eq_some_iff] at hz
  obtain ⟨sz,hs,oo,hoo,e,hr,le,hle,he,hhe,hz⟩:=hz
  simp only [cond_eq_ite,Bool.and_eq_true,Nat.blt_eq] at hz
  split at hz
  ·rename_i hc
   cases hz
   exact Znh (by simp;omega) (fun r hr=>hr)
  ·cases hz
 ·cases hz
theorem aCopyS_gk {P:Program} {t tx:TypeId} {d x:AV} {st st':St} {z:AV} {lg:Log} (hap:Zm2 P st t tx d x=some (z,st',lg)):Gk st st' lg:=by
 unfold Zm2 at hap
 split at hap
 ·simp only [Option.bind_eq_some_iff] at hap
  obtain ⟨i,hi,⟨eo,el,esz⟩,hl,s,hsx,hap⟩:=hap
  simp only [cond_eq_ite] at hap
  split at hap
  ·simp only [Option.map_eq_some_iff] at hap
   obtain ⟨s1,hp,he⟩:=hap
   cases he
   exact (Zgc hp).orL
  ·cases hap
 ·cases hap
theorem aBytesD_gk {P:Program} {s d:TypeId} {x:AV} {st st':St} {z:AV} {lg:Log} (hb:Zj4 P st s d x=some (z,st',lg)):Gk st st' lg:=by
 unfold Zj4 at hb
 split at hb
 ·split at hb
  ·simp only [cond_eq_ite,Nat.blt_eq] at hb
   split at hb
   ·rename_i hlt
    simp only [Option.some.injEq,Prod.mk.injEq] at hb
    obtain ⟨rfl,rfl,rfl⟩:=hb
    exact Znh (by simpa using hlt) (fun r hr=>hr)
   ·cases hb
  ·cases hb
 ·cases hb
theorem Zhu {P:Program} {o:Oper} {x:AAct} {st st':St} {n:AN} {lg:Log} (h:aopO P o x st=some (n,st',lg)):Gk st st' lg:=by
 unfold aopO at h
 split at h
 ·simp only [Option.bind_eq_some_iff,Option.map_eq_some_iff] at h
  obtain ⟨q,hq,⟨z,l1⟩,hl,he⟩:=h
  cases he
  exact Gk.refl _ _
 ·simp only [Option.bind_eq_some_iff,Option.map_eq_some_iff] at h
  obtain ⟨p,hp,q,hq,⟨s1,l1⟩,hs,he⟩:=h
  cases he
  unfold Zl5 at hs
  split at hs
  ·simp only [Option.bind_eq_some_iff] at hs
   obtain ⟨⟨e,el,esz⟩,hl,es,hes,hs⟩:=hs
   simp only [cond_eq_ite] at hs
   split at hs
   ·simp only [Option.map_eq_some_iff] at hs
    obtain ⟨s1,hp,he⟩:=hs
    cases he
    exact (Zgc hp).orL
   ·cases hs
  ·cases hs
 ·simp only [Option.bind_eq_some_iff,Option.map_eq_some_iff] at h
  obtain ⟨q,hq,j,hj,⟨z,l1⟩,hs,he⟩:=h
  cases he
  exact Gk.refl _ _
 ·simp only [Option.bind_eq_some_iff,Option.map_eq_some_iff] at h
  obtain ⟨p,hp,q,hq,⟨y,s1,l1⟩,hy,he⟩:=h
  cases he
  unfold Zoq at hy
  split at hy
  ·simp only [Option.bind_eq_some_iff] at hy
   obtain ⟨i,hi,z,hz,hy⟩:=hy
   simp only [cond_eq_ite] at hy
   split at hy
   ·simp only [Option.map_eq_some_iff] at hy
    obtain ⟨⟨y2,s2,l2⟩,hal,he⟩:=hy
    cases he
    exact (Zjz hal).orL
   ·cases hy
  ·cases hy
 ·simp only [Option.bind_eq_some_iff] at h
  obtain ⟨q,hq,h⟩:=h
  split at h
  ·rename_i z s1 lg' hz
   simp only [Option.some.injEq,Prod.mk.injEq] at h
   obtain ⟨rfl,rfl,rfl⟩:=h
   exact aStrO_gk hz
  ·simp only [Option.map_eq_some_iff] at h
   obtain ⟨⟨z,s1,l1⟩,hz,he⟩:=h
   cases he
   exact aBytesS_gk hz
 ·simp only [Option.bind_eq_some_iff] at h
  obtain ⟨q,hq,l,hl,hh,hhh,k,hk,h⟩:=h
  split at h
  ·rename_i z s1 lg' hz
   simp only [Option.some.injEq,Prod.mk.injEq] at h
   obtain ⟨rfl,rfl,rfl⟩:=h
   exact aCutS_gk hz
  split at h
  ·simp only [Option.some.injEq,Prod.mk.injEq] at h
   obtain ⟨rfl,rfl,rfl⟩:=h
   exact Gk.refl _ _
  ·simp only [Option.map_eq_some_iff] at h
   obtain ⟨⟨z,s1,l1⟩,hz,he⟩:=h
   cases he
   exact aPartD_gk hz
 ·unfold aopC at h
  split at h
  ·split at h
   ·simp only [Option.bind_eq_some_iff,Option.map_eq_some_iff] at h
    obtain ⟨p,hp,q,hq,⟨z,s1,l1⟩,hap,he⟩:=h
    cases he
    exact aAppendO_gk hap
   ·cases h
  ·split at h
   ·simp only [Option.bind_eq_some_iff,Option.map_eq_some_iff] at h
    obtain ⟨p,hp,q,hq,⟨z,s1,l1⟩,hap,he⟩:=h
    cases he
    exact aCopyS_gk hap
   ·cases h
  ·split at h
   ·simp only [Option.bind_eq_some_iff] at h
    obtain ⟨p,hp,h⟩:=h
    split at h
    ·simp only [Option.some.injEq,Prod.mk.injEq] at h
     obtain ⟨rfl,rfl,rfl⟩:=h
     exact Gk.refl _ _
    ·cases h
   ·cases h
  ·split at h
   ·simp only [Option.bind_eq_some_iff,Option.map_eq_some_iff] at h
    obtain ⟨p,hp,q,hq,ea,hea,eb,heb,he⟩:=h
    cases he
    exact Gk.refl _ _
   ·cases h
  ·split at h
   ·simp only [Option.bind_eq_some_iff,Option.map_eq_some_iff] at h
    obtain ⟨p,hp,q,hq,ea,hea,eb,heb,he⟩:=h
    cases he
    exact Gk.refl _ _
   ·cases h
  ·cases h
 ·simp only [Option.bind_eq_some_iff] at h
  obtain ⟨q,hq,h⟩:=h
  split at h
  ·simp only [Option.some.injEq,Prod.mk.injEq] at h
   obtain ⟨rfl,rfl,rfl⟩:=h
   exact Gk.refl _ _
  ·cases h
 ·cases h
theorem Zbs {P:Program} {o:Oper} {st st1 st':St} {n n1:AN} {lg l1:Log} (h:decB P o (n1,st1,l1)=some (n,st',lg)) (hg:Gk st st1 l1):Gk st st' lg:=by
 unfold decB at h
 split at h
 ·rename_i e s2 l2 he
  cases he
  simp only [cond_eq_ite] at h
  split at h
  ·split at h
   ·simp only [Option.some.injEq,Prod.mk.injEq] at h
    obtain ⟨rfl,rfl,rfl⟩:=h
    exact hg.orL
   ·cases h
  ·simp only [Option.some.injEq,Prod.mk.injEq] at h
   obtain ⟨rfl,rfl,rfl⟩:=h
   exact hg
 ·simp only [Option.some.injEq] at h
  cases h
  exact hg
theorem aopI_gk {P:Program} {o:Oper} {x:AAct} {st st':St} {n:AN} {lg:Log} (h:aopI P o x st=some (n,st',lg)):Gk st st' lg:=by
 unfold aopI at h
 split at h
 ·simp only [Option.bind_eq_some_iff,Option.map_eq_some_iff] at h
  obtain ⟨q,hq,j,hj,⟨q',s1,l1⟩,hsy,⟨z,l2⟩,hs,he⟩:=h
  cases he
  exact (Zig hsy).orL
 ·simp only [Option.bind_eq_some_iff,Option.map_eq_some_iff] at h
  obtain ⟨q,hq,⟨q',s1,l1⟩,hsy,he⟩:=h
  cases he
  exact Zig hsy
 ·cases h
theorem aopOut_gk {P:Program} {o:Oper} {x:AAct} {st st':St} {n:AN} {lg:Log} (h:Zlm P o x st=some (n,st',lg)):Gk st st' lg:=by
 obtain ⟨rest,rfl⟩:=aopOut_st h
 exact fun r _=>rfl
theorem aopM_gk {P:Program} {o:Oper} {x:AAct} {st st':St} {n:AN} {lg:Log} (h:aopM P o x st=some (n,st',lg)):Gk st st' lg:=by simp [aopM] at h
theorem aopMI_gk {P:Program} {o:Oper} {x:AAct} {st st':St} {n:AN} {lg:Log} (h:aopMI P o x st=some (n,st',lg)):Gk st st' lg:=by simp [aopMI] at h
theorem aLz_gk {P:Program} {o:Oper} {x:AAct} {st st':St} {n:AN} {lg:Log} (h:aLz P o x st=some (n,st',lg)):Gk st st' lg:=by
 simp only [aLz,Option.map_eq_some_iff] at h
 obtain ⟨e,he,h⟩:=h
 cases h
 exact Gk.refl _ _
theorem aAppT_gk {P:Program} {o:Oper} {x:AAct} {st st':St} {n:AN} {lg:Log} (h:aAppT P o x st=some (n,st',lg)):Gk st st' lg:=by
 unfold aAppT at h
 split at h
 ·split at h
  ·split at h
   ·simp only [Option.bind_eq_some_iff] at h
    obtain ⟨p,hp,q,hq,h⟩:=h
    split at h
    ·simp only [Option.bind_eq_some_iff,Option.map_eq_some_iff] at h
     obtain ⟨i,hi,⟨k,ys,l1⟩,hs,⟨z,s1,l2⟩,hon,he⟩:=h
     cases he
     exact (Zl7 hon).orR
    ·cases h
   ·cases h
  ·cases h
 ·cases h
theorem aopT_gk {P:Program} {o:Oper} {x:AAct} {st st':St} {n:AN} {lg:Log} (hr:aopT P o x st=some (n,st',lg)):Gk st st' lg:=by
 unfold aopT at hr
 simp only [Option.map_eq_some_iff] at hr
 obtain ⟨⟨n2,s2,l2⟩,hr,he⟩:=hr
 cases he
 split at hr
 ·rename_i r hr1
  cases hr
  exact Zll hr1
 ·exact Zhs hr
theorem Zjx {P:Program} {H:Option Hint} {o:Oper} {x:AAct} {st st':St} {n:AN} {lg:Log} (h:aopH P H o x st=some (n,st',lg)):Gk st st' lg:=by
 unfold aopH at h
 split at h
 ·split at h
  ·rename_i r hr
   obtain ⟨n1,s1,l1⟩:=r
   exact Zbs h (aopT_gk hr)
  ·split at h
   ·rename_i r hr
    obtain ⟨n1,s1,l1⟩:=r
    exact Zbs h (aAppT_gk hr)
   ·simp only [Option.bind_eq_some_iff] at h
    obtain ⟨⟨n1,s1,l1⟩,hr,h⟩:=h
    exact Zbs h (Zhu hr)
 ·exact aopOut_gk h
 ·split at h
  ·simp only [Option.bind_eq_some_iff] at h
   obtain ⟨⟨n1,s1,l1⟩,hr,h⟩:=h
   have h0:=Zhu hr
   exact Zbs h (fun r hr=>h0 r hr)
  ·cases aopPast_st h
   exact fun r _=>rfl
  ·cases h
 ·split at h
  ·simp only [Option.bind_eq_some_iff,Option.map_eq_some_iff] at h
   obtain ⟨q,hq,⟨y,s1,l1⟩,hb,he⟩:=h
   cases he
   exact aBytesD_gk hb
  ·cases h
 ·split at h
  ·rename_i r hr
   obtain ⟨n1,s1,l1⟩:=r
   exact Zbs h (aopMI_gk hr)
  ·split at h
   ·rename_i r hr
    obtain ⟨n1,s1,l1⟩:=r
    exact Zbs h (aopM_gk hr)
   ·split at h
    ·rename_i r hr
     obtain ⟨n1,s1,l1⟩:=r
     exact Zbs h (Zll hr)
    ·simp only [Option.bind_eq_some_iff] at h
     obtain ⟨⟨n1,s1,l1⟩,hr,h⟩:=h
     exact Zbs h (Zhs hr)
 ·split at h
  ·rename_i r hr
   cases h
   exact Zll hr
  ·split at h
   ·rename_i r hr
    cases h
    exact Zhu hr
   ·split at h
    ·rename_i r hr
     cases h
     exact aLz_gk hr
    ·exact Zhs h
 ·split at h
  ·rename_i r hr
   obtain ⟨n1,s1,l1⟩:=r
   exact Zbs h (Zll hr)
  ·split at h
   ·rename_i r hr
    obtain ⟨n1,s1,l1⟩:=r
    exact Zbs h (Zhu hr)
   ·split at h
    ·rename_i r hr
     obtain ⟨n1,s1,l1⟩:=r
     exact Zbs h (aLz_gk hr)
    ·simp only [Option.bind_eq_some_iff] at h
     obtain ⟨⟨n1,s1,l1⟩,hr,h⟩:=h
     exact Zbs h (Zhs hr)
 ·split at h
  ·rename_i r hr
   obtain ⟨n1,s1,l1⟩:=r
   exact Zbs h (Zhu hr)
  ·split at h
   ·rename_i r hr
    obtain ⟨n1,s1,l1⟩:=r
    exact Zbs h (aopI_gk hr)
   ·split at h
    ·rename_i r hr
     obtain ⟨n1,s1,l1⟩:=r
     exact Zbs h (Zll hr)
    ·simp only [Option.bind_eq_some_iff] at h
     obtain ⟨⟨n1,s1,l1⟩,hr,h⟩:=h
     exact Zbs h (Zhs hr)
 ·split at h
  ·rename_i r hr
   obtain ⟨n1,s1,l1⟩:=r
   exact Zbs h (Zll hr)
  ·split at h
   ·rename_i r hr
    obtain ⟨n1,s1,l1⟩:=r
    exact Zbs h (Zhu hr)
   ·simp only [Option.bind_eq_some_iff] at h
    obtain ⟨⟨n1,s1,l1⟩,hr,h⟩:=h
    exact Zbs h (Zhs hr)
theorem Zmq {P:Program} {E:Eng} (hE:Zbo E.call) {ops:Array Oper} {o:Oper} {x x':AAct} {st st':St} {pv:Option Value} {lg:Log} (h:opA P E ops o x st=some (pv,x',st',lg)):Gk st st' lg:=by
 unfold opA at h
 simp only [Option.bind_eq_some_iff] at h
 obtain ⟨b,hb,h⟩:=h
 cases b with
 | false =>
  simp only [cond_false,Option.map_eq_some_iff,Prod.mk.injEq] at h
  obtain ⟨x1,hx1,rfl,rfl,rfl,rfl⟩:=h
  exact Gk.refl _ _
 | true =>
  simp only [cond_true,Option.bind_eq_some_iff] at h
  obtain ⟨⟨n,st1,l1⟩,hop,h⟩:=h
  cases n with
  | value y =>
   simp only [Option.map_eq_some_iff,Prod.mk.injEq] at h
   obtain ⟨x1,hx1,rfl,rfl,rfl,rfl⟩:=h
   exact Zjx hop
  | panic v =>
   simp only [Option.some.injEq,Prod.mk.injEq] at h
   obtain ⟨rfl,rfl,rfl,rfl⟩:=h
   exact Zjx hop
  | enter f args =>
   simp only [Option.bind_eq_some_iff] at h
   obtain ⟨⟨r,st2,l2⟩,hcall,h⟩:=h
   cases r with
   | ret y =>
    simp only [Option.map_eq_some_iff,Prod.mk.injEq] at h
    obtain ⟨x1,hx1,rfl,rfl,rfl,rfl⟩:=h
    exact (Zjx hop).trans (hE _ _ _ _ _ _ hcall)
   | pan v =>
    simp only [Option.some.injEq,Prod.mk.injEq] at h
    obtain ⟨rfl,rfl,rfl,rfl⟩:=h
    exact (Zjx hop).trans (hE _ _ _ _ _ _ hcall)
  | defer d =>
   simp only [Option.map_eq_some_iff,Prod.mk.injEq] at h
   obtain ⟨x1,hx1,rfl,rfl,rfl,rfl⟩:=h
   exact Zjx hop
theorem opsA_gk {P:Program} {E:Eng} (hE:Zbo E.call) {ops:Array Oper}:∀ (l:List Oper) (x:AAct) (st:St) (e:AX) (x':AAct) (st':St) (lg:Log),opsA P E ops l x st=some (e,x',st',lg)->Gk st st' lg:=by
 intro l
 induction l with
 | nil =>
  intro x st e x' st' lg h
  simp only [opsA,Option.some.injEq,Prod.mk.injEq] at h
  obtain ⟨rfl,rfl,rfl,rfl⟩:=h
  exact Gk.refl _ _
 | cons o rest ih =>
  intro x st e x' st' lg h
  simp only [opsA,Option.bind_eq_some_iff] at h
  obtain ⟨⟨pv,x1,st1,l1⟩,hop,h⟩:=h
  cases pv with
  | some v =>
   simp only [Option.some.injEq,Prod.mk.injEq] at h
   obtain ⟨rfl,rfl,rfl,rfl⟩:=h
   exact Zmq hE hop
  | none =>
   simp only [Option.map_eq_some_iff] at h
   obtain ⟨⟨e2,x2,st2,l2⟩,hr,he⟩:=h
   cases he
   exact (Zmq hE hop).trans (ih x1 st1 _ _ _ _ hr)
theorem opsS_gk {P:Program} {E:Eng} (hE:Zbo E.call) {ops:Array Oper}:∀ (l:List Oper) (x:AAct) (s:SMode) (st:St) (e:AX) (x':AAct) (s':SMode) (st':St) (lg:Log),opsS P E ops l x s st=some (e,x',s',st',lg)->Gk st st' lg:=by
 intro l
 induction l with
 | nil =>
  intro x s st e x' s' st' lg h
  simp only [opsS,Option.some.injEq,Prod.mk.injEq] at h
  obtain ⟨rfl,rfl,rfl,rfl,rfl⟩:=h
  exact Gk.refl _ _
 | cons o rest ih =>
  intro x s st e x' s' st' lg h
  simp only [opsS] at h
  cases hrec:Zfb o with
  | true =>
   simp only [hrec,cond_true] at h
   split at h
   ·rename_i v _
    cases hany:isAny v with
    | true =>
     simp only [hany,cond_true] at h
     cases hlk:x.lacks o.dst with
     | false=>simp [hlk] at h
     | true =>
      simp only [hlk,cond_true] at h
      exact ih _ _ _ _ _ _ _ _ h
    | false =>
     simp only [hany,cond_false,Option.bind_eq_some_iff] at h
     obtain ⟨x1,hx1,h⟩:=h
     exact ih _ _ _ _ _ _ _ _ h
   ·simp only [Option.bind_eq_some_iff] at h
    obtain ⟨x1,hx1,h⟩:=h
    exact ih _ _ _ _ _ _ _ _ h
   ·cases h
  | false =>
   simp only [hrec,cond_false,Option.bind_eq_some_iff] at h
   obtain ⟨⟨pv,x1,st1,l1⟩,hop,h⟩:=h
   cases pv with
   | some v =>
    simp only [Option.some.injEq,Prod.mk.injEq] at h
    obtain ⟨rfl,rfl,rfl,rfl,rfl⟩:=h
    exact Zmq hE hop
   | none =>
    simp only [Option.map_eq_some_iff] at h
    obtain ⟨⟨e2,x2,s2,st2,l2⟩,hr,he⟩:=h
    cases he
    exact (Zmq hE hop).trans (ih _ _ _ _ _ _ _ _ hr)
theorem codeS_gk {P:Program} {E:Eng} (hE:Zbo E.call) (hC:Zlp E.code):∀ (c:Code) (x:AAct) (s:SMode) (st:St) (e:AX) (x':AAct) (s':SMode) (st':St) (lg:Log),codeS P E c x s st=some (e,x',s',st',lg)->Gk st st' lg:=by
 have leaf:∀ (c:Code) (x:AAct) (s:SMode) (st:St) (e:AX) (x':AAct) (s':SMode) (st':St) (lg:Log),((E.code c x st).map fun (p:AX × AAct × St × Log)=>(p.1,p.2.1,s,p.2.2.1,p.2.2.2))=some (e,x',s',st',lg)->Gk st st' lg:=by
  intro c x s st e x' s' st' lg h
  simp only [Option.map_eq_some_iff] at h
  obtain ⟨⟨e1,x1,st1,l1⟩,hc,he⟩:=h
  cases he
  exact hC _ _ _ _ _ _ _ hc
 intro c
 induction c with
 | seq p q ihp ihq =>
  intro x s st e x' s' st' lg h
  simp only [codeS,Option.bind_eq_some_iff] at h
  obtain ⟨⟨e1,x1,s1,st1,l1⟩,hp,h⟩:=h
  cases e1 with
  | normal =>
   simp only [Option.map_eq_some_iff] at h
   obtain ⟨⟨e2,x2,s2,st2,l2⟩,hq,he⟩:=h
   cases he
   exact (ihp _ _ _ _ _ _ _ _ hp).trans (ihq _ _ _ _ _ _ _ _ hq)
  | _ =>
   simp only [Option.some.injEq,Prod.mk.injEq] at h
   obtain ⟨rfl,rfl,rfl,rfl,rfl⟩:=h
   exact ihp _ _ _ _ _ _ _ _ hp
 | cond cc p q ihp ihq =>
  intro x s st e x' s' st' lg h
  simp only [codeS,Option.bind_eq_some_iff] at h
  obtain ⟨v,hv,h⟩:=h
  split at h
  ·exact ihp _ _ _ _ _ _ _ _ h
  ·exact ihq _ _ _ _ _ _ _ _ h
  ·cases h
 | region id ops d =>
  intro x s st e x' s' st' lg h
  cases d with
  | false=>exact opsS_gk hE _ _ _ _ _ _ _ _ _ h
  | true=>exact leaf _ x s st e x' s' st' lg h
 | _=>intro x s st e x' s' st' lg h;exact leaf _ x s st e x' s' st' lg h
theorem deferA_gk {P:Program} {E:Eng} (hE:Zbo E.call) (hC:Zlp E.code) {d:ADef} {s s':SMode} {st st':St} {lg:Log} (h:Zmw P E d s st=some (s',st',lg)):Gk st st' lg:=by
 unfold Zmw at h
 split at h
 ·simp only [Option.bind_eq_some_iff] at h
  obtain ⟨fn,hf,c,hc,h⟩:=h
  simp only [cond_eq_ite] at h
  split at h
  ·simp only [Option.bind_eq_some_iff] at h
   obtain ⟨⟨e,x1,s1,st1,l1⟩,hcode,h⟩:=h
   split at h
   ·split at h
    ·simp only [Option.map_eq_some_iff] at h
     obtain ⟨⟨y,l2⟩,hres,heq⟩:=h
     cases heq
     exact (codeS_gk hE hC _ _ _ _ _ _ _ _ _ hcode).orL
    ·cases h
   ·cases h
  ·cases h
 ·cases h
theorem leaveA_gk {P:Program} {E:Eng} (hE:Zbo E.call) (hC:Zlp E.code) {fn:Func} {x:AAct}:∀ (ds:List ADef) (s:SMode) (st:St) (r:ARet) (st':St) (lg:Log),Zdn P E fn x ds s st=some (r,st',lg)->Gk st st' lg:=by
 intro ds
 induction ds with
 | nil =>
  intro s st r st' lg h
  cases s with
  | returning =>
   simp only [Zdn,Option.map_eq_some_iff] at h
   obtain ⟨⟨y,l1⟩,hres,he⟩:=h
   cases he
   exact Gk.refl _ _
  | panicking v =>
   simp only [Zdn,Option.some.injEq,Prod.mk.injEq] at h
   obtain ⟨rfl,rfl,rfl⟩:=h
   exact Gk.refl _ _
  | recovered v=>simp [Zdn] at h
 | cons d ds ih =>
  intro s st r st' lg h
  simp only [Zdn,Option.bind_eq_some_iff,Option.map_eq_some_iff] at h
  obtain ⟨⟨s1,st1,l1⟩,hdef,⟨r2,st2,l2⟩,hlv,he⟩:=h
  cases he
  exact (deferA_gk hE hC hdef).trans (ih _ _ _ _ _ hlv)
theorem callF_gk {P:Program} {E:Eng} (hE:Zbo E.call) (hC:Zlp E.code):Zbo (callF P E):=by
 intro f args st r st' lg h
 simp only [callF,Option.bind_eq_some_iff] at h
 obtain ⟨fn,hf,c,hc,h⟩:=h
 simp only [cond_eq_ite] at h
 split at h
 ·simp only [Option.bind_eq_some_iff] at h
  obtain ⟨⟨e,x1,st1,l1⟩,hcode,h⟩:=h
  cases e with
  | exit id=>cases h
  | goto l=>cases h
  | _ =>
   simp only [Option.map_eq_some_iff] at h
   obtain ⟨⟨r2,st2,l2⟩,hlv,he⟩:=h
   cases he
   exact (hC _ _ _ _ _ _ _ hcode).trans (leaveA_gk hE hC _ _ _ _ _ _ hlv)
 ·cases h
theorem seqA_gk {st:St} {r:CR} {k:AAct->St->CR} (h1:∀ e x' st' lg,r=some (e,x',st',lg)->Gk st st' lg) (h2:∀ x s e x' st' lg,k x s=some (e,x',st',lg)->Gk s st' lg):∀ e x' st' lg,seqA r k=some (e,x',st',lg)->Gk st st' lg:=by
 intro e x' st' lg h
 simp only [seqA,Option.bind_eq_some_iff] at h
 obtain ⟨⟨e1,x1,st1,l1⟩,hr,h⟩:=h
 cases e1 with
 | normal =>
  simp only [Option.map_eq_some_iff] at h
  obtain ⟨⟨e2,x2,st2,l2⟩,hk,he⟩:=h
  cases he
  exact (h1 _ _ _ _ hr).trans (h2 _ _ _ _ _ _ hk)
 | _ =>
  simp only [Option.some.injEq,Prod.mk.injEq] at h
  obtain ⟨rfl,rfl,rfl,rfl⟩:=h
  exact h1 _ _ _ _ hr
def Zp0 (D:Draw):Prop:=∀ E,Zbo E.call->∀ ops x st e x' st' lg,D E ops x st=some (e,x',st',lg)->Gk st st' lg
theorem eng_gk {P:Program} {D:Draw} (hD:Zp0 D) {O:FuncId->List AV->St->Option (ARet × St × Log)} {H:FuncId->Oper->Option Hint} (hO:Zbo O):∀ n,Zlp (eng P D O H n).code/\Zlp (eng P D O H n).loop/\Zbo (eng P D O H n).call:=by
 intro n
 induction n with
 | zero=>exact ⟨fun c x st e x' st' lg h=>by simp [eng] at h,fun c x st e x' st' lg h=>by simp [eng] at h,fun f args st r st' lg h=>by simp [eng] at h⟩
 | succ n ih =>
  refine ⟨?_,?_,?_⟩
  ·intro c x st e x' st' lg h
   simp only [eng] at h
   cases c with
   | region id ops d =>
    cases d with
    | true=>exact hD _ ih.2.2 ops x st _ _ _ _ h
    | false=>exact opsA_gk ih.2.2 _ x st _ _ _ _ h
   | seq p q=>exact seqA_gk (st:=st) (r:=(eng P D O H n).code p x st) (k:=(eng P D O H n).code q) (fun e x' st' lg hr=>ih.1 _ _ _ _ _ _ _ hr) (fun x s e x' st' lg hr=>ih.1 _ _ _ _ _ _ _ hr) _ _ _ _ h
   | cond cc p q =>
    simp only [codeF,Option.bind_eq_some_iff] at h
    obtain ⟨v,hv,h⟩:=h
    split at h
    ·exact ih.1 _ _ _ _ _ _ _ h
    ·exact ih.1 _ _ _ _ _ _ _ h
    ·cases h
   | block id body =>
    simp only [codeF,Option.map_eq_some_iff] at h
    obtain ⟨⟨e1,x1,st1,l1⟩,hb,he⟩:=h
    cases he
    exact ih.1 _ _ _ _ _ _ _ hb
   | loop body=>exact ih.2.1 _ _ _ _ _ _ _ h
   | scope body=>exact ih.1 _ _ _ _ _ _ _ h
   | skip=>simp [codeF] at h;obtain ⟨_,_,rfl,_⟩:=h;exact Gk.refl _ _
   | label k=>simp [codeF] at h;obtain ⟨_,_,rfl,_⟩:=h;exact Gk.refl _ _
   | exit k=>simp [codeF] at h;obtain ⟨_,_,rfl,_⟩:=h;exact Gk.refl _ _
   | ret=>simp [codeF] at h;obtain ⟨_,_,rfl,_⟩:=h;exact Gk.refl _ _
   | _=>simp [codeF] at h
  ·intro c x st e x' st' lg h
   exact seqA_gk (st:=st) (r:=(eng P D O H n).code c x st) (k:=(eng P D O H n).loop c) (fun e x' st' lg hr=>ih.1 _ _ _ _ _ _ _ hr) (fun x s e x' st' lg hr=>ih.2.1 _ _ _ _ _ _ _ hr) _ _ _ _ h
  ·intro f args st r st' lg h
   simp only [eng] at h
   split at h
   ·rename_i r0 hr
    cases h
    exact hO _ _ _ _ _ _ hr
   ·exact callF_gk ih.2.2 ih.1 _ _ _ _ _ _ h

end Go.Proofs.Ytgdegpifjljnoaa.eng
end

section
/- The engine: operations whose order is open. -/
namespace Go.Proofs.Ytgdegpifjljnoaa.eng
open Go
variable {W0 : Base}

def Zhv (o:Oper) (t:T Nat):Nat:=o.after.toList.foldl (fun s e=>cond (Region.binds .any e) (s ||| (1 <<< e.on) ||| ((t.get e.on).getD 0)) s) 0
def Zbh:List Oper->Nat->T Nat->List Nat
 | [],_,_=>[]
 | o :: rest,i,t=>Zhv o t :: Zbh rest (i+1) (T.set 24 t i (some (Zhv o t)))
def Zhc (ops:Array Oper) (o:Oper) (m:Nat):List Oper->Nat->Bool
 | [],_=>true
 | p :: ps,i=>(m.testBit i || (p.apart ops o && o.apart ops p)) && Zhc ops o m ps (i+1)
def Zmm (ops:Array Oper):List Oper->Nat->List Nat->List Oper->Bool
 | o :: rest,i,m :: ms,pre=>o.after.all (fun e=>!Region.binds .any e || Nat.blt e.on i) && (match o.op with | .defer _=>false | .select ..=>false | _=>true) && Zhc ops o m pre 0 && Zmm ops rest (i+1) ms (pre++[o])
 | [],_,_,_=>true
 | _ :: _,_,[],_=>false
def Ze2 (ops:Array Oper):Bool:=Zmm ops ops.toList 0 (Zbh ops.toList 0 .nil) [] && Nat.blt (ops.size+1) 16777216

def Zol (t:T AV):List Tmp->T AV->T AV
 | [],acc=>acc
 | k :: ks,acc=>Zol t ks (cond (Nat.blt (k+1) 16777216) (match t.get k with | some y=>T.set 24 acc k (some y) | none=>acc) acc)
def seen (ops:Array Oper) (o:Oper) (x:AAct):AAct:={ tm:=Zol x.tm (o.looksAt ops) .nil,n:=x.n,defers:=[],f:=x.f }

def Zdm (m:Nat) (l:Log):List (Nat × Log)->Bool
 | []=>true
 | (i,k) :: rest=>(m.testBit i || (Nat.beq (k.T &&& l.A) 0 && Nat.beq (l.T &&& k.A) 0)) && Zdm m l rest
def Zff (i:Nat):List Nat->Bool
 | []=>true
 | m :: ms=>m.testBit i && Zff i ms
def Zhd (m:Nat):List (Nat × Log)->Bool
 | []=>true
 | (i,k) :: rest=>(m.testBit i || Nat.beq k.T 0) && Zhd m rest
def opD (P:Program) (E:Eng) (ops:Array Oper) (o:Oper) (x:AAct) (st:St):Option (Option Value × AAct × St × Log) :=
 (opA P E ops o (seen ops o x) st).bind fun (pv,x1,st1,l1)=>cond (Nat.ble st.next st1.next && Nat.beq (l1.T >>> st1.next) 0 && Nat.beq (l1.T ||| l1.A) l1.A && x1.defers.isEmpty)
  (match pv with
   | some v=>some (some v,x,st1,l1)
   | none=>match o.dst with
    | none=>some (none,x,st1,l1)
    | some d=>(x1.tm.get d).bind fun y=>(x.put (some d) y).map fun x2=>(none,x2,st1,l1)) none
def Zdx (P:Program) (E:Eng) (ops:Array Oper):List Oper->Nat->List Nat->List (Nat × Log)->AAct->St->CR
 | o :: rest,i,m :: ms,acc,x,st=>(opD P E ops o x st).bind fun (pv,x1,st1,l1)=>cond (Zdm m l1 acc)
  (match pv with
   | some v=>cond (Zff i ms) (cond (Nat.beq m ((1 <<< i) - 1)) (some (.panic v,x1,st1,l1)) (cond (Zhd m acc) (some (.panic v,{ x1 with tm:=.nil },st1,l1)) none)) none
   | none=>(Zdx P E ops rest (i+1) ms (cond (Nat.beq (l1.A ||| l1.T) 0) acc ((i,l1) :: acc)) x1 st1).map fun (e,x2,st2,l2)=>(e,x2,st2,l1.or l2)) none
 | [],_,_,_,x,st=>some (.normal,x,st,Log.no)
 | _ :: _,_,[],_,_,_=>none
def drawF (P:Program):Draw:=fun E ops x st=>cond (Ze2 ops) (Zdx P E ops ops.toList 0 (Zbh ops.toList 0 .nil) [] x st) none

end Go.Proofs.Ytgdegpifjljnoaa.eng
end

section
/- The engine: operations whose order is open, held: one. -/
namespace Go.Proofs.Ytgdegpifjljnoaa.eng
open Go
variable {W0 : Base}

theorem Step.merge {A Ai Ti:Nat->Prop} {m m':Map} {g gi gi' g':Heap} {w w':World} (hR:Rel W0 A m g w) (h:Step W0 Ai Ti m gi w m' gi' w') (hAi:∀ r,Ai r->A r) (hTi:∀ r,Ti r->Ai r) (hg:∀ r,Ai r->gi r=g r)
  (h1:∀ r,Ti r->g' r=gi' r) (h2:∀ r,¬ Ti r->g' r=g r):Step W0 A Ti m g w m' g' w':=by
 have hkeep:∀ r o v n b,A r->¬ Ti r->g r=some o->(v,n) ∈ o.vers->m r v=some b->w'.heap[b.1]?=w.heap[b.1]?:=by
  intro r o v n b ha hn ho hv hb
  refine h.keep b.1 (hR.lt ha ho hv hb) ?_
  intro r2 o2 v2 n2 b2 ht2 ho2 hv2 hb2 he
  rw [hg r2 (hTi r2 ht2)] at ho2
  exact hn (hR.inj r2 r o2 o v2 n2 v n b2 b (hAi r2 (hTi r2 ht2)) ha ho2 ho hv2 hv hb2 hb he ▸ ht2)
 have cross:∀ r r' o o' v n v' n' b b',A r->A r'->Ti r->¬ Ti r'->gi' r=some o->g r'=some o'->(v,n) ∈ o.vers->(v',n') ∈ o'.vers->m' r v=some b->m r' v'=some b'->b.1=b'.1->False:=by
  intro r r' o o' v n v' n' b b' ha ha' ht hn' ho ho' hv hv' hb hb' he
  have hlt:=hR.lt ha' ho' hv' hb'
  obtain ⟨o0,v0,n0,b0,ho0,hv0,hb0,he0⟩:=h.own r o v n b ht ho hv hb (he ▸ hlt)
  rw [hg r (hTi r ht)] at ho0
  exact hn' (hR.inj r r' o0 o' v0 n0 v' n' b0 b' ha ha' ho0 ho' hv0 hv' hb0 hb' (he0.trans he) ▸ ht)
 refine ⟨h.ext,⟨?_,?_,?_,h.rel.size0,h.rel.amb,?_,?_,?_,h.rel.sv,h.rel.same,?_,fun r o e v n b ha ho hs hv hb=>?_⟩,h.mkeep,h.dkeep,fun r hr=>h2 r hr,h.os,h.tape,h.output,h.size,?_,?_,?_⟩
 ·intro r o ha ho v n hv
  by_cases ht:Ti r
  ·rw [h1 r ht] at ho
   exact h.rel.blk r o (hTi r ht) ho v n hv
  ·rw [h2 r ht] at ho
   obtain ⟨b,hb,hB⟩:=hR.blk r o ha ho v n hv
   exact ⟨b,h.ext.1 _ _ _ hb,hB.mono h.ext (hkeep r o v n b ha ht ho hv hb)⟩
 ·intro r r' o o' v n v' n' b b' ha ha' ho ho' hv hv' hb hb' he
  by_cases ht:Ti r
  ·by_cases ht':Ti r'
   ·rw [h1 r ht] at ho
    rw [h1 r' ht'] at ho'
    exact h.rel.inj r r' o o' v n v' n' b b' (hTi r ht) (hTi r' ht') ho ho' hv hv' hb hb' he
   ·rw [h1 r ht] at ho
    rw [h2 r' ht'] at ho'
    rw [h.mkeep r' ht'] at hb'
    exact (cross r r' o o' v n v' n' b b' ha ha' ht ht' ho ho' hv hv' hb hb' he).elim
  ·by_cases ht':Ti r'
   ·rw [h2 r ht] at ho
    rw [h1 r' ht'] at ho'
    rw [h.mkeep r ht] at hb
    exact (cross r' r o' o v' n' v n b' b ha' ha ht' ht ho' ho hv' hv hb' hb he.symm).elim
   ·rw [h2 r ht] at ho
    rw [h2 r' ht'] at ho'
    rw [h.mkeep r ht] at hb
    rw [h.mkeep r' ht'] at hb'
    exact hR.inj r r' o o' v n v' n' b b' ha ha' ho ho' hv hv' hb hb' he
 ·intro r o v n rest ha ho hv v' hlt
  by_cases ht:Ti r
  ·rw [h1 r ht] at ho
   exact h.rel.top r o v n rest (hTi r ht) ho hv v' hlt
  ·rw [h2 r ht] at ho
   rw [h.mkeep r ht]
   exact hR.top r o v n rest ha ho hv v' hlt
 ·intro r o v n b ha ho hv hb
  by_cases ht:Ti r
  ·rw [h1 r ht] at ho
   exact h.rel.abv r o v n b (hTi r ht) ho hv hb
  ·rw [h2 r ht] at ho
   rw [h.mkeep r ht] at hb
   exact hR.abv r o v n b ha ho hv hb
 ·intro r o R ha ho hd
  by_cases ht:Ti r
  ·rw [h1 r ht] at ho
   exact h.rel.dat r o R (hTi r ht) ho hd
  ·rw [h2 r ht] at ho
   obtain ⟨v,fp,hmv,hone,hfp,hR2⟩:=hR.dat r o R ha ho hd
   refine ⟨v,fp,h.ext.2.1 _ _ hmv,hone,fun k hk=>Nat.lt_of_lt_of_le (hfp k hk) h.size,fun w2 hw2=>hR2 w2 (fun k hk=>(hw2 k hk).trans (h.keep k (hfp k hk) ?_))⟩
   intro r2 o2 v2 n2 b2 ht2 ho2 hv2 hb2 he
   rw [hg r2 (hTi r2 ht2)] at ho2
   exact hR.disj r o R v fp r2 o2 v2 n2 b2 ha (hAi r2 (hTi r2 ht2)) ho hd hmv ho2 hv2 hb2 (he ▸ hk)
 ·intro r o R v fp r' o' u n b ha ha' ho hd hmv ho' hu hb hfpb
  by_cases ht:Ti r
  ·rw [h1 r ht] at ho
   by_cases ht':Ti r'
   ·rw [h1 r' ht'] at ho'
    exact h.rel.disj r o R v fp r' o' u n b (hTi r ht) (hTi r' ht') ho hd hmv ho' hu hb hfpb
   ·rw [h2 r' ht'] at ho'
    rw [h.mkeep r' ht'] at hb
    obtain ⟨r2,o2,R2,v2,fp2,ha2,ho2,hd2,hm2,hq2⟩:=h.dfp r o R v fp (hTi r ht) ht ho hd hmv b.1 hfpb (hR.lt ha' ho' hu hb)
    rw [hg r2 ha2] at ho2
    exact hR.disj r2 o2 R2 v2 fp2 r' o' u n b (hAi r2 ha2) ha' ho2 hd2 hm2 ho' hu hb hq2
  ·rw [h2 r ht] at ho
   rw [h.dkeep r ht] at hmv
   obtain ⟨v',fp',hmv',hone,hfp,hR2⟩:=hR.dat r o R ha ho hd
   rw [hmv] at hmv'
   cases hmv'
   by_cases ht':Ti r'
   ·rw [h1 r' ht'] at ho'
    obtain ⟨o0,v0,n0,b0,ho0,hv0,hb0,he0⟩:=h.own r' o' u n b ht' ho' hu hb (hfp _ hfpb)
    rw [hg r' (hTi r' ht')] at ho0
    exact hR.disj r o R v fp r' o0 v0 n0 b0 ha ha' ho hd hmv ho0 hv0 hb0 (he0 ▸ hfpb)
   ·rw [h2 r' ht'] at ho'
    rw [h.mkeep r' ht'] at hb
    exact hR.disj r o R v fp r' o' u n b ha ha' ho hd hmv ho' hu hb hfpb
 ·intro r o R v fp ha ho hd hmv
  by_cases ht:Ti r
  ·rw [h1 r ht] at ho
   exact h.rel.fpb r o R v fp (hTi r ht) ho hd hmv
  ·rw [h2 r ht] at ho
   rw [h.dkeep r ht] at hmv
   exact hR.fpb r o R v fp ha ho hd hmv
 ·by_cases ht:Ti r
  ·rw [h1 r ht] at ho
   exact h.rel.row r o e v n b (hTi r ht) ho hs hv hb
  ·rw [h2 r ht] at ho
   rw [h.mkeep r ht] at hb
   exact (hR.row r o e v n b ha ho hs hv hb).mono (hkeep r o v n b ha ht ho hv hb)
 ·intro k hk hno
  refine h.keep k hk ?_
  intro r o v n b ht ho hv hb
  rw [hg r (hTi r ht)] at ho
  exact hno r o v n b ht ho hv hb
 ·intro r o v n b ht ho hv hb hlt
  rw [h1 r ht] at ho
  obtain ⟨o0,v0,n0,b0,ho0,hv0,hb0,he0⟩:=h.own r o v n b ht ho hv hb hlt
  rw [hg r (hTi r ht)] at ho0
  exact ⟨o0,v0,n0,b0,ho0,hv0,hb0,he0⟩
 ·intro r o R v fp ha ht ho hd hmv k hk hlt
  rw [h1 r ht] at ho
  obtain ⟨r2,o2,R2,v2,fp2,ha2,ho2,hd2,hm2,hq2⟩:=h.dfp r o R v fp (hTi r ht) ht ho hd hmv k hk hlt
  rw [hg r2 ha2] at ho2
  exact ⟨r2,o2,R2,v2,fp2,hAi r2 ha2,ho2,hd2,hm2,hq2⟩

theorem eval_defers (a:Act) (ds:List Deferred):({ a with defers:=ds }:Act).eval=a.eval:=by
 funext x;cases x <;> rfl
theorem wpOp_defers {P:Program} {ops:Array Oper} {i:Nat} {a:Act} {w:World} {K:Act->World->Prop} {Q:Exit->Act->World->Prop}
  (h:wpOp P ops (fun e a' w'=>Q e { a' with defers:=a'.defers++a.defers } w') i (fun a' w'=>K { a' with defers:=a'.defers++a.defers } w') { a with defers:=[] } w):wpOp P ops Q i K a w:=by
 have ha:({ ({ a with defers:=[] }:Act) with defers:=({ a with defers:=[] }:Act).defers++a.defers }:Act)=a:=rfl
 have hput:∀ dst v,({ (({ a with defers:=[] }:Act).put dst v) with defers:=(({ a with defers:=[] }:Act).put dst v).defers++a.defers }:Act)=a.put dst v:=fun dst v=>by cases dst <;> rfl
 have hputd:∀ dst v d,({ (({ ({ a with defers:=[] }:Act) with defers:=[d] }:Act).put dst v) with defers:=(({ ({ a with defers:=[] }:Act) with defers:=[d] }:Act).put dst v).defers++a.defers }:Act)=({ a with defers:=d :: a.defers }:Act).put dst v:=fun dst v d=>by cases dst <;> rfl
 have hL:LetsOut (fun e a' w'=>Q e { a' with defers:=a'.defers++a.defers } w')->LetsOut Q:=fun ⟨b,w,hq⟩=>⟨_,w,hq⟩
 unfold wpOp at *
 split
 ·rename_i hn;rw [hn] at h;exact h
 ·rename_i o ho
  rw [ho] at h
  simp only at h
  split
  ·rename_i hw
   rw [if_pos hw] at h
   rcases h with h | ⟨hask,hl⟩
   ·left
    unfold Oper.wp at *
    rw [eval_defers] at h
    generalize (execOp a.eval o).run P w=r at h ⊢
    cases r with
    | ok n w' =>
     cases n <;> simp only [Oper.upon] at h ⊢
     case value v=>rw [hput] at h;exact h
     case skip=>rw [hput] at h;exact h
     case defer d=>have:=hputd o.dst undef d;rw [this] at h;exact h
     case enter f args =>
      refine Calls.mono h fun e w'' he=>?_
      cases e with
      | returned v=>simp only at he;rw [hput] at he;exact he
      | panicked c=>exact he
      | outgrown=>exact hL he
     case row row args=>exact Rows.mono h fun v w'' he=>by rw [hput] at he;exact he
    | halt x w'=>cases x <;> simp only [Oper.upon] at h ⊢;exact h
   ·right
    refine ⟨?_,hL hl⟩
    unfold Oper.asks at *
    rw [eval_defers] at hask
    exact hask
  ·rename_i hw
   rw [if_neg hw] at h
   rw [hput] at h
   exact h

theorem keepTm_get (t:T AV):∀ (ks:List Tmp) (acc:T AV) (k:Nat) (y:AV),(Zol t ks acc).get k=some y->acc.get k=some y \/ (k ∈ ks/\t.get k=some y)
 | [],acc,k,y,h=>.inl h
 | q :: ks,acc,k,y,h=>by
  simp only [Zol] at h
  rcases keepTm_get t ks _ k y h with h | ⟨h1,h2⟩
  ·cases hb:Nat.blt (q+1) 16777216 with
   | false=>simp only [hb,cond_false] at h;exact .inl h
   | true =>
    simp only [hb,cond_true] at h
    split at h
    ·rename_i z hz
     have hlt:q+1 < 16777216:=by simpa using hb
     rw [T.get_set _ _ _ _ _ (show q+1 < 2 ^ 24 from hlt)] at h
     by_cases e:k=q
     ·rw [if_pos e] at h
      cases h
      subst e
      exact .inr ⟨by simp,hz⟩
     ·rw [if_neg e] at h
      exact .inl h
    ·exact .inl h
  ·exact .inr ⟨by simp [h1],h2⟩

def Zos (m:Map) (ops:Array Oper) (o:Oper) (x:AAct) (a:Act):Prop:=a.tmps.size=x.n/\∀ t y,t ∈ o.looksAt ops->x.tm.get t=some y->∃ v,y.den m=some v/\a.tmps[t]?=some v
theorem seen_ok {m:Map} {ops:Array Oper} {o:Oper} {x:AAct} {a:Act} (h:Zos m ops o x a):TRel m (seen ops o x) { a with defers:=[] }:=by
 refine ⟨h.1,?_,rfl⟩
 intro t y hy
 simp only [seen] at hy
 rcases keepTm_get _ _ _ _ _ hy with hy | ⟨h1,h2⟩
 ·simp [T.get] at hy
 ·exact h.2 t y h1 h2

theorem Zoj {P:Program} (hN:GoodP P) {E:Eng} (hE:Zee P E.call) {ops:Array Oper} {o:Oper} {i:Nat} (hi:ops[i]?=some o) {x x':AAct} {st st':St} {pv:Option Value} {lg:Log} (h:opD P E ops o x st=some (pv,x',st',lg))
  {A:Nat->Prop} {m:Map} {a:Act} {w:World} (hA:lg.Fits W0 A) (hR:Rel W0 A m st.heap.get w) (hF:Fresh A m st.next) (hT:Zos m ops o x a) {K:Act->World->Prop} {Q:Exit->Act->World->Prop}
  (hK:pv=none->∀ m' a' w',Ok W0 A m st w m' st' lg w'->a'.defers=a.defers->a'.tmps.size=a.tmps.size->(∀ t,o.dst ≠ some t->a'.tmps[t]?=a.tmps[t]?)->(∀ t y,o.dst=some t->x'.tm.get t=some y->∃ v,y.den m'=some v/\a'.tmps[t]?=some v)->K a' w')
  (hQ:∀ v,pv=some v->∀ u m' w',Ok W0 A m st w m' st' lg w'->Q (.panic [{ v:=pick v u,recovered:=false }]) a w'):wpOp P ops Q i K a w:=by
 simp only [opD,Option.bind_eq_some_iff] at h
 obtain ⟨⟨pv1,x1,st1,l1⟩,hop,h⟩:=h
 cases hc:(Nat.ble st.next st1.next && Nat.beq (l1.T >>> st1.next) 0 && Nat.beq (l1.T ||| l1.A) l1.A && x1.defers.isEmpty) with
 | false=>simp [hc] at h
 | true =>
  simp only [hc,cond_true] at h
  simp only [Bool.and_eq_true,List.isEmpty_iff] at hc
  have hTs:=seen_ok hT
  refine wpOp_defers ?_
  cases pv1 with
  | some v =>
   simp only [Option.some.injEq,Prod.mk.injEq] at h
   obtain ⟨rfl,rfl,rfl,rfl⟩:=h
   refine Zok hN hE hi hop hA hR hF hTs (fun hn=>by cases hn) (fun v' hv u m' w' hok hT'=>?_)
   cases hv
   exact hQ v rfl u m' w' hok
  | none =>
   have fin:pv=none/\st'=st1/\lg=l1/\(∀ t y,o.dst=some t->x'.tm.get t=some y->x1.tm.get t=some y):=by
    cases hd:o.dst with
    | none =>
     simp only [hd,Option.some.injEq,Prod.mk.injEq] at h
     obtain ⟨rfl,rfl,rfl,rfl⟩:=h
     exact ⟨rfl,rfl,rfl,fun t y ht=>by cases ht⟩
    | some d =>
     simp only [hd,Option.bind_eq_some_iff,Option.map_eq_some_iff] at h
     obtain ⟨y,hy,x2,hx2,he⟩:=h
     cases he
     refine ⟨rfl,rfl,rfl,fun t z ht hz=>?_⟩
     cases ht
     simp only [AAct.put] at hx2
     cases hb:(Nat.blt d x.n && Nat.blt (d+1) 16777216) with
     | false=>simp [hb] at hx2
     | true =>
      simp only [hb,cond_true,Option.some.injEq] at hx2
      simp only [Bool.and_eq_true,Nat.blt_eq] at hb
      subst hx2
      rw [T.get_set _ _ _ _ _ (show d+1 < 2 ^ 24 from hb.2)] at hz
      simp at hz
      subst hz
      exact hy
   obtain ⟨rfl,rfl,rfl,hx'⟩:=fin
   refine Zok hN hE hi hop hA hR hF hTs (fun _ m' a' w' hok hT' hput=>?_) (fun v' hv=>by cases hv)
   obtain ⟨v,hv⟩:=hput
   have hd0:a'.defers=[]:=by
    have:=hT'.defers
    rw [hc.2] at this
    simpa [denD] using this.symm
   refine hK rfl m' _ w' hok (by simp [hd0]) ?_ ?_ ?_
   ·simp only [hv]
    cases o.dst <;> simp [Act.put]
   ·intro t ht
    simp only [hv]
    cases hdst:o.dst with
    | none=>rfl
    | some d =>
     have hne:d ≠ t:=fun e=>ht (by rw [hdst,e])
     simp only [Act.put]
     rw [Array.getElem?_setIfInBounds_ne hne]
   ·intro t y ht hy
    exact hT'.get t y (hx' t y ht hy)

theorem foldl_bit (t:T Nat):∀ (es:List Edge) (s i:Nat),(es.foldl (fun s e=>cond (Region.binds .any e) (s ||| (1 <<< e.on) ||| ((t.get e.on).getD 0)) s) s).testBit i=true →
  s.testBit i=true \/ ∃ e ∈ es,Region.binds .any e=true/\(i=e.on \/ ((t.get e.on).getD 0).testBit i=true)
 | [],s,i,h=>.inl h
 | e :: es,s,i,h=>by
  simp only [List.foldl_cons] at h
  rcases foldl_bit t es _ i h with h | ⟨e',he',hb,hi⟩
  ·cases hbd:Region.binds .any e with
   | false=>simp only [hbd,cond_false] at h;exact .inl h
   | true =>
    simp only [hbd,cond_true,Nat.testBit_or,Bool.or_eq_true] at h
    rcases h with (h | h) | h
    ·exact .inl h
    ·exact .inr ⟨e,by simp,hbd,.inl ((Zah e.on i).1 h)⟩
    ·exact .inr ⟨e,by simp,hbd,.inr h⟩
  ·exact .inr ⟨e',by simp [he'],hb,hi⟩
theorem aheads_spec:∀ (l:List Oper) (i:Nat) (t:T Nat),i+l.length < 16777215->∀ (k:Nat) (o:Oper),l[k]?=some o->∃ t',(Zbh l i t)[k]?=some (Zhv o t')/\∀ q,t'.get q=if i<=q/\q < i+k then (Zbh l i t)[q - i]? else t.get q
 | [],i,t,_,k,o,h=>by simp at h
 | p :: l,i,t,hb,0,o,h=>by
  simp at h
  subst h
  refine ⟨t,rfl,fun q=>?_⟩
  have:¬ (i<=q/\q < i+0):=by omega
  rw [if_neg this]
 | p :: l,i,t,hb,k+1,o,h=>by
  simp only [List.getElem?_cons_succ] at h
  simp only [List.length_cons] at hb
  obtain ⟨t',h1,h2⟩:=aheads_spec l (i+1) (T.set 24 t i (some (Zhv p t))) (by omega) k o h
  refine ⟨t',by simpa [Zbh] using h1,fun q=>?_⟩
  rw [h2 q,T.get_set _ _ _ _ _ (show i+1 < 2 ^ 24 by show i+1 < 16777216;omega)]
  by_cases h3:q=i
  ·subst h3
   have:¬ (q+1<=q/\q < q+1+k):=by omega
   rw [if_neg this,if_pos rfl,if_pos (by omega)]
   simp [Zbh]
  ·by_cases h4:i+1<=q/\q < i+1+k
   ·rw [if_pos h4,if_pos (by omega)]
    simp only [Zbh]
    rw [show q - i=(q - (i+1))+1 by omega]
    simp
   ·rw [if_neg h4,if_neg h3,if_neg (by omega)]
def pm (ops:Array Oper) (j:Nat):Nat:=(Zbh ops.toList 0 .nil).getD j 0
theorem pm_spec {ops:Array Oper} (hs:ops.size < 16777215) {j i:Nat} {o:Oper} (ho:ops[j]?=some o) (h:(pm ops j).testBit i=true):∃ e ∈ o.after,Region.binds .any e=true/\(i=e.on \/ (e.on < j/\(pm ops e.on).testBit i=true)):=by
 obtain ⟨t',h1,h2⟩:=aheads_spec ops.toList 0 .nil (by simpa using hs) j o (by simpa using ho)
 have:pm ops j=Zhv o t':=by simp [pm,List.getD,h1]
 rw [this,Zhv] at h
 rcases foldl_bit t' _ _ _ h with h | ⟨e,he,hb,hi⟩
 ·simp at h
 ·refine ⟨e,by simpa using he,hb,hi.imp_right fun hi=>?_⟩
  rw [h2 e.on] at hi
  by_cases hlt:0<=e.on/\e.on < 0+j
  ·rw [if_pos hlt] at hi
   exact ⟨by omega,by simpa [pm,List.getD] using hi⟩
  ·rw [if_neg hlt] at hi
   simp [T.get] at hi

theorem apartFrom_ok {ops:Array Oper} {o:Oper} {m:Nat}:∀ (l:List Oper) (i:Nat),Zhc ops o m l i=true->∀ k p,l[k]?=some p->m.testBit (i+k)=true \/ (p.apart ops o=true/\o.apart ops p=true)
 | [],i,h,k,p,hp=>by simp at hp
 | q :: l,i,h,k,p,hp=>by
  simp only [Zhc,Bool.and_eq_true,Bool.or_eq_true] at h
  cases k with
  | zero=>simp at hp;subst hp;exact h.1
  | succ k =>
   simp only [List.getElem?_cons_succ] at hp
   have:=apartFrom_ok l (i+1) h.2 k p hp
   rwa [show i+1+k=i+(k+1) by omega] at this
theorem statGo_ok {ops:Array Oper}:∀ (l:List Oper) (i:Nat) (ms:List Nat) (pre:List Oper),pre.length=i->Zmm ops l i ms pre=true->∀ k o,l[k]?=some o->(∀ e ∈ o.after,Region.binds .any e=true->e.on < i+k) ∧
  (∀ q p,(pre++l)[q]?=some p->q < i+k->(ms.getD k 0).testBit q=true \/ (p.apart ops o=true/\o.apart ops p=true))
 | [],i,ms,pre,hp,h,k,o,ho=>by simp at ho
 | p :: l,i,[],pre,hp,h,k,o,ho=>by simp [Zmm] at h
 | p :: l,i,m :: ms,pre,hp,h,k,o,ho=>by
  simp only [Zmm,Bool.and_eq_true] at h
  obtain ⟨⟨⟨h1,h2⟩,h3⟩,h4⟩:=h
  cases k with
  | zero =>
   simp at ho
   subst ho
   refine ⟨fun e he hb=>?_,fun q p' hq hlt=>?_⟩
   ·have:=Array.all_eq_true_iff_forall_mem.1 h1 e he
    simp [hb] at this
    simpa using this
   ·have hq':pre[q]?=some p':=by rwa [List.getElem?_append_left (by omega)] at hq
    have:=apartFrom_ok pre 0 h3 q p' hq'
    simpa using this
  | succ k =>
   simp only [List.getElem?_cons_succ] at ho
   obtain ⟨g1,g2⟩:=statGo_ok l (i+1) ms (pre++[p]) (by simp [hp]) h4 k o ho
   refine ⟨fun e he hb=>by have:=g1 e he hb;omega,fun q p' hq hlt=>?_⟩
   have:=g2 q p' (by simpa using hq) (by omega)
   simpa using this
theorem Zgx {ops:Array Oper} (h:Ze2 ops=true):ops.size < 16777215/\(∀ j o,ops[j]?=some o->∀ e ∈ o.after,Region.binds .any e=true->e.on < j) ∧
  (∀ i j p o,i < j->ops[i]?=some p->ops[j]?=some o->(pm ops j).testBit i=true \/ (p.apart ops o=true/\o.apart ops p=true)):=by
 simp only [Ze2,Bool.and_eq_true,Nat.blt_eq] at h
 have h1:=statGo_ok ops.toList 0 _ [] rfl h.1
 refine ⟨by omega,fun j o ho e he hb=>?_,fun i j p o hij hp ho=>?_⟩
 ·have:=(h1 j o (by simpa using ho)).1 e he hb
  omega
 ·exact (h1 j o (by simpa using ho)).2 i p (by simpa using hp) (by omega)

theorem Zjq {ops:Array Oper} (hs:ops.size < 16777215) (S:Nat->Prop) (hc:∀ j o,S j->ops[j]?=some o->∀ e ∈ o.after,Region.binds .any e=true->S e.on) :
  ∀ j o,ops[j]?=some o->(∀ e ∈ o.after,Region.binds .any e=true->S e.on)->∀ i,(pm ops j).testBit i=true->S i:=by
 intro j
 induction j using Nat.strongRecOn with
 | _ j ih =>
  intro o ho hd i hi
  obtain ⟨e,he,hb,h⟩:=pm_spec hs ho hi
  rcases h with rfl | ⟨hlt,h⟩
  ·exact hd e he hb
  ·have hlt':e.on < ops.size:=Nat.lt_trans hlt (Array.getElem?_eq_some_iff.1 ho).1
   have hq:ops[e.on]?=some ops[e.on]:=Array.getElem?_eq_getElem hlt'
   exact ih e.on hlt _ hq (fun e' he' hb'=>hc e.on _ (hd e he hb) hq e' he' hb') i h

def Zar {β:Type} (c:Nat->β) (tch S:Nat->Bool):Nat->β
 | 0=>c 0
 | k+1=>if S k && tch k then c (k+1) else Zar c tch S k
theorem Zb8 {β:Type} {c:Nat->β} {tch S:Nat->Bool} (i:Nat):∀ n,i<=n->(∀ j,i<=j->j < n->tch j=true->S j=false)->Zar c tch S n=Zar c tch S i:=by
 intro n
 induction n with
 | zero=>intro h _;rw [show i=0 by omega]
 | succ n ih =>
  intro h hn
  by_cases he:i=n+1
  ·rw [he]
  ·simp only [Zar]
   rw [if_neg]
   ·exact ih (by omega) (fun j h1 h2=>hn j h1 (by omega))
   ·by_cases ht:tch n=true
    ·rw [hn n (by omega) (by omega) ht];simp
    ·simp [ht]
theorem Zci {β:Type} {c:Nat->β} {tch S S':Nat->Bool}:∀ n,(∀ j,j < n->tch j=true->S j=S' j)->Zar c tch S n=Zar c tch S' n
 | 0,_=>rfl
 | n+1,h=>by
  simp only [Zar]
  rw [Zci n (fun j hj=>h j (by omega))]
  by_cases ht:tch n=true
  ·rw [h n (by omega) ht]
  ·simp [ht]
theorem Zel {β:Type} {c:Nat->β} {tch S:Nat->Bool}:∀ n,(∀ j,j < n->S j=false)->Zar c tch S n=c 0
 | 0,_=>rfl
 | n+1,h=>by
  simp only [Zar]
  rw [h n (by omega)]
  simpa using Zel n (fun j hj=>h j (by omega))

end Go.Proofs.Ytgdegpifjljnoaa.eng
end
