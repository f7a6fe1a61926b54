/- Texts joined: SymA, FilB. -/
import Derived.Test.YtgdegpifjljnoaaMrg3
import Derived.IntWalk
import Derived.Laws.Strings
import Derived.KernelRfl
import Derived.Test.YtgdegpifjljnoaaRowE
set_option linter.unusedVariables false
set_option linter.unusedSimpArgs false
section
/- What the symbolic engine's user needs: values, rows, relations as contracts, numbers. -/
namespace Go.Proofs.Ytgdegpifjljnoaa.eng
open Go Go.RowKit

abbrev pI (x:Int):PV:=.v (.int .i64 x)
abbrev pU (x:Int):PV:=.v (.int .u8 x)
abbrev pS (s:ByteArray):PV:=.v (.string s)
abbrev pB (b:Bool):PV:=.v (.bool b)
def pRow {α:Type} (E:Enc α) (xs:List α):PV:=.row xs.length ((E.all xs).map .v)

theorem Zg2 {α:Type} (E:Enc α) {w:World} {u:Value} {xs:List α}:Reads w (pRow E xs) u ↔ RowE E w u xs:=by
 constructor
 ·intro h
  simp only [pRow,Reads] at h
  obtain ⟨a,cap,rfl,h1,h2,h3⟩:=h
  refine ⟨a,cap,rfl,h1,h2,fun h0=>?_⟩
  rcases h3 with h3 | ⟨b,off,rfl,h3⟩
  ·exfalso
   have:=congrArg List.length h3
   rw [List.length_map,E.all_length] at this
   have hp:=E.pos
   simp only [List.length_nil] at this
   rcases Nat.mul_eq_zero.1 this with h | h <;> omega
  ·have hlen:0 < (E.all xs).length:=by rw [E.all_length];exact Nat.mul_pos h0 E.pos
   obtain ⟨u0,hu0,_⟩:=Za8.at h3 (i:=0) (p:=.v (E.all xs)[0]) (by simp [List.getElem?_eq_getElem hlen])
   refine ⟨b,off,rfl,World.block_lt_of_cell? w ⟨b,off+0,none⟩ hu0,fun i v hv=>?_⟩
   obtain ⟨u,hu,hr⟩:=Za8.at h3 (i:=i) (p:=.v v) (by simp [hv])
   simp only [Reads] at hr
   rw [hu,hr.1]
 ·rintro ⟨a,cap,rfl,h1,h2,h3⟩
  simp only [pRow,Reads]
  refine ⟨a,cap,rfl,h1,h2,?_⟩
  by_cases h0:0 < xs.length
  ·obtain ⟨b,off,rfl,_,h4⟩:=h3 h0
   refine .inr ⟨b,off,rfl,Za8.of fun i p hp=>?_⟩
   rw [List.getElem?_map,Option.map_eq_some_iff] at hp
   obtain ⟨v,hv,rfl⟩:=hp
   exact ⟨v,h4 i v hv,by simp only [Reads];exact ⟨trivial,E.all_one' xs v (List.mem_of_getElem? hv)⟩⟩
  ·left
   have:xs=[]:=List.eq_nil_of_length_eq_zero (by omega)
   rw [this];rfl

open Classical in
noncomputable def spec (R:List PV->List PV->Prop) (ps:List PV):Option (List PV):=if h:∃ qs,R ps qs then some h.choose else none
theorem Zbv {R:List PV->List PV->Prop} (hf:∀ ps q1 q2,R ps q1->R ps q2->q1=q2) {ps qs:List PV} (h:R ps qs):spec R ps=some qs:=by
 unfold spec
 have he:∃ qs,R ps qs:=⟨qs,h⟩
 rw [dif_pos he]
 exact congrArg some (hf ps _ _ he.choose_spec h)
theorem Zbk {R:List PV->List PV->Prop} {ps qs:List PV} (h:spec R ps=some qs):R ps qs:=by
 unfold spec at h
 split at h
 ·rename_i he
  cases h
  exact he.choose_spec
 ·cases h

@[simp] theorem Zlz (B:Base) (e:SX):(Fact.ok e).holds B ↔ ∃ x,B.ev e=some (.v x)/\x.oneCell'=true:=Iff.rfl
@[simp] theorem holds_is (B:Base) (e:SX) (v:Value):(Fact.is e v).holds B ↔ B.ev e=some (.v v):=Iff.rfl
@[simp] theorem holds_at (B:Base) (e:SX) (n:Nat):(Fact.at e n).holds B ↔ ∃ k,B.ev e=some (.v (.int k (n:Int))):=Iff.rfl
@[simp] theorem Zpa (B:Base) (ps:List PV):(B.with ps).s=fun i=>ps[i]?:=rfl
@[simp] theorem Zpb (B:Base) (ps:List PV):(B.with ps).F=B.F:=rfl
theorem Zaf {α:Type} (E:Enc α) (xs:List α):lenPV (pRow E xs)=some (pI xs.length):=rfl
theorem Zav {α:Type} (E:Enc α) (xs:List α) (i:Nat) (k:IntKind) (sz sub:Nat) (hz:sz=E.sz) (h:i < xs.length):Zbm (pRow E xs) (.v (.int k (i:Int))) sz sub=((E.all xs)[i * E.sz+sub]?).map .v:=by
 subst hz
 have:((i:Int) < (xs.length:Int)):=by omega
 simp [Zbm,pRow,this]
theorem Zbf {α:Type} (E:Enc α) (xs:List α) (i j:Nat) (x:α) (hx:xs[i]?=some x) (hj:j < E.sz):(E.all xs)[i * E.sz+j]?=(E.enc x)[j]?:=E.all_get xs i j x hx hj
theorem idx_row {α:Type} (E:Enc α) (xs:List α) (i sz sub:Nat) (hz:sz=E.sz) (h:i < xs.length) (hs:sub<=E.sz):∃ n cs k z,(some (pRow E xs):Option PV)=some (.row n cs)/\(some (pI (i:Int)):Option PV)=some (.v (.int k z))/\0<=z/\z < (n:Int)/\z.toNat * sz+sub<=cs.length:=by
 subst hz
 refine ⟨_,_,_,_,rfl,rfl,by omega,by omega,?_⟩
 rw [List.length_map,E.all_length]
 have:(i+1) * E.sz<=xs.length * E.sz:=Nat.mul_le_mul_right _ h
 rw [Nat.add_mul] at this
 simp
 omega
theorem wrapI (x:Int) (h0:-9223372036854775808<=x) (h1:x<=9223372036854775807):IntKind.i64.wrap x=x:=IntWalk.i64_in x ⟨h0,h1⟩
theorem Zap {w:World} {x:Value} (h:x.oneCell'=true):Reads w (.v x) x:=by simp only [Reads];exact ⟨trivial,h⟩
theorem Zgv {f:FuncId} {E:FnE} {spec:List PV->Option (List PV)} (h:ToldF f E spec) (ho:E.outs=[none]) {w:World} {us:List Value} {ps:List PV} (hs:spec ps=some [pB true]) (hul:us.length=ps.length) (hpl:ps.length=shLen E.ins)
  (hrd:∀ (i:Nat) (p:PV) (u:Value),ps[i]?=some p->us[i]?=some u->Reads w p u):Calls Try.prog f (Zak E.ins us).toArray w fun e w'=>e=.returned (.bool true)/\Ex w w':=by
 refine (h w (fun k=>k < w.heap.size) us ps _ hs hul hpl (fun _ h=>h) (fun i p u hp hu=>⟨hrd i p u hp hu,fun _ w2 hw2=>Reads.keep hw2 _ (hrd i p u hp hu)⟩)).mono ?_
 rintro e w' ⟨us',ow,h1,_,_,h2,rfl,hex⟩
 obtain ⟨x,rfl⟩:∃ x,us'=[x]:=by match us',h1 with | [x],_=>exact ⟨x,rfl⟩
 have:=h2 0 (pB true) x rfl rfl w' (fun _ _ _=>rfl)
 simp only [Reads] at this
 rw [ho,this.1]
 exact ⟨rfl,hex⟩
def RTrue (ps qs:List PV):Prop:=ps=[]/\qs=[pB true]
theorem fTrue:∀ ps q1 q2,RTrue ps q1->RTrue ps q2->q1=q2:=by
 rintro ps q1 q2 ⟨_,rfl⟩ ⟨_,rfl⟩;rfl
def ETrue (k:Nat):FnE:={ k:=k,ins:=[],leaks:=[],outs:=[none],kinds:=[.truth] }
@[simp] theorem kTrue (k:Nat):(ETrue k).k=k:=rfl
def rowsB:List (Option Bool)->List PV->Bool
 | none :: ks,.v x :: ps=>x.oneCell' && rowsB ks ps
 | some _ :: ks,_ :: ps=>rowsB ks ps
 | [],_=>true
 | _,_=>false
theorem Zg1:∀ {rows:List (Option Bool)} {ps:List PV},rowsB rows ps=true->∀ i:Nat,rows[i]?=some none->∃ x,ps[i]?=some (.v x)/\x.oneCell'=true
 | [],ps,h,i,hi=>by simp at hi
 | none :: ks,[],h,i,hi=>by simp [rowsB] at h
 | some _ :: ks,[],h,i,hi=>by simp [rowsB] at h
 | none :: ks,.row n cs :: ps,h,i,hi=>by simp [rowsB] at h
 | none :: ks,.v x :: ps,h,i,hi=>by
  simp only [rowsB,Bool.and_eq_true] at h
  cases i with
  | zero=>exact ⟨x,rfl,h.1⟩
  | succ i=>exact Zg1 h.2 i (by simpa using hi)
 | some b :: ks,p :: ps,h,i,hi=>by
  simp only [rowsB] at h
  cases i with
  | zero=>simp at hi
  | succ i=>exact Zg1 h i (by simpa using hi)

end Go.Proofs.Ytgdegpifjljnoaa.eng
end

section
/- What the texts of the engine share: the program's names, bytes as rows, facts. -/
namespace Go.Proofs.Ytgdegpifjljnoaa.fil
open Go Go.RowKit eng SX Fact
set_option maxRecDepth 1000000

theorem names_ok:GoodP Try.prog:=⟨by kernel_rfl,rfl⟩
theorem mixed_ok:Try.prog.follows .mixedOrders=true:=by kernel_rfl
def noOrc:Orc:=fun _ _ _=>none
theorem noOrc_ok:OrcOk Try.prog noOrc:=⟨fun f args st r st' lg h=>by simp [noOrc] at h,fun f args st r st' lg h=>by simp [noOrc] at h⟩
theorem pRow_inj {α:Type} {E:Enc α} (hinj:∀ xs ys:List α,E.all xs=E.all ys->xs=ys) {xs ys:List α} (h:pRow E xs=pRow E ys):xs=ys:=by
 simp only [pRow,PV.row.injEq] at h
 refine hinj xs ys ?_
 have:=congrArg (List.map fun p=>(PV.plain p).getD undef) h.2
 simpa [List.map_map,Function.comp_def,PV.plain] using this
@[simp] theorem holds_rng (B:Base) (x y:SX):(Fact.rng x y).holds B ↔ ∃ k z m,B.ev x=some (.v (.int k z))/\B.ev y=some (.v (.int .i64 m))/\0<=z/\z < m:=Iff.rfl
@[simp] theorem holds_upto (B:Base) (x:SX) (K:Nat):(Fact.upto x K).holds B ↔ ∃ z:Nat,B.ev x=some (.v (.int .i64 (z:Int)))/\z<=K:=Iff.rfl
@[simp] theorem holds_le3 (B:Base) (x y n:SX):(Fact.le3 x y n).holds B ↔ ∃ a b c:Nat,B.ev x=some (.v (.int .i64 (a:Int)))/\B.ev y=some (.v (.int .i64 (b:Int)))/\B.ev n=some (.v (.int .i64 (c:Int)))/\a<=b/\b<=c:=Iff.rfl
@[simp] theorem holds_cut (B:Base) (x y n:SX):(Fact.cut x y n).holds B ↔ ∃ a b c:Nat,B.ev x=some (.v (.int .i64 (a:Int)))/\B.ev y=some (.v (.int .i64 (b:Int)))/\B.ev n=some (.v (.int .i64 (c:Int)))/\a+b<=c:=Iff.rfl
@[simp] theorem holds_same (B:Base) (x y:SX):(Fact.same x y).holds B ↔ ∃ z:Nat,B.ev x=some (.v (.int .i64 (z:Int)))/\B.ev y=some (.v (.int .i64 (z:Int))):=Iff.rfl
@[simp] theorem ex_cast (n:Nat) (p:Nat->Prop):(∃ z:Nat,n=z/\p z) ↔ p n:=⟨fun ⟨z,h,hp⟩=>h ▸ hp,fun h=>⟨n,rfl,h⟩⟩
@[simp] theorem ex_castI (n:Nat) (p:Nat->Prop):(∃ z:Nat,(n:Int)=(z:Int)/\p z) ↔ p n:=⟨fun ⟨z,h,hp⟩=>by rw [Int.ofNat_inj.1 h];exact hp,fun h=>⟨n,rfl,h⟩⟩
@[simp] theorem ex_castT (n:Nat):(∃ z:Nat,(n:Int)=(z:Int)) ↔ True:=⟨fun _=>trivial,fun _=>⟨n,rfl⟩⟩
@[simp] theorem holds_fnA (B:Base) (f:FuncId) (E:FnE) (es:List SX):(Fact.fn f E es).holds B ↔ ToldF f E (B.F E.k)/\∃ ps qs,evs B.s B.F es=some ps/\B.F E.k ps=some qs:=Iff.rfl
end Go.Proofs.Ytgdegpifjljnoaa.fil
end
