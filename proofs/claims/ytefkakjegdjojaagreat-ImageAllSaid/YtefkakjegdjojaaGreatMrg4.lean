/- Texts joined: SymA, FilB. -/
import Derived.Test.YtefkakjegdjojaaGreatMrg3
import Derived.IntWalk
import Derived.Laws.Strings
import Derived.KernelRfl
import Derived.Test.YtefkakjegdjojaaGreatRowE
section
/- What the symbolic engine's user needs: values, rows, relations as contracts, numbers. -/
namespace Go.Proofs.YtefkakjegdjojaaGreat.eng
open Go Go.RowKit
set_option linter.unusedVariables false
set_option linter.unusedSimpArgs false

abbrev pI (x:Int):PV:=.v (.int .i64 x)
abbrev pU (x:Int):PV:=.v (.int .u8 x)
abbrev pS (s:ByteArray):PV:=.v (.string s)
abbrev pB (b:Bool):PV:=.v (.bool b)
def pRow {α:Type} (E:Enc α) (xs:List α):PV:=.row xs.length ((E.all xs).map .v)


open Classical in
noncomputable def spec (R:List PV->List PV->Prop) (ps:List PV):Option (List PV):=if h:∃ qs,R ps qs then some h.choose else none
theorem Zap {R:List PV->List PV->Prop} (hf:∀ ps q1 q2,R ps q1->R ps q2->q1=q2) {ps qs:List PV} (h:R ps qs):spec R ps=some qs:=by
 unfold spec
 have he:∃ qs,R ps qs:=⟨qs,h⟩
 rw [dif_pos he]
 exact congrArg some (hf ps _ _ he.choose_spec h)
theorem Zak {R:List PV->List PV->Prop} {ps qs:List PV} (h:spec R ps=some qs):R ps qs:=by
 unfold spec at h
 split at h
 ·rename_i he
  cases h
  exact he.choose_spec
 ·cases h

theorem toList_inj {a b:ByteArray} (h:a.toList=b.toList):a=b:=by
 rw [ByteArray.toList_eq,ByteArray.toList_eq] at h
 exact ByteArray.ext (Array.toList_inj.mp h)
@[simp] theorem Zpp (B:Base) (e:SX):(Fact.ok e).holds B ↔ ∃ x,B.ev e=some (.v x)/\x.oneCell'=true:=Iff.rfl
@[simp] theorem Zq9 (B:Base) (e:SX) (v:Value):(Fact.is e v).holds B ↔ B.ev e=some (.v v):=Iff.rfl
@[simp] theorem holds_at (B:Base) (e:SX) (n:Nat):(Fact.at e n).holds B ↔ ∃ k,B.ev e=some (.v (.int k (n:Int))):=Iff.rfl
@[simp] theorem Zt6 (B:Base) (ps:List PV):(B.with ps).s=fun i=>ps[i]?:=rfl
@[simp] theorem Zt7 (B:Base) (ps:List PV):(B.with ps).F=B.F:=rfl
theorem Zaf {α:Type} (E:Enc α) (xs:List α):lenPV (pRow E xs)=some (pI xs.length):=rfl
theorem Zbb {α:Type} (E:Enc α) (xs:List α) (i:Nat) (k:IntKind) (sz sub:Nat) (hz:sz=E.sz) (h:i < xs.length):Zb5 (pRow E xs) (.v (.int k (i:Int))) sz sub=((E.all xs)[i * E.sz+sub]?).map .v:=by
 subst hz
 have:((i:Int) < (xs.length:Int)):=by omega
 simp [Zb5,pRow,this]
theorem Zca {α:Type} (E:Enc α) (xs:List α) (i j:Nat) (x:α) (hx:xs[i]?=some x) (hj:j < E.sz):(E.all xs)[i * E.sz+j]?=(E.enc x)[j]?:=E.all_get xs i j x hx hj
theorem Zqy {α:Type} (E:Enc α) (xs:List α) (i sz sub:Nat) (hz:sz=E.sz) (h:i < xs.length) (hs:sub<=E.sz):∃ n cs k z,(some (pRow E xs):Option PV)=some (.row n cs)/\(some (pI (i:Int)):Option PV)=some (.v (.int k z))/\0<=z/\z < (n:Int)/\z.toNat * sz+sub<=cs.length:=by
 subst hz
 refine ⟨_,_,_,_,rfl,rfl,by omega,by omega,?_⟩
 rw [List.length_map,E.all_length]
 have:(i+1) * E.sz<=xs.length * E.sz:=Nat.mul_le_mul_right _ h
 rw [Nat.add_mul] at this
 simp
 omega
theorem wrapI (x:Int) (h0:-9223372036854775808<=x) (h1:x<=9223372036854775807):IntKind.i64.wrap x=x:=IntWalk.i64_in x ⟨h0,h1⟩
def RTrue (ps qs:List PV):Prop:=ps=[]/\qs=[pB true]
def ETrue (k:Nat):FnE:={ k:=k,ins:=[],leaks:=[],outs:=[none],kinds:=[.truth] }
@[simp] theorem kTrue (k:Nat):(ETrue k).k=k:=rfl
end Go.Proofs.YtefkakjegdjojaaGreat.eng
end

section
/- What the texts of the engine share: the program's names, bytes as rows, facts. -/
namespace Go.Proofs.YtefkakjegdjojaaGreat.fil
open Go Go.RowKit eng SX Fact
set_option linter.unusedVariables false
set_option linter.unusedSimpArgs false
set_option maxRecDepth 1000000

theorem Zad:GoodP Tryz.prog:=⟨by kernel_rfl,rfl⟩
theorem Zac:Tryz.prog.follows .mixedOrders=true:=by kernel_rfl
def noOrc:Orc:=fun _ _ _=>none
theorem noOrc_ok:OrcOk Tryz.prog noOrc:=⟨fun f args st r st' lg h=>by simp [noOrc] at h,fun f args st r st' lg h=>by simp [noOrc] at h⟩
def brow (k:Nat):BoxT:=⟨5,1,true,[],some k,false⟩
def pBy (l:List UInt8):PV:=.row l.length (l.map fun b=>.v (.int .u8 b.toNat))
theorem Znr (s:ByteArray):ropPV .ofStr [pS s]=some (pBy s.data.toList):=by
 simp only [ropPV,pBy]
 congr 2
theorem r_cat (a b:List UInt8):ropPV .cat [pBy a,pBy b]=some (pBy (a++b)):=by simp [ropPV,pBy]
theorem r_rep (n:Int) (h:0<=n):ropPV (.rep [.int .u8 0]) [pI n]=some (pBy (List.replicate n.toNat 0)):=by
 have hf:∀ k:Nat,(List.replicate k [PV.v (.int .u8 0)]).flatten=List.replicate k (PV.v (.int .u8 0)):=fun k=>by
  induction k with
  | zero=>rfl
  | succ k ih=>simp [List.replicate_succ,ih]
 simp [ropPV,pBy,h,hf]
theorem r_max (a b:Int):ropPV .max2 [pI a,pI b]=some (pI (max a b)):=rfl
theorem r_min (a b:Int):ropPV .min2 [pI a,pI b]=some (pI (min a b)):=rfl
theorem r_len (l:List UInt8):lenPV (pBy l)=some (pI l.length):=rfl
theorem bytes_back:∀ (l:List UInt8),Zq0 (l.map fun b=>.v (.int .u8 b.toNat))=some l
 | []=>rfl
 | b :: l=>by
  have h1:(0:Int)<=(b.toNat:Int):=by omega
  have h2:(b.toNat:Int) < 256:=by have:=b.toNat_lt;omega
  simp [Zq0,Zxh,h1,h2,bytes_back l]
theorem Zsc (l:List UInt8):ropPV .toStr [pBy l]=some (pS ⟨l.toArray⟩):=by
 simp [ropPV,pBy,bytes_back]
theorem pRow_inj {α:Type} {E:Enc α} (hinj:∀ xs ys:List α,E.all xs=E.all ys->xs=ys) {xs ys:List α} (h:pRow E xs=pRow E ys):xs=ys:=by
 simp only [pRow,PV.row.injEq] at h
 refine hinj xs ys ?_
 have:=congrArg (List.map fun p=>(PV.plain p).getD undef) h.2
 simpa [List.map_map,Function.comp_def,PV.plain] using this
@[simp] theorem holds_rng (B:Base) (x y:SX):(Fact.rng x y).holds B ↔ ∃ k z m,B.ev x=some (.v (.int k z))/\B.ev y=some (.v (.int .i64 m))/\0<=z/\z < m:=Iff.rfl
@[simp] theorem holds_upto (B:Base) (x:SX) (K:Nat):(Fact.upto x K).holds B ↔ ∃ z:Nat,B.ev x=some (.v (.int .i64 (z:Int)))/\z<=K:=Iff.rfl
@[simp] theorem holds_le3 (B:Base) (x y n:SX):(Fact.le3 x y n).holds B ↔ ∃ a b c:Nat,B.ev x=some (.v (.int .i64 (a:Int)))/\B.ev y=some (.v (.int .i64 (b:Int)))/\B.ev n=some (.v (.int .i64 (c:Int)))/\a<=b/\b<=c:=Iff.rfl
@[simp] theorem holds_cut (B:Base) (x y n:SX):(Fact.cut x y n).holds B ↔ ∃ a b c:Nat,B.ev x=some (.v (.int .i64 (a:Int)))/\B.ev y=some (.v (.int .i64 (b:Int)))/\B.ev n=some (.v (.int .i64 (c:Int)))/\a+b<=c:=Iff.rfl
@[simp] theorem holds_same (B:Base) (x y:SX):(Fact.same x y).holds B ↔ ∃ z:Nat,B.ev x=some (.v (.int .i64 (z:Int)))/\B.ev y=some (.v (.int .i64 (z:Int))):=Iff.rfl
@[simp] theorem ex_cast (n:Nat) (p:Nat->Prop):(∃ z:Nat,n=z/\p z) ↔ p n:=⟨fun ⟨z,h,hp⟩=>h ▸ hp,fun h=>⟨n,rfl,h⟩⟩
@[simp] theorem ex_castI (n:Nat) (p:Nat->Prop):(∃ z:Nat,(n:Int)=(z:Int)/\p z) ↔ p n:=⟨fun ⟨z,h,hp⟩=>by rw [Int.ofNat_inj.1 h];exact hp,fun h=>⟨n,rfl,h⟩⟩
@[simp] theorem ex_castT (n:Nat):(∃ z:Nat,(n:Int)=(z:Int)) ↔ True:=⟨fun _=>trivial,fun _=>⟨n,rfl⟩⟩
@[simp] theorem holds_fnA (B:Base) (f:FuncId) (E:FnE) (es:List SX):(Fact.fn f E es).holds B ↔ ToldF f E (B.F E.k)/\∃ ps qs,evs B.s B.F es=some ps/\B.F E.k ps=some qs:=Iff.rfl
end Go.Proofs.YtefkakjegdjojaaGreat.fil
end
