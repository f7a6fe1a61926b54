/- Texts joined. -/
import Derived.Test.YtgdegpifjljnoaaMrg3
section
/- The engine: a row of the call's own that is not written any more becomes a thing (which may live on). -/
namespace Go.Proofs.Ytgdegpifjljnoaa.eng
open Go Go.RowKit
variable {W0 : Base}
set_option linter.unusedVariables false
set_option linter.unusedSimpArgs false

end Go.Proofs.Ytgdegpifjljnoaa.eng
end
section
/- The engine: closed runs over what is told: what is told of rows that are written down is written down; what such a run takes for granted is reckoned. -/
namespace Go.Proofs.Ytgdegpifjljnoaa.eng
open Go Go.RowKit
variable {W0 : Base}
set_option linter.unusedVariables false
set_option linter.unusedSimpArgs false

def natPV:Option PV->Option Nat | some (.v (.int .i64 (.ofNat z)))=>some z | _=>none
theorem Zc7 {e:SX} {z:Nat} {B:Base} (h:natPV (ev0 e)=some z):B.ev e=some (.v (.int .i64 (z:Int))):=by
 unfold natPV at h
 split at h
 ·rename_i y hy
  cases h
  exact Zaz e hy
 ·cases h
def Fact.chk:Fact->Bool
 | .ok e=>match ev0 e with | some (.v x)=>x.oneCell' | _=>false
 | .is e (.bool b)=>match ev0 e with | some (.v (.bool c))=>b == c | _=>false
 | .is e (.int .i64 n)=>match ev0 e with | some (.v (.int .i64 m))=>decide (m=n) | _=>false
 | .at e n=>match ev0 e with | some (.v (.int _ z))=>decide (z=(n:Int)) | _=>false
 | .idx e i sz q=>match ev0 e,ev0 i with | some (.row n cs),some (.v (.int _ z))=>decide (0<=z) && decide (z < (n:Int)) && Nat.ble (z.toNat * sz+q) cs.length | _,_=>false
 | .sub e lo hi sz=>(ev0 (.sub e lo hi sz)).isSome
 | .rng i n=>match ev0 i,ev0 n with | some (.v (.int _ z)),some (.v (.int .i64 m))=>decide (0<=z) && decide (z < m) | _,_=>false
 | .upto n K=>match natPV (ev0 n) with | some z=>Nat.ble z K | none=>false
 | .le3 lo hi n=>match natPV (ev0 lo),natPV (ev0 hi),natPV (ev0 n) with | some a,some b,some c=>Nat.ble a b && Nat.ble b c | _,_,_=>false
 | .cut lo len n=>match natPV (ev0 lo),natPV (ev0 len),natPV (ev0 n) with | some a,some b,some c=>Nat.ble (a+b) c | _,_,_=>false
 | .same x y=>match natPV (ev0 x),natPV (ev0 y) with | some a,some b=>Nat.beq a b | _,_=>false
 | .cells e sz=>match ev0 e with
  | some (.row n cs)=>(match Zbz cs with | some vs=>Nat.beq vs.length (n * sz) && Nat.ble n 4294967296 && vs.all Value.oneCell' | none=>false)
  | _=>false
 | _=>false
theorem chk_ok {B:Base}:∀ (f:Fact),f.chk=true->f.holds B:=by
 intro f h
 unfold Fact.chk at h
 split at h
 ·rename_i e
  split at h
  ·rename_i x hx;exact ⟨x,Zaz e hx,h⟩
  ·cases h
 ·rename_i e b
  split at h
  ·rename_i c hc
   have:b=c:=by simpa using h
   subst this
   exact Zaz e hc
  ·cases h
 ·rename_i e n
  split at h
  ·rename_i m hm
   have:m=n:=by simpa using h
   subst this
   exact Zaz e hm
  ·cases h
 ·rename_i e n
  split at h
  ·rename_i k z hz
   have:z=(n:Int):=by simpa using h
   subst this
   exact ⟨k,Zaz e hz⟩
  ·cases h
 ·rename_i e i sz q
  split at h
  ·rename_i n cs k z hn hz
   simp only [Bool.and_eq_true,decide_eq_true_eq,Nat.ble_eq] at h
   exact ⟨n,cs,k,z,Zaz e hn,Zaz i hz,h.1.1,h.1.2,h.2⟩
  ·cases h
 ·rename_i e lo hi sz
  obtain ⟨p,hp⟩:=Option.isSome_iff_exists.1 h
  exact ⟨p,Zaz _ hp⟩
 ·rename_i i n
  split at h
  ·rename_i k z m hz hm
   simp only [Bool.and_eq_true,decide_eq_true_eq] at h
   exact ⟨k,z,m,Zaz i hz,Zaz n hm,h.1,h.2⟩
  ·cases h
 ·rename_i n K
  split at h
  ·rename_i z hz;exact ⟨z,Zc7 hz,by simpa using h⟩
  ·cases h
 ·rename_i lo hi n
  split at h
  ·rename_i a b c ha hb hc
   simp only [Bool.and_eq_true,Nat.ble_eq] at h
   exact ⟨a,b,c,Zc7 ha,Zc7 hb,Zc7 hc,h.1,h.2⟩
  ·cases h
 ·rename_i lo len n
  split at h
  ·rename_i a b c ha hb hc
   exact ⟨a,b,c,Zc7 ha,Zc7 hb,Zc7 hc,by simpa using h⟩
  ·cases h
 ·rename_i x y
  split at h
  ·rename_i a b ha hb
   have:=Nat.eq_of_beq_eq_true h
   subst this
   exact ⟨a,Zc7 ha,Zc7 hb⟩
  ·cases h
 ·rename_i e sz
  split at h
  ·rename_i n cs he
   split at h
   ·rename_i vs hvs
    simp only [Bool.and_eq_true,Nat.beq_eq,Nat.ble_eq,List.all_eq_true] at h
    refine ⟨n,vs,by rw [<- Zhk hvs];exact Zaz e he,h.1.1,?_,h.2⟩
    have:maxLen=9223372036854775807:=by unfold maxLen;simp [IntKind.max]
    omega
   ·cases h
  ·cases h
 ·cases h

def Zjn (x:Option (List Fact × List SX)):Bool:=match x with
 | some (fs,[e])=>fs.all Fact.chk && (match ev0 e with | some (.v (.bool true))=>true | _=>false)
 | _=>false
def hStop (_:FuncId) (_:Oper):Option Hint:=some .stop
theorem lit_true {x:Option (List Fact × List SX)} (h:Zjn x=true):∃ fs e,x=some (fs,[e])/\(∀ f ∈ fs,f.chk=true)/\ev0 e=some (.v (.bool true)):=by
 unfold Zjn at h
 split at h
 ·rename_i fs e
  simp only [Bool.and_eq_true,List.all_eq_true] at h
  refine ⟨fs,e,rfl,h.1,?_⟩
  obtain ⟨_,h⟩:=h
  split at h
  ·rename_i h1;exact h1
  ·cases h
 ·cases h
theorem told_lit (hM:Try.prog.follows .mixedOrders=true) (hN:GoodP Try.prog) {f:FuncId} {E:FnE} {O:Orc} {n:Nat} {path:List Nat} {H:FuncId->Oper->Option Hint} (hO:OrcOk Try.prog O) {spec:List PV->Option (List PV)} (hspec:∀ ps qs,spec ps=some qs->ps=[]/\qs=[.v (.bool true)]) (hrun:Zjn (runTo Try.prog O n f E [] path H)=true) (hpl0:E.kinds.all CK.plain=true:=by rfl):ToldF f E spec:=by
 refine Zjg hM hN (fun _ _=>none) [] (fun ps qs h _=>?_) hpl0
 obtain ⟨rfl,rfl⟩:=hspec ps qs h
 obtain ⟨fs,e,h1,h2,h3⟩:=lit_true hrun
 exact ⟨O,n,path,H,fs,[e],hO,h1,fun w FP x hx=>chk_ok x (h2 x hx),by simp [evs,Zaz e h3]⟩
end Go.Proofs.Ytgdegpifjljnoaa.eng
end
