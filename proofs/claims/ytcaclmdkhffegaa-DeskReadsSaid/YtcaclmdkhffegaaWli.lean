/- Package line, told at rows that are written down. -/
import Derived.Test.YtcaclmdkhffegaaMrg5
import Derived.Test.YtcaclmdkhffegaaWah
import Derived.Test.YtcaclmdkhffegaaEng31
namespace Go.Proofs.Ytcaclmdkhffegaa.wli
open Go Go.RowKit eng SX Fact fil lem lea wdr wwi wto wpu wah wlm
set_option linter.unusedVariables false
set_option maxRecDepth 1000000
def decL:List SX->Option (List LeM)
 | []=>some []
 | .con (.int .i64 a) :: .con (.int .i64 b) :: .con (.int .i64 c) :: .con (.int .i64 d) :: r=>(decL r).map ((a,b,c,d) :: ·)
 | _=>none
theorem Zdq:∀ (k:Nat) {es:List SX} {l:List LeM},es.length<=k->decL es=some l->evs0 es=some ((encL.all l).map PV.v)
 | 0,es,l,hk,h=>by
  obtain rfl:es=[]:=List.eq_nil_of_length_eq_zero (by omega)
  simp [decL] at h;subst h;rfl
 | k+1,es,l,hk,h=>by
  unfold decL at h
  split at h
  ·cases h;rfl
  ·rename_i a b c d r
   simp only [Option.map_eq_some_iff] at h
   obtain ⟨l',h1,rfl⟩:=h
   simp [evs0,ev0,Zdq k (es:=r) (by simp at hk;omega) h1,Enc.all_cons,encL]
  ·cases h
def sxL (l:List LeM):SX:=.lit l.length (l.flatMap fun p=>[.con (.int .i64 p.1),.con (.int .i64 p.2.1),.con (.int .i64 p.2.2.1),.con (.int .i64 p.2.2.2)])
theorem Zdr (l:List LeM):ev0 (sxL l)=some (pRow encL l):=by
 have:∀ l:List LeM,evs0 (l.flatMap fun p=>[SX.con (.int .i64 p.1),.con (.int .i64 p.2.1),.con (.int .i64 p.2.2.1),.con (.int .i64 p.2.2.2)])=some ((encL.all l).map PV.v):=fun l=>by
  induction l with
  | nil=>rfl
  | cons b l ih=>simp [evs0,ev0,ih,Enc.all_cons,encL]
 simp only [sxL,ev0,this,pRow,Option.map_some]
def litPu:List SX->Option (List SX)
 | [.lit n xs,.con (.int .i64 a),.con (.int .i64 b),.con (.int .i64 c),.con (.int .i64 d)]=>(decL xs).bind fun l=>cond (Nat.beq l.length n && Nat.ble n 1000) (some [sxL (putB l (a,b,c,d)).1,.con (.bool (putB l (a,b,c,d)).2)]) none
 | _=>none
theorem litPu_ok:LitOk 61 (EPu 1) litPu:=by
 refine ⟨spec RPu,Zk8 1,?_⟩
 intro es rs h
 unfold litPu at h
 split at h
 ·rename_i n xs a b c d
  simp only [Option.bind_eq_some_iff,cond_eq_ite] at h
  obtain ⟨l,h1,h⟩:=h
  split at h
  ·rename_i hc
   simp only [Bool.and_eq_true,Nat.beq_eq,Nat.ble_eq] at hc
   obtain ⟨rfl,h2⟩:=hc
   cases h
   refine ⟨pRow encL l :: p4 (a,b,c,d),[pRow encL (putB l (a,b,c,d)).1,pB (putB l (a,b,c,d)).2],?_,Zal fPu ⟨l,_,by omega,rfl,rfl⟩,?_⟩
   ·simp [evs0,ev0,Zdq _ (Nat.le_refl _) h1,p4,pRow]
   ·simp [evs0,ev0,Zdr]
  ·cases h
 ·cases h
def litDw:List SX->Option (List SX)
 | [.lit n xs,.con (.int .i64 a)]=>(decL xs).bind fun l=>cond (Nat.beq l.length n && Nat.ble n 1000) (some [sxL (dropW l a)]) none
 | _=>none
theorem litDw_ok:LitOk 56 (EDw 2) litDw:=by
 refine ⟨spec RDw,Zkr 2,?_⟩
 intro es rs h
 unfold litDw at h
 split at h
 ·rename_i n xs a
  simp only [Option.bind_eq_some_iff,cond_eq_ite] at h
  obtain ⟨l,h1,h⟩:=h
  split at h
  ·rename_i hc
   simp only [Bool.and_eq_true,Nat.beq_eq,Nat.ble_eq] at hc
   obtain ⟨rfl,h2⟩:=hc
   cases h
   refine ⟨[pRow encL l,pI a],[pRow encL (dropW l a)],?_,Zal fDw ⟨l,_,by omega,rfl,rfl⟩,?_⟩
   ·simp [evs0,ev0,Zdq _ (Nat.le_refl _) h1,pRow]
   ·simp [evs0,Zdr]
  ·cases h
 ·cases h
def litAh:List SX->Option (List SX)
 | [.lit n xs,.con (.int .i64 a),.con (.int .i64 b)]=>(decL xs).bind fun l=>cond (Nat.beq l.length n && Nat.ble n 1000) (some [.con (.bool (Zdy l a b))]) none
 | _=>none
theorem litAh_ok:LitOk 67 (EAh 3) litAh:=by
 refine ⟨spec RAh,Zle 3,?_⟩
 intro es rs h
 unfold litAh at h
 split at h
 ·rename_i n xs a b
  simp only [Option.bind_eq_some_iff,cond_eq_ite] at h
  obtain ⟨l,h1,h⟩:=h
  split at h
  ·rename_i hc
   simp only [Bool.and_eq_true,Nat.beq_eq,Nat.ble_eq] at hc
   obtain ⟨rfl,h2⟩:=hc
   cases h
   refine ⟨[pRow encL l,pI a,pI b],[pB (Zdy l a b)],?_,Zal fAh ⟨l,_,_,by omega,rfl,rfl⟩,?_⟩
   ·simp [evs0,ev0,Zdq _ (Nat.le_refl _) h1,pRow]
   ·simp [evs0,ev0]
  ·cases h
 ·cases h
def tabE (f:FuncId):Option (FnE × (List SX->Option (List SX))):=cond (Nat.beq f 61) (some (EPu 1,litPu)) (cond (Nat.beq f 56) (some (EDw 2,litDw)) (cond (Nat.beq f 67) (some (EAh 3,litAh)) none))
theorem Zj3:∀ f E lit,tabE f=some (E,lit)->LitOk f E lit:=by
 intro f E lit h
 simp only [tabE,cond_eq_ite,Nat.beq_eq] at h
 split at h
 ·rename_i hf;subst hf;cases h;exact litPu_ok
 split at h
 ·rename_i hf;subst hf;cases h;exact litDw_ok
 split at h
 ·rename_i hf;subst hf;cases h;exact litAh_ok
 ·cases h
def orcE:Orc:=Zjm tabE
theorem orcE_ok:OrcOk Try.prog orcE:=orcLit_ok tabE Zj3
end Go.Proofs.Ytcaclmdkhffegaa.wli
