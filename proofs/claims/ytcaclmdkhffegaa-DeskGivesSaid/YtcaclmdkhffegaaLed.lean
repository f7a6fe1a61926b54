/- LeaseForms: the leases, told at rows that are written down; the law, by closed runs. -/
import Derived.Test.YtcaclmdkhffegaaMrg4
import Derived.Test.YtcaclmdkhffegaaLec
import Derived.Test.YtcaclmdkhffegaaEng31
namespace Go.Proofs.Ytcaclmdkhffegaa.led
open Go Go.RowKit eng SX Fact fil lem lea leb lgw lec
set_option linter.unusedVariables false
set_option maxRecDepth 1000000
def decL:List SX->Option (List LeM)
 | []=>some []
 | .con (.int .i64 a) :: .con (.int .i64 b) :: .con (.int .i64 c) :: .con (.int .i64 d) :: r=>(decL r).map ((a,b,c,d) :: ·)
 | _=>none
theorem Zet:∀ (k:Nat) {es:List SX} {l:List LeM},es.length<=k->decL es=some l->evs0 es=some ((encL.all l).map PV.v)
 | 0,es,l,hk,h=>by
  obtain rfl:es=[]:=List.eq_nil_of_length_eq_zero (by omega)
  simp [decL] at h;subst h;rfl
 | k+1,es,l,hk,h=>by
  unfold decL at h
  split at h
  ·cases h;rfl
  ·rename_i a b c d r
   simp only [Option.map_eq_some_iff] at h
   obtain ⟨l',h1,rfl⟩:=h
   simp [evs0,ev0,Zet k (es:=r) (by simp at hk;omega) h1,Enc.all_cons,encL]
  ·cases h
def sxL (l:List LeM):SX:=.lit l.length (l.flatMap fun p=>[.con (.int .i64 p.1),.con (.int .i64 p.2.1),.con (.int .i64 p.2.2.1),.con (.int .i64 p.2.2.2)])
theorem Ze1 (l:List LeM):ev0 (sxL l)=some (pRow encL l):=by
 have:∀ l:List LeM,evs0 (l.flatMap fun p=>[SX.con (.int .i64 p.1),.con (.int .i64 p.2.1),.con (.int .i64 p.2.2.1),.con (.int .i64 p.2.2.2)])=some ((encL.all l).map PV.v):=fun l=>by
  induction l with
  | nil=>rfl
  | cons b l ih=>simp [evs0,ev0,ih,Enc.all_cons,encL]
 simp only [sxL,ev0,this,pRow,Option.map_some]
def sxN (l:List Int):SX:=.lit l.length (l.map fun z=>.con (.int .i64 z))
theorem sxN_ok (l:List Int):ev0 (sxN l)=some (pRow encN l):=by
 have:∀ l:List Int,evs0 (l.map fun z=>SX.con (.int .i64 z))=some ((encN.all l).map PV.v):=fun l=>by
  induction l with
  | nil=>rfl
  | cons b l ih=>simp [evs0,ev0,ih,Enc.all_cons,encN]
 simp only [sxN,ev0,this,pRow,Option.map_some]
def le (a b:Int):Bool:=decide (a<=b)
def okB (x:LeM):Bool:=le 1 x.1 && le x.1 3 && le 1 x.2.1 && le x.2.1 6 && le 1 x.2.2.1 && le x.2.2.1 2 && le 0 x.2.2.2 && le x.2.2.2 9223372036854775807
theorem okB_ok {x:LeM} (h:okB x=true):okL x:=by
 simp only [okB,le,Bool.and_eq_true,decide_eq_true_eq] at h
 obtain ⟨⟨⟨⟨⟨⟨⟨h1,h2⟩,h3⟩,h4⟩,h5⟩,h6⟩,h7⟩,h8⟩:=h
 exact ⟨h1,h2,h3,h4,h5,h6,h7,h8⟩
def adjB:List LeM->Bool
 | a :: b :: r=>decide (ordL a b < 0) && adjB (b :: r)
 | _=>true
theorem adjB_ok:∀ {l:List LeM},adjB l=true->∀ (i:Nat) (h:i+1 < l.length),ordL l[i] l[i+1] < 0
 | [],_,i,h=>by simp at h
 | [a],_,i,h=>by simp at h
 | a :: b :: r,h,i,hi=>by
  simp only [adjB,Bool.and_eq_true,decide_eq_true_eq] at h
  cases i with
  | zero=>exact h.1
  | succ i=>exact adjB_ok h.2 i (by simpa using hi)
def mayB (l:List LeM):Bool:=Nat.ble l.length 1000 && l.all okB && adjB l
theorem mayB_ok {l:List LeM} (h:mayB l=true):MayL l/\l.length < 1000000:=by
 simp only [mayB,Bool.and_eq_true,Nat.ble_eq,List.all_eq_true] at h
 exact ⟨⟨by omega,fun x hx=>okB_ok (h.1.2 x hx),adjB_ok h.2⟩,by omega⟩
def litGr:List SX->Option (List SX)
 | [.lit n xs,.con (.int .i64 a),.con (.int .i64 b),.con (.int .i64 c),.con (.int .i64 d)]=>(decL xs).bind fun l=>cond (Nat.beq l.length n && mayB l && okB (a,b,c,d)) (some [sxL (Zby l (a,b,c,d))]) none
 | _=>none
theorem litGr_ok:LitOk 55 (EGr 1) litGr:=by
 refine ⟨spec RGr,Zqx 1,?_⟩
 intro es rs h
 unfold litGr at h
 split at h
 ·rename_i n xs a b c d
  simp only [Option.bind_eq_some_iff,cond_eq_ite] at h
  obtain ⟨l,h1,h⟩:=h
  split at h
  ·rename_i hc
   simp only [Bool.and_eq_true,Nat.beq_eq] at hc
   obtain ⟨⟨rfl,h2⟩,h3⟩:=hc
   cases h
   refine ⟨pRow encL l :: p4 (a,b,c,d),[pRow encL (Zby l (a,b,c,d))],?_,Zam fGr ⟨l,_,(mayB_ok h2).1,okB_ok h3,(mayB_ok h2).2,rfl,rfl⟩,?_⟩
   ·simp [evs0,ev0,Zet _ (Nat.le_refl _) h1,p4,pRow]
   ·simp [evs0,Ze1]
  ·cases h
 ·cases h
def litDr:List SX->Option (List SX)
 | [.lit n xs,.con (.int .i64 a),.con (.int .i64 b)]=>(decL xs).bind fun l=>cond (Nat.beq l.length n && Nat.ble n 1000) (some [sxL (dropL l a b)]) none
 | _=>none
theorem litDr_ok:LitOk 26 (EDr 2) litDr:=by
 refine ⟨spec RDr,Zlw 2,?_⟩
 intro es rs h
 unfold litDr at h
 split at h
 ·rename_i n xs a b
  simp only [Option.bind_eq_some_iff,cond_eq_ite] at h
  obtain ⟨l,h1,h⟩:=h
  split at h
  ·rename_i hc
   simp only [Bool.and_eq_true,Nat.beq_eq,Nat.ble_eq] at hc
   obtain ⟨rfl,h2⟩:=hc
   cases h
   refine ⟨[pRow encL l,pI a,pI b],[pRow encL (dropL l a b)],?_,Zam fDr ⟨l,_,_,by omega,rfl,rfl⟩,?_⟩
   ·simp [evs0,ev0,Zet _ (Nat.le_refl _) h1,pRow]
   ·simp [evs0,Ze1]
  ·cases h
 ·cases h
def litPr:List SX->Option (List SX)
 | [.lit n xs,.con (.int .i64 a)]=>(decL xs).bind fun l=>cond (Nat.beq l.length n && Nat.ble n 1000) (some [sxL (pruneL l a)]) none
 | _=>none
theorem litPr_ok:LitOk 50 (EPr 3) litPr:=by
 refine ⟨spec RPr,Zqv 3,?_⟩
 intro es rs h
 unfold litPr at h
 split at h
 ·rename_i n xs a
  simp only [Option.bind_eq_some_iff,cond_eq_ite] at h
  obtain ⟨l,h1,h⟩:=h
  split at h
  ·rename_i hc
   simp only [Bool.and_eq_true,Nat.beq_eq,Nat.ble_eq] at hc
   obtain ⟨rfl,h2⟩:=hc
   cases h
   refine ⟨[pRow encL l,pI a],[pRow encL (pruneL l a)],?_,Zam fPr ⟨l,_,by omega,rfl,rfl⟩,?_⟩
   ·simp [evs0,ev0,Zet _ (Nat.le_refl _) h1,pRow]
   ·simp [evs0,Ze1]
  ·cases h
 ·cases h
def litCl:List SX->Option (List SX)
 | [.lit n xs,.con (.int .i64 t),.con (.int .i64 a),.con (.int .i64 b),.con (.int .i64 m)]=>(decL xs).bind fun l=>cond (Nat.beq l.length n && Nat.ble n 1000) (some [sxN (Zbm l t a b m)]) none
 | _=>none
theorem litCl_ok:LitOk 62 (ECl 5) litCl:=by
 refine ⟨spec RCl,Zqy 5,?_⟩
 intro es rs h
 unfold litCl at h
 split at h
 ·rename_i n xs t a b m
  simp only [Option.bind_eq_some_iff,cond_eq_ite] at h
  obtain ⟨l,h1,h⟩:=h
  split at h
  ·rename_i hc
   simp only [Bool.and_eq_true,Nat.beq_eq,Nat.ble_eq] at hc
   obtain ⟨rfl,h2⟩:=hc
   cases h
   refine ⟨[pRow encL l,pI t,pI a,pI b,pI m],[pRow encN (Zbm l t a b m)],?_,Zam fCl ⟨l,_,_,_,_,by omega,rfl,rfl⟩,?_⟩
   ·simp [evs0,ev0,Zet _ (Nat.le_refl _) h1,pRow]
   ·simp [evs0,sxN_ok]
  ·cases h
 ·cases h
end Go.Proofs.Ytcaclmdkhffegaa.led
