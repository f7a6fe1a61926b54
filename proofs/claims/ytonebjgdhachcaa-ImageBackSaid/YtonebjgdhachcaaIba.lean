/- ImageBack by the symbolic engine. -/
import Derived.Test.YtonebjgdhachcaaIlw
import Derived.Test.YtonebjgdhachcaaIst
namespace Go.Proofs.Ytonebjgdhachcaa.imageBack
open Go Go.RowKit eng SX Fact fil ima symD sta ise idf ieq irs iti ipd ilw
open dirs (encF cellF FileM)
open fileFronts (Zae rowU)
open pck hiding F F20 F21
set_option linter.unusedVariables false
set_option linter.unusedSimpArgs false
set_option maxRecDepth 1000000

def tabA (f:FuncId):Option FnE:=cond (Nat.beq f 28) (some (ETrue 7)) (cond (Nat.beq f 32) (some (ESq 8)) (tabB f))
def tabAP (f:FuncId):Option PtrE:=cond (Nat.beq f 10) (some (sta.ESt 24)) none
def orcA:Orc:=orcOr (orcFn tabA) (orcP tabAP)
def isOw (f:FuncId) (o:Oper):Bool:=match o.dst with | some d=>Nat.beq f 4 && [69,117,137].elem d | none=>false
def hA (f:FuncId) (o:Oper):Option Hint:=cond (isOw f o) (some .own) none
noncomputable def flA:=flat (Zar Try.prog 4)
noncomputable def lpA:=flat (Zak (nth flA 13))
noncomputable def lpB:=flat (Zak (nth flA 15))
def tbo (k:Nat):BoxT:=⟨9,1,true,[],some k,false⟩
def sh0:Shape:=⟨[(0,.leaf),(1,.leaf)],[],[some true,some true],153,4⟩
def shA:Shape:=⟨[(7,.leaf),(8,.leaf),(11,.leaf),(12,.own 0 4 1),(13,.leaf)],[tbo 4],[some false,some false,some false,none],153,4⟩
def shB:Shape:=⟨[(7,.leaf),(8,.leaf),(12,.own 0 3 1),(14,.leaf)],[tbo 3],[some false,some false,none],153,4⟩
def shE:Shape:=⟨[(4,.leaf)],[],[none],153,4⟩
@[simp] def zIba1:SX:=.fn 1 [.fn 24 [.con (.int .i64 30),.var 0,.con (.int .i64 0)] 0,.fn 24 [.con (.int .i64 30),.var 0,.con (.int .i64 0)] 1,.fn 24 [.con (.int .i64 30),.var 0,.con (.int .i64 0)] 2] 0
@[simp] def zIba2:List SX:=[.con (.int .i64 30),.var 1,.con (.int .i64 0)]
@[simp] def zIba3:List SX:=[.con (.int .i64 30),.var 0,.con (.int .i64 0)]
@[simp] def zIba4:SX:=.fn 1 [.fn 24 zIba2 0,.fn 24 zIba2 1,.fn 24 zIba2 2] 0
@[simp] def zIba5:SX:=.cell (.var 2) (.var 3) 2 0
@[simp] def zIba6:Fact:=.idx (.var 2) (.var 3) 2 2
@[simp] def zIba7:SX:=.bin .gtr (.len (.var 0)) (.con (.int .i64 60))
@[simp] def zIba8:List SX:=[.fn 2 [zIba1] 0,.fn 2 [zIba1] 1,.fn 2 [zIba1] 2,.fn 24 zIba3 0,.fn 24 zIba3 1,.fn 24 zIba3 2]
@[simp] def zIba9:List SX:=[.fn 24 zIba3 0,.fn 24 zIba3 1,.fn 24 zIba3 2,.fn 24 zIba2 0,.fn 24 zIba2 1,.fn 24 zIba2 2]
@[simp] def Zlx:SX:=.cell (.var 2) (.var 3) 2 1
@[simp] def Zlw:SX:=.bin .gtr (.len (.var 1)) (.con (.int .i64 60))
@[simp] def Zhm:SX:=.con (.int .i64 0)
@[simp] def Zje:SX:=rop ROp.cat [.lit 0 [],zIba1]
@[simp] def Znu:SX:=.con (.int .i64 1)
@[simp] def Zhl:Fact:=.idx (.var 2) (.var 3) 2 1
@[simp] def Zlv:SX:=.bin .lss (.var 3) (.len (.var 2))
@[simp] def Zq9:SX:=.bin .eql (.len (.fn 3 [zIba1,zIba4] 0)) Zhm
@[simp] def Zq8:SX:=.bin .eql (.cell (.var 4) zIba5 1 0) Zlx
@[simp] def Zq7:SX:=rop (ROp.upd 1 0) [.var 4,zIba5,Zlx]
@[simp] def Zlu:SX:=.bin .add (.var 3) Znu
@[simp] def Zlt:SX:=.bin .sub (.var 3) Znu
@[simp] def Zfm:SX:=.len (.var 4)
@[simp] def Zq6:SX:=.bin .neq (.len zIba1) (.len zIba4)
@[simp] def Zq5:SX:=.bin .lss (.var 2) (.len (.var 0))
@[simp] def Zq4:Fact:=.is (.fn 7 [] 0) (.bool true)
@[simp] def Zls:Fact:=.ok (.len (.var 0))
@[simp] def Zq3:SX:=.cell (.var 0) (.var 2) 1 0
@[simp] def zIba28:Fact:=.fn 29 (EPuI 1) [.fn 24 zIba3 0,.fn 24 zIba3 1,.fn 24 zIba3 2]
@[simp] def zIba29:Fact:=.fn 29 (EPuI 1) [.fn 24 zIba2 0,.fn 24 zIba2 1,.fn 24 zIba2 2]
@[simp] def Zq2:SX:=.bin .gtr (.var 3) Zhm
@[simp] def Zlr:SX:=.con (.bool true)
@[simp] def Zq1:Fact:=.idx (.var 4) zIba5 1 1
@[simp] def Zq0:SX:=.fn 3 [zIba1,zIba4] 0
@[simp] def Zqz:SX:=.bin .lss zIba5 Zhm
@[simp] def Zqy:SX:=.bin .geq zIba5 Zfm
theorem q1:segTo Try.prog orcA 10000 flA sh0 [1,1] shE []=some (.ret,[.fn 28 (ETrue 7) [],Zq4,Zls,.ok zIba7,.is zIba7 (.bool true),.ok Zlr],[Zlr]):=by kernel_rfl
theorem q2:segTo Try.prog orcA 10000 flA sh0 [1,0,1] shE []=some (.ret,[.fn 28 (ETrue 7) [],Zq4,Zls,.ok zIba7,.is zIba7 (.bool false),.ok (.len (.var 1)),.ok Zlw,.is Zlw (.bool true),.ok Zlr],[Zlr]):=by kernel_rfl
theorem prey:segTo Try.prog orcA 10000 (flA.take 13) sh0 [1,0,0,1,1,0,1,1] shA [(18,2)] hA=some (.normal,[.fn 28 (ETrue 7) [],Zq4,Zls,.ok zIba7,.is zIba7 (.bool false),.ok (.len (.var 1)),.ok Zlw,.is Zlw (.bool false),.fp 10 (sta.ESt 24) zIba3,.ok (.fn 24 zIba3 2),.ok (.fn 24 zIba3 4),.fp 10 (sta.ESt 24) zIba2,.ok (.fn 24 zIba2 2),.ok (.fn 24 zIba2 4),zIba28,zIba29,.fn 30 (ETi 2) [zIba1],.ok (.fn 2 [zIba1] 2),.is (.fn 2 [zIba1] 3) (.bool true),.fn 31 (EDfI 3) [zIba1,zIba4],.fn 17 (ESmT 5) zIba8,.is (.fn 5 zIba8 0) (.bool true),.ok (.len zIba1),.ok (.len zIba4),.ok Zq6,.is Zq6 (.bool false),.ok (.len Zq0),.ok Zq9,.is Zq9 (.bool true),.fn 17 (ESmT 5) zIba9,.is (.fn 5 zIba9 0) (.bool true),cells zIba1 1,same (.len (.lit 0 [])) (.len (.lit 0 [])),upto (.len Zje) 4294967296,.ok Zhm,same (.len Zje) (.len Zje)],[zIba1,zIba4,Zq0,Zhm,Zje]):=by kernel_rfl
theorem pren:segTo Try.prog orcA 10000 (flA.take 13) sh0 [1,0,0,1,1,0,0,0] shA [(18,2)] hA=some (.normal,[.fn 28 (ETrue 7) [],Zq4,Zls,.ok zIba7,.is zIba7 (.bool false),.ok (.len (.var 1)),.ok Zlw,.is Zlw (.bool false),.fp 10 (sta.ESt 24) zIba3,.ok (.fn 24 zIba3 2),.ok (.fn 24 zIba3 4),.fp 10 (sta.ESt 24) zIba2,.ok (.fn 24 zIba2 2),.ok (.fn 24 zIba2 4),zIba28,zIba29,.fn 30 (ETi 2) [zIba1],.ok (.fn 2 [zIba1] 2),.is (.fn 2 [zIba1] 3) (.bool true),.fn 31 (EDfI 3) [zIba1,zIba4],.fn 17 (ESmT 5) zIba8,.is (.fn 5 zIba8 0) (.bool true),.ok (.len zIba1),.ok (.len zIba4),.ok Zq6,.is Zq6 (.bool false),.ok (.len Zq0),.ok Zq9,.is Zq9 (.bool false),.fn 17 (ESmT 5) zIba9,.is (.fn 5 zIba9 0) (.bool false),cells zIba1 1,same (.len (.lit 0 [])) (.len (.lit 0 [])),upto (.len Zje) 4294967296,.ok Zhm,same (.len Zje) (.len Zje)],[zIba1,zIba4,Zq0,Zhm,Zje]):=by kernel_rfl
theorem ax:segTo Try.prog orcA 10000 lpA shA [0] shA [(0,0)] hA=some (.exit 0,[.ok (.len (.var 2)),.ok Zlv,.is Zlv (.bool false),.ok (.var 3),same Zfm Zfm],[.var 0,.var 1,.var 2,.var 3,.var 4]):=by kernel_rfl
theorem a0:segTo Try.prog orcA 10000 lpA shA [1,0,0,0,0] shA [(0,0)] hA=some (.normal,[.ok (.len (.var 2)),.ok Zlv,.is Zlv (.bool true),zIba6,Zhl,.ok zIba5,.ok Zqz,.is Zqz (.bool false),zIba6,Zhl,.ok zIba5,.ok Zqy,.is Zqy (.bool false),.ok Zq2,.is Zq2 (.bool false),zIba6,Zhl,.ok zIba5,rng zIba5 Zfm,Zq1,zIba6,zIba6,.ok Zlx,.ok Zq8,.is Zq8 (.bool false),zIba6,Zhl,.ok zIba5,zIba6,zIba6,.ok Zlx,rng zIba5 Zfm,Zq1,.ok Zlu,.ok Zlu,same Zfm (.len Zq7)],[.var 0,.var 1,.var 2,Zlu,Zq7]):=by kernel_rfl
theorem a1:segTo Try.prog orcA 10000 lpA shA [1,0,0,1,0,0] shA [(0,0)] hA=some (.normal,[.ok (.len (.var 2)),.ok Zlv,.is Zlv (.bool true),zIba6,Zhl,.ok zIba5,.ok Zqz,.is Zqz (.bool false),zIba6,Zhl,.ok zIba5,.ok Zqy,.is Zqy (.bool false),.ok Zq2,.is Zq2 (.bool true),zIba6,Zhl,.ok zIba5,.ok Zlt,.idx (.var 2) Zlt 2 2,.idx (.var 2) Zlt 2 1,.ok (.cell (.var 2) Zlt 2 0),.ok (.bin .leq zIba5 (.cell (.var 2) Zlt 2 0)),.is (.bin .leq zIba5 (.cell (.var 2) Zlt 2 0)) (.bool false),zIba6,Zhl,.ok zIba5,rng zIba5 Zfm,Zq1,zIba6,zIba6,.ok Zlx,.ok Zq8,.is Zq8 (.bool false),zIba6,Zhl,.ok zIba5,zIba6,zIba6,.ok Zlx,rng zIba5 Zfm,Zq1,.ok Zlu,.ok Zlu,same Zfm (.len Zq7)],[.var 0,.var 1,.var 2,Zlu,Zq7]):=by kernel_rfl
theorem md:segTo Try.prog orcA 10000 ((flA.drop 14).take 1) shA [] shB [(0,0)] hA=some (.normal,[.ok Zhm,same Zfm Zfm],[.var 0,.var 1,Zhm,.var 4]):=by kernel_rfl
theorem bx:segTo Try.prog orcA 10000 lpB shB [0] shB [(0,0)] hA=some (.exit 2,[Zls,.ok Zq5,.is Zq5 (.bool false),.ok (.var 2),same (.len (.var 3)) (.len (.var 3))],[.var 0,.var 1,.var 2,.var 3]):=by kernel_rfl
theorem bo:segTo Try.prog orcA 10000 lpB shB [1,0] shB [(0,0)] hA=some (.normal,[Zls,.ok Zq5,.is Zq5 (.bool true),.idx (.var 0) (.var 2) 1 1,.idx (.var 0) (.var 2) 1 1,.ok Zq3,.ok (.slen Zq3),.ok (.bin .neq (.slen Zq3) (.con (.int .i64 32))),.is (.bin .neq (.slen Zq3) (.con (.int .i64 32))) (.bool false),.ok (.bin .add (.var 2) Znu),.ok (.bin .add (.var 2) Znu),same (.len (.var 3)) (.len (.var 3))],[.var 0,.var 1,.bin .add (.var 2) Znu,.var 3]):=by kernel_rfl
theorem post:segTo Try.prog orcA 10000 (flA.drop 16) shB [1] shE [] hA=some (.ret,[.fn 32 (ESq 8) [.var 3,.var 1],.is (.fn 8 [.var 3,.var 1] 0) (.bool true),.ok Zlr],[Zlr]):=by kernel_rfl

def ELaw (k:Nat):FnE:={ k:=k,ins:=[none,none],leaks:=[true,true],outs:=[none],kinds:=[.truth] }
def RL (ps qs:List PV):Prop:=∃ p q:List Nat,p.length<=9223372036854775807/\(∀ z ∈ p,z < 256)/\q.length<=9223372036854775807/\(∀ z ∈ q,z < 256)/\ps=[pRow encU p,pRow encU q]/\qs=[pB true]
theorem fL:∀ ps q1 q2,RL ps q1->RL ps q2->q1=q2:=by
 rintro ps q1 q2 ⟨_,_,_,_,_,_,_,rfl⟩ ⟨_,_,_,_,_,_,_,rfl⟩;rfl
noncomputable def G:Fns:=fun k=>match k with | 1=>spec RPuI | 2=>spec RTi | 3=>spec RDfI | 4=>spec sta.RNew | 5=>spec RSmS | 7=>spec RTrue | 8=>spec RSq | 24=>spec RSt | _=>fun _=>none
theorem u1:ToldF 29 (EPuI 1) (G 1):=toldPuI 1
theorem u2:ToldF 30 (ETi 2) (G 2):=toldTi 2
theorem u3:ToldF 31 (EDfI 3) (G 3):=toldDfI 3
theorem u5:ToldF 17 (ESmT 5) (G 5):=Zeq (toldSmD 5) rfl rfl rfl rfl rfl
theorem u7:ToldF 28 (ETrue 7) (G 7):=toldBg 7
theorem u8:ToldF 32 (ESq 8) (G 8):=ist.toldSt5 8
theorem u24:ToldP 10 (sta.ESt 24) (G 24):=sta.toldSt 24
theorem G7:G 7 []=some [pB true]:=Zao fTrue ⟨rfl,rfl⟩
theorem Zdw:OrcOk Try.prog orcA:=Zh0 (Zaj tabA) (Zc0 tabAP)
theorem cutA:flA=flA.take 13++.block (Zan (nth flA 13)) (.loop (Zak (nth flA 13))) :: (((flA.drop 14).take 1)++.block (Zan (nth flA 15)) (.loop (Zak (nth flA 15))) :: flA.drop 16):=by kernel_rfl
@[simp] theorem ex_nine:(∃ z:Nat,(9:Int)=(z:Int)) ↔ True:=⟨fun _=>trivial,fun _=>⟨9,rfl⟩⟩
@[simp] theorem ex_nine' (K:Nat):(∃ z:Nat,(9:Int)=(z:Int)/\z<=K) ↔ 9<=K:=⟨fun ⟨z,h,h2⟩=>by omega,fun h=>⟨9,rfl,h⟩⟩
structure Inv (l m:List ByteArray) (d:List (Int × ByteArray)) (q:Nat) (y:List ByteArray):Prop where
 ex:∃ i,i<=9/\d.drop q=Zbi l i (m.drop i)/\y=mid l m i/\(∀ h:q - 1 < d.length,0 < q->(d[q - 1]).1 < (i:Int))
theorem inv_next {l m:List ByteArray} {d:List (Int × ByteArray)} {q:Nat} {y:List ByteArray} (hl:l.length=9) (hm:m.length=9) (h:Inv l m d q y) (hq:q < d.length):∃ (j:Nat) (hj:j < 9) (hy:y.length=9),d[q].1=(j:Int)/\(∀ h0:q - 1 < d.length,0 < q->(d[q - 1]).1 < (j:Int))/\y[j] ≠ d[q].2/\Inv l m d (q+1) (y.set j d[q].2):=by
 obtain ⟨i,hi,hd,rfl,hp⟩:=h
 rw [List.drop_eq_getElem_cons hq] at hd
 obtain ⟨j,hj,hij,he,hne,ha,hD⟩:=diff_next _ i rfl hd.symm
 have hlm:l.length=m.length:=by omega
 have hmid:=mid_alike hlm hij (by omega) ha
 have hyl:(mid l m i).length=9:=by simp only [ima.mid,List.length_append,List.length_take,List.length_drop];omega
 refine ⟨j,by omega,hyl,by rw [he],fun h0 h1=>Int.lt_of_lt_of_le (hp h0 h1) (by omega),?_,⟨j+1,by omega,hD.symm,?_,fun h0 _=>?_⟩⟩
 ·intro e
  apply hne
  have h1:=Zkf hlm (i:=i) (by omega) j
  rw [if_neg (by omega)] at h1
  rw [<- h1,List.getElem?_eq_getElem (by omega),e,he]
 ·rw [hmid,he]
  exact mid_set hlm hj
 ·show d[q].1 < _
  rw [he]
  simp only
  omega
theorem inv_end {l m:List ByteArray} {d:List (Int × ByteArray)} {y:List ByteArray} (hl:l.length=9) (hm:m.length=9) (h:Inv l m d d.length y):y=m:=by
 obtain ⟨i,hi,hd,rfl,hp⟩:=h
 rw [List.drop_length] at hd
 exact mid_all (by omega) (by omega) hd.symm
theorem inv_len {l m:List ByteArray} {d:List (Int × ByteArray)} {q:Nat} {y:List ByteArray} (hl:l.length=9) (hm:m.length=9) (h:Inv l m d q y):y.length=9:=by
 obtain ⟨i,hi,hd,rfl,hp⟩:=h
 simp only [ima.mid,List.length_append,List.length_take,List.length_drop]
 omega
theorem updT (y:List ByteArray) (j:Nat) (h:j < y.length) (b:ByteArray):ropPV (.upd 1 0) [pRow encS y,pI (j:Int),pS b]=some (pRow encS (y.set j b)):=Zn0 encS y j .i64 b 0 [.string b] h rfl (by show 0+1<=1;omega)
set_option maxHeartbeats 2000000 in
theorem told (k0:Nat):ToldF 4 (ELaw k0) (spec RL):=by
 refine Zcq G _ (Zar Try.prog 4) Try.func4 (by kernel_rfl) sh0 (by kernel_rfl) ?_ ?_
 ·intro ps qs h i hi
  obtain ⟨p,q,_,_,_,_,rfl,rfl⟩:=Zai h
  simp [sh0] at hi
  match i,hi with
  | 0,hi=>simp at hi
  | 1,hi=>simp at hi
  | i+2,hi=>simp at hi
 ·intro C ps qs hF h a w hsh
  obtain ⟨p,q,hp,hz,hp2,hz2,rfl,rfl⟩:=Zai h
  show wpL Try.prog flA _ a w
  have fin:∀ qs a1 w1,qs=[pB true]->Zah C shE qs a1 w1->(AX.ret=.normal->wpL Try.prog [] (fun e a' w'=>(e=.normal \/ e=.ret)/\∃ sh' ps' es,Zah C sh' ps' a' w'/\resTo Try.prog Try.f4 sh' (ELaw k0)=some es/\evs (fun i=>ps'[i]?) G es=some [pB true]) a1 w1)/\(AX.ret ≠ .normal->(AX.ret.to=.normal \/ AX.ret.to=.ret)/\∃ sh' ps' es,Zah C sh' ps' a1 w1/\resTo Try.prog Try.f4 sh' (ELaw k0)=some es/\evs (fun i=>ps'[i]?) G es=some [pB true]):=by
   rintro qs a1 w1 rfl h1
   exact ⟨fun h=>(by cases h),fun _=>⟨.inr rfl,shE,_,[SX.var 0],h1,by kernel_rfl,rfl⟩⟩
  by_cases hp1:60 < p.length
  ·rw [<- List.append_nil flA]
   refine Zag Zac Zad Zdw q1 hsh ?_ (fun qs a1 w1 hq h1=>fin qs a1 w1 (by simp [evs,SX.ev] at hq;exact hq.symm) h1)
   simp only [fmC,fmN]
   simp [-Zae,Zab,Zaa,Base.ev,SX.ev,evs,Value.oneCell',hF,Zaf,binPV,G7,u7]
   all_goals omega
  by_cases hp3:60 < q.length
  ·rw [<- List.append_nil flA]
   refine Zag Zac Zad Zdw q2 hsh ?_ (fun qs a1 w1 hq h1=>fin qs a1 w1 (by simp [evs,SX.ev] at hq;exact hq.symm) h1)
   simp only [fmC,fmN]
   simp [-Zae,Zab,Zaa,Base.ev,SX.ev,evs,Value.oneCell',hF,Zaf,binPV,G7,u7]
   all_goals omega
  rw [cutA]
  obtain ⟨s,n2,hm,e24⟩:=made30 (p:=p) (by omega) hz
  have e24:G 24 [pI 30,pRow encU p,pI 0]=some [pRow encF s.files,pRow encM s.marks,pI s.epoch,pRow encU p,pI (n2:Int)]:=e24
  obtain ⟨t,n3,hm2,f24⟩:=made30 (p:=q) (by omega) hz2
  have f24:G 24 [pI 30,pRow encU q,pI 0]=some [pRow encF t.files,pRow encM t.marks,pI t.epoch,pRow encU q,pI (n3:Int)]:=f24
  have g1:=Zs0 hm G 1 rfl
  have f1:=Zs0 hm2 G 1 rfl
  have g2:=take_eq hm G 2 rfl
  have g5:=Zoo hm hm G 5 rfl
  rw [Zhs.2 rfl] at g5
  have f5:=Zoo hm hm2 G 5 rfl
  have hl:(putI s).length=9:=Zcc hm
  have hl2:(putI t).length=9:=Zcc hm2
  have g3:=diff_eq' (l:=putI s) (m:=putI t) (by omega) (by omega) G 3 rfl
  have hdl:=diff_bound (putI s) (putI t)
  have hde:difI (putI s) (putI t)=diffI (putI s) (putI t):=by rw [difI,if_pos (by omega)]
  have hyes:s=t->difI (putI s) (putI t)=[]:=fun e=>by rw [e,difI_self]
  have hno:s ≠ t->difI (putI s) (putI t) ≠ []:=fun e h0=>e (putI_inj hm hm2 (diff_eq (by omega) (by rw [<- hde,h0])))
  have h32:=putI_size (s:=s)
  have inv0:Inv (putI s) (putI t) (difI (putI s) (putI t)) 0 (putI s):=⟨0,by omega,by rw [hde];rfl,(mid_zero _ _).symm,fun _ h=>absurd h (by omega)⟩
  clear hde
  generalize difI (putI s) (putI t)=d at *
  generalize putI s=l at *
  generalize putI t=m at *
  have rl:=Zaf encS l
  have rm:=Zaf encS m
  rw [hl] at rl
  rw [hl2] at rm
  have rd:=Zaf encQ d
  have rc:=Zmb encS l
  have cl:=Zge encS l 1 rfl (by omega)
  have start:wpL Try.prog (.block (Zan (nth flA 13)) (.loop (Zak (nth flA 13))) :: (((flA.drop 14).take 1)++.block (Zan (nth flA 15)) (.loop (Zak (nth flA 15))) :: flA.drop 16))=wpL Try.prog (.block (Zan (nth flA 13)) (.loop (Zak (nth flA 13))) :: (((flA.drop 14).take 1)++.block (Zan (nth flA 15)) (.loop (Zak (nth flA 15))) :: flA.drop 16)):=rfl
  have rest:∀ a1 w1,Zah C shA [pRow encS l,pRow encS m,pRow encQ d,pI 0,pRow encS l] a1 w1->wpL Try.prog (.block (Zan (nth flA 13)) (.loop (Zak (nth flA 13))) :: (((flA.drop 14).take 1)++.block (Zan (nth flA 15)) (.loop (Zak (nth flA 15))) :: flA.drop 16)) (fun e a' w'=>(e=.normal \/ e=.ret)/\∃ sh' ps' es,Zah C sh' ps' a' w'/\resTo Try.prog Try.f4 sh' (ELaw k0)=some es/\evs (fun i=>ps'[i]?) G es=some [pB true]) a1 w1:=by
   intro a1 w1 h1
   refine Zay (fun z a w=>∃ (i:Nat) (y:List ByteArray),i<=d.length/\z=d.length - i/\Inv l m d i y/\Zah C shA [pRow encS l,pRow encS m,pRow encQ d,pI (i:Int),pRow encS y] a w) ?_ (n:=d.length) ⟨0,l,by omega,by omega,inv0,h1⟩
   rintro z a w ⟨i,y,hi,rfl,hv,hin⟩
   show wpL Try.prog lpA _ a w
   rw [<- List.append_nil lpA]
   have hyl:=inv_len hl hl2 hv
   have ry:=Zaf encS y
   rw [hyl] at ry
   by_cases hlt:i < d.length
   ·obtain ⟨j,hj,_,hdj,hpj,hne,hv2⟩:=inv_next hl hl2 hv hlt
    have v3:IntKind.i64.wrap ((i:Int)+1)=(i:Int)+1:=wrapI _ (by omega) (by omega)
    obtain ⟨c0,c1⟩:=cellQ d i hlt
    have ix2:=Zaq encQ d i 2 2 .i64 rfl hlt (by decide)
    have ix1:=Zaq encQ d i 2 1 .i64 rfl hlt (by decide)
    have y0:=cellS y j (by omega)
    have iy:=Zaq encS y j 1 1 .i64 rfl (by omega) (by decide)
    have uy:=updT y j (by omega) d[i].2
    have ry2:=Zaf encS (y.set j d[i].2)
    rw [List.length_set,hyl] at ry2
    rw [hdj] at c0
    have hne2:¬ y[j].toList=d[i].2.toList:=fun e=>hne (Zhq e)
    have hj0:¬ (j:Int) < 0:=by omega
    have hj9:(j:Int) < 9:=by omega
    have hj9':¬ (9:Int)<=(j:Int):=by omega
    have hdi:(i:Int) < (d.length:Int):=by omega
    by_cases h0:i=0
    ·subst h0
     clear hpj hv
     generalize d[0].2=x at *
     generalize y[j]=x0 at *
     generalize y.set j x=y2 at *
     have c0:Zbh (pRow encQ d) (pI 0) 2 0=some (pI (j:Int)):=c0
     have c1:Zbh (pRow encQ d) (pI 0) 2 1=some (pS x):=c1
     have ix1:IdxP (some (pRow encQ d)) (some (pI 0)) 2 1:=ix1
     have ix2:IdxP (some (pRow encQ d)) (some (pI 0)) 2 2:=ix2
     refine Zag Zac Zad Zdw a0 hin ?_ (fun qs a1 w1 hq h1=>⟨fun _=>.inl ⟨rfl,d.length - (0+1),by omega,0+1,y2,by omega,rfl,hv2,by simp [evs,SX.ev,binPV,v3,c0,c1,uy] at hq;subst hq;exact h1⟩,fun h=>absurd rfl h⟩)
     simp only [fmC,fmN]
     simp [-Zae,Zab,Zaa,Base.ev,SX.ev,evs,Value.oneCell',hF,binPV,rd,ry,ry2,v3,c0,c1,ix1,ix2,y0,iy,uy,hne2,hj0,hj9,hj9',hdi,hlt]
     all_goals omega
    ·have hi1:i - 1 < d.length:=by omega
     have hlt2:=hpj hi1 (by omega)
     obtain ⟨p0,p1⟩:=cellQ d (i - 1) hi1
     have px2:=Zaq encQ d (i - 1) 2 2 .i64 rfl hi1 (by decide)
     have px1:=Zaq encQ d (i - 1) 2 1 .i64 rfl hi1 (by decide)
     have v5:IntKind.i64.wrap ((i:Int) - 1)=((i - 1:Nat):Int):=by rw [wrapI _ (by omega) (by omega)];omega
     have hi0:(0:Int) < (i:Int):=by omega
     have hi0':0 < i:=by omega
     clear hpj hv
     generalize d[i - 1].1=zp at *
     generalize d[i].2=x at *
     generalize y[j]=x0 at *
     generalize y.set j x=y2 at *
     have hlt3:¬ (j:Int)<=zp:=by omega
     refine Zag Zac Zad Zdw imageBack.a1 hin ?_ (fun qs a1 w1 hq h1=>⟨fun _=>.inl ⟨rfl,d.length - (i+1),by omega,i+1,y2,by omega,rfl,hv2,by simp [evs,SX.ev,binPV,v3,c0,c1,uy] at hq;subst hq;exact h1⟩,fun h=>absurd rfl h⟩)
     simp only [fmC,fmN]
     simp [-Zae,Zab,Zaa,Base.ev,SX.ev,evs,Value.oneCell',hF,binPV,rd,ry,ry2,v3,v5,c0,c1,ix1,ix2,p0,px1,px2,y0,iy,uy,hne2,hj0,hj9,hj9',hi0,hi0',hdi,hlt,hlt2,hlt3]
     all_goals omega
   ·have hie:i=d.length:=by omega
    subst hie
    have hy:=inv_end hl hl2 hv
    subst hy
    refine Zag Zac Zad Zdw ax hin ?_ ?_
    ·simp only [fmC,fmN]
     simp [-Zae,Zab,Zaa,Base.ev,SX.ev,evs,Value.oneCell',binPV,rd,ry]
    ·intro qs a1 w1 hq h1
     refine ⟨fun h=>(by cases h),fun _=>.inr (.inl ⟨by rw [show Zan (nth flA 13)=0 by kernel_rfl];rfl,?_⟩)⟩
     simp [evs,SX.ev] at hq
     subst hq
     refine Zag Zac Zad Zdw md h1 ?_ (fun qs a1 w1 hq h1=>⟨fun _=>?_,fun h=>absurd rfl h⟩)
     ·simp only [fmC,fmN]
      simp [-Zae,Zab,Zaa,Base.ev,SX.ev,evs,Value.oneCell',ry]
     simp [evs,SX.ev] at hq
     subst hq
     refine Zay (fun z a w=>∃ i:Nat,i<=9/\z=9 - i/\Zah C shB [pRow encS l,pRow encS y,pI (i:Int),pRow encS y] a w) ?_ (n:=9) ⟨0,by omega,by omega,h1⟩
     rintro z a w ⟨i,hi,rfl,hin⟩
     show wpL Try.prog lpB _ a w
     rw [<- List.append_nil lpB]
     by_cases hlt:i < 9
     ·have v3:IntKind.i64.wrap ((i:Int)+1)=(i:Int)+1:=wrapI _ (by omega) (by omega)
      have c0:=cellS l i (by omega)
      have ix:=Zaq encS l i 1 1 .i64 rfl (by omega) (by decide)
      have hi9:(i:Int) < 9:=by omega
      have hs:(l[i].size:Int)=32:=by have:=h32 _ (List.getElem_mem (show i < l.length by omega));omega
      generalize l[i]=x at *
      refine Zag Zac Zad Zdw bo hin ?_ (fun qs a1 w1 hq h1=>⟨fun _=>.inl ⟨rfl,9 - (i+1),by omega,i+1,by omega,rfl,by simp [evs,SX.ev,binPV,v3] at hq;subst hq;exact h1⟩,fun h=>absurd rfl h⟩)
      simp only [fmC,fmN]
      simp [-Zae,Zab,Zaa,Base.ev,SX.ev,evs,Value.oneCell',hF,binPV,rl,ry,v3,c0,ix,hi9,Za4,hs]
     ·have hie:i=9:=by omega
      subst hie
      refine Zag Zac Zad Zdw bx hin ?_ ?_
      ·simp only [fmC,fmN]
       simp [-Zae,Zab,Zaa,Base.ev,SX.ev,evs,Value.oneCell',binPV,rl,ry]
      ·intro qs a1 w1 hq h1
       refine ⟨fun h=>(by cases h),fun _=>.inr (.inl ⟨by rw [show Zan (nth flA 15)=2 by kernel_rfl];rfl,?_⟩)⟩
       simp [evs,SX.ev] at hq
       subst hq
       rw [<- List.append_nil (flA.drop 16)]
       have g8:G 8 [pRow encS y,pRow encS y]=some [pB (sameL y y)]:=Zao fSq ⟨y,y,by omega,by omega,rfl,rfl⟩
       rw [Zhv rfl] at g8
       refine Zag Zac Zad Zdw post h1 ?_ (fun qs a1 w1 hq h1=>fin qs a1 w1 (by simp [evs,SX.ev] at hq;exact hq.symm) h1)
       simp only [fmC,fmN]
       simp [-Zae,Zab,Zaa,Base.ev,SX.ev,evs,Value.oneCell',hF,binPV,g8,u8]
  clear start
  by_cases hst:s=t
  ·have hd0:=hyes hst
   rw [Zhs.2 hst] at f5
   have rd0:lenPV (pRow encQ d)=some (pI 0):=by rw [hd0];rfl
   clear hst hyes hno inv0 hd0 rd h32
   refine Zag Zac Zad Zdw prey hsh ?_ (fun qs a1 w1 hq h1=>⟨fun _=>rest a1 w1 (by simp [evs,SX.ev,hF,e24,f24,g1,f1,g3,rc] at hq;subst hq;exact h1),fun h=>absurd rfl h⟩)
   simp only [fmC,fmN]
   simp [-Zae,Zab,Zaa,Base.ev,SX.ev,evs,Value.oneCell',hF,Zaf,binPV,G7,u7,e24,f24,u24,g1,f1,g2,g3,g5,f5,rl,rm,rd0,rc,cl,u1,u2,u3,u5]
   exact ⟨by omega,by omega,0,rfl⟩
  ·have hd0:=hno hst
   have hsf:sameS s t=false:=by rw [<- Bool.not_eq_true];exact fun h=>hst (Zhs.1 h)
   rw [hsf] at f5
   have hdp:d.length ≠ 0:=fun h=>hd0 (List.eq_nil_of_length_eq_zero h)
   have hdz:¬ (d.length:Int)=0:=by omega
   clear hst hyes hno inv0 h32 hsf
   refine Zag Zac Zad Zdw pren hsh ?_ (fun qs a1 w1 hq h1=>⟨fun _=>rest a1 w1 (by simp [evs,SX.ev,hF,e24,f24,g1,f1,g3,rc] at hq;subst hq;exact h1),fun h=>absurd rfl h⟩)
   simp only [fmC,fmN]
   simp [-Zae,Zab,Zaa,Base.ev,SX.ev,evs,Value.oneCell',hF,Zaf,binPV,G7,u7,e24,f24,u24,g1,f1,g2,g3,g5,f5,rl,rm,rd,hdz,hd0,rc,cl,u1,u2,u3,u5]
   exact ⟨by omega,by omega,0,rfl⟩
theorem walk (w:World) (v:Value) (len:Nat) (Z:Nat->Int) (hg:IsRow .u8 w v len Z) (v2:Value) (len2:Nat) (Z2:Nat->Int) (hg2:IsRow .u8 w v2 len2 Z2) :
  Calls Try.prog 4 #[v,v2] w fun e w'=>e=.returned (.bool true)/\Ex w w':=by
 obtain ⟨p,hbp,hlen,hr⟩:=rowU hg
 obtain ⟨q,hbq,hlen2,hr2⟩:=rowU hg2
 refine told_true (told 0) rfl (us:=[v,v2]) (ps:=[pRow encU p,pRow encU q]) (Zao fL ⟨p,q,hlen,hbp,hlen2,hbq,rfl,rfl⟩) rfl rfl (fun i p u hp hu=>?_)
 match i,hp,hu with
 | 0,hp,hu=>simp at hp hu;subst hp;subst hu;exact hr
 | 1,hp,hu=>simp at hp hu;subst hp;subst hu;exact hr2
 | i+2,hp,hu=>simp at hp

end Go.Proofs.Ytonebjgdhachcaa.imageBack
